import PyProof.Rows.All
import Wide.All
import OpenK.AllK
import Wide.FinOn
import Lean
import PyProof.EqAt
import PyProof.EqKinds
import PyProof.TupleCall
import PyProof.Draws
import PyProof.EnumMake
import PyProof.TupleIter
import PyProof.WalksMore
import PyProof.MinMaxWalk
import PyProof.SeqI3
import KE.KSortTup
import KE.KLam
import KE.KIsAll
import PyProof.Rows.CallKwBuiltin
import PyProof.SumWalk
import PyProof.CompFree
import PyProof.CompUse
import PyProof.ConsumeWalk
import PyProof.NeKinds
import PyProof.Rows.StrJoin2
import PyProof.Rows.SortShell
import PyProof.StrBlock2
import PyProof.StrWalks
import PyProof.FString5
import PyProof.ZipIter
import PyProof.Rows.StrSplitAre
import PyProof.StrLawsTight
import PyProof.SumWalkG
import KE.KRevIter
import PyProof.AutoSeq1
import PyProof.Rows.SortWalk
import PyProof.Rows.SeqMore
import PyProof.ListNew
import PyProof.CollectWalk
import PyProof.Conv_int_bool
import PySem.Challenge.RW_pagepart_k65_trees_and_texts_refused
open List renaming length_map→ke,getElem?_eq_some_iff→kg,getElem?_eq_getElem→kh,length_append→ki,mem_cons_of_mem→kq,size_toArray→ku,mem_cons_self→kw,take_append_getElem→kz,map_append→kC,mem_singleton→kD,length_take→kH,length_cons→kK,take_length→kO,getD_eq_getElem?_getD→kP,mem_append_right→kQ,length_singleton→kU,not_mem_nil→kW,mem_cons→kY,mem_of_getElem?→kZ,getElem?_map→va,mem_append→vc,map_cons→vj,sum_cons→vk,zip→vn,range→vo,replicate→vp,length_drop→vq,mem_append_left→vt,mem_map→vC,all_eq_true→vD,getElem_mem→vF,lookup_cons→vG,flatten_cons→vJ,mem_range→vO,getElem?_append_right→vP,getElem?_append_left→vS,flatten_append→vT,append_nil→vW,dropLast_concat_getLast→vX,length_eq_zero_iff→vY,append_assoc→vZ,replicate_succ→v6,map_map→v7,mem_of_mem_take→v8,length_range→v9,filterMap_cons→uc,drop_eq_getElem_cons→ud,mem_iff_getElem→ug,dropLast_concat→uj,mem_filter→ux,nodup_cons→uy,forIn_cons→uz,length_zip→uA,length_dropLast→uG,getElem?_zip_eq_some→uJ,foldl_cons→uP,sum_append→uQ,pairwise_singleton→uW,toArray→uZ,getElem_cons_drop→u4,foldl_append→u5,take_of_length_le→u6,pairwise_map→u8,perm_append_comm→bc,take_append_drop→bf,filter_cons→bi,getElem?_set_ne→bj,mem_of_getLast?→bp,mem_of_mem_drop→br,map_congr_left→bx,length_reverse→bz,getElem_of_mem→bB,forIn_nil→bF,lookup→bJ,all_cons→bK
open Nat renaming le_refl→kf,le_trans→km,zero_le→ve,lt_of_lt_of_le→vh,lt_of_le_of_lt→vi,ne_of_lt→vz,succ_le_succ→vB,le_of_lt→vI,lt_irrefl→vK,lt_or_eq_of_le→vQ,le_of_lt_succ→v5,ne_of_gt→ue,le_of_eq→uf,le_of_succ_le→ui,lt_succ_self→uo,add_sub_cancel_left→ut,sub_le→uu,lt_succ_of_lt→uE,le_succ→uF,succ_pos→uH,add_sub_cancel'→uK,lt_of_le_of_ne→uS,not_lt→uT,le_zero→uV,lt_or_ge→u7,le_add_right→bh,sub_self→bD
open PySem.W renaming mg_of→kj,mg_none_of→ko,nsIn→kt,kitOne→ky,keepIn→kE,codeIn→kG,fnOf→kJ,findIn→vM,mroIn→vV,excIn→uM,hideAll_get→bv,kitAny→bG,typeIn→bH,methodObj→bI,clsIn→bL
open Bool renaming false_ne_true→kF,and_eq_true→vx,eq_iff_iff→vR,false_eq_true→uv,or_eq_true→uR,and_false→bE
open PySem renaming boot_len→kL,mem_of_lookup→um
open PyProof.Rows renaming boot_isinstance→kM,callWith_type1→vv,boot_tuple→vE,boot_list→uw,boot_max→uB,boot_str→u9,boot_all→ba,callWith_builtin1→bg
open PySem.F renaming plainAttrs_list→kN,slot_list_append→vf,type_list_append→vg,slot_list_pop→uC,type_list_pop→uD,args_tuple_add_2→uL,slot_list_extend→uN,type_list_extend→uO,entry_tuple_add→uU,slot_tuple_add→uX
open Option renaming map_eq_some_iff→vA,isSome_iff_exists→uk
open Int renaming emod_nonneg→vH,emod_lt_of_pos→vL,eq_ofNat_of_zero_le→vN,le_refl→vU,le_trans→uh,zero_add→uI,toNat_natCast→uY,le_antisymm→bu,toNat_of_nonneg→bA,le_of_lt→bC
set_option Elab.async false
set_option linter.all false
set_option maxHeartbeats 4000000
set_option maxRecDepth 100000
section
variable {A B C D F I J L M N O Q R S T U:Type} {G:Prop}
theorem E_1 {p:A->Prop}:(∃ a,p a)->(∀ a,p a->G)->G:=by rintro ⟨a,h⟩ k;exact k a h
theorem E_2 {p:A->B->Prop}:(∃ a b,p a b)->(∀ a b,p a b->G)->G:=by rintro ⟨a,b,h⟩ k;exact k a b h
theorem E_3 {p:A->B->C->Prop}:(∃ a b c,p a b c)->(∀ a b c,p a b c->G)->G:=by rintro ⟨a,b,c,h⟩ k;exact k a b c h
theorem E_4 {p:A->B->C->D->Prop}:(∃ a b c d,p a b c d)->(∀ a b c d,p a b c d->G)->G:=by rintro ⟨a,b,c,d,h⟩ k;exact k a b c d h
theorem I_4 {p:A->B->C->D->Prop} (a:A) (b:B) (c:C) (d:D) (h:p a b c d):∃ a b c d,p a b c d:=⟨a,b,c,d,h⟩
theorem E_5 {p:A->B->C->D->F->Prop}:(∃ a b c d f,p a b c d f)->(∀ a b c d f,p a b c d f->G)->G:=by rintro ⟨a,b,c,d,f,h⟩ k;exact k a b c d f h
theorem I_5 {p:A->B->C->D->F->Prop} (a:A) (b:B) (c:C) (d:D) (f:F) (h:p a b c d f):∃ a b c d f,p a b c d f:=⟨a,b,c,d,f,h⟩
theorem E_6 {p:A->B->C->D->F->I->Prop}:(∃ a b c d f i,p a b c d f i)->(∀ a b c d f i,p a b c d f i->G)->G:=by rintro ⟨a,b,c,d,f,i,h⟩ k;exact k a b c d f i h
theorem E_7 {p:A->B->C->D->F->I->J->Prop}:(∃ a b c d f i j,p a b c d f i j)->(∀ a b c d f i j,p a b c d f i j->G)->G:=by rintro ⟨a,b,c,d,f,i,j,h⟩ k;exact k a b c d f i j h
theorem I_7 {p:A->B->C->D->F->I->J->Prop} (a:A) (b:B) (c:C) (d:D) (f:F) (i:I) (j:J) (h:p a b c d f i j):∃ a b c d f i j,p a b c d f i j:=⟨a,b,c,d,f,i,j,h⟩
theorem E_8 {p:A->B->C->D->F->I->J->L->Prop}:(∃ a b c d f i j l,p a b c d f i j l)->(∀ a b c d f i j l,p a b c d f i j l->G)->G:=by rintro ⟨a,b,c,d,f,i,j,l,h⟩ k;exact k a b c d f i j l h
theorem I_8 {p:A->B->C->D->F->I->J->L->Prop} (a:A) (b:B) (c:C) (d:D) (f:F) (i:I) (j:J) (l:L) (h:p a b c d f i j l):∃ a b c d f i j l,p a b c d f i j l:=⟨a,b,c,d,f,i,j,l,h⟩
theorem E_9 {p:A->B->C->D->F->I->J->L->M->Prop}:(∃ a b c d f i j l m,p a b c d f i j l m)->(∀ a b c d f i j l m,p a b c d f i j l m->G)->G:=by rintro ⟨a,b,c,d,f,i,j,l,m,h⟩ k;exact k a b c d f i j l m h
theorem I_9 {p:A->B->C->D->F->I->J->L->M->Prop} (a:A) (b:B) (c:C) (d:D) (f:F) (i:I) (j:J) (l:L) (m:M) (h:p a b c d f i j l m):∃ a b c d f i j l m,p a b c d f i j l m:=⟨a,b,c,d,f,i,j,l,m,h⟩
theorem E_11 {p:A->B->C->D->F->I->J->L->M->N->O->Prop}:(∃ a b c d f i j l m n o,p a b c d f i j l m n o)->(∀ a b c d f i j l m n o,p a b c d f i j l m n o->G)->G:=by rintro ⟨a,b,c,d,f,i,j,l,m,n,o,h⟩ k;exact k a b c d f i j l m n o h
theorem I_11 {p:A->B->C->D->F->I->J->L->M->N->O->Prop} (a:A) (b:B) (c:C) (d:D) (f:F) (i:I) (j:J) (l:L) (m:M) (n:N) (o:O) (h:p a b c d f i j l m n o):∃ a b c d f i j l m n o,p a b c d f i j l m n o:=⟨a,b,c,d,f,i,j,l,m,n,o,h⟩
theorem E_12 {p:A->B->C->D->F->I->J->L->M->N->O->Q->Prop}:(∃ a b c d f i j l m n o q,p a b c d f i j l m n o q)->(∀ a b c d f i j l m n o q,p a b c d f i j l m n o q->G)->G:=by rintro ⟨a,b,c,d,f,i,j,l,m,n,o,q,h⟩ k;exact k a b c d f i j l m n o q h
end
section
variable {A B C D F I J L M N O Q R S T U V W X Y Z A21 A22 A23 G:Prop}
theorem A_2:A/\B->(A->B->G)->G:=by rintro ⟨a,b⟩ k;exact k a b
theorem A_3:A/\B/\C->(A->B->C->G)->G:=by rintro ⟨a,b,c⟩ k;exact k a b c
theorem A_4:A/\B/\C/\D->(A->B->C->D->G)->G:=by rintro ⟨a,b,c,d⟩ k;exact k a b c d
theorem A_5:A/\B/\C/\D/\F->(A->B->C->D->F->G)->G:=by rintro ⟨a,b,c,d,f⟩ k;exact k a b c d f
theorem A_6:A/\B/\C/\D/\F/\I->(A->B->C->D->F->I->G)->G:=by rintro ⟨a,b,c,d,f,i⟩ k;exact k a b c d f i
theorem A_7:A/\B/\C/\D/\F/\I/\J->(A->B->C->D->F->I->J->G)->G:=by rintro ⟨a,b,c,d,f,i,j⟩ k;exact k a b c d f i j
theorem A_8:A/\B/\C/\D/\F/\I/\J/\L->(A->B->C->D->F->I->J->L->G)->G:=by rintro ⟨a,b,c,d,f,i,j,l⟩ k;exact k a b c d f i j l
theorem A_9:A/\B/\C/\D/\F/\I/\J/\L/\M->(A->B->C->D->F->I->J->L->M->G)->G:=by rintro ⟨a,b,c,d,f,i,j,l,m⟩ k;exact k a b c d f i j l m
theorem A_10:A/\B/\C/\D/\F/\I/\J/\L/\M/\N->(A->B->C->D->F->I->J->L->M->N->G)->G:=by rintro ⟨a,b,c,d,f,i,j,l,m,n⟩ k;exact k a b c d f i j l m n
theorem A_11:A/\B/\C/\D/\F/\I/\J/\L/\M/\N/\O->(A->B->C->D->F->I->J->L->M->N->O->G)->G:=by rintro ⟨a,b,c,d,f,i,j,l,m,n,o⟩ k;exact k a b c d f i j l m n o
theorem A_13:A/\B/\C/\D/\F/\I/\J/\L/\M/\N/\O/\Q/\R->(A->B->C->D->F->I->J->L->M->N->O->Q->R->G)->G:=by rintro ⟨a,b,c,d,f,i,j,l,m,n,o,q,r⟩ k;exact k a b c d f i j l m n o q r
theorem A_16:A/\B/\C/\D/\F/\I/\J/\L/\M/\N/\O/\Q/\R/\S/\T/\U->(A->B->C->D->F->I->J->L->M->N->O->Q->R->S->T->U->G)->G:=by rintro ⟨a,b,c,d,f,i,j,l,m,n,o,q,r,s,t,u⟩ k;exact k a b c d f i j l m n o q r s t u
end
open PySem.W (Frag)
local macro_rules|`(tactic|trivial)=>`(tactic|exact ⟨rfl,rfl,rfl,by decide +kernel,rfl,by decide +kernel,by decide +kernel⟩)
namespace _L2
open PySem
theorem Zz0:0<=sizeLine:=by decide
theorem Zz1:1<=sizeLine:=by decide
theorem Zz2:2<=sizeLine:=by decide
theorem Zz4:4<=sizeLine:=by decide
theorem Zz5:5<=sizeLine:=by decide
theorem Zz6:6<=sizeLine:=by decide
end _L2
namespace _L2
open PySem PySem.Spec PyProof.Rows
abbrev Key:=Sum Int Str
noncomputable def zaF:Key->Value->Bool
 | .inl k,v=>Value.isInt k v
 | .inr x,v=>Value.isStrOf x v
noncomputable def keyH (w:World):Key->Int
 | .inl k=>hashInt k
 | .inr x=>hashStr w x
theorem yR:∀ {k:Key} {v:Value},zaF k v=true->(∃ i t,k=Sum.inl i/\v=Value.int i t)\/(∃ x t,k=Sum.inr x/\v=Value.str x t)
 | .inl i,v,h=>by
  obtain ⟨t,e⟩:=Value.isInt_shape (k:=i) (v:=v) h
  exact .inl ⟨i,t,rfl,e⟩
 | .inr x,v,h=>by
  obtain ⟨t,e⟩:=Value.isStrOf_shape (x:=x) (v:=v) h
  exact .inr ⟨x,t,rfl,e⟩
theorem zbY (a b:Int):decide ((Sum.inl a:Key)=Sum.inl b)=(a == b):=by
 by_cases e:a=b
 ·subst e;simp
 ·have h:¬ (Sum.inl a:Key)=Sum.inl b:=fun q=>e (Sum.inl.inj q)
  rw [decide_eq_false h]
  exact (beq_eq_false_iff_ne.mpr e).symm
theorem zbZ (a b:Str):decide ((Sum.inr a:Key)=Sum.inr b)=decide (a=b):=by
 by_cases e:a=b
 ·subst e;simp
 ·have h:¬ (Sum.inr a:Key)=Sum.inr b:=fun q=>e (Sum.inr.inj q)
  rw [decide_eq_false h,decide_eq_false e]
theorem zb0 (a:Int) (b:Str):decide ((Sum.inl a:Key)=Sum.inr b)=false:=decide_eq_false (fun q=>nomatch q)
theorem zb1 (a:Str) (b:Int):decide ((Sum.inr a:Key)=Sum.inl b)=false:=decide_eq_false (fun q=>nomatch q)
noncomputable def ZO (prog:Program) (w:World):PySem.KeyKind prog w Key where
 is:=zaF
 hash:=keyH w
 inj:=fun v a b ha hb=>by
  rcases yR ha with ⟨i,t,rfl,rfl⟩ | ⟨x,t,rfl,rfl⟩
  ·rcases yR hb with ⟨j,u,rfl,e⟩ | ⟨y,u,rfl,e⟩
   ·injection e with e1 _;rw [e1]
   ·exact nomatch e
  ·rcases yR hb with ⟨j,u,rfl,e⟩ | ⟨y,u,rfl,e⟩
   ·exact nomatch e
   ·injection e with e1 _;rw [e1]
 byValue:=fun k v h=>by
  rcases yR h with ⟨i,t,rfl,rfl⟩ | ⟨x,t,rfl,rfl⟩<;>rfl
 pyHash:=fun hv h=>by
  rcases yR hv with ⟨i,t,rfl,rfl⟩ | ⟨x,t,rfl,rfl⟩
  ·exact wpAny_pyHash_int h
  ·exact wpAny_pyHash_str h
 eqBool:=fun hu hv h=>by
  rcases yR hu with ⟨i,t,rfl,rfl⟩ | ⟨x,t,rfl,rfl⟩
  ·rcases yR hv with ⟨j,u,rfl,rfl⟩ | ⟨y,u,rfl,rfl⟩
   ·rw [zbY] at h;exact wpAny_eqBool_int h
   ·rw [zb0] at h;exact SeqAt.EqAt.int_str i t y u _ _ _ _ h
  ·rcases yR hv with ⟨j,u,rfl,rfl⟩ | ⟨y,u,rfl,rfl⟩
   ·rw [zb1] at h;exact SeqAt.EqAt.str_int x t j u _ _ _ _ h
   ·rw [zbZ] at h;exact wpAny_eqBool_str h
 «strs»:=fun k x t v h=>by
  rcases yR h with ⟨i,u,rfl,e⟩ | ⟨y,u,rfl,e⟩
  ·exact nomatch e
  ·injection e with e1 _
   subst e1
   cases v<;>rfl
inductive V where
 | non | bl (b:Bool) | int (i:Int) | str (x:Str) | byt (b:Array UInt8) | flt (b:UInt64) | ref (a:Addr) | ty (n:String)
 deriving DecidableEq
noncomputable def RelV:V->Value->Prop
 | .non,u=>u=Value.none
 | .bl b,u=>u=Value.bool b
 | .int i,u=>∃ t,u=Value.int i t
 | .str x,u=>∃ t,u=Value.str x t
 | .byt b,u=>∃ t,u=Value.bytes b t
 | .flt b,u=>∃ t,u=Value.float b t
 | .ref a,u=>u=Value.ref a
 | .ty n,u=>u=Value.type n
abbrev Vals:List V->List Value->Prop:=Paired RelV
theorem Vals.length {xs:List V} {us:List Value} (r:Vals xs us):xs.length=us.length:=Paired.length r
theorem Vals.get:∀ {xs:List V} {us:List Value} {i:Nat} {x:V},Vals xs us->xs[i]?=some x->∃ u,us[i]?=some u/\RelV x u
 | _,_,_,_,.nil,e=>by simp at e
 | _,_,0,_,.cons r _,e=>by simp at e;subst e;exact ⟨_,rfl,r⟩
 | _,_,i+1,x,.cons _ t,e=>by
  obtain ⟨u,h1,h2⟩:=Vals.get (i:=i) (x:=x) t (by simpa using e)
  exact ⟨u,by simpa using h1,h2⟩
theorem Vals.set {x:V} {u:Value} (r:RelV x u):∀ {xs:List V} {us:List Value} (i:Nat),Vals xs us->Vals (xs.set i x) (us.set i u)
 | _,_,_,.nil=>.nil
 | _,_,0,.cons _ t=>.cons r t
 | _,_,i+1,.cons q t=>.cons q (Vals.set r i t)
theorem Vals.append:∀ {xs ys:List V} {us ws:List Value},Vals xs us->Vals ys ws->Vals (xs++ys) (us++ws)
 | _,_,_,_,.nil,s=>s
 | _,_,_,_,.cons r t,s=>.cons r (Vals.append t s)
theorem Vals.take:∀ {xs:List V} {us:List Value} (n:Nat),Vals xs us->Vals (xs.take n) (us.take n)
 | _,_,0,_=>.nil
 | _,_,_+1,.nil=>.nil
 | _,_,n+1,.cons r t=>.cons r (Vals.take n t)
theorem Vals.drop:∀ {xs:List V} {us:List Value} (n:Nat),Vals xs us->Vals (xs.drop n) (us.drop n)
 | _,_,0,r=>r
 | _,_,_+1,.nil=>.nil
 | _,_,n+1,.cons _ t=>Vals.drop n t
noncomputable def RelO:Option V->Option Value->Prop
 | some v,some u=>RelV v u
 | none,none=>True
 | _,_=>False
noncomputable def KV {κ:Type}:List (κ×V)->List (κ×Value)->Prop:=Paired fun (p:κ×V) (q:κ×Value)=>p.1=q.1/\RelV p.2 q.2
noncomputable def kV:Key->V
 | .inl i=>.int i
 | .inr x=>.str x
inductive HO where
 /-- a list -/
 | lst (xs:List V)
 /-- a tuple (never changes) -/
 | tup (xs:List V)
 /-- a dict whose keys are ints and texts; one whose keys are tuples of ints and texts (the empty one is both) -/
 | dK (kvs:List (Key×V)) | dT (kvs:List (List Key×V))
 /-- a set of ints: its members,its size -/
 | set (S:Int->Bool) (n:Nat)
 /-- an instance of the class at C,its dict at dx,its attributes -/
 | ins (C dx:Addr) (fs:List (Str×V))
 /-- the dict of the instance at x -/
 | own (x:Addr)
 /-- the dict of an exception -/
 | xd (fs:List (Str×V))
 /-- a bound method,f of x -/
 | met (f x:Addr)
 /-- a range object lo,lo + 1,.. below hi -/
 | rng (lo hi:Int)
 /-- a thing that is known to the object (the script; a dict while a loop walks it): read,never written while it is so -/
 | frz (o:Obj) (u:HO)
 /-- a code object's table -/
 | tbl (ps:Array Value)
 /-- any other thing,by what is true of its one object (a def of one's own: SetO a S n := HO.ext fun h => ..) -/
 | ext (φ:Heap->Prop)
abbrev Hp:=Addr->Option HO
noncomputable def upd (H:Hp) (a:Addr) (o:HO):Hp:=fun b=>if b=a then some o else H b
theorem zd {H:Hp} {a:Addr} {o:HO}:upd H a o a=some o:=by unfold upd;rw [if_pos rfl]
theorem zp {H:Hp} {a b:Addr} {o:HO} (h:b≠a):upd H a o b=H b:=by unfold upd;rw [if_neg h]
theorem xy {H:Hp} {a b:Addr} {o u:HO} (h:H a=some o) (h':H b=some u) (d:o≠u):a≠b:=by
 intro e;subst e;rw [h] at h';exact d (Option.some.inj h')
theorem zO {H:Hp} {a b:Addr} {o:HO} (h:H a=some o) (h':H b=none):a≠b:=by
 intro e;subst e;rw [h] at h';cases h'
section
variable (P:Program) (w:World)
noncomputable def yo (H:Hp) (h:Heap) (a:Addr):HO->Prop
 | .lst xs=>xs.length<=sizeLine/\∃ (its:List Value) (n:Nat),Vals xs its/\h.get? a=some {cls:=.type "list",data:=.seq its.toArray n}
 | .tup xs=>xs.length<=sizeLine/\∃ its:List Value,Vals xs its/\IsTup h a its.toArray
 | .dK kvs=>kvs.length<=sizeLine/\(a == sysModules)=false/\∃ vs,KV kvs vs/\h.DictOf (ZO P w) a vs
 | .dT kvs=>kvs.length<=sizeLine/\(a == sysModules)=false/\∃ xs:List (List Key×Addr×Value),
   Paired (fun (p:List Key×V) (q:List Key×Addr×Value)=>p.1=q.1/\H q.2.1=some (.tup (p.1.map kV))/\RelV p.2 q.2.2) kvs xs /\
   ∃ o es ep,h.get? a=some o/\o.ExactDict/\o.data=.dict es ep/\es.toList=xs.map (entryOfKey (tupleKind (ZO P w)))/\(xs.map (·.1)).Nodup
 | .set S n=>h.SetOf (intKind P w) a S n
 | .ins C dx fs=>H dx=some (.own a)/\fs.length<=1000/\dx≠a/\h.get? a=some (PySem.W.instObj C dx) /\
   ∃ mA,h.Ns1 dx mA/\(∀ f,RelO (fs.lookup f) (mA f))/\PySem.Within mA (fs.map (·.1))
 | .own _=>∃ o,h.get? a=some o
 | .xd fs=>∃ mA,h.Ns1 a mA/\∀ f,RelO (fs.lookup f) (mA f)
 | .rng lo hi=>∃ t u v,h.get? a=some {cls:=.type "range",data:=.fields #[.int lo t,.int hi u,.int 1 v]}
 | .frz o u=>h.get? a=some o/\yo H h a u
 | .tbl ps=>h.get? a=some {cls:=.none,data:=.fields ps}
 | .met f x=>h.get? a=some (bI (.ref f) (.ref x))
 | .ext φ=>φ h/\(∃ o,h.get? a=some o)/\∀ h1 h2:Heap,φ h1->(∀ o,h1.get? a=some o->h2.get? a=some o)->φ h2
noncomputable def HOk (H:Hp) (h:Heap):Prop:=∀ a o,H a=some o->yo P w H h a o
end
section
variable {P:Program} {w:World} {H H':Hp} {h h':Heap} {a:Addr} {o:HO}
theorem yo.lt (x:yo P w H h a o):a<h.objs.size:=by
 cases o with
 | lst xs=>obtain ⟨_,_,_,_,e⟩:=x;exact Heap.lt_size e
 | tup xs=>obtain ⟨_,_,_,p⟩:=x;exact p.lt
 | dK kvs=>obtain ⟨_,_,_,_,o,_,_,e,_⟩:=x;exact Heap.lt_size e
 | dT kvs=>obtain ⟨_,_,_,_,o,_,_,e,_⟩:=x;exact Heap.lt_size e
 | set S n=>obtain ⟨o,_,_,_,e,_⟩:=x;exact Heap.lt_size e
 | ins C dx fs=>obtain ⟨_,_,_,e,_⟩:=x;exact Heap.lt_size e
 | own y=>obtain ⟨_,e⟩:=x;exact Heap.lt_size e
 | xd fs=>obtain ⟨_,⟨_,_,_,e,_⟩,_⟩:=x;exact Heap.lt_size e
 | rng lo hi=>obtain ⟨_,_,_,e⟩:=x;exact Heap.lt_size e
 | frz ob u=>obtain ⟨e,_⟩:=x;exact Heap.lt_size e
 | tbl ps=>exact Heap.lt_size (show h.get? a=some _ from x)
 | met f y=>exact Heap.lt_size (show h.get? a=some _ from x)
 | ext φ=>obtain ⟨_,⟨_,e⟩,_⟩:=x;exact Heap.lt_size e
theorem Paired.mapP {α β:Type} {F G:α->β->Prop}:∀ {l₁:List α} {l₂:List β},Paired F l₁ l₂->(∀ a b,F a b->G a b)->Paired G l₁ l₂
 | _,_,.nil,_=>.nil
 | _,_,.cons r t,f=>.cons (f _ _ r) (Paired.mapP t f)
theorem yo.stay (x:yo P w H h a o) (k:∀ b u,(b=a\/H b=some (.own a))->h.get? b=some u->h'.get? b=some u)
  (ho:∀ b,H b=some (.own a)->H' b=some (.own a)) (ht:∀ b xs,H b=some (.tup xs)->H' b=some (.tup xs)):yo P w H' h' a o:=by
 induction o with
 | lst xs=>obtain ⟨z,its,n,r,e⟩:=x;exact ⟨z,its,n,r,k _ _ (.inl rfl) e⟩
 | tup xs=>obtain ⟨z,its,r,ob,e,c⟩:=x;exact ⟨z,its,r,ob,k _ _ (.inl rfl) e,c⟩
 | dK kvs=>obtain ⟨z,y,vs,r,ob,es,ep,e,c⟩:=x;exact ⟨z,y,vs,r,ob,es,ep,k _ _ (.inl rfl) e,c⟩
 | dT kvs =>
  obtain ⟨z,y,xs,r,ob,es,ep,e,c⟩:=x
  exact ⟨z,y,xs,Paired.mapP r fun p q z=>⟨z.1,ht _ _ z.2.1,z.2.2⟩,ob,es,ep,k _ _ (.inl rfl) e,c⟩
 | set S n=>obtain ⟨ob,es,ep,t,e,c⟩:=x;exact ⟨ob,es,ep,t,k _ _ (.inl rfl) e,c⟩
 | ins C dx fs =>
  obtain ⟨d,z,ne,e,mA,⟨od,es,ep,e2,c⟩,r⟩:=x
  exact ⟨ho _ d,z,ne,k _ _ (.inl rfl) e,mA,⟨od,es,ep,k _ _ (.inr d) e2,c⟩,r⟩
 | own y=>obtain ⟨ob,e⟩:=x;exact ⟨ob,k _ _ (.inl rfl) e⟩
 | xd fs=>obtain ⟨mA,⟨od,es,ep,e,c⟩,r⟩:=x;exact ⟨mA,⟨od,es,ep,k _ _ (.inl rfl) e,c⟩,r⟩
 | rng lo hi=>obtain ⟨t,u,v,e⟩:=x;exact ⟨t,u,v,k _ _ (.inl rfl) e⟩
 | frz ob u ih=>obtain ⟨e,q⟩:=x;exact ⟨k _ _ (.inl rfl) e,ih q⟩
 | tbl ps =>
  have e:h.get? a=some {cls:=.none,data:=.fields ps}:=x
  show h'.get? a=some {cls:=.none,data:=.fields ps}
  exact k a _ (.inl rfl) e
 | met f y =>
  have e:h.get? a=some (bI (.ref f) (.ref y)):=x
  show h'.get? a=some (bI (.ref f) (.ref y))
  exact k a _ (.inl rfl) e
 | ext φ=>obtain ⟨p,⟨o,e⟩,st⟩:=x;exact ⟨st _ _ p fun o q=>k _ _ (.inl rfl) q,⟨o,k _ _ (.inl rfl) e⟩,st⟩
theorem HOk.lt (x:HOk P w H h) (e:H a=some o):a<h.objs.size:=(x a o e).lt
theorem HOk.fresh (x:HOk P w H h) (e:h.objs.size<=a):H a=none:=by
 cases q:H a with
 | none=>rfl
 | some u=>exact absurd (vh (x.lt q) e) (vK _)
theorem HOk.kept (x:HOk P w H h) (k:∀ b u,h.get? b=some u->h'.get? b=some u):HOk P w H h':=fun a o e =>
 (x a o e).stay (fun b u _ q=>k b u q) (fun _ q=>q) fun _ _ q=>q
theorem HOk.laid (x:HOk P w H h) (k:∀ b u,h.get? b=some u->h'.get? b=some u) (hp:h.objs.size<=a) (new:yo P w (upd H a o) h' a o):HOk P w (upd H a o) h':=fun b u e=>by
 have hn:=x.fresh hp
 by_cases hb:b=a
 ·subst hb;rw [zd] at e;cases e;exact new
 ·rw [zp hb] at e
  exact (x b u e).stay (fun c v _ q=>k c v q) (fun c q=>by rw [zp (zO q hn)];exact q) fun c xs q=>by rw [zp (zO q hn)];exact q
end
noncomputable def Rd (H:Hp) (a:Addr) (u:HO):Prop:=H a=some u\/∃ o,H a=some (.frz o u)
theorem Rd.ok {P:Program} {w:World} {H:Hp} {h:Heap} {a:Addr} {u:HO} (r:Rd H a u) (x:HOk P w H h):yo P w H h a u:=by
 rcases r with r | ⟨o,r⟩
 ·exact x a u r
 ·obtain ⟨_,q⟩:=x a _ r
  exact q
noncomputable def Mut:Option HO->Prop
 | some (.lst _)=>True
 | some (.dK _)=>True
 | some (.dT _)=>True
 | some (.set _ _)=>True
 | some (.ins _ _ _)=>True
 | some (.ext _)=>True
 | _=>False
section
variable {P:Program} {w:World} {H:Hp} {h h':Heap} {x e:Addr} {o':HO}
theorem HOk.write (ok:HOk P w H h) (mu:Mut (H x)) (he:e=x\/H e=some (.own x)) (k:∀ b u,b≠e->h.get? b=some u->h'.get? b=some u) (heo:∃ u,h'.get? e=some u)
  (new:yo P w (upd H x o') h' x o'):HOk P w (upd H x o') h':=fun b u q=>by
 have nown:∀ c y,H c=some (.own y)->c≠x:=fun c y r z=>by subst z;rw [r] at mu;exact mu
 have ntup:∀ c xs,H c=some (.tup xs)->c≠x:=fun c xs r z=>by subst z;rw [r] at mu;exact mu
 by_cases hb:b=x
 ·subst hb;rw [zd] at q;cases q;exact new
 ·rw [zp hb] at q
  by_cases hbe:b=e
  ·have q':H b=some (.own x):=by
    rcases he with z | z
    ·exact absurd (hbe.trans z) hb
    ·rw [hbe];exact z
   rw [q] at q';cases q'
   obtain ⟨v,hv⟩:=heo
   exact ⟨v,by rw [hbe];exact hv⟩
  ·refine (ok b u q).stay (fun c v hc r=>k c v ?_ r) (fun c r=>by rw [zp (nown c b r)];exact r) fun c xs r=>by rw [zp (ntup c xs r)];exact r
   rcases hc with rfl | hc
   ·exact hbe
   ·rintro rfl
    rcases he with z | z
    ·exact nown c b hc z
    ·rw [hc] at z;cases z;exact hb rfl
end
structure Un (fs ex:List Addr) (H H':Hp) (h h':Heap):Prop where
 keep:∀ b o,h.get? b=some o->H b=none->b∉fs->b∉ex->h'.get? b=some o
 slot:∀ b o,h.get? b=some o->H b=none->b∈fs->b∉ex->∃ sl,h'.get? b=some {o with slots:=sl}
 free:∀ b o,h.get? b=some o->H b=none->b∉ex->H' b=none
 there:∀ b o,h.get? b=some o->b∉ex->∃ o',h'.get? b=some o'
 tups:∀ b xs,H b=some (.tup xs)->H' b=some (.tup xs)
 frzs:∀ b o u,H b=some (.frz o u)->H' b=some (.frz o u)
 tbls:∀ b ps,H b=some (.tbl ps)->∃ more,H' b=some (.tbl (ps++more))
section
variable {fs fs' ex ex':List Addr} {H H1 H2:Hp} {h h1 h2 h':Heap} {a x e:Addr} {o:HO}
theorem Un.any (u:Un fs ex H H1 h h1) {b:Addr} {ob:Obj} (q:h.get? b=some ob) (n:H b=none) (hx:b∉ex):∃ sl,h1.get? b=some {ob with slots:=sl}:=by
 by_cases hb:b∈fs
 ·exact u.slot b ob q n hb hx
 ·exact ⟨ob.slots,u.keep b ob q n hb hx⟩
theorem Un.kept (k:∀ b u,h.get? b=some u->h'.get? b=some u):Un fs ex H H h h' :=
 ⟨fun b ob q _ _ _=>k b ob q,fun b ob q _ _ _=>⟨ob.slots,k b ob q⟩,fun _ _ _ n _=>n,fun b ob q _=>⟨ob,k b ob q⟩,fun _ _ q=>q,fun _ _ _ q=>q,fun _ ps q=>⟨#[],by rw [q];simp⟩⟩
theorem Un.refl:Un fs ex H H h h:=Un.kept fun _ _ q=>q
theorem Un.laid (k:∀ b u,h.get? b=some u->h'.get? b=some u) (hp:h.objs.size<=a) (hn:H a=none):Un fs ex H (upd H a o) h h' where
 keep:=fun b u q _ _ _=>k b u q
 slot:=fun b u q _ _ _=>⟨u.slots,k b u q⟩
 free:=fun b u q n _=>by rw [zp (vz (vh (Heap.lt_size q) hp))];exact n
 there:=fun b u q _=>⟨u,k b u q⟩
 tups:=fun b xs q=>by rw [zp (zO q hn)];exact q
 frzs:=fun b u xs q=>by rw [zp (zO q hn)];exact q
 tbls:=fun b ps q=>⟨#[],by rw [zp (zO q hn),q];simp⟩
theorem Un.write (mu:Mut (H x)) (he:e=x\/H e=some (.own x)) (k:∀ b u,b≠e->h.get? b=some u->h'.get? b=some u) (heo:∃ u,h'.get? e=some u):Un fs ex H (upd H x o) h h':=by
 have hx:∀ b,H b=none->b≠x:=fun b n z=>by subst z;rw [n] at mu;exact mu
 have hb:∀ b,H b=none->b≠e:=fun b n z=>by
  subst z
  rcases he with r | r
  ·exact hx b n r
  ·rw [n] at r;cases r
 have hm:∀ b u,H b=some u->¬ Mut (some u)->b≠x:=fun b u q nm z=>by subst z;rw [q] at mu;exact nm mu
 refine ⟨fun b u q n _ _=>k b u (hb b n) q,fun b u q n _ _=>⟨u.slots,k b u (hb b n) q⟩,fun b u q n _=>by rw [zp (hx b n)];exact n,fun b u q _=>?_,
  fun b xs q=>by rw [zp (hm b _ q fun z=>z)];exact q,fun b u xs q=>by rw [zp (hm b _ q fun z=>z)];exact q,fun b ps q=>⟨#[],by rw [zp (hm b _ q fun z=>z),q];simp⟩⟩
 by_cases hbe:b=e
 ·subst hbe;exact heo
 ·exact ⟨u,k b u hbe q⟩
end
noncomputable def trk (h:Heap) (H:Hp):List Addr:=(vo h.objs.size).filter fun a=>(H a).isSome
noncomputable def hidT (h:Heap) (H:Hp):Heap:=PySem.W.hideAll h (trk h H)
theorem QE (h:Heap) (H:Hp):(hidT h H).objs.size=h.objs.size:=PySem.W.hideAll_size _ _
theorem JK {h:Heap} {H:Hp} {b:Addr} {o:Obj} (e:h.get? b=some o) (n:H b=none):(hidT h H).get? b=some o :=
 bv _ e fun hm=>by
  have q:(H b).isSome=true:=(ux.mp hm).2
  rw [n] at q;simp at q
theorem zaU {h:Heap} {H:Hp} {b:Addr} {o:Obj} (e:(hidT h H).get? b=some o):h.get? b=some o/\H b=none:=by
 have e':h.get? b=some o:=PySem.W.of_hideAll (trk h H) e
 refine ⟨e',?_⟩
 cases q:H b with
 | none=>rfl
 | some x =>
  have hm:b∈trk h H:=ux.mpr ⟨vO.mpr (Heap.lt_size e'),by simp [q]⟩
  have z:(hidT h H).get? b=none:=PySem.W.hideAll_none (trk h H) hm
  rw [z] at e;cases e
structure Mod (K:Frag) (mg:Str->Option Value) (base:Heap):Prop where
 kin:K.In base
 glob:base.Ns mainGlobals mg
 blt:∃ mb,base.Ns builtinsNs mb/\∀ x:Str,x ≠ "__name__" -> mb x=bootBuiltins x
 nolimit:base.NoLimit
structure Cx where
 prog:Program
 w:World
 K:Frag
 mg:Str->Option Value
 base:Heap
 A:Around
 N:List Str
 s₀:Shared
 H₀:Hp
 env:Env
 outer:List Env
 stack:List Env
 ex:List Addr
 fn:Str->Bool
 calm:Bool
 pn:List (Addr×Obj)
 xe:Value->Shared->Prop
noncomputable def frs (l:List Env):List Addr:=l.filterMap (·.frame)
noncomputable abbrev Cx.fs (X:Cx):List Addr:=frs X.outer
noncomputable def Vis (sc:Scope) (x:Str):Prop:=sc.names.lookup x=some .local\/sc.names.lookup x=some .cell\/sc.names.lookup x=some .free
noncomputable def Loc (sc:Scope) (x:Str):Prop:=sc.names.lookup x=some .local\/sc.names.lookup x=some .cell
noncomputable def Look (env:Env) (h:Heap) (m:Str->Option Value) (x:Str) (u:Value):Prop :=
 (env.kindOf x=some .local/\m x=some u)\/((env.kindOf x=some .cell\/env.kindOf x=some .free)/\∃ c,env.cells.lookup x=some c/\h.IsCell c (some u))
structure Cx.Ok (X:Cx):Prop where
 mod:Mod X.K X.mg X.base
 kind:X.env.scope.kind=.function
 glob:X.env.globals=mainGlobals
 blt:X.env.builtins=builtinsNs
 above:X.s₀.heap.objs.size<=X.env.locals
 inj:∀ x y c,X.env.cells.lookup x=some c->X.env.cells.lookup y=some c->x=y
 has:∀ x,(X.env.kindOf x=some .cell\/X.env.kindOf x=some .free)->∃ c,X.env.cells.lookup x=some c
 cab:∀ x c,X.fn x=true->X.env.cells.lookup x=some c->X.s₀.heap.objs.size<=c
 hd:X.calm=true->X.A.handled=none
 frames:X.A.frames=some X.stack
 stk:X.stack=X.outer\/(X.stack=X.env::X.outer/\X.env.frame=some X.env.locals)
 exf:∀ b∈X.ex,b≠X.env.locals/\∀ x c,X.env.cells.lookup x=some c->c≠b
 bs:∀ b o,X.base.get? b=some o->X.s₀.heap.get? b=some o/\X.H₀ b=none
 bsz:X.base.objs.size<=X.s₀.heap.objs.size
 noex:∀ b o,X.base.get? b=some o->b∉X.ex
 exfs:∀ b∈X.ex,b∉X.fs
 funs:X.s₀.heap.FunFrames X.base X.outer
 frf:∀ b∈X.fs,X.H₀ b=none
structure Inv (X:Cx) (pins:List (Addr×Obj)) (σ:List (Option V)) (H:Hp) (s:Shared):Prop where
 ok:X.Ok
 os:s.os=X.s₀.os
 bare:AllBare s.gens
 base:Un X.fs X.ex X.H₀ H X.s₀.heap s.heap
 loc:∃ m,s.heap.Ns X.env.locals m/\∀ (i:Nat) (x:Str) (v:V),X.N[i]?=some x->σ[i]?=some (some v)->Vis X.env.scope x->∃ u,RelV v u/\Look X.env s.heap m x u
 cell:∀ x c,X.env.cells.lookup x=some c->∃ v,s.heap.IsCell c v
 free:H X.env.locals=none
 freeC:∀ x c,X.env.cells.lookup x=some c->H c=none
 pin:∀ p∈X.pn++pins,s.heap.get? p.1=some p.2/\H p.1=none/\p.1≠X.env.locals/\p.1∉X.fs/\∀ v,p.2.data≠.cell v
 hok:HOk X.prog X.w H s.heap
 len:σ.length=X.N.length
section
variable {X:Cx} {pins:List (Addr×Obj)} {σ:List (Option V)} {H H':Hp} {s:Shared} {h':Heap}
theorem Cx.Ok.nofr (ok:X.Ok) {b:Addr} {o:Obj} (e:X.base.get? b=some o):b∉X.fs:=fun hb=>by
 have:=(ok.funs.mem hb).1
 rw [e] at this;cases this
theorem Inv.bs (I:Inv X pins σ H s):∀ b o,X.base.get? b=some o->s.heap.get? b=some o/\H b=none:=fun b o e =>
 ⟨I.base.keep b o (I.ok.bs b o e).1 (I.ok.bs b o e).2 (I.ok.nofr e) (I.ok.noex b o e),I.base.free b o (I.ok.bs b o e).1 (I.ok.bs b o e).2 (I.ok.noex b o e)⟩
theorem Inv.bk (I:Inv X pins σ H s):∀ b o,X.base.get? b=some o->s.heap.get? b=some o:=fun b o e=>(I.bs b o e).1
theorem Inv.mod (I:Inv X pins σ H s):Mod X.K X.mg X.base:=I.ok.mod
theorem Inv.kIn (I:Inv X pins σ H s):X.K.In s.heap:=I.ok.mod.kin.keeps I.bk
theorem Inv.lt (I:Inv X pins σ H s):X.env.locals<s.heap.objs.size:=let ⟨_,hn,_⟩:=I.loc;hn.lt
theorem Inv.sz (I:Inv X pins σ H s):X.s₀.heap.objs.size<=s.heap.objs.size:=km I.ok.above (vI I.lt)
theorem Inv.nofs (I:Inv X pins σ H s) {a:Addr} (h:s.heap.objs.size<=a):a∉X.fs:=fun hb=>by
 obtain ⟨_,o,ho,_⟩:=I.ok.funs.mem hb
 exact absurd (vh (Heap.lt_size ho) (km I.sz h)) (vK _)
theorem Inv.cne (I:Inv X pins σ H s):∀ x c,X.env.cells.lookup x=some c->c≠X.env.locals:=fun x c e z=>by
 obtain ⟨v,o,ho,hd⟩:=I.cell x c e
 obtain ⟨m,⟨o',es,ep,ho',hd',_⟩,_⟩:=I.loc
 rw [z,ho'] at ho;cases ho;rw [hd'] at hd;cases hd
theorem Inv.funs (I:Inv X pins σ H s):s.heap.FunFrames X.base X.outer:=by
 have all:∀ (l:List Env),(∀ b∈frs l,b∈X.fs)->X.s₀.heap.FunFrames X.base l->s.heap.FunFrames X.base l:=by
  intro l
  induction l with
  | nil=>intro _ _;exact trivial
  | cons env r ih =>
   intro hs hl
   obtain ⟨hk,⟨L,o,hf,hn,ho,hd⟩,hr⟩:=hl
   have hL:L∈X.fs:=hs L (by unfold frs;rw [uc,hf];exact kw)
   obtain ⟨sl,e⟩:=I.base.slot L o ho (I.ok.frf L hL) hL fun z=>I.ok.exfs L z hL
   exact ⟨hk,⟨L,_,hf,hn,e,hd⟩,ih (fun b hb=>hs b (by unfold frs;rw [uc,hf];exact kq _ hb)) hr⟩
 exact all X.outer (fun _ hb=>hb) I.ok.funs
theorem Inv.stack (I:Inv X pins σ H s):s.heap.FunFrames X.base X.stack:=by
 rcases I.ok.stk with e | ⟨e,hf⟩
 ·rw [e];exact I.funs
 ·rw [e]
  obtain ⟨m,hn,_⟩:=I.loc
  refine .cons (by rw [I.ok.kind];decide) hf hn ?_ I.funs
  exact Heap.get?_none_of_le (km I.ok.bsz I.ok.above)
theorem Inv.stkSub (I:Inv X pins σ H s):∀ b∈frs X.stack,b∈X.env.locals::X.fs:=fun b hb=>by
 rcases I.ok.stk with e | ⟨e,hf⟩
 ·rw [e] at hb;exact kq _ hb
 ·rw [e] at hb
  unfold frs at hb
  rw [uc,hf] at hb
  exact hb
theorem Inv.stkFree (I:Inv X pins σ H s):∀ b∈frs X.stack,H b=none:=fun b hb=>by
 rcases kY.mp (I.stkSub b hb) with e | hb
 ·rw [e];exact I.free
 ·obtain ⟨_,o,ho,_⟩:=I.ok.funs.mem hb
  exact I.base.free b o ho (I.ok.frf b hb) fun z=>I.ok.exfs b z hb
theorem Inv.step {g':Array GenState} {t':Nat} {d':Drawn} {ch:List Addr} (I:Inv X pins σ H s)
  (hch:∀ b∈ch,(b∈X.ex\/X.s₀.heap.objs.size<=b)/\b≠X.env.locals/\(∀ x c,X.env.cells.lookup x=some c->c≠b)/\∀ p∈X.pn++pins,p.1≠b)
  (keep:∀ b o,b≠X.env.locals->b∉X.fs->b∉ch->s.heap.get? b=some o->H b=none->h'.get? b=some o)
  (slot:∀ b o,b≠X.env.locals->b∈X.fs->b∉ch->s.heap.get? b=some o->H b=none->∃ sl,h'.get? b=some {o with slots:=sl}) (free:∀ b o,b∉ch->s.heap.get? b=some o->H b=none->H' b=none)
  (there:∀ b o,b∉ch->s.heap.get? b=some o->∃ o',h'.get? b=some o')
  (tups:∀ b xs,H b=some (.tup xs)->H' b=some (.tup xs)) (frzs:∀ b o u,H b=some (.frz o u)->H' b=some (.frz o u)) (tbls:∀ b ps,H b=some (.tbl ps)->∃ more,H' b=some (.tbl (ps++more)))
  (ns:∀ m,s.heap.Ns X.env.locals m->h'.Ns X.env.locals m) (hok:HOk X.prog X.w H' h') (hg:AllBare g') :
  Inv X pins σ H' {s with heap:=h',gens:=g',drawn:=d',toks:=t'}:=by
 have neL:∀ b o,X.s₀.heap.get? b=some o->b≠X.env.locals:=fun b o e=>vz (vh (Heap.lt_size e) I.ok.above)
 have neC:∀ b o,X.s₀.heap.get? b=some o->b∉X.ex->b∉ch:=fun b o e hx hb=>by
  rcases (hch b hb).1 with z | z
  ·exact hx z
  ·exact absurd (vh (Heap.lt_size e) z) (vK _)
 have cellK:∀ x c,X.env.cells.lookup x=some c->∀ v,s.heap.IsCell c v->h'.IsCell c v:=fun x c e v ⟨o,ho,hd⟩=>by
  have nch:c∉ch:=fun z=>(hch c z).2.2.1 x c e rfl
  by_cases hc:c∈X.fs
  ·obtain ⟨sl,q⟩:=slot c o (I.cne x c e) hc nch ho (I.freeC x c e)
   exact ⟨_,q,hd⟩
  ·exact ⟨o,keep c o (I.cne x c e) hc nch ho (I.freeC x c e),hd⟩
 refine ⟨I.ok,I.os,hg,⟨fun b o e n hb hx=>?_,fun b o e n hb hx=>?_,fun b o e n hx=>?_,fun b o e hx=>?_,fun b xs e=>tups b xs (I.base.tups b xs e),fun b o xs e=>frzs b o xs (I.base.frzs b o xs e),fun b ps e=>?_⟩,?_,fun x c e=>?_,?_,fun x c e=>?_,fun p hp=>?_,hok,I.len⟩
 ·exact keep b o (neL b o e) hb (neC b o e hx) (I.base.keep b o e n hb hx) (I.base.free b o e n hx)
 ·obtain ⟨sl,e1⟩:=I.base.slot b o e n hb hx
  obtain ⟨sl',e2⟩:=slot b _ (neL b o e) hb (neC b o e hx) e1 (I.base.free b o e n hx)
  exact ⟨sl',e2⟩
 ·obtain ⟨o',e1⟩:=I.base.there b o e hx
  exact free b o' (neC b o e hx) e1 (I.base.free b o e n hx)
 ·obtain ⟨o',e1⟩:=I.base.there b o e hx
  exact there b o' (neC b o e hx) e1
 ·obtain ⟨m1,e1⟩:=I.base.tbls b ps e
  obtain ⟨m2,e2⟩:=tbls b _ e1
  exact ⟨m1++m2,by rw [e2,Array.append_assoc]⟩
 ·obtain ⟨m,hn,hl⟩:=I.loc
  refine ⟨m,ns m hn,fun i x v e1 e2 e3=>?_⟩
  obtain ⟨u,r,l⟩:=hl i x v e1 e2 e3
  refine ⟨u,r,?_⟩
  rcases l with l | ⟨k,c,e,z⟩
  ·exact .inl l
  ·exact .inr ⟨k,c,e,cellK x c e _ z⟩
 ·obtain ⟨v,z⟩:=I.cell x c e
  exact ⟨v,cellK x c e v z⟩
 ·obtain ⟨m,⟨o,_,_,ho,_⟩,_⟩:=I.loc
  exact free _ o (fun z=>(hch _ z).2.1 rfl) ho I.free
 ·obtain ⟨v,o,ho,hd⟩:=I.cell x c e
  exact free c o (fun z=>(hch c z).2.2.1 x c e rfl) ho (I.freeC x c e)
 ·obtain ⟨e,n,ne,nf,d⟩:=I.pin p hp
  have nch:p.1∉ch:=fun z=>(hch p.1 z).2.2.2 p hp rfl
  exact ⟨keep p.1 p.2 ne nf nch e n,free p.1 p.2 nch e n,ne,nf,d⟩
theorem Inv.un {t':Nat} (I:Inv X pins σ H s) (u:Un X.fs [] H H' s.heap h') (hok:HOk X.prog X.w H' h'):Inv X pins σ H' {s with heap:=h',toks:=t'}:=by
 obtain ⟨m,⟨o,es,ep,ho,r⟩,_⟩:=id I.loc
 obtain ⟨sl,hL⟩:=u.any ho I.free (by simp)
 exact I.step (g':=s.gens) (d':=s.drawn) (ch:=[]) (fun _ z=>nomatch z) (fun b o _ hb _ e n=>u.keep b o e n hb (by simp)) (fun b o _ hb _ e n=>u.slot b o e n hb (by simp)) (fun b o _ e n=>u.free b o e n (by simp)) (fun b o _ e=>u.there b o e (by simp)) u.tups u.frzs u.tbls (fun m' hm=>by
  obtain ⟨o',es',ep',ho',r'⟩:=hm
  rw [ho] at ho';cases ho'
  exact ⟨_,es',ep',hL,r'⟩) hok I.bare
theorem Inv.call {g':Array GenState} {t':Nat} {d':Drawn} {ch:List Addr} (I:Inv X pins σ H s) (u:Un (frs X.stack) ch H H' s.heap h') (hok:HOk X.prog X.w H' h') (hg:AllBare g')
  (hch:∀ b∈ch,(b∈X.ex\/X.s₀.heap.objs.size<=b)/\b≠X.env.locals/\(∀ x c,X.env.cells.lookup x=some c->c≠b)/\∀ p∈X.pn++pins,p.1≠b) :
  Inv X pins σ H' {s with heap:=h',gens:=g',drawn:=d',toks:=t'}:=by
 obtain ⟨m,⟨o,es,ep,ho,r⟩,_⟩:=id I.loc
 obtain ⟨sl,hL⟩:=u.any ho I.free fun z=>(hch _ z).2.1 rfl
 exact I.step (ch:=ch) hch (fun b o hL hb hc e n=>u.keep b o e n (fun z=>(kY.mp (I.stkSub b z)).elim hL hb) hc) (fun b o _ _ hc e n=>u.any e n hc) (fun b o hc e n=>u.free b o e n hc) (fun b o hc e=>u.there b o e hc) u.tups u.frzs u.tbls (fun m' hm=>by
  obtain ⟨o',es',ep',ho',r'⟩:=hm
  rw [ho] at ho';cases ho'
  exact ⟨_,es',ep',hL,r'⟩) hok hg
theorem Inv.turned {t':Nat} {it:Addr} (I:Inv X pins σ H s) (k:∀ b o,b≠it->s.heap.get? b=some o->h'.get? b=some o) (hn:H it=none) (hL:it≠X.env.locals)
  (h1:it∈X.ex\/X.s₀.heap.objs.size<=it) (h2:∀ x c,X.env.cells.lookup x=some c->c≠it) (h3:∀ p∈X.pn++pins,p.1≠it):Inv X pins σ H {s with heap:=h',toks:=t'}:=by
 have nit:∀ b u,H b=some u->b≠it:=fun b u e z=>by rw [z,hn] at e;cases e
 refine I.step (g':=s.gens) (d':=s.drawn) (ch:=[it]) (fun b hb=>?_) (fun b o _ _ hc e _=>k b o (fun z=>hc (by simp [z])) e) (fun b o _ _ hc e _=>⟨o.slots,k b o (fun z=>hc (by simp [z])) e⟩) (fun _ _ _ _ n=>n)
  (fun b o hc e=>⟨o,k b o (fun z=>hc (by simp [z])) e⟩) (fun _ _ e=>e) (fun _ _ _ e=>e) (fun b ps e=>⟨#[],by rw [e];simp⟩) (fun m hm=>?_) (fun b u e=>?_) I.bare
 ·have e:b=it:=by simpa using hb
  subst e
  exact ⟨h1,hL,h2,h3⟩
 ·obtain ⟨o,es,ep,ho,r⟩:=hm
  exact ⟨o,es,ep,k _ o (Ne.symm hL) ho,r⟩
 ·refine (I.hok b u e).stay (fun c v hc q=>k c v ?_ q) (fun _ q=>q) fun _ _ q=>q
  rcases hc with z | z
  ·rw [z];exact nit b u e
  ·exact nit c _ z
theorem Inv.tok (I:Inv X pins σ H s) (t:Nat):Inv X pins σ H {s with toks:=t}:=I.un (h':=s.heap) (t':=t) Un.refl I.hok
theorem Inv.kept {t':Nat} (I:Inv X pins σ H s) (k:∀ b u,s.heap.get? b=some u->h'.get? b=some u):Inv X pins σ H {s with heap:=h',toks:=t'}:=I.un (Un.kept k) (I.hok.kept k)
theorem Inv.laid {a:Addr} {o:HO} {t':Nat} (I:Inv X pins σ H s) (k:∀ b u,s.heap.get? b=some u->h'.get? b=some u) (hp:s.heap.objs.size<=a) (new:yo X.prog X.w (upd H a o) h' a o) :
  Inv X pins σ (upd H a o) {s with heap:=h',toks:=t'}:=I.un (Un.laid k hp (I.hok.fresh hp)) (I.hok.laid k hp new)
theorem Inv.write {x e:Addr} {o:HO} {t':Nat} (I:Inv X pins σ H s) (mu:Mut (H x)) (he:e=x\/H e=some (.own x)) (k:∀ b u,b≠e->s.heap.get? b=some u->h'.get? b=some u) (heo:∃ u,h'.get? e=some u)
  (new:yo X.prog X.w (upd H x o) h' x o):Inv X pins σ (upd H x o) {s with heap:=h',toks:=t'}:=I.un (Un.write mu he k heo) (I.hok.write mu he k heo new)
theorem Inv.pins_of {pins':List (Addr×Obj)} (I:Inv X pins σ H s) (h:∀ p∈pins',s.heap.get? p.1=some p.2/\H p.1=none/\p.1≠X.env.locals/\p.1∉X.fs/\∀ v,p.2.data≠.cell v):Inv X pins' σ H s :=
 ⟨I.ok,I.os,I.bare,I.base,I.loc,I.cell,I.free,I.freeC,fun p hp=>(vc.mp hp).elim (fun z=>I.pin p (vt _ z)) (h p),I.hok,I.len⟩
theorem j2 {N:List Str} (hN:N.Nodup) {i j:Nat} {x:Str} (a:N[i]?=some x) (b:N[j]?=some x):i=j:=by
 obtain ⟨h1,e1⟩:=kg.mp a
 obtain ⟨h2,e2⟩:=kg.mp b
 exact (List.getElem_inj hN).mp (e1.trans e2.symm)
theorem QF {M:Model} {A:Around} {E:Value->Shared->Prop} {i:Nat} {x:Str} {v:V} {u:Value} {Q:Unit->Shared->Prop} (I:Inv X pins σ H s) (hN:X.N.Nodup) (hi:X.N[i]?=some x) (hx:Loc X.env.scope x) (r:RelV v u)
  (h:∀ s',Inv X pins (σ.set i (some v)) H s'->(∃ a,Heap.SameBut a s.heap s'.heap/\(a=X.env.locals\/X.env.cells.lookup x=some a))->Q () s') (hf:X.fn x=true\/X.env.scope.names.lookup x=some .local:=by first | exact .inl rfl | exact .inr rfl | assumption):wpAny M A (storeName X.env x u) Q E s:=by
 obtain ⟨m,hn,hl⟩:=id I.loc
 have hcls:(X.env.scope.kind == .class || (X.env.scope.kind == .module && X.env.locals != X.env.globals))=false:=by rw [I.ok.kind];rfl
 have hiσ:i<σ.length:=by rw [I.len];exact (kg.mp hi).1
 have cne:=I.cne
 have tracked:∀ {a:Addr} {h':Heap},(∃ o,s.heap.get? a=some o/\H a=none)->Heap.SameBut a s.heap h'->HOk X.prog X.w H h':=fun {a h'} ha hs b ob e=>by
  obtain ⟨_,_,hfree⟩:=ha
  refine (I.hok b ob e).stay (fun c w' hc q=>(hs.2 c ?_).trans q) (fun _ q=>q) fun _ _ q=>q
  rintro rfl
  rcases hc with rfl | hc
  ·rw [hfree] at e;cases e
  ·rw [hfree] at hc;cases hc
 rcases hx with hk | hk
 ·refine wpAny_storeName_local hk hn (fun h' hn' hs=>?_) hcls
  obtain ⟨oL,_,_,hoL,_⟩:=id hn
  refine h _ ⟨I.ok,I.os,I.bare,⟨fun b o e n hb hx=>?_,fun b o e n hb hx=>?_,I.base.free,fun b o e hx=>?_,I.base.tups,I.base.frzs,I.base.tbls⟩,⟨_,hn',fun j y v' e1 e2 e3=>?_⟩,fun y c e=>?_,I.free,I.freeC,fun p hp=>?_,tracked ⟨oL,hoL,I.free⟩ hs,by simpa using I.len⟩ ⟨_,hs,.inl rfl⟩
  ·exact (hs.2 b (vz (vh (Heap.lt_size e) I.ok.above))).trans (I.base.keep b o e n hb hx)
  ·obtain ⟨sl,e1⟩:=I.base.slot b o e n hb hx
   exact ⟨sl,(hs.2 b (vz (vh (Heap.lt_size e) I.ok.above))).trans e1⟩
  ·obtain ⟨o',e1⟩:=I.base.there b o e hx
   exact ⟨o',(hs.2 b (vz (vh (Heap.lt_size e) I.ok.above))).trans e1⟩
  ·by_cases hj:j=i
   ·subst hj
    rw [hi] at e1;cases e1
    rw [List.getElem?_set_self hiσ] at e2
    cases e2
    exact ⟨u,r,.inl ⟨hk,by simp⟩⟩
   ·rw [bj (Ne.symm hj)] at e2
    obtain ⟨u',r',q⟩:=hl j y v' e1 e2 e3
    refine ⟨u',r',?_⟩
    rcases q with ⟨k,e⟩ | ⟨k,c,e,z⟩
    ·refine .inl ⟨k,?_⟩
     have:y≠x:=fun e=>hj (j2 hN e1 (e ▸ hi))
     simp [this,e]
    ·exact .inr ⟨k,c,e,z.sameBut hs (cne y c e)⟩
  ·obtain ⟨w',z⟩:=I.cell y c e
   exact ⟨w',z.sameBut hs (cne y c e)⟩
  ·obtain ⟨e,n,ne,nf,d⟩:=I.pin p hp
   exact ⟨(hs.2 p.1 ne).trans e,n,ne,nf,d⟩
 ·have hfn:X.fn x=true:=by
   rcases hf with z | z
   ·exact z
   ·rw [z] at hk;cases hk
  obtain ⟨c,hc⟩:=I.ok.has x (.inl hk)
  obtain ⟨w',z⟩:=I.cell x c hc
  refine wpAny_storeName_cell I.ok.kind hk hc z (fun h' hc' hs=>?_)
  obtain ⟨oc,hoc,hocd⟩:=id z
  refine h {s with heap:=h'} ⟨I.ok,I.os,I.bare,⟨fun b o e n hb hx=>?_,fun b o e n hb hx=>?_,I.base.free,fun b o e hx=>?_,I.base.tups,I.base.frzs,I.base.tbls⟩,⟨m,hn.sameBut hs (Ne.symm (cne x c hc)),fun j y v' e1 e2 e3=>?_⟩,fun y c' e=>?_,I.free,I.freeC,fun p hp=>?_,tracked ⟨oc,hoc,I.freeC x c hc⟩ hs,by simpa using I.len⟩ ⟨c,hs,.inr hc⟩
  ·exact (hs.2 b (vz (vh (Heap.lt_size e) (I.ok.cab x c hfn hc)))).trans (I.base.keep b o e n hb hx)
  ·obtain ⟨sl,e1⟩:=I.base.slot b o e n hb hx
   exact ⟨sl,(hs.2 b (vz (vh (Heap.lt_size e) (I.ok.cab x c hfn hc)))).trans e1⟩
  ·obtain ⟨o',e1⟩:=I.base.there b o e hx
   exact ⟨o',(hs.2 b (vz (vh (Heap.lt_size e) (I.ok.cab x c hfn hc)))).trans e1⟩
  ·by_cases hj:j=i
   ·subst hj
    rw [hi] at e1;cases e1
    rw [List.getElem?_set_self hiσ] at e2
    cases e2
    exact ⟨u,r,.inr ⟨.inl hk,c,hc,hc'⟩⟩
   ·rw [bj (Ne.symm hj)] at e2
    obtain ⟨u',r',q⟩:=hl j y v' e1 e2 e3
    refine ⟨u',r',?_⟩
    rcases q with q | ⟨k,c',e,z'⟩
    ·exact .inl q
    ·refine .inr ⟨k,c',e,z'.sameBut hs ?_⟩
     rintro rfl
     exact hj (j2 hN e1 (I.ok.inj _ _ _ e hc ▸ hi))
  ·by_cases hcc:c'=c
   ·subst hcc;exact ⟨_,hc'⟩
   ·obtain ⟨w2,z2⟩:=I.cell y c' e
    exact ⟨w2,z2.sameBut hs hcc⟩
  ·obtain ⟨e,n,ne,nf,d⟩:=I.pin p hp
   refine ⟨(hs.2 p.1 ?_).trans e,n,ne,nf,d⟩
   intro q
   rw [q,hoc] at e
   have q':oc=p.2:=Option.some.inj e
   exact d w' (by rw [<- q'];exact hocd)
theorem qF {M:Model} {A:Around} {E:Value->Shared->Prop} {i:Nat} {x:Str} {v:V} {u:Value} {Q:Unit->Shared->Prop} (I:Inv X pins σ H s) (hN:X.N.Nodup) (hi:X.N[i]?=some x) (hx:Loc X.env.scope x) (r:RelV v u)
  (h:∀ s',Inv X pins (σ.set i (some v)) H s'->Q () s') (hf:X.fn x=true\/X.env.scope.names.lookup x=some .local:=by first | exact .inl rfl | exact .inr rfl | assumption):wpAny M A (storeName X.env x u) Q E s :=
 QF I hN hi hx r (fun s' I' _=>h s' I') hf
theorem Inv.call' {s':Shared} {ch:List Addr} (I:Inv X pins σ H s) (ho:s'.os=s.os) (u:Un (frs X.stack) ch H H' s.heap s'.heap) (hok:HOk X.prog X.w H' s'.heap) (hg:AllBare s'.gens)
  (hch:∀ b∈ch,(b∈X.ex\/X.s₀.heap.objs.size<=b)/\b≠X.env.locals/\(∀ x c,X.env.cells.lookup x=some c->c≠b)/\∀ p∈X.pn++pins,p.1≠b):Inv X pins σ H' s':=by
 obtain ⟨h',g',d',t',o'⟩:=s'
 have e:o'=s.os:=ho
 subst e
 exact I.call (g':=g') (t':=t') (d':=d') u hok hg hch
end
abbrev XK:=Value->Option Addr->Hp->Prop
abbrev St:=List (Option V)
abbrev VK:=V->Hp->Prop
abbrev TE:=St->Hp->VK->Prop
abbrev TT:=St->Hp->(Bool->Hp->Prop)->Prop
abbrev TA:=St->Hp->(List V->Hp->Prop)->Prop
structure Ends where
 nx:St->Hp->Prop
 rt:VK
 bk:St->Hp->Prop:=fun _ _=>False
 ct:St->Hp->Prop:=fun _ _=>False
abbrev TS:=Ends->St->Hp->Prop
noncomputable def EP (X:Cx) (pins:List (Addr×Obj)) (σ:St) (Q:VK) (u:Value) (s':Shared):Prop:=∃ v H',Inv X pins σ H' s'/\RelV v u/\Q v H'
noncomputable def TP (X:Cx) (pins:List (Addr×Obj)) (σ:St) (Q:Bool->Hp->Prop) (b:Bool) (s':Shared):Prop:=∃ H',Inv X pins σ H' s'/\Q b H'
noncomputable def AP (X:Cx) (pins:List (Addr×Obj)) (σ:St) (Q:List V->Hp->Prop) (us:List Value) (s':Shared):Prop:=∃ vs H',Inv X pins σ H' s'/\Vals vs us/\Q vs H'
noncomputable def SP (X:Cx) (pins:List (Addr×Obj)) (D:Ends) (f:Flow) (s':Shared):Prop :=
 match f with
 | .next=>∃ σ' H',Inv X pins σ' H' s'/\D.nx σ' H'
 | .brk=>∃ σ' H',Inv X pins σ' H' s'/\D.bk σ' H'
 | .cont=>∃ σ' H',Inv X pins σ' H' s'/\D.ct σ' H'
 | .ret u=>∃ v σ' H',Inv X pins σ' H' s'/\RelV v u/\D.rt v H'
noncomputable def PE (X:Cx) (e:Expr) (t:TE):Prop :=
 ∀ (pins:List (Addr×Obj)) (s:Shared) (σ:St) (H:Hp) (Q:VK),Inv X pins σ H s->t σ H Q->wpAny (model X.prog X.w) X.A (eval e X.env) (EP X pins σ Q) X.xe s
noncomputable def PT (X:Cx) (e:Expr) (t:TT):Prop :=
 ∀ (pins:List (Addr×Obj)) (s:Shared) (σ:St) (H:Hp) (Q:Bool->Hp->Prop),Inv X pins σ H s->t σ H Q->wpAny (model X.prog X.w) X.A (isTrue e X.env (eval e X.env)) (TP X pins σ Q) X.xe s
noncomputable def PW (X:Cx) (e:Expr) (t:TT):Prop :=
 ∀ (whole:Sem Value) (pins:List (Addr×Obj)) (s:Shared) (σ:St) (H:Hp) (Q:Bool->Hp->Prop),Inv X pins σ H s->t σ H Q->wpAny (model X.prog X.w) X.A (isTrue e X.env whole) (TP X pins σ Q) X.xe s
theorem PW.pt {X:Cx} {e:Expr} {t:TT} (h:PW X e t):PT X e t:=h _
noncomputable def PA (X:Cx) (es:List Expr) (t:TA):Prop :=
 ∀ (pos:Pos) (pins:List (Addr×Obj)) (s:Shared) (σ:St) (H:Hp) (Q:List V->Hp->Prop),Inv X pins σ H s->t σ H Q->wpAny (model X.prog X.w) X.A (spliced (backTo pos (starEach es X.env))) (AP X pins σ Q) X.xe s
noncomputable def PS (X:Cx) (st:Stmt) (t:TS):Prop :=
 ∀ (pins:List (Addr×Obj)) (s:Shared) (σ:St) (H:Hp) (D:Ends),Inv X pins σ H s->t D σ H->wpAny (model X.prog X.w) X.A (exec st X.env) (SP X pins D) X.xe s
noncomputable def PSs (X:Cx) (st:List Stmt) (t:TS):Prop :=
 ∀ (pins:List (Addr×Obj)) (s:Shared) (σ:St) (H:Hp) (D:Ends),Inv X pins σ H s->t D σ H->wpAny (model X.prog X.w) X.A (execs st X.env) (SP X pins D) X.xe s
theorem thn {α:Type} {t:Sem α} {Q Q':α->Shared->Prop} {M:Model} {A:Around} {E:Value->Shared->Prop} {s:Shared} (h:wpAny M A t Q E s) (hQ:∀ a s,Q a s->Q' a s):wpAny M A t Q' E s:=wpAny_mono h hQ fun _ _ x=>x
section
variable {X:Cx}
noncomputable def tVar (i:Nat):TE:=fun σ H Q=>∃ v,σ[i]?=some (some v)/\Q v H
noncomputable def tC (v:V):TE:=fun _ H Q=>Q v H
theorem zb2 {i:Nat} {x:Str} {pos:Pos} (hN:X.N[i]?=some x) (hv:Vis X.env.scope x) (hd:(x == ("__debug__" : Str))=false:=by decide) (hcd:(x == ("__classdict__" : Str))=false:=by decide):PE X (.Name x pos) (tVar i):=by
 intro pins s σ H Q I h
 obtain ⟨v,e,h⟩:=h
 obtain ⟨m,hn,hl⟩:=I.loc
 obtain ⟨u,r,l⟩:=hl i x v hN e hv
 have fin:EP X pins σ Q u s:=⟨v,H,I,r,h⟩
 rcases l with ⟨hk,hm⟩ | ⟨hk,c,hc,hcell⟩
 ·exact wpAny_Name (wpAny_loadName_local I.ok.kind hk hn hm fin) hd
 ·rcases hk with hk | hk
  ·exact wpAny_Name (wpAny_loadName_cell I.ok.kind hk hc hcell fin) hd
  ·exact wpAny_Name (wpAny_loadName_free I.ok.kind hk hc hcell fin hcd) hd
theorem zh {i j pos}:PE X (.Constant (.int i) j pos) (tC (.int i)):=fun _ _ _ H _ I h=>wpAny_Constant_int ⟨.int i,H,I.tok _,⟨_,rfl⟩,h⟩
theorem yB {b j pos}:PE X (.Constant (.bool b) j pos) (tC (.bl b)):=fun _ _ _ H _ I h=>Constant_bool ⟨.bl b,H,I,rfl,h⟩
theorem yO {j pos}:PE X (.Constant .none j pos) (tC .non):=fun _ _ _ H _ I h=>Constant_none ⟨.non,H,I,rfl,h⟩
theorem zM {x j pos}:PE X (.Constant (.str x) j pos) (tC (.str x)):=fun _ _ _ H _ I h=>Calls.Constant_str ⟨.str x,H,I.tok _,⟨_,rfl⟩,h⟩
noncomputable def Gl (X:Cx) (x:Str):Prop:=X.env.kindOf x=some .globalImplicit
theorem w6 {E:Value->Shared->Prop} {pins:List (Addr×Obj)} {s:Shared} {σ:St} {H:Hp} {x:Str} {u:Value} {pos:Pos} {Q:Value->Shared->Prop} (I:Inv X pins σ H s) (hg:Gl X x) (hm:X.mg x=some u) (h:Q u s)
  (hd:(x == ("__debug__" : Str))=false:=by decide):wpAny (model X.prog X.w) X.A (eval (.Name x pos) X.env) Q E s :=
 Calls.Name_function_global I.ok.kind hg (Calls.loadGlobal_global (by rw [I.ok.glob];exact I.mod.glob.keeps I.bk) hm h) hd
theorem xb {E:Value->Shared->Prop} {pins:List (Addr×Obj)} {s:Shared} {σ:St} {H:Hp} {x:Str} {u:Value} {pos:Pos} {Q:Value->Shared->Prop} (I:Inv X pins σ H s) (hg:Gl X x) (hm:X.mg x=none) (hv:bootBuiltins x=some u) (h:Q u s)
  (hn:x ≠ "__name__" := by decide) (hd:(x == ("__debug__" : Str))=false:=by decide):wpAny (model X.prog X.w) X.A (eval (.Name x pos) X.env) Q E s:=by
 obtain ⟨mb,h1,h2⟩:=I.mod.blt
 exact Calls.Name_function_global I.ok.kind hg (Calls.loadGlobal_builtin (by rw [I.ok.glob];exact I.mod.glob.keeps I.bk) hm (by rw [I.ok.blt];exact h1.keeps I.bk) ((h2 x hn).trans hv) h) hd
theorem ZP {x:Str} {v:V} {u:Value} {pos:Pos} (hg:Gl X x) (hm:X.mg x=some u) (r:RelV v u) (hd:(x == ("__debug__" : Str))=false:=by decide):PE X (.Name x pos) (tC v) :=
 fun _ _ _ H _ I h=>w6 I hg hm ⟨v,H,I,r,h⟩ hd
theorem zaV {x:Str} {v:V} {u:Value} {pos:Pos} (hg:Gl X x) (hm:X.mg x=none) (hv:bootBuiltins x=some u) (r:RelV v u) (hn:x ≠ "__name__" := by decide) (hd:(x == ("__debug__" : Str))=false:=by decide):PE X (.Name x pos) (tC v) :=
 fun _ _ _ H _ I h=>xb I hg hm hv ⟨v,H,I,r,h⟩ hn hd
variable {a b:Expr} {ta tb:TE} {pos:Pos}
theorem nobehind (b:Expr) {op:CmpOp} (h:op≠.In) (h2:op≠.NotIn):behindInMarks op b=false:=by
 have e1:(op == CmpOp.In)=false:=by cases op<;>first | rfl | exact absurd rfl h
 have e2:(op == CmpOp.NotIn)=false:=by cases op<;>first | rfl | exact absurd rfl h2
 cases b<;>simp [behindInMarks,e1,e2]
noncomputable def tB (t:TE):TT:=fun σ H Q=>t σ H fun x H1=>∃ c,x=.bl c/\Q c H1
theorem yi {e:Expr} {t:TE} (h:PE X e t) (he:∀ whole,isTrue e X.env whole=(do let v <- whole;standAt e.pos;holding [v] (truthy v)):=by intro _;rfl):PT X e (tB t):=by
 intro pins s σ H Q I hw
 refine isTrue_plain (thn (h pins s σ H _ I hw) fun v s1 ⟨x,H1,I1,r1,q1⟩=>?_) (he _)
 obtain ⟨d,rfl,q⟩:=q1
 cases r1
 exact wpAny_truthy_bool ⟨H1,I1,q⟩
variable {tA tB':TT} {rest:List Expr}
noncomputable def tAnd (t u:TT):TT:=fun σ H Q=>t σ H fun c H1=>if c=true then u σ H1 Q else Q false H1
noncomputable def tOr (t u:TT):TT:=fun σ H Q=>t σ H fun c H1=>if c=true then Q true H1 else u σ H1 Q
noncomputable def tNot (t:TT):TT:=fun σ H Q=>t σ H fun c H1=>Q (!c) H1
theorem wk (ha:PT X a tA):PW X (.BoolOp .And [a] pos) tA:=by
 intro wh pins s σ H Q I h
 refine isTrue_and (thn (ha pins s σ H Q I h) fun c s1 e=>?_)
 cases c with
 | true=>exact isTrue_and_nil e
 | false=>exact e
theorem xI (ha:PT X a tA):PW X (.BoolOp .Or [a] pos) tA:=by
 intro wh pins s σ H Q I h
 refine isTrue_or (thn (ha pins s σ H Q I h) fun c s1 e=>?_)
 cases c with
 | false=>exact isTrue_or_nil e
 | true=>exact e
theorem w9 (ha:PT X a tA) (hb:PW X (.BoolOp .And (b::rest) pos) tB'):PW X (.BoolOp .And (a::b::rest) pos) (tAnd tA tB'):=by
 intro wh pins s σ H Q I h
 refine isTrue_and (thn (ha pins s σ H _ I h) fun c s1 ⟨H1,I1,q1⟩=>?_)
 cases c with
 | true=>exact hb wh pins s1 σ H1 Q I1 q1
 | false=>exact ⟨H1,I1,q1⟩
theorem xE (ha:PT X a tA) (hb:PW X (.BoolOp .Or (b::rest) pos) tB'):PW X (.BoolOp .Or (a::b::rest) pos) (tOr tA tB'):=by
 intro wh pins s σ H Q I h
 refine isTrue_or (thn (ha pins s σ H _ I h) fun c s1 ⟨H1,I1,q1⟩=>?_)
 cases c with
 | true=>exact ⟨H1,I1,q1⟩
 | false=>exact hb wh pins s1 σ H1 Q I1 q1
theorem yW (ha:PT X a tA):PT X (.UnaryOp .Not a pos) (tNot tA):=by
 intro pins s σ H Q I h
 exact isTrue_not (ha pins s σ H (fun c H1=>Q (!c) H1) I h)
noncomputable def zc0 (ta tb:TE):TE:=fun σ H Q=>ta σ H fun x H1=>∃ c,x=.bl c/\if c=true then tb σ H1 Q else Q (.bl false) H1
noncomputable def zc1 (ta:TE):TE:=fun σ H Q=>ta σ H fun x H1=>∃ c,x=.bl c/\Q (.bl (!c)) H1
theorem xJ {op} {t:TE} (h:PE X a t):PE X (.BoolOp op [a] pos) t:=fun pins s σ H Q I hw=>BoolOp_one (h pins s σ H Q I hw)
theorem xt (ha:PE X a ta) (hb:PE X (.BoolOp .And (b::rest) pos) tb):PE X (.BoolOp .And (a::b::rest) pos) (zc0 ta tb):=by
 intro pins s σ H Q I h
 refine BoolOp_and (thn (ha pins s σ H _ I h) fun v s1 h9=>?_)
 obtain ⟨x,H1,I1,r1,q1⟩:=h9
 obtain ⟨c,rfl,q1⟩:=q1
 cases r1
 refine wpAny_truthy_bool ?_
 cases c with
 | true=>exact hb pins s1 σ H1 Q I1 q1
 | false=>exact ⟨.bl false,H1,I1,rfl,q1⟩
theorem Xh (ha:PE X a ta):PE X (.UnaryOp .Not a pos) (zc1 ta):=by
 intro pins s σ H Q I h
 refine UnaryOp_ (thn (ha pins s σ H _ I h) fun v s1 h9=>?_)
 obtain ⟨x,H1,I1,r1,q1⟩:=h9
 obtain ⟨c,rfl,q1⟩:=q1
 cases r1
 exact not_of (wpAny_truthy_bool ⟨.bl (!c),H1,I1,rfl,q1⟩)
noncomputable def tIf (t:TT) (ta tb:TE):TE:=fun σ H Q=>t σ H fun c H1=>if c=true then ta σ H1 Q else tb σ H1 Q
theorem Xi {c:Expr} (hc:PT X c tA) (ha:PE X a ta) (hb:PE X b tb):PE X (.IfExp c a b pos) (tIf tA ta tb):=by
 intro pins s σ H Q I h
 refine wpAny_IfExp (thn (hc pins s σ H _ I h) fun d s1 ⟨H1,I1,q1⟩=>?_)
 cases d with
 | true=>exact ha pins s1 σ H1 Q I1 q1
 | false=>exact hb pins s1 σ H1 Q I1 q1
end
noncomputable def SqL (K:Frag) (H:Hp) (a:Addr) (xs:List V):Prop :=
 Rd H a (.lst xs) \/
  ∃ (o:Obj) (its:Array Value) (n:Nat),K.lookup a=some o/\o.cls=.type "list" /\ o.dict=none/\o.data=.seq its n/\its.size<=sizeLine/\Vals xs its.toList
noncomputable def SqT (K:Frag) (H:Hp) (a:Addr) (xs:List V):Prop :=
 Rd H a (.tup xs) \/
  ∃ (o:Obj) (its:Array Value) (n:Nat),K.lookup a=some o/\o.cls=.type "tuple" /\ o.data=.seq its n/\its.size<=sizeLine/\Vals xs its.toList
noncomputable def absV:Value->Option V
 | .none=>some .non
 | .bool b=>some (.bl b)
 | .int i _=>some (.int i)
 | .str x _=>some (.str x)
 | .bytes b _=>some (.byt b)
 | .float b _=>some (.flt b)
 | .ref a=>some (.ref a)
 | .type n=>some (.ty n)
 | _=>none
theorem RelV.abs {x:V} {u:Value} (r:RelV x u):absV u=some x:=by
 cases x with
 | non=>cases r;rfl
 | bl _=>cases r;rfl
 | int _=>obtain ⟨t,rfl⟩:=r;rfl
 | str _=>obtain ⟨t,rfl⟩:=r;rfl
 | byt _=>obtain ⟨t,rfl⟩:=r;rfl
 | flt _=>obtain ⟨t,rfl⟩:=r;rfl
 | ref _=>cases r;rfl
 | ty _=>cases r;rfl
theorem RelV.inj {x y:V} {u:Value} (r:RelV x u) (q:RelV y u):x=y:=Option.some.inj (r.abs.symm.trans q.abs)
theorem Vals.inj:∀ {xs ys:List V} {us:List Value},Vals xs us->Vals ys us->xs=ys
 | _,_,_,.nil,.nil=>rfl
 | _,_,_,.cons r t,.cons r' t'=>by rw [r.inj r',Vals.inj t t']
section
variable {X:Cx} {pins:List (Addr×Obj)} {σ:St} {H:Hp} {s:Shared} {a:Addr} {xs ys:List V}
theorem SqL.of {K:Frag} (h:H a=some (.lst xs)):SqL K H a xs:=.inl (.inl h)
theorem SqT.of {K:Frag} (h:H a=some (.tup xs)):SqT K H a xs:=.inl (.inl h)
theorem Inv.list (I:Inv X pins σ H s) (h:SqL X.K H a xs):∃ its:List Value,Vals xs its/\PlainL s.heap a its.toArray/\xs.length<=sizeLine:=by
 rcases h with h | ⟨o,its,n,hk,hc,hd,hs,hz,r⟩
 ·obtain ⟨z,its,n,r,e⟩:=h.ok I.hok
  exact ⟨its,r,⟨_,n,e,rfl,rfl,rfl⟩,z⟩
 ·refine ⟨its.toList,r,⟨o,n,I.kIn a o hk,hc,hd,by simpa using hs⟩,?_⟩
  have e:=r.length
  simp only [Array.length_toList] at e
  omega
theorem Inv.tuple (I:Inv X pins σ H s) (h:SqT X.K H a xs):∃ its:List Value,Vals xs its/\IsTup s.heap a its.toArray/\xs.length<=sizeLine:=by
 rcases h with h | ⟨o,its,n,hk,hc,hs,hz,r⟩
 ·obtain ⟨z,its,r,p⟩:=h.ok I.hok
  exact ⟨its,r,p,z⟩
 ·refine ⟨its.toList,r,⟨o,I.kIn a o hk,hc,n,by simpa using hs⟩,?_⟩
  have e:=r.length
  simp only [Array.length_toList] at e
  omega
theorem Inv.list_inj (I:Inv X pins σ H s) (h:SqL X.K H a xs) (h':SqL X.K H a ys):xs=ys:=by
 obtain ⟨its,r,⟨o,n,e,_,_,d⟩,_⟩:=I.list h
 obtain ⟨its',r',⟨o',n',e',_,_,d'⟩,_⟩:=I.list h'
 rw [e] at e';cases e'
 rw [d] at d'
 injection d' with d1 _
 have:its=its':=by simpa using congrArg Array.toList d1
 subst this
 exact r.inj r'
theorem Inv.tuple_inj (I:Inv X pins σ H s) (h:SqT X.K H a xs) (h':SqT X.K H a ys):xs=ys:=by
 obtain ⟨its,r,⟨o,e,_,n,d⟩,_⟩:=I.tuple h
 obtain ⟨its',r',⟨o',e',_,n',d'⟩,_⟩:=I.tuple h'
 rw [e] at e';cases e'
 rw [d] at d'
 injection d' with d1 _
 have:its=its':=by simpa using congrArg Array.toList d1
 subst this
 exact r.inj r'
end
abbrev Cx.wish (X:Cx) (E:Value->Shared->Prop):Cx:={X with xe:=E}
abbrev Cx.nox (X:Cx):Cx:=X.wish fun _ _=>False
theorem Cx.Ok.wish {X:Cx} (ok:X.Ok) (E:Value->Shared->Prop):(X.wish E).Ok :=
 ⟨ok.mod,ok.kind,ok.glob,ok.blt,ok.above,ok.inj,ok.has,ok.cab,ok.hd,ok.frames,ok.stk,ok.exf,ok.bs,ok.bsz,ok.noex,ok.exfs,ok.funs,ok.frf⟩
theorem Cx.Ok.unwish {X:Cx} {E:Value->Shared->Prop} (ok:(X.wish E).Ok):X.Ok :=
 ⟨ok.mod,ok.kind,ok.glob,ok.blt,ok.above,ok.inj,ok.has,ok.cab,ok.hd,ok.frames,ok.stk,ok.exf,ok.bs,ok.bsz,ok.noex,ok.exfs,ok.funs,ok.frf⟩
section
variable {X:Cx} {pins:List (Addr×Obj)} {σ:St} {H:Hp} {s:Shared} {E:Value->Shared->Prop}
theorem Inv.wish (I:Inv X pins σ H s) (E:Value->Shared->Prop):Inv (X.wish E) pins σ H s:=⟨I.ok.wish E,I.os,I.bare,I.base,I.loc,I.cell,I.free,I.freeC,I.pin,I.hok,I.len⟩
theorem Inv.unwish (I:Inv (X.wish E) pins σ H s):Inv X pins σ H s:=⟨I.ok.unwish,I.os,I.bare,I.base,I.loc,I.cell,I.free,I.freeC,I.pin,I.hok,I.len⟩
theorem SP.unwish {D:Ends} {f:Flow} {s':Shared} (h:SP (X.wish E) pins D f s'):SP X pins D f s':=by
 cases f with
 | next=>obtain ⟨σ',H',I,q⟩:=h;exact ⟨σ',H',I.unwish,q⟩
 | brk=>obtain ⟨σ',H',I,q⟩:=h;exact ⟨σ',H',I.unwish,q⟩
 | cont=>obtain ⟨σ',H',I,q⟩:=h;exact ⟨σ',H',I.unwish,q⟩
 | ret u=>obtain ⟨v,σ',H',I,r,q⟩:=h;exact ⟨v,σ',H',I.unwish,r,q⟩
theorem PSs.nox {st:List Stmt} {t:TS} (h:PSs X.nox st t):PSs X st t:=fun pins s σ H D I hw =>
 wpAny_mono (h pins s σ H D (I.wish _) hw) (fun _ _ q=>q.unwish) fun _ _ z=>False.elim z
end
section
variable {X:Cx} {st:Stmt} {rest:List Stmt} {t u:TS} {e:Expr} {te:TE} {pos:Pos}
noncomputable def zaG:TS:=fun D σ H=>D.nx σ H
noncomputable def tSeq (t u:TS):TS:=fun D σ H=>t {D with nx:=u D} σ H
theorem zL:PSs X [] zaG:=fun _ _ σ H _ I h=>wpAny_execs_nil ⟨σ,H,I,h⟩
theorem ze (h1:PS X st t) (h2:PSs X rest u):PSs X (st::rest) (tSeq t u):=by
 intro pins s σ H D I h
 refine wpAny_execs_cons (thn (h1 pins s σ H {D with nx:=u D} I h) fun f s1 q=>?_)
 cases f with
 | next =>
  obtain ⟨σ',H',I',q⟩:=q
  exact h2 pins s1 σ' H' D I' q
 | ret v=>exact q
 | brk=>exact q
 | cont=>exact q
theorem zf (h1:PS X st t):PSs X [st] t:=by
 intro pins s σ H D I h
 refine wpAny_execs_cons (thn (h1 pins s σ H D I h) fun f s1 q=>?_)
 cases f with
 | next=>exact wpAny_execs_nil q
 | ret v=>exact q
 | brk=>exact q
 | cont=>exact q
theorem Inv.quiet {pins:List (Addr×Obj)} {σ:St} {H:Hp} {s:Shared} (I:Inv X pins σ H s):interactive X.env=false:=by simp [interactive,I.ok.kind]
noncomputable def zc2 (te:TE):TS:=fun D σ H=>te σ H fun _ H1=>D.nx σ H1
theorem zZ (he:PE X e te) (hs:swapsWith e none pos.line X.env=pure false:=by rfl):PS X (.Expr e pos) (zc2 te):=by
 intro pins s σ H D I h
 exact wpAny_Expr_any (thn (he pins s σ H _ I h) fun v s1 ⟨x,H1,I1,r1,q1⟩=>⟨σ,H1,I1,q1⟩) I.quiet hs
noncomputable def tRet (te:TE):TS:=fun D σ H=>te σ H D.rt
theorem zn (he:PE X e te):PS X (.Return (some e) pos) (tRet te):=by
 intro pins s σ H D I h
 exact wpAny_Return_some (thn (he pins s σ H _ I h) fun v s1 ⟨x,H1,I1,r1,q1⟩=>⟨x,σ,H1,I1,r1,q1⟩)
noncomputable def tIfS (c:TT) (t u:TS):TS:=fun D σ H=>c σ H fun b H1=>if b=true then t D σ H1 else u D σ H1
theorem zR {c:Expr} {a b:List Stmt} {tc:TT} (hc:PT X c tc) (ha:PSs X a t) (hb:PSs X b u):PS X (.If c a b pos) (tIfS tc t u):=by
 intro pins s σ H D I h
 refine wpAny_If (thn (hc pins s σ H _ I h) fun d s1 ⟨H1,I1,q1⟩=>?_)
 cases d with
 | true=>exact ha pins s1 σ H1 D I1 q1
 | false=>exact hb pins s1 σ H1 D I1 q1
end
abbrev TG:=V->St->Hp->(St->Hp->Prop)->Prop
abbrev TGs:=List V->St->Hp->(St->Hp->Prop)->Prop
noncomputable def PG (X:Cx) (target:Expr) (t:TG):Prop :=
 ∀ (pins:List (Addr×Obj)) (s:Shared) (σ:St) (H:Hp) (v:V) (u:Value) (Q:St->Hp->Prop),Inv X pins σ H s->RelV v u->t v σ H Q ->
  wpAny (model X.prog X.w) X.A (assign target X.env u) (fun _ s'=>∃ σ' H',Inv X pins σ' H' s'/\Q σ' H') X.xe s
noncomputable def PGs (X:Cx) (ts:List Expr) (t:TGs):Prop :=
 ∀ (pins:List (Addr×Obj)) (s:Shared) (σ:St) (H:Hp) (vs:List V) (us:List Value) (Q:St->Hp->Prop),Inv X pins σ H s->Vals vs us->t vs σ H Q ->
  wpAny (model X.prog X.w) X.A (assignInOrder ((assignEach ts X.env).map (·.2)) us) (fun _ s'=>∃ σ' H',Inv X pins σ' H' s'/\Q σ' H') X.xe s
abbrev TSet:=V->V->V->Hp->(Hp->Prop)->Prop
noncomputable def PSet (X:Cx) (t:TSet):Prop :=
 ∀ (pins:List (Addr×Obj)) (s:Shared) (σ:St) (H:Hp) (o i v:V) (ov iv u:Value) (Q:Hp->Prop),Inv X pins σ H s->RelV o ov->RelV i iv->RelV v u->t o i v H Q ->
  wpAny (model X.prog X.w) X.A (setItem ov iv u) (fun _ s'=>∃ H',Inv X pins σ H' s'/\Q H') X.xe s
abbrev TIp:=V->V->Hp->VK->Prop
noncomputable def PIp (X:Cx) (op:Operator) (t:TIp):Prop :=
 ∀ (pins:List (Addr×Obj)) (s:Shared) (σ:St) (H:Hp) (x y:V) (v u:Value) (Q:VK),Inv X pins σ H s->RelV x v->RelV y u->t x y H Q ->
  wpAny (model X.prog X.w) X.A (inplaceOp op v u) (EP X pins σ Q) X.xe s
section
variable {X:Cx} {pos:Pos}
noncomputable def z7 (i:Nat):TG:=fun v σ H Q=>Q (σ.set i (some v)) H
theorem zo {i:Nat} {x:Str} (hN:X.N.Nodup) (hi:X.N[i]?=some x) (hx:Loc X.env.scope x) (hf:X.fn x=true\/X.env.scope.names.lookup x=some .local:=by first | exact .inl rfl | exact .inr rfl | assumption):PG X (.Name x pos) (z7 i):=by
 intro pins s σ H v u Q I r h
 exact wpAny_assign_Name (qF I hN hi hx r (fun s' I'=>⟨_,H,I',h⟩) hf)
noncomputable def gNil:TGs:=fun vs σ H Q=>vs=[]/\Q σ H
noncomputable def zc3 (t:TG) (u:TGs):TGs:=fun vs σ H Q=>∃ v r,vs=v::r/\t v σ H fun σ' H'=>u r σ' H' Q
theorem xh:PGs X [] gNil:=by
 intro pins s σ H vs us Q I r h
 obtain ⟨e,h⟩:=h
 subst e
 cases r
 exact assignInOrder_nil ⟨σ,H,I,h⟩
theorem z8 {e:Expr} {es:List Expr} {t:TG} {u:TGs} (h1:PG X e t) (h2:PGs X es u)
  (hs:(assignEach (e::es) X.env).map (·.2)=assign e X.env::(assignEach es X.env).map (·.2):=by rfl):PGs X (e::es) (zc3 t u):=by
 intro pins s σ H vs us Q I r h
 obtain ⟨v,vr,e1,h⟩:=h
 subst e1
 cases r with
 | cons r rr =>
  rw [hs]
  refine assignInOrder_cons (thn (h1 pins s σ H _ _ _ I r h) fun _ s1 h9=>?_)
  obtain ⟨σ1,H1,I1,q1⟩:=h9
  exact h2 pins s1 σ1 H1 _ _ Q I1 rr q1
noncomputable def gTup (K:Frag) (n:Nat) (t:TGs):TG:=fun v σ H Q=>∃ a xs,v=.ref a/\SqT K H a xs/\xs.length=n/\t xs σ H Q
theorem wB {es:List Expr} {k:Nat} {t:TGs} {n:Nat} (hc:X.calm=true) (h:PGs X es t)
  (hn:(assignEach es X.env).length=n:=by rfl) (hst:(assignEach es X.env).findIdx? (·.1)=none:=by rfl):PG X (.Tuple es k pos) (gTup X.K n t):=by
 intro pins s σ H v u Q I r hw
 obtain ⟨a,xs,e1,hq,hl,hw⟩:=hw
 subst e1
 cases r
 obtain ⟨its,rv,ht,hz⟩:=I.tuple hq
 refine assign_Tuple_tuple (I.ok.hd hc) ht (by simp [hn,<- hl,rv.length]) hst fun h' hx=>?_
 have I1:Inv X pins σ H {s with heap:=h'}:=I.kept (t':=s.toks) fun b o e=>hx b o (vz (Heap.lt_size e)) e
 exact h pins _ σ H xs _ Q I1 (by simpa using rv) hw
noncomputable def gSub (to ti:TE) (t:TSet):TG:=fun v σ H Q=>to σ H fun o H1=>ti σ H1 fun i H2=>t o i v H2 fun H3=>Q σ H3
theorem QG {o i:Expr} {to ti:TE} {t:TSet} (ho:PE X o to) (hi:PE X i ti) (hs:PSet X t)
  (ha:∀ v,assign (.Subscript o i pos) X.env v=(do
   let ov <- holding [v] (eval o X.env)
   let iv <- holding [v,ov] (eval i X.env)
   standAt pos
   holding [v,ov,iv] (setItem ov iv v)
   release [v,ov,iv] []):=by intro _;rfl):PG X (.Subscript o i pos) (gSub to ti t):=by
 intro pins s σ H v u Q I r h
 rw [ha]
 refine wpAny_bind (wpAny_holding (thn (ho pins s σ H _ I h) fun ov s1 h9=>?_))
 obtain ⟨x,H1,I1,r1,q1⟩:=h9
 refine wpAny_bind (wpAny_holding (thn (hi pins s1 σ H1 _ I1 q1) fun iv s2 h9=>?_))
 obtain ⟨y,H2,I2,r2,q2⟩:=h9
 refine wpAny_bind (wpAny_standAt (wpAny_bind (wpAny_holding (thn (hs pins s2 σ H2 x y v ov iv u _ I2 r1 r2 r q2) fun _ s3 h9=>?_))))
 obtain ⟨H3,I3,q3⟩:=h9
 exact wpAny_release ⟨σ,H3,I3,q3⟩
noncomputable def tAsg (te:TE) (g:TG):TS:=fun D σ H=>te σ H fun x H1=>g x σ H1 D.nx
theorem qa {tg e:Expr} {te:TE} {g:TG} (he:PE X e te) (hg:PG X tg g) (hs:swapsWithSole [tg] e pos.line X.env=pure false:=by rfl) (hw:swappedStores [tg] e X.env=pure none:=by rfl)
  (h1:(assignEach [tg] X.env).map (·.2)=[assign tg X.env]:=by rfl):PS X (.Assign [tg] e pos) (tAsg te g):=by
 intro pins s σ H D I h
 refine wpAny_Assign_stores (thn (he pins s σ H _ I h) fun v s1 ⟨x,H1,I1,r1,q1⟩=>?_) hs hw
 rw [h1]
 exact thn (hg pins s1 σ H1 x v _ I1 r1 q1) fun _ s2 q=>q
theorem zm {i:Nat} {x:Str} {e:Expr} {te:TE} {pos':Pos} (hN:X.N.Nodup) (hi:X.N[i]?=some x) (hx:Loc X.env.scope x) (he:PE X e te) (hs:swapsWith e (some (.Name x pos')) pos.line X.env=pure false:=by rfl) (hf:X.fn x=true\/X.env.scope.names.lookup x=some .local:=by first | exact .inl rfl | exact .inr rfl | assumption) :
  PS X (.Assign [.Name x pos'] e pos) (tAsg te (z7 i)):=by
 intro pins s σ H D I h
 refine wpAny_Assign_Name (thn (he pins s σ H _ I h) fun v s1 ⟨y,H1,I1,r1,q1⟩=>?_) hs
 exact qF I1 hN hi hx r1 (fun s2 I2=>⟨_,H1,I2,q1⟩) hf
noncomputable def tAug (i:Nat) (te:TE) (ti:TIp):TS:=fun D σ H=>∃ x,σ[i]?=some (some x)/\te σ H fun y H1=>ti x y H1 fun z H2=>D.nx (σ.set i (some z)) H2
theorem QH {i:Nat} {x:Str} {e:Expr} {te:TE} {op:Operator} {ti:TIp} {pos':Pos} (hN:X.N.Nodup) (hi:X.N[i]?=some x) (hx:Loc X.env.scope x) (he:PE X e te) (ho:PIp X op ti) (hf:X.fn x=true\/X.env.scope.names.lookup x=some .local:=by first | exact .inl rfl | exact .inr rfl | assumption) :
  PS X (.AugAssign (.Name x pos') op e pos) (tAug i te ti):=by
 intro pins s σ H D I h
 obtain ⟨v,e1,h⟩:=h
 obtain ⟨m,hn,hl⟩:=I.loc
 have vis:Vis X.env.scope x:=by rcases hx with k | k;exact .inl k;exact .inr (.inl k)
 obtain ⟨u,r,l⟩:=hl i x v hi e1 vis
 refine wpAny_AugAssign_Name ?_
 have go:wpAny (model X.prog X.w) X.A (eval e X.env) (fun w s₂=>wpAny (model X.prog X.w) X.A (inplaceOp op u w) (fun r s₃=>wpAny (model X.prog X.w) X.A (storeName X.env x r) (fun _=>SP X pins D .next) X.xe s₃) X.xe s₂) X.xe s:=by
  refine thn (he pins s σ H _ I h) fun w s1 h9=>?_
  obtain ⟨y,H1,I1,r1,q1⟩:=h9
  refine thn (ho pins s1 σ H1 v y u w _ I1 r r1 q1) fun z s2 h9=>?_
  obtain ⟨zv,H2,I2,r2,q2⟩:=h9
  exact qF I2 hN hi hx r2 (fun s3 I3=>⟨_,H2,I3,q2⟩) hf
 rcases l with ⟨hk,hm⟩ | ⟨hk,c,hc,hcell⟩
 ·exact wpAny_loadName_local I.ok.kind hk hn hm go
 ·rcases hk with hk | hk
  ·exact wpAny_loadName_cell I.ok.kind hk hc hcell go
  ·rcases hx with k | k
   ·have:X.env.scope.names.lookup x=some .free:=hk
    rw [k] at this;cases this
   ·have:X.env.scope.names.lookup x=some .free:=hk
    rw [k] at this;cases this
noncomputable def ipI (f:Int->Int->Int):TIp:=fun x y H Q=>∃ i j,x=.int i/\y=.int j/\Q (.int (f i j)) H
theorem QI:PIp X .Add (ipI fun i j=>i+j):=by
 intro pins s σ H x y v u Q I r1 r2 h
 obtain ⟨i,j,e1,e2,q⟩:=h
 subst e1;subst e2
 obtain ⟨t,rfl⟩:=r1
 obtain ⟨t',rfl⟩:=r2
 exact iadd_int ⟨.int _,H,I.tok _,⟨_,rfl⟩,q⟩
end
section
variable {X:Cx} {pos:Pos}
noncomputable def QJ (c:TT) (tb:TS):TS:=fun D σ H=>∃ W:Nat->St->Hp->Prop,(∃ m,W m σ H)/\∀ m σ H,W m σ H ->
 c σ H fun b H1=>if b=true then ∃ N:St->Hp->Prop,(∀ σ' H',N σ' H'->∃ m',m'<m/\W m' σ' H')/\tb {D with nx:=N,ct:=N,bk:=D.nx} σ H1 else D.nx σ H1
theorem wC {c:Expr} {body:List Stmt} {tc:TT} {tb:TS} (hp:PassesOwn (model X.prog X.w) X.A X.env X.xe) (hc:PT X c tc) (hb:PSs X body tb):PS X (.While c body [] pos) (QJ tc tb):=by
 intro pins s σ H D I h
 obtain ⟨W,⟨m0,w0⟩,turn⟩:=h
 refine wpAny_While (codeAny_whileLoop (fun n s'=>∃ σ' H',Inv X pins σ' H' s'/\W n σ' H') ?_ m0 ⟨σ,H,I,w0⟩)
 rintro n s1 ⟨σ1,H1,I1,w1⟩
 refine wpAny_passesOwn hp (thn (hc pins s1 σ1 H1 _ I1 (turn n σ1 H1 w1)) fun b s2 ⟨H2,I2,q2⟩=>?_)
 cases b with
 | true =>
  obtain ⟨N,hN,q2⟩:=q2
  rw [if_pos rfl]
  refine wpAny_passesOwn hp (thn (hb pins s2 σ1 H2 _ I2 q2) fun f s3 q3=>?_)
  cases f with
  | next =>
   obtain ⟨σ3,H3,I3,n3⟩:=q3
   obtain ⟨m',hm,w3⟩:=hN σ3 H3 n3
   exact ⟨m',hm,σ3,H3,I3,w3⟩
  | cont =>
   obtain ⟨σ3,H3,I3,n3⟩:=q3
   obtain ⟨m',hm,w3⟩:=hN σ3 H3 n3
   exact ⟨m',hm,σ3,H3,I3,w3⟩
  | brk=>exact q3
  | ret v=>exact q3
 | false =>
  rw [if_neg kF]
  exact wpAny_execs_nil ⟨σ1,H2,I2,q2⟩
end
structure It where
 go:Nat->Hp->Prop
 yld:Nat->Hp->V->Hp->Prop
 stop:Nat->Hp->Prop
noncomputable def FpOk (X:Cx) (pins:List (Addr×Obj)) (H:Hp) (b:Addr):Prop :=
 H b=none/\b≠X.env.locals/\b∉X.fs/\(b∈X.ex\/X.s₀.heap.objs.size<=b)/\(∀ x c,X.env.cells.lookup x=some c->c≠b)/\∀ p∈X.pn++pins,p.1≠b
theorem Inv.fpOk {X:Cx} {pins:List (Addr×Obj)} {σ:St} {H H':Hp} {s:Shared} {b:Addr} (I:Inv X pins σ H s) (hb:s.heap.objs.size<=b) (hn:H' b=none):FpOk X pins H' b:=by
 refine ⟨hn,ue (vh I.lt hb),I.nofs hb,.inr (km I.sz hb),fun x c e z=>?_,fun p hp z=>?_⟩
 ·obtain ⟨v,q⟩:=I.cell x c e
  exact absurd (vh q.lt (by rw [z];exact hb)) (vK _)
 ·exact absurd (vh (Heap.lt_size (I.pin p hp).1) (by rw [z];exact hb)) (vK _)
structure Turn (P:Program) (w:World) (K:Frag) (tg:Expr) (J:It) (fp:List Addr) (it:Addr) (tn:Nat->Heap->Prop):Prop where
 mem:it∈fp
 obj:∀ i h,tn i h->∀ b∈fp,∃ o,h.get? b=some o/\∀ v,o.data≠.cell v
 keep:∀ i h h',tn i h->(∀ b∈fp,∀ o,h.get? b=some o->h'.get? b=some o)->tn i h'
 item:∀ (X:Cx),X.prog=P->X.w=w->X.K=K->X.calm=true->∀ (i:Nat) (pins:List (Addr×Obj)) (s:Shared) (σ:St) (H:Hp) (E:Value->Shared->Prop),Inv X pins σ H s->(∀ b∈fp,FpOk X pins H b)->tn i s.heap->J.go i H ->
  wpAny (model P w) X.A (pyNext (.ref it)) (fun r s1=>∃ u,r=some u /\
   wpAny (model P w) X.A (letOwnedTupleGo tg (.ref it) u) (fun _ s2=>∃ x H',Inv X pins σ H' s2/\RelV x u/\J.yld i H x H'/\tn (i+1) s2.heap/\∀ b∈fp,H' b=none) E s1) E s
 done:∀ (X:Cx),X.prog=P->X.w=w->X.K=K->X.calm=true->∀ (i:Nat) (pins:List (Addr×Obj)) (s:Shared) (σ:St) (H:Hp) (E:Value->Shared->Prop),Inv X pins σ H s->(∀ b∈fp,FpOk X pins H b)->tn i s.heap->J.stop i H ->
  wpAny (model P w) X.A (pyNext (.ref it)) (fun r s1=>r=none/\Inv X pins σ H s1) E s
 self:∀ (A:Around) (i:Nat) (s:Shared) (Q:Value->Shared->Prop) (E:Value->Shared->Prop),tn i s.heap->Q (.ref it) s->wpAny (model P w) A (pyIter (.ref it)) Q E s
abbrev TI:=St->Hp->(It->Hp->Prop)->Prop
noncomputable def PIE (X:Cx) (pins:List (Addr×Obj)) (σ:St) (tg:Expr) (R:It->Hp->Prop) (itv:Value) (s2:Shared):Prop :=
 ∃ (it:Addr) (fp:List Addr) (tn:Nat->Heap->Prop) (J:It) (H':Hp),itv=.ref it/\Inv X pins σ H' s2/\Turn X.prog X.w X.K tg J fp it tn/\tn 0 s2.heap/\(∀ b∈fp,FpOk X pins H' b)/\R J H'
noncomputable def PI (X:Cx) (tg iter:Expr) (wi:TI):Prop :=
 ∀ (pins:List (Addr×Obj)) (s:Shared) (σ:St) (H:Hp) (R:It->Hp->Prop),Inv X pins σ H s->wi σ H R ->
  wpAny (model X.prog X.w) X.A (eval iter X.env) (fun v s1=>wpAny (model X.prog X.w) X.A (pyIter v) (PIE X pins σ tg R) X.xe s1) X.xe s
theorem Zi {M:Model} {A:Around} {E:Value->Shared->Prop} {s:Shared} {tg:Expr} {it:Addr} {u:Value} {o:Obj} {n:String} {vs:Array Value} {Q:Unit->Shared->Prop} (ho:s.heap.get? it=some o) (hc:o.cls=.type n) (hd:o.data=.fields vs)
  (hn:["enumerate","zip","dict_itemiterator","dict_reverseitemiterator","odict_iterator","itertools.zip_longest","itertools.pairwise"].contains n=false) (hQ:Q () s):wpAny M A (letOwnedTupleGo tg (.ref it) u) Q E s:=by
 unfold letOwnedTupleGo
 cases tg<;>first
  | exact wpAny_pure hQ
  | (cases u<;>first
    | exact wpAny_pure hQ
    | (refine wpAny_bind (wpAny_load ho ?_)
       rw [hc,hd]
       show wpAny M A (if (["enumerate","zip","dict_itemiterator","dict_reverseitemiterator","odict_iterator","itertools.zip_longest","itertools.pairwise"].contains n && vs[0]? == some (rawInt _))=true then _ else _) Q E s
       rw [if_neg (by intro h;rw [hn,Bool.false_and] at h;cases h)]
       exact wpAny_pure hQ))
noncomputable def Itl (K:Frag) (a:Addr):It :=
 ⟨fun i H=>∃ xs x,SqL K H a xs/\xs[i]?=some x,fun i H x H'=>H'=H/\∀ xs,SqL K H a xs->xs[i]?=some x,fun i H=>∃ xs,SqL K H a xs/\xs.length<=i⟩
noncomputable def Itt (K:Frag) (a:Addr):It :=
 ⟨fun i H=>∃ xs x,SqT K H a xs/\xs[i]?=some x,fun i H x H'=>H'=H/\∀ xs,SqT K H a xs->xs[i]?=some x,fun i H=>∃ xs,SqT K H a xs/\xs.length<=i⟩
noncomputable def Itr (lo:Int) (n:Nat):It:=⟨fun i _=>i<n,fun i H x H'=>H'=H/\x=.int (lo+i),fun i _=>n<=i⟩
theorem QK {P:Program} {w:World} {K:Frag} {tg:Expr} (a it:Addr):Turn P w K tg (Itl K a) [it] it (fun i h=>h.IsListIter it a i) where
 mem:=by simp
 obj:=fun i h st b hb=>by
  have e:b=it:=by simpa using hb
  subst e
  obtain ⟨o,e,c,d⟩:=st
  exact ⟨o,e,fun v z=>by rw [d] at z;cases z⟩
 keep:=fun i h h' st k=>st.at fun o e=>k it (by simp) o e
 item:=by
  intro X hP hw hK hc i pins s σ H E I hf st hg
  subst hP hw hK
  obtain ⟨xs,x,hq,hx⟩:=hg
  obtain ⟨its,rv,p,hz⟩:=I.list hq
  obtain ⟨u,hu,ru⟩:=rv.get hx
  obtain ⟨f0,f1,f2,f3,f4,f5⟩:=hf it (by simp)
  refine wpAny_pyNext_list_item st p.isList (x:=u) (by simpa using hu) fun h' st' sb=>?_
  have I1:Inv X pins σ H {s with heap:=h'}:=I.turned (t':=s.toks) (fun b o hb e=>(sb.2 b hb).trans e) f0 f1 f3 f4 f5
  obtain ⟨o,e,c,d⟩:=id st'
  exact ⟨u,rfl,Zi (s:={s with heap:=h'}) e c d (by decide) ⟨x,H,I1,ru,⟨rfl,fun ys hy=>by rw [I.list_inj hy hq];exact hx⟩,st',fun b hb=>(hf b hb).1⟩⟩
 done:=by
  intro X hP hw hK hc i pins s σ H E I hf st hg
  subst hP hw hK
  obtain ⟨xs,hq,hx⟩:=hg
  obtain ⟨its,rv,p,hz⟩:=I.list hq
  obtain ⟨f0,f1,f2,f3,f4,f5⟩:=hf it (by simp)
  have hl:=rv.length
  exact wpAny_pyNext_list_end (I.ok.hd hc) st p.isList (by simp;omega) fun h' eb=>⟨rfl,I.turned (t':=s.toks) (fun b o hb e=>eb b o hb e) f0 f1 f3 f4 f5⟩
 self:=fun _ _ _ _ _ st h=>wpAny_pyIter_listiter st h
theorem W5 {P:Program} {w:World} {K:Frag} {tg:Expr} (a it:Addr):Turn P w K tg (Itt K a) [it] it (fun i h=>h.IsTupleIter it a i) where
 mem:=by simp
 obj:=fun i h st b hb=>by
  have e:b=it:=by simpa using hb
  subst e
  obtain ⟨o,e,c,d⟩:=st
  exact ⟨o,e,fun v z=>by rw [d] at z;cases z⟩
 keep:=fun i h h' st k=>st.at fun o e=>k it (by simp) o e
 item:=by
  intro X hP hw hK hc i pins s σ H E I hf st hg
  subst hP hw hK
  obtain ⟨xs,x,hq,hx⟩:=hg
  obtain ⟨its,rv,p,hz⟩:=I.tuple hq
  obtain ⟨u,hu,ru⟩:=rv.get hx
  obtain ⟨f0,f1,f2,f3,f4,f5⟩:=hf it (by simp)
  refine wpAny_pyNext_tuple_item st (show s.heap.IsTuple a its.toArray from p) (x:=u) (by simpa using hu) fun h' st' sb=>?_
  have I1:Inv X pins σ H {s with heap:=h'}:=I.turned (t':=s.toks) (fun b o hb e=>(sb.2 b hb).trans e) f0 f1 f3 f4 f5
  obtain ⟨o,e,c,d⟩:=id st'
  exact ⟨u,rfl,Zi (s:={s with heap:=h'}) e c d (by decide) ⟨x,H,I1,ru,⟨rfl,fun ys hy=>by rw [I.tuple_inj hy hq];exact hx⟩,st',fun b hb=>(hf b hb).1⟩⟩
 done:=by
  intro X hP hw hK hc i pins s σ H E I hf st hg
  subst hP hw hK
  obtain ⟨xs,hq,hx⟩:=hg
  obtain ⟨its,rv,p,hz⟩:=I.tuple hq
  obtain ⟨f0,f1,f2,f3,f4,f5⟩:=hf it (by simp)
  have hl:=rv.length
  exact wpAny_pyNext_tuple_end (I.ok.hd hc) st (show s.heap.IsTuple a its.toArray from p) (by simp;omega) fun h' eb=>⟨rfl,I.turned (t':=s.toks) (fun b o hb e=>eb b o hb e) f0 f1 f3 f4 f5⟩
 self:=fun _ _ _ _ _ st h=>wpAny_pyIter_tupleiter st h
theorem W6 {P:Program} {w:World} {K:Frag} {tg:Expr} (it:Addr) (lo:Int) (n:Nat):Turn P w K tg (Itr lo n) [it] it (fun i h=>IsRangeIter h it (lo+(i:Nat)*1) ((n:Int)-(i:Nat)) 1) where
 mem:=by simp
 obj:=fun i h st b hb=>by
  have e:b=it:=by simpa using hb
  subst e
  exact ⟨_,st,fun v z=>by
   have z':Data.fields _=Data.cell v:=z
   cases z'⟩
 keep:=fun i h h' st k=>k it (by simp) _ st
 item:=by
  intro X hP hw hK hc i pins s σ H E I hf st hg
  subst hP hw hK
  obtain ⟨f0,f1,f2,f3,f4,f5⟩:=hf it (by simp)
  have W:=Walks.range (prog:=X.prog) (w:=X.w) (I.ok.hd hc) it lo 1 n
  refine W.item i s _ _ hg st fun v h' tk hv st' kk=>?_
  obtain ⟨t,rfl⟩:=hv
  have I1:Inv X pins σ H {s with heap:=h',toks:=tk}:=I.turned (fun b o hb e=>kk b o (by simpa using hb) e) f0 f1 f3 f4 f5
  refine ⟨_,rfl,Zi (s:={s with heap:=h',toks:=tk}) (n := "range_iterator") st' rfl rfl (by decide) ⟨.int (lo+i),H,I1,⟨t,?_⟩,⟨rfl,rfl⟩,st',fun b hb=>(hf b hb).1⟩⟩
  rw [Int.mul_one]
 done:=by
  intro X hP hw hK hc i pins s σ H E I hf st hg
  subst hP hw hK
  obtain ⟨f0,f1,f2,f3,f4,f5⟩:=hf it (by simp)
  exact wpAny_pyNext_range_end (I.ok.hd hc) st (by have:n<=i:=hg;omega) fun h' eb=>⟨rfl,I.turned (t':=s.toks) (fun b o hb e=>eb b o hb e) f0 f1 f3 f4 f5⟩
 self:=fun _ _ _ _ _ st h=>wpAny_pyIter_rangeiter st h
section
variable {X:Cx} {tg:Expr}
noncomputable def W7 (K:Frag) (tl:TE):TI:=fun σ H R=>tl σ H fun x H1=>∃ a,x=.ref a/\(∃ xs,SqL K H1 a xs)/\R (Itl K a) H1
noncomputable def iTup (K:Frag) (tl:TE):TI:=fun σ H R=>tl σ H fun x H1=>∃ a,x=.ref a/\(∃ xs,SqT K H1 a xs)/\R (Itt K a) H1
theorem ya {l:Expr} {tl:TE} (hl:PE X l tl):PI X tg l (W7 X.K tl):=by
 intro pins s σ H R I h
 refine thn (hl pins s σ H _ I h) fun v s1 h9=>?_
 obtain ⟨x,H1,I1,r1,q1⟩:=h9
 obtain ⟨a,e,⟨xs,hq⟩,q⟩:=q1
 subst e
 cases r1
 obtain ⟨its,rv,p,hz⟩:=I1.list hq
 refine wpAny_pyIter_list p.isList ?_
 refine I_5 s1.heap.objs.size [s1.heap.objs.size] _ _ H1 ⟨rfl,I1.kept (t':=s1.toks) fun b o e=>Heap.get?_push_of_some _ e,QK a _,⟨_,Heap.get?_push_size _ rfl,rfl,rfl⟩,fun b hb=>?_,q⟩
 have e:b=s1.heap.objs.size:=by simpa using hb
 subst e
 exact I1.fpOk (kf _) (I1.hok.fresh (kf _))
theorem wD {l:Expr} {tl:TE} (hl:PE X l tl):PI X tg l (iTup X.K tl):=by
 intro pins s σ H R I h
 refine thn (hl pins s σ H _ I h) fun v s1 h9=>?_
 obtain ⟨x,H1,I1,r1,q1⟩:=h9
 obtain ⟨a,e,⟨xs,hq⟩,q⟩:=q1
 subst e
 cases r1
 obtain ⟨its,rv,p,hz⟩:=I1.tuple hq
 refine wpAny_pyIter_tuple (show s1.heap.IsTuple a its.toArray from p) ?_
 refine I_5 s1.heap.objs.size [s1.heap.objs.size] _ _ H1 ⟨rfl,I1.kept (t':=s1.toks) fun b o e=>Heap.get?_push_of_some _ e,W5 a _,⟨_,Heap.get?_push_size _ rfl,rfl,rfl⟩,fun b hb=>?_,q⟩
 have e:b=s1.heap.objs.size:=by simpa using hb
 subst e
 exact I1.fpOk (kf _) (I1.hok.fresh (kf _))
theorem Xj {pins:List (Addr×Obj)} {σ:St} {H:Hp} {s:Shared} {R:It->Hp->Prop} {E:Value->Shared->Prop} {lo hi:Int} {t u v:Tok} {tk:Nat} (I:Inv X pins σ H s) (h1:-(2^62)<=lo) (h2:lo<2^62) (h3:-(2^62)<=hi) (h4:hi<2^62)
  (q:R (Itr lo (hi-lo).toNat) H):wpAny (model X.prog X.w) X.A (pyIter (.ref s.heap.objs.size)) (PIE X pins σ tg R) E {s with heap:=s.heap.push {cls:=.type "range",data:=.fields #[.int lo t,.int hi u,.int 1 v]},toks:=tk}:=by
 refine wpAny_pyIter_range (IsRange.new ..) (small_one h1 h2 h3 h4) ?_
 have I1:Inv X pins σ H {s with heap:=s.heap.push {cls:=.type "range",data:=.fields #[.int lo t,.int hi u,.int 1 v]},toks:=tk}:=I.kept fun b o e=>Heap.get?_push_of_some _ e
 refine ⟨(s.heap.push {cls:=.type "range",data:=.fields #[.int lo t,.int hi u,.int 1 v]}).objs.size,[(s.heap.push {cls:=.type "range",data:=.fields #[.int lo t,.int hi u,.int 1 v]}).objs.size],_,_,H,rfl,
  I1.kept (t':=tk) fun b o e=>Heap.get?_push_of_some _ e,W6 _ lo (hi-lo).toNat,?_,fun b hb=>?_,q⟩
 ·have e1:lo+((0:Nat):Int)*1=lo:=by simp
  have e2:(((hi-lo).toNat:Nat):Int)-((0:Nat):Int)=Builtin.Range.rangeSize lo hi 1:=by rw [rangeSize_one];split<;>omega
  show IsRangeIter _ _ (lo+((0:Nat):Int)*1) ((((hi-lo).toNat:Nat):Int)-((0:Nat):Int)) 1
  rw [e1,e2]
  exact Heap.get?_push_size _ rfl
 ·have e:b=(s.heap.push {cls:=.type "range",data:=.fields #[.int lo t,.int hi u,.int 1 v]}).objs.size:=by simpa using hb
  subst e
  exact I1.fpOk (kf _) (I1.hok.fresh (kf _))
noncomputable def zc4 (ta:TA):TI:=fun σ H R=>ta σ H fun vs H1=>∃ j:Int,vs=[.int j] /\ -(2^62)<=j/\j<2^62/\R (Itr 0 j.toNat) H1
noncomputable def zc5 (ta:TA):TI:=fun σ H R=>ta σ H fun vs H1=>∃ i j:Int,vs=[.int i,.int j]/\(-(2^62)<=i/\i<2^62 /\ -(2^62)<=j/\j<2^62)/\R (Itr i (j-i).toNat) H1
theorem xu {a:Expr} {ta:TA} {p pos:Pos} (hg:Gl X "range") (hm:X.mg "range" = none) (ha:PA X [a] ta) (hs:starEach [a] X.env=[(false,eval a X.env)]:=by rfl):PI X tg (.Call (.Name "range" p) [a] [] pos) (zc4 ta):=by
 intro pins s σ H R I h
 refine Call_ (xb I hg hm boot_range (vv (thn (ha pos pins s σ H _ I h) fun us s1 ⟨vs,H1,I1,r1,q1⟩=>?_) hs rfl))
 obtain ⟨j,e,q1,q2,q⟩:=q1
 subst e
 cases r1 with
 | cons r rr =>
  cases rr
  obtain ⟨t,rfl⟩:=r
  exact call_range_1 (Xj I1 (by omega) (by omega) q1 q2 (by simpa using q))
theorem Yl {a b:Expr} {ta:TA} {p pos:Pos} (hg:Gl X "range") (hm:X.mg "range" = none) (ha:PA X [a,b] ta) (hs:starEach [a,b] X.env=[(false,eval a X.env),(false,eval b X.env)]:=by rfl) (hs2:starEach [b] X.env=[(false,eval b X.env)]:=by rfl) :
  PI X tg (.Call (.Name "range" p) [a,b] [] pos) (zc5 ta):=by
 intro pins s σ H R I h
 refine Call_ (xb I hg hm boot_range (vv (thn (ha pos pins s σ H _ I h) fun us s1 ⟨vs,H1,I1,r1,q1⟩=>?_) (by rw [hs,hs2]) (by rw [hs2];rfl)))
 obtain ⟨i,j,e,⟨q1,q2,q3,q4⟩,q⟩:=q1
 subst e
 cases r1 with
 | cons r rr =>
  cases rr with
  | cons r' rr =>
   cases rr
   obtain ⟨t,rfl⟩:=r
   obtain ⟨t',rfl⟩:=r'
   exact call_range_2 (Xj I1 q1 q2 q3 q4 q)
noncomputable def tFor (wi:TI) (g:TG) (tb:TS):TS:=fun D σ H=>wi σ H fun J H1=>∃ W:Nat->Nat->St->Hp->Prop,(∃ m,W 0 m σ H1)/\∀ i m σ H,W i m σ H ->
 (J.stop i H/\D.nx σ H)\/(J.go i H/\∃ N:St->Hp->Prop,(∀ σ' H',N σ' H'->∃ m',m'<m/\W (i+1) m' σ' H')/\∀ x H',J.yld i H x H'->g x σ H' fun σ2 H2=>tb {D with nx:=N,ct:=N,bk:=D.nx} σ2 H2)
noncomputable def x4 (fp:List Addr) (h:Heap):List (Addr×Obj):=fp.filterMap fun b=>(h.get? b).map fun o=>(b,o)
theorem x9 {fp:List Addr} {h:Heap} {b:Addr} {o:Obj} (hb:b∈fp) (e:h.get? b=some o):(b,o)∈x4 fp h:=List.mem_filterMap.mpr ⟨b,hb,by rw [e];rfl⟩
theorem Ym {fp:List Addr} {h:Heap} {p:Addr×Obj} (hp:p∈x4 fp h):p.1∈fp/\h.get? p.1=some p.2:=by
 obtain ⟨b,hb,e⟩:=List.mem_filterMap.mp hp
 cases q:h.get? b with
 | none=>rw [q] at e;cases e
 | some o =>
  rw [q] at e
  have e':(b,o)=p:=Option.some.inj e
  subst e'
  exact ⟨hb,q⟩
theorem Inv.pinned {pins:List (Addr×Obj)} {σ:St} {H:Hp} {s:Shared} {fp:List Addr} (I:Inv X pins σ H s) (hf:∀ b∈fp,FpOk X pins H b) (ho:∀ b∈fp,∃ o,s.heap.get? b=some o/\∀ v,o.data≠.cell v):Inv X (pins++x4 fp s.heap) σ H s :=
 I.pins_of fun p hp=>(vc.mp hp).elim (fun z=>I.pin p (kQ _ z)) fun z=>by
  obtain ⟨hb,e⟩:=Ym z
  obtain ⟨f0,f1,f2,_⟩:=hf p.1 hb
  obtain ⟨o,e',d⟩:=ho p.1 hb
  rw [e] at e';cases e'
  exact ⟨e,f0,f1,f2,d⟩
theorem Inv.unpinned {pins pl:List (Addr×Obj)} {σ:St} {H:Hp} {s:Shared} (I:Inv X (pins++pl) σ H s):Inv X pins σ H s:=I.pins_of fun p hp=>I.pin p (kQ _ (vt _ hp))
theorem yr {iter:Expr} {body:List Stmt} {wi:TI} {g:TG} {tb:TS} {pos:Pos} (hp:PassesOwn (model X.prog X.w) X.A X.env X.xe) (hc:X.calm=true) (hi:PI X tg iter wi) (hg:PG X tg g) (hb:PSs X body tb)
  (hs:∀ x,foldedSetIterable iter X.env x=pure x:=by intro _;rfl):PS X (.For tg iter body [] pos) (tFor wi g tb):=by
 intro pins s σ H D I h
 refine wpAny_For (thn (hi pins s σ H _ I h) fun v s1 h1=>thn h1 fun itv s2 h2=>?_) hs
 obtain ⟨it,fp,tn,J,H2,e,I2,T,st2,f2,W,⟨m0,w0⟩,turn⟩:=h2
 subst e
 -- what stays true of the iterator's objects through the loop
 have stat:∀ {H':Hp},(∀ b∈fp,H' b=none)->∀ b∈fp,FpOk X pins H' b:=fun hn b hb=>⟨hn b hb,(f2 b hb).2⟩
 refine codeAny_forLoop_any (fun n s'=>∃ i σ' H',Inv X pins σ' H' s'/\tn i s'.heap/\(∀ b∈fp,H' b=none)/\W i n σ' H') ?_ m0 ⟨0,σ,H2,I2,st2,fun b hb=>(f2 b hb).1,w0⟩
 rintro n s3 ⟨i,σ3,H3,I3,st3,fr3,w3⟩
 rcases turn i n σ3 H3 w3 with ⟨stop,qn⟩ | ⟨go,N,hN,step⟩
 ·refine wpAny_passesOwn hp (thn (T.done X rfl rfl rfl hc i pins s3 σ3 H3 X.xe I3 (stat fr3) st3 stop) fun r s4 h9=>?_)
  obtain ⟨hr,I4⟩:=h9
  subst hr
  exact wpAny_execs_nil ⟨σ3,H3,I4,qn⟩
 ·refine wpAny_passesOwn hp (thn (T.item X rfl rfl rfl hc i pins s3 σ3 H3 X.xe I3 (stat fr3) st3 go) fun r s4 h9=>?_)
  obtain ⟨u,hr,h4⟩:=h9
  subst hr
  refine wpAny_passesOwn hp (thn h4 fun _ s5 h9=>?_)
  obtain ⟨x,H5,I5,r5,y5,st5,fr5⟩:=h9
  have I5':=I5.pinned (stat fr5) (T.obj _ _ st5)
  refine wpAny_passesOwn hp (thn (hg _ s5 σ3 H5 x u _ I5' r5 (step x H5 y5)) fun _ s6 h9=>?_)
  obtain ⟨σ6,H6,I6,q6⟩:=h9
  refine wpAny_passesOwn hp (thn (hb _ s6 σ6 H6 _ I6 q6) fun f s7 q7=>?_)
  have again:∀ {σ7:St} {H7:Hp},Inv X (pins++x4 fp s5.heap) σ7 H7 s7->N σ7 H7->∃ m,m<n/\∃ i σ' H',Inv X pins σ' H' s7/\tn i s7.heap/\(∀ b∈fp,H' b=none)/\W i m σ' H':=fun {σ7 H7} I7 n7=>by
   obtain ⟨m',hm,w7⟩:=hN σ7 H7 n7
   refine ⟨m',hm,i+1,σ7,H7,I7.unpinned,T.keep _ _ _ st5 fun b hb o e=>(I7.pin (b,o) (kQ _ (kQ _ (x9 hb e)))).1,fun b hb=>?_,w7⟩
   obtain ⟨o,e,d⟩:=T.obj _ _ st5 b hb
   exact (I7.pin (b,o) (kQ _ (kQ _ (x9 hb e)))).2.1
  cases f with
  | next=>obtain ⟨σ7,H7,I7,n7⟩:=q7;exact again I7 n7
  | cont=>obtain ⟨σ7,H7,I7,n7⟩:=q7;exact again I7 n7
  | brk=>obtain ⟨σ7,H7,I7,q7⟩:=q7;exact ⟨σ7,H7,I7.unpinned,q7⟩
  | ret v=>obtain ⟨x7,σ7,H7,I7,r7,q7⟩:=q7;exact ⟨x7,σ7,H7,I7.unpinned,r7,q7⟩
end
theorem xn {K:Frag} {a:Addr} {xs:List V} {g:TG} {tb:TS} {D:Ends} {σ:St} {H:Hp} (Pv:Nat->St->Hp->Prop) (h0:Pv 0 σ H) (hl:∀ i σ H,i<=xs.length->Pv i σ H->SqL K H a xs)
  (hs:∀ i x σ H,xs[i]?=some x->Pv i σ H->g x σ H fun σ2 H2=>tb {D with nx:=Pv (i+1),ct:=Pv (i+1),bk:=D.nx} σ2 H2) (hd:∀ σ H,Pv xs.length σ H->D.nx σ H) :
  ∃ W:Nat->Nat->St->Hp->Prop,(∃ m,W 0 m σ H)/\∀ i m σ H,W i m σ H ->
   ((Itl K a).stop i H/\D.nx σ H)\/((Itl K a).go i H/\∃ N:St->Hp->Prop,(∀ σ' H',N σ' H'->∃ m',m'<m/\W (i+1) m' σ' H')/\∀ x H',(Itl K a).yld i H x H'->g x σ H' fun σ2 H2=>tb {D with nx:=N,ct:=N,bk:=D.nx} σ2 H2):=by
 refine ⟨fun i m σ H=>m=xs.length-i/\i<=xs.length/\Pv i σ H,⟨xs.length,by simp,ve _,h0⟩,?_⟩
 rintro i m σ H ⟨rfl,hi,p⟩
 have q:=hl i σ H hi p
 by_cases hlt:i<xs.length
 ·refine .inr ⟨⟨xs,xs[i],q,by simp [hlt]⟩,Pv (i+1),fun σ' H' p'=>⟨xs.length-(i+1),by omega,rfl,hlt,p'⟩,fun x H' y=>?_⟩
  obtain ⟨e,y⟩:=y
  subst e
  exact hs i x σ _ (y xs q) p
 ·have e:i=xs.length:=by omega
  subst e
  exact .inl ⟨⟨xs,q,kf _⟩,hd σ H p⟩
theorem Wz {K:Frag} {a:Addr} {xs:List V} {g:TG} {tb:TS} {D:Ends} {σ:St} {H:Hp} (Pv:Nat->St->Hp->Prop) (h0:Pv 0 σ H) (hl:∀ i σ H,i<=xs.length->Pv i σ H->SqT K H a xs)
  (hs:∀ i x σ H,xs[i]?=some x->Pv i σ H->g x σ H fun σ2 H2=>tb {D with nx:=Pv (i+1),ct:=Pv (i+1),bk:=D.nx} σ2 H2) (hd:∀ σ H,Pv xs.length σ H->D.nx σ H) :
  ∃ W:Nat->Nat->St->Hp->Prop,(∃ m,W 0 m σ H)/\∀ i m σ H,W i m σ H ->
   ((Itt K a).stop i H/\D.nx σ H)\/((Itt K a).go i H/\∃ N:St->Hp->Prop,(∀ σ' H',N σ' H'->∃ m',m'<m/\W (i+1) m' σ' H')/\∀ x H',(Itt K a).yld i H x H'->g x σ H' fun σ2 H2=>tb {D with nx:=N,ct:=N,bk:=D.nx} σ2 H2):=by
 refine ⟨fun i m σ H=>m=xs.length-i/\i<=xs.length/\Pv i σ H,⟨xs.length,by simp,ve _,h0⟩,?_⟩
 rintro i m σ H ⟨rfl,hi,p⟩
 have q:=hl i σ H hi p
 by_cases hlt:i<xs.length
 ·refine .inr ⟨⟨xs,xs[i],q,by simp [hlt]⟩,Pv (i+1),fun σ' H' p'=>⟨xs.length-(i+1),by omega,rfl,hlt,p'⟩,fun x H' y=>?_⟩
  obtain ⟨e,y⟩:=y
  subst e
  exact hs i x σ _ (y xs q) p
 ·have e:i=xs.length:=by omega
  subst e
  exact .inl ⟨⟨xs,q,kf _⟩,hd σ H p⟩
theorem xl {lo:Int} {n:Nat} {g:TG} {tb:TS} {D:Ends} {σ:St} {H:Hp} (Pv:Nat->St->Hp->Prop) (h0:Pv 0 σ H)
  (hs:∀ i σ H,i<n->Pv i σ H->g (.int (lo+i)) σ H fun σ2 H2=>tb {D with nx:=Pv (i+1),ct:=Pv (i+1),bk:=D.nx} σ2 H2) (hd:∀ σ H,Pv n σ H->D.nx σ H) :
  ∃ W:Nat->Nat->St->Hp->Prop,(∃ m,W 0 m σ H)/\∀ i m σ H,W i m σ H ->
   ((Itr lo n).stop i H/\D.nx σ H)\/((Itr lo n).go i H/\∃ N:St->Hp->Prop,(∀ σ' H',N σ' H'->∃ m',m'<m/\W (i+1) m' σ' H')/\∀ x H',(Itr lo n).yld i H x H'->g x σ H' fun σ2 H2=>tb {D with nx:=N,ct:=N,bk:=D.nx} σ2 H2):=by
 refine ⟨fun i m σ H=>m=n-i/\i<=n/\Pv i σ H,⟨n,by simp,ve _,h0⟩,?_⟩
 rintro i m σ H ⟨rfl,hi,p⟩
 by_cases hlt:i<n
 ·refine .inr ⟨hlt,Pv (i+1),fun σ' H' p'=>⟨n-(i+1),by omega,rfl,hlt,p'⟩,fun x H' y=>?_⟩
  obtain ⟨e,y⟩:=y
  subst e y
  exact hs i σ _ hlt p
 ·have e:i=n:=by omega
  subst e
  exact .inl ⟨kf _,hd σ H p⟩
abbrev R2:=V->V->Hp->VK->Prop
noncomputable def OpR (X:Cx) (f:Value->Value->Sem Value) (r:R2):Prop :=
 ∀ (pins:List (Addr×Obj)) (s:Shared) (σ:St) (H:Hp) (x y:V) (v u:Value) (Q:VK),Inv X pins σ H s->RelV x v->RelV y u->r x y H Q ->
  wpAny (model X.prog X.w) X.A (f v u) (EP X pins σ Q) X.xe s
noncomputable def UnR (X:Cx) (f:Value->Sem Value) (r:V->Hp->VK->Prop):Prop :=
 ∀ (pins:List (Addr×Obj)) (s:Shared) (σ:St) (H:Hp) (x:V) (v:Value) (Q:VK),Inv X pins σ H s->RelV x v->r x H Q ->
  wpAny (model X.prog X.w) X.A (f v) (EP X pins σ Q) X.xe s
noncomputable def yM (X:Cx) (f:Value) (r:List V->Hp->VK->Prop):Prop :=
 ∀ (pins:List (Addr×Obj)) (s:Shared) (σ:St) (H:Hp) (xs:List V) (us:List Value) (Q:VK),Inv X pins σ H s->Vals xs us->r xs H Q ->
  wpAny (model X.prog X.w) X.A (call f us) (EP X pins σ Q) X.xe s
noncomputable def TruR (X:Cx) (r:V->Hp->(Bool->Hp->Prop)->Prop):Prop :=
 ∀ (pins:List (Addr×Obj)) (s:Shared) (σ:St) (H:Hp) (x:V) (v:Value) (Q:Bool->Hp->Prop),Inv X pins σ H s->RelV x v->r x H Q ->
  wpAny (model X.prog X.w) X.A (truthy v) (TP X pins σ Q) X.xe s
noncomputable def tOp (r:R2) (ta tb:TE):TE:=fun σ H Q=>ta σ H fun x H1=>tb σ H1 fun y H2=>r x y H2 Q
noncomputable def tUn (r:V->Hp->VK->Prop) (ta:TE):TE:=fun σ H Q=>ta σ H fun x H1=>r x H1 Q
noncomputable def rI (C:Int->Int->Prop) (g:Int->Int->V):R2:=fun x y H Q=>∃ i j,x=.int i/\y=.int j/\C i j/\Q (g i j) H
noncomputable def rI0 (g:Int->Int->V):R2:=fun x y H Q=>∃ i j,x=.int i/\y=.int j/\Q (g i j) H
noncomputable def rU (g:Int->V):V->Hp->VK->Prop:=fun x H Q=>∃ i,x=.int i/\Q (g i) H
section
variable {X:Cx} {a b c:Expr} {ta tb tc:TE} {pos:Pos}
theorem binT (ha:PE X a ta) (hb:PE X b tb) {pins:List (Addr×Obj)} {s:Shared} {σ:St} {H:Hp} {R:V->V->Hp->Prop} (I:Inv X pins σ H s)
  (h:ta σ H fun x H1=>tb σ H1 fun y H2=>R x y H2) {Q:Value->Shared->Prop} {f:Value->Value->Sem Value}
  (hf:∀ v u s2 x y H2,Inv X pins σ H2 s2->RelV x v->RelV y u->R x y H2->wpAny (model X.prog X.w) X.A (f v u) Q X.xe s2) :
  wpAny (model X.prog X.w) X.A (eval a X.env) (fun v s₁=>wpAny (model X.prog X.w) X.A (eval b X.env) (fun u s₂=>wpAny (model X.prog X.w) X.A (f v u) Q X.xe s₂) X.xe s₁) X.xe s:=by
 refine thn (ha pins s σ H _ I h) fun v s1 h9=>?_
 obtain ⟨x,H1,I1,r1,q1⟩:=h9
 refine thn (hb pins s1 σ H1 _ I1 q1) fun u s2 h9=>?_
 obtain ⟨y,H2,I2,r2,q2⟩:=h9
 exact hf v u s2 x y H2 I2 r1 r2 q2
theorem zj {op:Operator} {r:R2} (ho:OpR X (binaryOp op) r) (ha:PE X a ta) (hb:PE X b tb):PE X (.BinOp a op b pos) (tOp r ta tb):=by
 intro pins s σ H Q I h
 exact wpAny_BinOp (binT ha hb I h fun v u s2 x y H2 I2 rx ry q=>ho pins s2 σ H2 x y v u Q I2 rx ry q)
theorem xY {op:UnaryOp} {r:V->Hp->VK->Prop} (ho:UnR X (unaryOp op) r) (ha:PE X a ta):PE X (.UnaryOp op a pos) (tUn r ta):=by
 intro pins s σ H Q I h
 exact UnaryOp_ (thn (ha pins s σ H _ I h) fun v s1 ⟨x,H1,I1,r1,q1⟩=>ho pins s1 σ H1 x v Q I1 r1 q1)
theorem opI {f:Value->Value->Sem Value} {C:Int->Int->Prop} {g:Int->Int->Int}
  (rule:∀ (i j:Int) (t u:Tok) (s:Shared) (Q:Value->Shared->Prop) (E:Value->Shared->Prop),C i j->Q (.int (g i j) s.toks) {s with toks:=s.toks+1}->wpAny (model X.prog X.w) X.A (f (.int i t) (.int j u)) Q E s) :
  OpR X f (rI C fun i j=>.int (g i j)):=by
 intro pins s σ H x y v u Q I rx ry h
 refine E_2 h fun i j n8=>A_4 n8 fun e9 n90 hc q=>?_;clear n8 h;subst e9;subst n90
 obtain ⟨t,rfl⟩:=rx
 obtain ⟨t',rfl⟩:=ry
 exact rule i j t t' s _ _ hc ⟨.int (g i j),H,I.tok _,⟨_,rfl⟩,q⟩
theorem opI0 {f:Value->Value->Sem Value} {g:Int->Int->Int}
  (rule:∀ (i j:Int) (t u:Tok) (s:Shared) (Q:Value->Shared->Prop) (E:Value->Shared->Prop),Q (.int (g i j) s.toks) {s with toks:=s.toks+1}->wpAny (model X.prog X.w) X.A (f (.int i t) (.int j u)) Q E s) :
  OpR X f (rI0 fun i j=>.int (g i j)):=by
 intro pins s σ H x y v u Q I rx ry h
 refine E_2 h fun i j n8=>A_3 n8 fun e9 n90 q=>?_;clear n8 h;subst e9;subst n90
 obtain ⟨t,rfl⟩:=rx
 obtain ⟨t',rfl⟩:=ry
 exact rule i j t t' s _ _ ⟨.int (g i j),H,I.tok _,⟨_,rfl⟩,q⟩
theorem opB0 {f:Value->Value->Sem Value} {g:Int->Int->Bool}
  (rule:∀ (i j:Int) (t u:Tok) (s:Shared) (Q:Value->Shared->Prop) (E:Value->Shared->Prop),Q (.bool (g i j)) s->wpAny (model X.prog X.w) X.A (f (.int i t) (.int j u)) Q E s) :
  OpR X f (rI0 fun i j=>.bl (g i j)):=by
 intro pins s σ H x y v u Q I rx ry h
 refine E_2 h fun i j n8=>A_3 n8 fun e9 n90 q=>?_;clear n8 h;subst e9;subst n90
 obtain ⟨t,rfl⟩:=rx
 obtain ⟨t',rfl⟩:=ry
 exact rule i j t t' s _ _ ⟨.bl (g i j),H,I,rfl,q⟩
noncomputable def CDiv (i j:Int):Prop:=0<j/\j<1073741824
noncomputable def CPow (i j:Int):Prop:=0<=j/\j<=1000000/\i.natAbs<2^64
noncomputable def CMul (i j:Int):Prop:=(-(2^64)<i/\i<2^64)\/(-(2^64)<j/\j<2^64)
theorem CMul.ok {i j:Int} (h:CMul i j):IntMulOk i j:=by
 rcases h with ⟨h1,h2⟩ | ⟨h1,h2⟩
 ·exact .of_left (intBits_le_64 h1 h2)
 ·exact .of_right (intBits_le_64 h1 h2)
theorem zS:OpR X (binaryOp .Add) (rI0 fun i j=>.int (i+j)):=opI0 fun _ _ _ _ _ _ _ q=>add_int q
theorem wE:OpR X (binaryOp .Sub) (rI0 fun i j=>.int (i-j)):=opI0 fun _ _ _ _ _ _ _ q=>sub_int q
theorem Xk:OpR X (binaryOp .Mult) (rI CMul fun i j=>.int (i*j)):=opI fun _ _ _ _ _ _ _ hc q=>mul_int q hc.ok
theorem xi:OpR X (binaryOp .FloorDiv) (rI CDiv fun i j=>.int (i / j)):=opI fun i j _ _ _ _ _ hc q=>by
 have h1:(0:Int)<j:=hc.1
 have h2:j<1073741824:=hc.2
 exact floordiv_int (by omega) (by rw [Int.fdiv_eq_ediv_of_nonneg i (by omega)];exact q) (.inl (PyProof.noPylong_small (by omega)))
theorem yt:OpR X (binaryOp .Mod) (rI (fun _ j=>0<j) fun i j=>.int (i % j)):=opI fun i j _ _ _ _ _ hc q=>by
 have h1:(0:Int)<j:=hc
 exact mod_int' (by omega) (by rw [Int.fmod_eq_emod_of_nonneg i (by omega)];exact q)
theorem zb3:OpR X (binaryOp .Pow) (rI CPow fun i j=>.int (i^j.toNat)):=opI fun _ _ _ _ _ _ _ hc q=>pow_int_small hc.1 hc.2.1 hc.2.2 q
theorem unI {f:Value->Sem Value} {g:Int->Int}
  (rule:∀ (i:Int) (t:Tok) (s:Shared) (Q:Value->Shared->Prop) (E:Value->Shared->Prop),Q (.int (g i) s.toks) {s with toks:=s.toks+1}->wpAny (model X.prog X.w) X.A (f (.int i t)) Q E s) :
  UnR X f (rU fun i=>.int (g i)):=by
 intro pins s σ H x v Q I rx h
 obtain ⟨i,rfl,q⟩:=h
 obtain ⟨t,rfl⟩:=rx
 exact rule i t s _ _ ⟨.int (g i),H,I.tok _,⟨_,rfl⟩,q⟩
theorem xB:UnR X (unaryOp .USub) (rU fun i=>.int (-i)):=unI fun _ _ _ _ _ q=>neg_int q
end
noncomputable def scal:V->V->Bool
 | .non,.non=>true | .non,.int _=>true | .int _,.non=>true | .non,.bl _=>true | .bl _,.non=>true | .non,.str _=>true | .str _,.non=>true
 | .int _,.int _=>true | .bl _,.bl _=>true | .str _,.str _=>true | .byt _,.byt _=>true
 | .int _,.str _=>true | .str _,.int _=>true | .bl _,.str _=>true | .str _,.bl _=>true
 | _,_=>false
noncomputable def rEq:R2:=fun x y H Q=>scal x y=true/\Q (.bl (decide (x=y))) H
noncomputable def rNe:R2:=fun x y H Q=>scal x y=true/\Q (.bl (!decide (x=y))) H
theorem qb {i j:Int}:decide (V.int i=V.int j)=(i == j):=by
 rw [vR]
 simp
theorem QL {i j:Bool}:decide (V.bl i=V.bl j)=(i == j):=by
 rw [vR]
 simp
theorem ZQ {i j:Str}:decide (V.str i=V.str j)=(i == j):=by
 rw [vR]
 simp
theorem WA {i j:Array UInt8}:decide (V.byt i=V.byt j)=(i.toList == j.toList):=by
 rw [vR]
 cases i
 cases j
 simp
section
variable {X:Cx} {a b c:Expr} {ta tb tc:TE} {pos:Pos}
theorem zW {pins:List (Addr×Obj)} {σ:St} {H:Hp} {s:Shared} {Q:VK} {k k':Bool} (I:Inv X pins σ H s) (q:Q (.bl k) H) (e:k=k'):EP X pins σ Q (.bool k') s:=by
 subst e
 exact ⟨.bl k,H,I,rfl,q⟩
theorem y4:OpR X (compareOp .Eq) rEq:=by
 intro pins s σ H x y v u Q I rx ry h
 obtain ⟨hs,q⟩:=h
 cases x with
 | non =>
  cases rx
  cases y with
  | non=>cases ry;exact PySem.EqNone.eq_none_none (zW I q (by simp))
  | bl j=>cases ry;exact PySem.EqNone.eq_none_bool (zW I q (by simp))
  | int j=>obtain ⟨t',rfl⟩:=ry;exact PySem.EqNone.eq_none_int (zW I q (by simp))
  | str j=>obtain ⟨t',rfl⟩:=ry;exact PySem.EqNone.eq_none_str (zW I q (by simp))
  | _=>exact absurd (show false=true from hs) kF
 | bl i =>
  cases rx
  cases y with
  | non=>cases ry;exact PySem.EqNone.eq_bool_none (zW I q (by simp))
  | bl j=>cases ry;exact eq_bool (zW I q QL)
  | str j=>obtain ⟨t',rfl⟩:=ry;exact PySem.EqMixed.eq_bool_str (zW I q (by simp))
  | _=>exact absurd (show false=true from hs) kF
 | int i =>
  obtain ⟨t,rfl⟩:=rx
  cases y with
  | non=>cases ry;exact PySem.EqNone.eq_int_none (zW I q (by simp))
  | int j=>obtain ⟨t',rfl⟩:=ry;exact eq_int (zW I q qb)
  | str j=>obtain ⟨t',rfl⟩:=ry;exact PySem.EqMixed.eq_int_str (zW I q (by simp))
  | _=>exact absurd (show false=true from hs) kF
 | str i =>
  obtain ⟨t,rfl⟩:=rx
  cases y with
  | non=>cases ry;exact PySem.EqNone.eq_str_none (zW I q (by simp))
  | bl j=>cases ry;exact PySem.EqMixed.eq_str_bool (zW I q (by simp))
  | int j=>obtain ⟨t',rfl⟩:=ry;exact PySem.EqMixed.eq_str_int (zW I q (by simp))
  | str j=>obtain ⟨t',rfl⟩:=ry;exact eq_str (zW I q ZQ)
  | _=>exact absurd (show false=true from hs) kF
 | byt i =>
  obtain ⟨t,rfl⟩:=rx
  cases y with
  | byt j=>obtain ⟨t',rfl⟩:=ry;exact PySem.W.eq_bytes (zW I q WA)
  | _=>exact absurd (show false=true from hs) kF
 | _=>cases y<;>exact absurd (show false=true from hs) kF
theorem W8:OpR X (compareOp .NotEq) rNe:=by
 intro pins s σ H x y v u Q I rx ry h
 obtain ⟨hs,q⟩:=h
 cases x with
 | non =>
  cases rx
  cases y with
  | non=>cases ry;exact PySem.EqNone.ne_none_none (zW I q (by simp))
  | bl j=>cases ry;exact PySem.EqNone.ne_none_bool (zW I q (by simp))
  | int j=>obtain ⟨t',rfl⟩:=ry;exact PySem.EqNone.ne_none_int (zW I q (by simp))
  | str j=>obtain ⟨t',rfl⟩:=ry;exact PySem.EqNone.ne_none_str (zW I q (by simp))
  | _=>exact absurd (show false=true from hs) kF
 | bl i =>
  cases rx
  cases y with
  | non=>cases ry;exact PySem.EqNone.ne_bool_none (zW I q (by simp))
  | bl j=>cases ry;exact ne_bool (zW I q (congrArg not QL))
  | str j=>obtain ⟨t',rfl⟩:=ry;exact PySem.EqMixed.ne_bool_str (zW I q (by simp))
  | _=>exact absurd (show false=true from hs) kF
 | int i =>
  obtain ⟨t,rfl⟩:=rx
  cases y with
  | non=>cases ry;exact PySem.EqNone.ne_int_none (zW I q (by simp))
  | int j=>obtain ⟨t',rfl⟩:=ry;exact ne_int (zW I q (congrArg not qb))
  | str j=>obtain ⟨t',rfl⟩:=ry;exact PySem.EqMixed.ne_int_str (zW I q (by simp))
  | _=>exact absurd (show false=true from hs) kF
 | str i =>
  obtain ⟨t,rfl⟩:=rx
  cases y with
  | non=>cases ry;exact PySem.EqNone.ne_str_none (zW I q (by simp))
  | bl j=>cases ry;exact PySem.EqMixed.ne_str_bool (zW I q (by simp))
  | int j=>obtain ⟨t',rfl⟩:=ry;exact PySem.EqMixed.ne_str_int (zW I q (by simp))
  | str j=>obtain ⟨t',rfl⟩:=ry;exact ne_str (zW I q (congrArg not ZQ))
  | _=>exact absurd (show false=true from hs) kF
 | byt i =>
  obtain ⟨t,rfl⟩:=rx
  cases y with
  | byt j=>obtain ⟨t',rfl⟩:=ry;exact PySem.W.ne_bytes (zW I q (congrArg not WA))
  | _=>exact absurd (show false=true from hs) kF
 | _=>cases y<;>exact absurd (show false=true from hs) kF
theorem xZ:OpR X (compareOp .Lt) (rI0 fun i j=>.bl (decide (i<j))):=opB0 fun _ _ _ _ _ _ _ q=>lt_int q
theorem qG:OpR X (compareOp .LtE) (rI0 fun i j=>.bl (decide (i<=j))):=opB0 fun _ _ _ _ _ _ _ q=>le_int q
theorem jx:OpR X (compareOp .Gt) (rI0 fun i j=>.bl (decide (j<i))):=opB0 fun _ _ _ _ _ _ _ q=>gt_int q
theorem Zj:OpR X (compareOp .Is) (fun x y H Q=>y=.non/\Q (.bl (decide (x=.non))) H):=by
 intro pins s σ H x y v u Q I rx ry h
 obtain ⟨rfl,q⟩:=h
 cases ry
 refine is_none_gen (zW I q ?_)
 cases x<;>first
  | (cases rx;rfl)
  | (obtain ⟨t,rfl⟩:=rx;rfl)
theorem WB:OpR X (compareOp .IsNot) (fun x y H Q=>y=.non/\Q (.bl (!decide (x=.non))) H):=by
 intro pins s σ H x y v u Q I rx ry h
 obtain ⟨rfl,q⟩:=h
 cases ry
 refine isnot_none_gen (zW I q ?_)
 cases x<;>first
  | (cases rx;rfl)
  | (obtain ⟨t,rfl⟩:=rx;rfl)
theorem zJ (b:Expr) {op:CmpOp} (h:op≠.In:=by decide) (h2:op≠.NotIn:=by decide):behindInMarks op b=false:=by
 have e1:(op == CmpOp.In)=false:=by cases op<;>first | rfl | exact absurd rfl h
 have e2:(op == CmpOp.NotIn)=false:=by cases op<;>first | rfl | exact absurd rfl h2
 cases b<;>simp [behindInMarks,e1,e2]
theorem y0 {op:CmpOp} {r:R2} (ho:OpR X (compareOp op) r) (ha:PE X a ta) (hb:PE X b tb) (hm:behindInMarks op b=false):PE X (.Compare a [op] [b] pos) (tOp r ta tb):=by
 intro pins s σ H Q I h
 exact wpAny_Compare1 (binT ha hb I h fun v u s2 x y H2 I2 rx ry q=>ho pins s2 σ H2 x y v u Q I2 rx ry q) hm
noncomputable def qH (t:TE):TT:=fun σ H Q=>t σ H fun x H'=>∃ k,x=.bl k/\Q k H'
theorem zF {op:CmpOp} {r:R2} (ho:OpR X (compareOp op) r) (ha:PE X a ta) (hb:PE X b tb) (hm:behindInMarks op b=false):PT X (.Compare a [op] [b] pos) (qH (tOp r ta tb)):=by
 intro pins s σ H Q I h
 refine wpAny_isTrue_Compare1 (thn (ha pins s σ H _ I h) fun v s1 ⟨x,H1,I1,r1,q1⟩=>thn (hb pins s1 σ H1 _ I1 q1) fun u s2 ⟨y,H2,I2,r2,q2⟩ =>
  thn (ho pins s2 σ H2 x y v u _ I2 r1 r2 q2) fun c s3 ⟨z,H3,I3,r3,k,e,q3⟩=>?_) hm
 subst e
 cases r3
 exact wpAny_truthy_bool ⟨H3,I3,q3⟩
noncomputable def QM (r r':R2) (ta tb tc:TE):TE:=fun σ H Q=>ta σ H fun x H1=>tb σ H1 fun y H2=>r x y H2 fun z H3=>∃ k,z=.bl k /\
 (if k=true then tc σ H3 fun w' H4=>r' y w' H4 Q else Q (.bl false) H3)
theorem JL {op op':CmpOp} {r r':R2} (ho:OpR X (compareOp op) r) (ho':OpR X (compareOp op') r') (ha:PE X a ta) (hb:PE X b tb) (hc:PE X c tc)
  (hm:lastMarks [op,op'] [b,c]=false:=by with_unfolding_all rfl):PE X (.Compare a [op,op'] [b,c] pos) (QM r r' ta tb tc):=by
 intro pins s σ H Q I h
 refine Compare_chain (thn (ha pins s σ H _ I h) fun v s1 ⟨x,H1,I1,r1,q1⟩=>chain_link (thn (hb pins s1 σ H1 _ I1 q1) fun u s2 ⟨y,H2,I2,r2,q2⟩ =>
  thn (ho pins s2 σ H2 x y v u _ I2 r1 r2 q2) fun d s3 ⟨z,H3,I3,r3,k,e,q3⟩=>?_)) hm
 subst e
 cases r3
 refine wpAny_truthy_bool ?_
 cases k with
 | false=>exact ite_ff ⟨.bl false,H3,I3,rfl,q3⟩
 | true=>exact ite_tt (chain_last (thn (hc pins s3 σ H3 _ I3 q3) fun w' s4 ⟨z',H4,I4,r4,q4⟩=>ho' pins s4 σ H4 y z' u w' Q I4 r2 r4 q4))
theorem JM {op op':CmpOp} {r r':R2} (ho:OpR X (compareOp op) r) (ho':OpR X (compareOp op') r') (ha:PE X a ta) (hb:PE X b tb) (hc:PE X c tc)
  (hm:lastMarks [op,op'] [b,c]=false:=by with_unfolding_all rfl):PT X (.Compare a [op,op'] [b,c] pos) (qH (QM r r' ta tb tc)):=by
 intro pins s σ H Q I h
 refine isTrue_chain (thn (ha pins s σ H _ I h) fun v s1 ⟨x,H1,I1,r1,q1⟩=>test_link (thn (hb pins s1 σ H1 _ I1 q1) fun u s2 ⟨y,H2,I2,r2,q2⟩ =>
  thn (ho pins s2 σ H2 x y v u _ I2 r1 r2 q2) fun d s3 ⟨z,H3,I3,r3,k,e,q3⟩=>?_)) hm
 subst e
 cases r3
 refine wpAny_truthy_bool ?_
 cases k with
 | false =>
  obtain ⟨k',e',q'⟩:=q3
  cases e'
  exact ite_ff ⟨H3,I3,q'⟩
 | true =>
  refine ite_tt (test_last (thn (hc pins s3 σ H3 _ I3 q3) fun w' s4 ⟨z',H4,I4,r4,q4⟩=>thn (ho' pins s4 σ H4 y z' u w' _ I4 r2 r4 q4) fun d' s5 h9=>?_))
  obtain ⟨z2,H5,I5,r5,k2,e2,q5⟩:=h9
  subst e2
  cases r5
  exact wpAny_truthy_bool ⟨H5,I5,q5⟩
noncomputable def TruV (K:Frag) (x:V) (H:Hp) (k:Bool):Prop :=
 match x with
 | .non=>k=false
 | .bl b=>k=b
 | .int i=>k=(i != 0)
 | .str y=>y.length<=sizeLine/\k=((y.length:Int) != 0)
 | .byt y=>y.size<=sizeLine/\k=((y.size:Int) != 0)
 | .ref p=>(∃ xs,SqL K H p xs/\k=!xs.isEmpty)\/(∃ xs,SqT K H p xs/\k=!xs.isEmpty)\/∃ kvs,H p=some (.dK kvs)/\k=!kvs.isEmpty
 | _=>False
theorem W9 {κ:Type} {kvs:List (κ×V)} {vs:List (κ×Value)} (r:KV kvs vs):(!vs.isEmpty)=!kvs.isEmpty:=by
 cases r<;>rfl
theorem Zl {xs:List V} {its:List Value} (r:Vals xs its):(!its.toArray.isEmpty)=!xs.isEmpty:=by
 cases r<;>simp
theorem wF:(sizeLine:Nat)<2^63:=by rw [sizeLine_eq];decide
theorem zb4:TruR X (fun x H Q=>∃ k,TruV X.K x H k/\Q k H):=by
 intro pins s σ H x v Q I rx h
 obtain ⟨k,e,q⟩:=h
 have hl:=wF
 have hs:sizeLine=16777216:=sizeLine_eq
 cases x with
 | non =>
  cases rx
  have e':k=false:=e
  subst e'
  exact truthy_none ⟨H,I,q⟩
 | bl b =>
  cases rx
  have e':k=b:=e
  subst e'
  exact wpAny_truthy_bool ⟨H,I,q⟩
 | int i =>
  obtain ⟨t,rfl⟩:=rx
  have e':k=(i != 0):=e
  subst e'
  exact PySem.P.truthy_int ⟨H,I,q⟩
 | str y =>
  obtain ⟨t,rfl⟩:=rx
  obtain ⟨hy,e'⟩ : y.length<=sizeLine/\k=((y.length:Int) != 0):=e
  subst e'
  exact PySem.P.truthy_str (by omega) ⟨H,I.tok _,q⟩
 | byt y =>
  obtain ⟨t,rfl⟩:=rx
  obtain ⟨hy,e'⟩ : y.size<=sizeLine/\k=((y.size:Int) != 0):=e
  subst e'
  exact PySem.W.truthy_bytes (by omega) ⟨H,I.tok _,q⟩
 | ref p =>
  cases rx
  have e':(∃ xs,SqL X.K H p xs/\k=!xs.isEmpty)\/(∃ xs,SqT X.K H p xs/\k=!xs.isEmpty)\/∃ kvs,H p=some (.dK kvs)/\k=!kvs.isEmpty:=e
  rcases e' with ⟨xs,hx,e'⟩ | ⟨xs,hx,e'⟩ | ⟨kvs,hx,e'⟩
  ·subst e'
   obtain ⟨its,r,pl,hz⟩:=I.list hx
   have hlen:=r.length
   exact wpAny_truthy_list pl.isList (by simp only [ku];omega) ⟨H,I.tok _,by rw [Zl r];exact q⟩
  ·subst e'
   obtain ⟨its,r,pl,hz⟩:=I.tuple hx
   have hlen:=r.length
   exact truthy_tuple pl (by simp only [ku];omega) ⟨H,I.tok _,by rw [Zl r];exact q⟩
  ·subst e'
   obtain ⟨hz,hS,vs,r,m⟩ : kvs.length<=sizeLine/\(p == sysModules)=false/\∃ vs,KV kvs vs/\s.heap.DictOf (ZO X.prog X.w) p vs:=I.hok p _ hx
   have hlen:kvs.length=vs.length:=Paired.length r
   exact wpAny_truthy_dict hS m (by omega) ⟨H,I.tok _,by rw [W9 r];exact q⟩
 | _=>exact (show False from e).elim
theorem j3 (ha:PE X a ta) (he:∀ whole,isTrue a X.env whole=(do let v <- whole;standAt a.pos;holding [v] (truthy v))) :
  PT X a (fun σ H Q=>ta σ H fun x H'=>∃ k,TruV X.K x H' k/\Q k H'):=by
 intro pins s σ H Q I h
 exact isTrue_plain (thn (ha pins s σ H _ I h) fun v s1 ⟨x,H1,I1,r1,q1⟩=>zb4 pins s1 σ H1 x v Q I1 r1 q1) (he _)
theorem xK:OpR X (binaryOp .Add) (fun x y H Q=>∃ i j,x=.str i/\y=.str j/\i.length+j.length<=sizeLine/\Q (.str (i++j)) H):=by
 intro pins s σ H x y v u Q I rx ry h
 refine E_2 h fun i j n8=>A_4 n8 fun e9 n90 hz q=>?_;clear n8 h;subst e9;subst n90
 obtain ⟨t,rfl⟩:=rx
 obtain ⟨t',rfl⟩:=ry
 exact add_str (fun t' tk=>⟨.str (i++j),H,I.tok _,⟨_,rfl⟩,q⟩) hz
theorem vals1 {x:V} {us:List Value} (r:Vals [x] us):∃ u,us=[u]/\RelV x u:=by
 cases r with
 | cons r1 r2=>cases r2;exact ⟨_,rfl,r1⟩
theorem vals2 {x y:V} {us:List Value} (r:Vals [x,y] us):∃ u w',us=[u,w']/\RelV x u/\RelV y w':=by
 cases r with
 | cons r1 r2 =>
  cases r2 with
  | cons r3 r4=>cases r4;exact ⟨_,_,rfl,r1,r3⟩
theorem ja (hc:X.calm=true):yM X (.builtin "max") (fun xs H Q=>∃ i j,xs=[.int i,.int j]/\Q (.int (if j>i then j else i)) H):=by
 intro pins s σ H xs us Q I r h
 refine E_2 h fun i j n8=>A_2 n8 fun e9 q=>?_;clear n8 h;subst e9
 obtain ⟨u,w',rfl,⟨t,rfl⟩,⟨t',rfl⟩⟩:=vals2 r
 refine max_two_ints (I.ok.hd hc) fun h' tk k=>⟨_,H,I.kept k,?_,q⟩
 by_cases hj:j>i
 ·rw [if_pos hj,if_pos hj];exact ⟨_,rfl⟩
 ·rw [if_neg hj,if_neg hj];exact ⟨_,rfl⟩
theorem QN (hc:X.calm=true):yM X (.builtin "min") (fun xs H Q=>∃ i j,xs=[.int i,.int j]/\Q (.int (if j<i then j else i)) H):=by
 intro pins s σ H xs us Q I r h
 refine E_2 h fun i j n8=>A_2 n8 fun e9 q=>?_;clear n8 h;subst e9
 obtain ⟨u,w',rfl,⟨t,rfl⟩,⟨t',rfl⟩⟩:=vals2 r
 refine min_two_ints (I.ok.hd hc) fun h' tk k=>⟨_,H,I.kept k,?_,q⟩
 by_cases hj:j<i
 ·rw [if_pos hj,if_pos hj];exact ⟨_,rfl⟩
 ·rw [if_neg hj,if_neg hj];exact ⟨_,rfl⟩
theorem JN:yM X (.builtin "ord") (fun xs H Q=>∃ x,xs=[.str x]/\x.length=1/\Q (.int (x.cps.getD 0 0:Nat)) H):=by
 intro pins s σ H xs us Q I r h
 refine E_1 h fun x n8=>A_3 n8 fun e9 hz q=>?_;clear n8 h;subst e9
 obtain ⟨u,rfl,t,rfl⟩:=vals1 r
 exact ord_of_one hz ⟨.int _,H,I.tok _,⟨_,rfl⟩,q⟩
end
structure ObjM (h:Heap) (x dx C:Addr) (mA:Str->Option Value):Prop where
 obj:h.get? x=some (PySem.W.instObj C dx)
 ns:h.Ns1 dx mA
 ne:dx≠x
theorem QO {h:Heap} {dx:Addr} {mA:Str->Option Value} (n:h.Ns1 dx mA):∃ od,h.get? dx=some od/\∀ name,PySem.W.lookIn name od=some (mA name):=by
 obtain ⟨o,es,ep,ho,hd,hk,_,hm⟩:=n
 refine ⟨o,ho,fun name=>?_⟩
 have e:=hm name
 unfold nsFind findBy at e
 rw [<- Array.find?_toList] at e
 unfold PySem.W.lookIn
 rw [hd]
 dsimp only
 split
 ·rename_i y q
  rw [q] at e
  exact congrArg some e
 ·rename_i q
  rw [q] at e
  have a:es.toList.any (·.refKey)=false:=by
   rw [List.any_eq_false]
   intro y hy
   obtain ⟨z,t,hkey⟩:=hk y (Array.mem_toList_iff.mp hy)
   simp [DictEntry.refKey,hkey]
  have a':¬ es.toList.any (·.refKey)=true:=by rw [a];exact kF
  rw [if_neg a']
  exact congrArg some e
theorem ObjM.look {h:Heap} {x dx C:Addr} {mA:Str->Option Value} (I:ObjM h x dx C mA):∃ od,PySem.W.InstAt h x (PySem.W.instObj C dx) C (some od)/\∀ name,PySem.W.lookIn name od=some (mA name) :=
 let ⟨od,ho,hl⟩:=QO I.ns
 ⟨od,⟨I.obj,rfl,rfl,ho⟩,hl⟩
section
variable {P:Program} {w:World} {H H':Hp} {h h':Heap} {a C dx:Addr} {fs fs':List (Str×V)}
theorem zaW (hok:HOk P w H h) (e:H a=some (.ins C dx fs)):∃ mA,ObjM h a dx C mA/\(∀ f,RelO (fs.lookup f) (mA f))/\PySem.Within mA (fs.map (·.1))/\fs.length<=1000/\H dx=some (.own a):=by
 obtain ⟨d,z,ne,ob,mA,n,r,q⟩:=(show yo P w H h a (.ins C dx fs) from hok a _ e)
 exact ⟨mA,⟨ob,n,ne⟩,r,q,z,d⟩
end
structure Cls (K:Frag) (C:Addr):Prop where
 pg:PySem.W.plainGet K C Str.empty=true
 hd:PySem.W.hasDictIn K C=true
 po:PySem.W.plainOver K C=true
 sa:vM K (.ref C) "__setattr__" = some (some (.builtin "object.__setattr__"))
theorem Cls.get {K:Frag} {C:Addr} (c:Cls K C) (f:Str):PySem.W.plainGet K C f=true:=c.pg
section
variable {X:Cx} {pins:List (Addr×Obj)} {σ:St} {H:Hp} {s:Shared} {A:Around} {E:Value->Shared->Prop} {Q:Value->Shared->Prop} {c:Value} {b:Bool}
inductive TyOf (K:Frag) (H:Hp):V->Value->Prop where
 | non:TyOf K H .non (.type "NoneType")
 | bl (x:Bool):TyOf K H (.bl x) (.type "bool")
 | int (i:Int):TyOf K H (.int i) (.type "int")
 | str (x:Str):TyOf K H (.str x) (.type "str")
 | flt (x:UInt64):TyOf K H (.flt x) (.type "float")
 | lst {a:Addr} {xs:List V} (e:H a=some (.lst xs)):TyOf K H (.ref a) (.type "list")
 | frz {a:Addr} {o:Obj} {xs:List V} (e:H a=some (.frz o (.lst xs))):TyOf K H (.ref a) (.type "list")
 | tup {a:Addr} {xs:List V} (e:H a=some (.tup xs)):TyOf K H (.ref a) (.type "tuple")
 | dK {a:Addr} {kvs:List (Key×V)} (e:H a=some (.dK kvs)):TyOf K H (.ref a) (.type "dict")
 | dT {a:Addr} {kvs:List (List Key×V)} (e:H a=some (.dT kvs)):TyOf K H (.ref a) (.type "dict")
 | ins {a C dx:Addr} {fs:List (Str×V)} (e:H a=some (.ins C dx fs)) (cl:Cls K C) (ha:vM K (.ref C) "__class__" = some (some (.builtin "object.__class__")))
   (hn:PySem.W.specialIn K (.builtin "object.__class__") "__get__" = some (some (.builtin "getset_descriptor.__get__"))) (htk:PySem.W.takesIn K (.builtin "object.__class__")=some true)
   (hm:vV K C (.type "object")=some true):TyOf K H (.ref a) (.ref C)
end
structure Room (k:Nat) (A:Around):Prop where
 hd:A.handled=none
 dp:A.depth+3*k+5<recursionLimit
 un:A.units+16*k+200<cLine
theorem Room.mono {j k:Nat} {A:Around} (r:Room k A) (h:j<=k):Room j A:=⟨r.hd,by have:=r.dp;omega,by have:=r.un;omega⟩
theorem Room.deeper {k:Nat} {A:Around} (r:Room (k+1) A) (env:Env):Room k (A.deeper env) :=
 ⟨r.hd,by have:=r.dp;show A.depth+1+3*k+5<_;omega,by have:=r.un;show A.units+3+16*k+200<_;omega⟩
theorem Room.depth {k:Nat} {A:Around} (r:Room k A):A.depth<recursionLimit:=by have:=r.dp;omega
theorem Room.units {k:Nat} {A:Around} (r:Room k A):A.units+64<cLine:=by have:=r.un;omega
noncomputable def tNil:TA:=fun _ H Q=>Q [] H
noncomputable def yk (ta:TE) (tr:TA):TA:=fun σ H Q=>ta σ H fun x H1=>tr σ H1 fun xs H2=>Q (x::xs) H2
section
variable {X:Cx} {e:Expr} {es:List Expr} {te:TE} {t:TA} {pos:Pos}
theorem zb:PA X [] tNil:=fun _ _ _ _ H Q I h=>Calls.spliced_nil ⟨[],H,I,.nil,h⟩
theorem za (ha:PE X e te) (hr:PA X es t) (hs:starEach (e::es) X.env=(false,eval e X.env)::starEach es X.env:=by rfl):PA X (e::es) (yk te t):=by
 intro pos pins s σ H Q I h
 rw [hs]
 show wpAny _ _ (spliced ((false,eval e X.env)::backTo pos (starEach es X.env))) _ _ s
 refine Calls.spliced_cons (thn (ha pins s σ H _ I h) fun u s1 h9=>?_)
 obtain ⟨x,H1,I1,r1,q1⟩:=h9
 exact thn (hr pos pins s1 σ H1 _ I1 q1) fun us s2 ⟨xs,H2,I2,r2,q2⟩=>⟨x::xs,H2,I2,.cons r1 r2,q2⟩
noncomputable def tTup (t:TA):TE:=fun σ H Q=>t σ H fun xs H1=>xs.length<=sizeLine/\∀ p,H1 p=none->Q (.ref p) (upd H1 p (.tup xs))
noncomputable def tLst (t:TA):TE:=fun σ H Q=>t σ H fun xs H1=>xs.length<=sizeLine/\∀ p,H1 p=none->Q (.ref p) (upd H1 p (.lst xs))
theorem zN {x1} (h:PA X es t):PE X (.Tuple es x1 pos) (tTup t):=by
 intro pins s σ H Q I hq
 refine wpAny_Tuple_spliced (thn (h pos pins s σ H _ I hq) fun us s1 ⟨xs,H1,I1,r,z,q⟩=>⟨by rw [<- r.length];exact z,?_⟩)
 have hf:H1 s1.heap.objs.size=none:=I1.hok.fresh (kf _)
 refine ⟨.ref s1.heap.objs.size,upd H1 s1.heap.objs.size (.tup xs),I1.laid (t':=s1.toks) (fun b u e=>Heap.get?_push_of_some _ e) (kf _) ?_,rfl,q _ hf⟩
 exact ⟨z,us,r,⟨_,Heap.get?_push_size _ rfl,rfl,_,rfl⟩⟩
theorem zE (h:PA X es t):PE X (.List es pos) (tLst t):=by
 intro pins s σ H Q I hq
 refine wpAny_List_spliced (thn (h pos pins s σ H _ I hq) fun us s1 ⟨xs,H1,I1,r,z,q⟩=>⟨by rw [<- r.length];exact z,?_⟩)
 have hf:H1 s1.heap.objs.size=none:=I1.hok.fresh (kf _)
 refine ⟨.ref s1.heap.objs.size,upd H1 s1.heap.objs.size (.lst xs),I1.laid (t':=s1.toks) (fun b u e=>Heap.get?_push_of_some _ e) (kf _) ?_,rfl,q _ hf⟩
 exact ⟨z,us,0,r,Heap.get?_push_size _ rfl⟩
end
abbrev Sp:=List V->Hp->VK->XK->Prop
abbrev CXT:=List Env->Hp->Shared->XK->Value->Shared->Prop
structure Env0 (P:Program) (w:World) (K:Frag) (mg:Str->Option Value) (base:Heap) (A:Around) (outer:List Env) (s:Shared) (H:Hp):Prop where
 frames:A.frames=some outer
 mod:Mod K mg base
 bs:∀ b o,base.get? b=some o->s.heap.get? b=some o/\H b=none
 bsz:base.objs.size<=s.heap.objs.size
 funs:s.heap.FunFrames base outer
 frf:∀ b∈frs outer,H b=none
 hok:HOk P w H s.heap
 bare:AllBare s.gens
noncomputable def CE (outer:List Env) (P:Program) (w:World) (H:Hp) (s:Shared) (Q:VK) (u:Value) (s':Shared):Prop :=
 ∃ v H',s'.os=s.os/\AllBare s'.gens/\Un (frs outer) [] H H' s.heap s'.heap/\HOk P w H' s'.heap/\RelV v u/\Q v H'
noncomputable def CR (CX:CXT) (outer:List Env) (P:Program) (w:World) (H:Hp) (s:Shared) (Q:VK) (E:XK) (r:Result) (s':Shared):Prop :=
 match r with
 | .ok (.ret u)=>CE outer P w H s Q u s'
 | .ok _=>False
 | .error e=>CX outer H s E e s'
structure FnOk (P:Program) (w:World) (K:Frag) (mg:Str->Option Value) (base:Heap) (CX:CXT) (k:Nat) (f:Addr) (fd:FuncData) (ps:List Str) (sp:Sp):Prop where
 len:∀ vs H Q E,sp vs H Q E->vs.length=ps.length
 run:∀ (A:Around) (outer:List Env) (s:Shared) (H:Hp) (args:Args) (us:List Value) (vs:List V) (Q:VK) (E:XK),Room k A->Env0 P w K mg base A outer s H->BindsTo s fd args (ps.zip us)->Vals vs us->sp vs H Q E ->
  codeAny (model P w) A (.call (.ref f) args) (CR CX outer P w H s Q E) s
section
variable {X:Cx} {pins:List (Addr×Obj)} {σ:St} {H:Hp} {s s':Shared}
theorem Inv.env0 (I:Inv X pins σ H s):Env0 X.prog X.w X.K X.mg X.base X.A X.stack s H :=
 ⟨I.ok.frames,I.ok.mod,I.bs,km I.ok.bsz I.sz,I.stack,I.stkFree,I.hok,I.bare⟩
theorem Inv.after {Q:VK} {u:Value} (I:Inv X pins σ H s) (h:CE X.stack X.prog X.w H s Q u s'):EP X pins σ Q u s':=by
 obtain ⟨v,H',os,bare,un,hok,r,q⟩:=h
 obtain ⟨hh,g,d,t,os'⟩:=s'
 obtain rfl:os'=s.os:=os
 exact ⟨v,H',I.call (h':=hh) (g':=g) (d':=d) (t':=t) (ch:=[]) un hok bare (fun b z=>absurd z (by simp)),r,q⟩
end
noncomputable def zc6 (sp:Sp) (dvs:List V) (E:XK) (t:TA):TE:=fun σ H Q=>t σ H fun vs H1=>sp (vs++dvs) H1 Q E
noncomputable def Binds (K:Frag) (fd:FuncData) (ps:List Str) (ds:List Value):Prop :=
 ∀ (s:Shared) (us:List Value),K.In s.heap->(us++ds).length=ps.length->BindsTo s fd ⟨us,[]⟩ (ps.zip (us++ds))
theorem Binds.all {K:Frag} {fd:FuncData} {ps:List Str} (h:∀ us:List Value,us.length=ps.length->bindArgs fd ⟨us,[]⟩=pure (ps.zip us)):Binds K fd ps []:=fun s us _ hl=>by
 rw [vW] at hl ⊢
 exact .of_eq (h us hl)
noncomputable def jb (CX:CXT) (X:Cx) (E:XK):Prop:=∀ (pins:List (Addr×Obj)) (σ:St) (H:Hp) (s:Shared) (e:Value) (s':Shared),Inv X pins σ H s->CX X.stack H s E e s'->X.xe e s'
section
variable {X:Cx} {CX:CXT} {k:Nat} {f C:Addr} {fd:FuncData} {ps:List Str} {sp:Sp} {dvs:List V} {ds:List Value} {E:XK} {x m:Str} {p pos apos:Pos} {e o:Expr} {es:List Expr} {ta:TE} {t:TA}
theorem zb5 {pins:List (Addr×Obj)} {σ:St} {H:Hp} {s:Shared} {Q:VK} {us:List Value} {vs:List V} (F:FnOk X.prog X.w X.K X.mg X.base CX k f fd ps sp) (hr:Room k X.A) (hb:Binds X.K fd ps ds) (hd:Vals dvs ds) (hx:jb CX X E)
  (I:Inv X pins σ H s) (r:Vals vs us) (h:sp (vs++dvs) H Q E):wpAny (model X.prog X.w) X.A (call (.ref f) us) (EP X pins σ Q) X.xe s:=by
 have r2:Vals (vs++dvs) (us++ds):=r.append hd
 have hl:(us++ds).length=ps.length:=by rw [<- r2.length];exact F.len _ _ _ _ h
 refine wpAny_call (codeAny_mono (F.run X.A X.stack s H ⟨us,[]⟩ (us++ds) (vs++dvs) Q E hr I.env0 (hb s us I.kIn hl) r2 h) fun r s' hq=>?_)
 cases r with
 | error e=>exact hx pins σ H s e s' I hq
 | ok fl =>
  cases fl with
  | ret u=>exact I.after hq
  | next=>exact False.elim hq
  | brk=>exact False.elim hq
  | cont=>exact False.elim hq
theorem zk (F:FnOk X.prog X.w X.K X.mg X.base CX k f fd ps sp) (hr:Room k X.A) (hg:Gl X x) (hm:X.mg x=some (.ref f)) (hk:kE X.K (.ref f)=true) (hb:Binds X.K fd ps ds) (hd:Vals dvs ds) (hx:jb CX X E)
  (ha:PA X (e::es) t) (hdb:(x == ("__debug__" : Str))=false:=by decide) (he:starEach (e::es) X.env=(false,eval e X.env)::starEach es X.env:=by rfl) (hpl:(backTo pos (starEach es X.env)).any (·.1)=false:=by rfl) :
  PE X (.Call (.Name x p) (e::es) [] pos) (zc6 sp dvs E t):=by
 intro pins s σ H Q I h
 refine wpAny_Call_Name_kw (w6 I hg hm ?_ hdb)
 refine PySem.W.callWith_K (h₀:=X.base) I.ok.mod.kin hk (thn (ha pos pins s σ H _ I h) fun us s1 ⟨vs,H1,I1,r,q⟩=>⟨I1.kIn,?_⟩) he hpl
 exact zb5 F hr hb hd hx I1 r q
end
noncomputable def PK (X:Cx) (kws:List Keyword) (t:TA):Prop :=
 ∀ (pos:Pos) (pins:List (Addr×Obj)) (s:Shared) (σ:St) (H:Hp) (Q:List V->Hp->Prop),Inv X pins σ H s->t σ H Q->wpAny (model X.prog X.w) X.A (evalAll ((backToKw pos (keywordEach kws X.env)).map (·.2))) (AP X pins σ Q) X.xe s
section
variable {X:Cx} {CX:CXT} {k:Nat} {f C:Addr} {fd:FuncData} {ps ks:List Str} {sp:Sp} {E:XK} {x m:Str} {p pos apos kpos:Pos} {e o:Expr} {es:List Expr} {kws:List Keyword} {te ta:TE} {t tk:TA} {nm:Option Str}
theorem zb6:PK X [] tNil:=fun _ _ _ _ H Q I h=>wpAny_evalAll_nil ⟨[],H,I,.nil,h⟩
theorem zaX (ha:PE X e te) (hr:PK X kws t):PK X (⟨nm,e,kpos⟩::kws) (yk te t):=by
 intro pos pins s σ H Q I h
 show wpAny _ _ (evalAll ((do let v <- eval e X.env;standAt pos;pure v)::(backToKw pos (keywordEach kws X.env)).map (·.2))) _ _ s
 refine wpAny_evalAll_cons (wpAny_bind (thn (ha pins s σ H _ I h) fun u s1 ⟨x,H1,I1,r1,q1⟩=>wpAny_bind (wpAny_standAt (wpAny_pure ?_))))
 exact thn (hr pos pins s1 σ H1 _ I1 q1) fun us s2 ⟨xs,H2,I2,r2,q2⟩=>⟨x::xs,H2,I2,.cons r1 r2,q2⟩
end
structure zC (N P:List Str) (sc:Scope):Prop where
 kind:sc.kind=.function
 co:sc.isCoroutine=false
 gen:sc.isGenerator=false
 nd:N.Nodup
 pre:N.take P.length=P
 par:∀ x∈P,sc.names.lookup x=some .local\/sc.names.lookup x=some .cell
 nofree:∀ y∈sc.names,y.2≠.free
theorem Yn {kindOf:Str->Option NameKind} {x:Str}:∀ {binds:List (Str×Value)} {m:Str->Option Value},(∀ v,(x,v)∉binds)->bindL kindOf binds m x=m x
 | [],_,_=>rfl
 | (n,v)::r,m,h=>by
  unfold bindL
  rw [Yn fun w hw=>h w (kq _ hw)]
  split
  ·have:x≠n:=by rintro rfl;exact h v kw
   simp [this]
  ·rfl
theorem Yo {kindOf:Str->Option NameKind} {x:Str}:∀ {binds:List (Str×Value)} {m:Str->Option Value},(∀ v,(x,v)∉binds)->bindC kindOf binds m x=m x
 | [],_,_=>rfl
 | (n,v)::r,m,h=>by
  unfold bindC
  rw [Yo fun w hw=>h w (kq _ hw)]
  split
  ·rfl
  ·have:x≠n:=by rintro rfl;exact h v kw
   simp [this]
theorem Yp {kindOf:Str->Option NameKind} {x:Str} {v:Value}:∀ {P:List Str} {vs:List Value} {i:Nat} {m:Str->Option Value},P.Nodup->P[i]?=some x->vs[i]?=some v->kindOf x=some .local ->
  bindL kindOf (P.zip vs) m x=some v
 | [],_,_,_,_,h,_,_=>by simp at h
 | _::_,[],_,_,_,_,h,_=>by simp at h
 | p::P,w::vs,0,m,nd,h1,h2,hk=>by
  simp at h1 h2;subst h1;subst h2
  show bindL kindOf ((p,w)::P.zip vs) m p=_
  unfold bindL
  rw [Yn fun v hv=>(uy.mp nd).1 (List.of_mem_zip hv).1,if_pos hk]
  simp
 | p::P,w::vs,i+1,m,nd,h1,h2,hk=>by
  show bindL kindOf ((p,w)::P.zip vs) m x=_
  unfold bindL
  exact Yp (i:=i) (uy.mp nd).2 (by simpa using h1) (by simpa using h2) hk
theorem Yq {kindOf:Str->Option NameKind} {x:Str} {v:Value}:∀ {P:List Str} {vs:List Value} {i:Nat} {m:Str->Option Value},P.Nodup->P[i]?=some x->vs[i]?=some v->kindOf x≠some .local ->
  bindC kindOf (P.zip vs) m x=some v
 | [],_,_,_,_,h,_,_=>by simp at h
 | _::_,[],_,_,_,_,h,_=>by simp at h
 | p::P,w::vs,0,m,nd,h1,h2,hk=>by
  simp at h1 h2;subst h1;subst h2
  show bindC kindOf ((p,w)::P.zip vs) m p=_
  unfold bindC
  rw [Yo fun v hv=>(uy.mp nd).1 (List.of_mem_zip hv).1,if_neg hk]
  simp
 | p::P,w::vs,i+1,m,nd,h1,h2,hk=>by
  show bindC kindOf ((p,w)::P.zip vs) m x=_
  unfold bindC
  exact Yq (i:=i) (uy.mp nd).2 (by simpa using h1) (by simpa using h2) hk
noncomputable def start (N:List Str) (vs:List V):St:=vs.map some++vp (N.length-vs.length) none
noncomputable def cxOf (CX:CXT) (P:Program) (w:World) (K:Frag) (mg:Str->Option Value) (base:Heap) (N:List Str) (qual:Str) (scope:Scope) (f:Addr) (cd:Value) (A:Around) (outer:List Env) (s:Shared) (H:Hp) (E:XK):Cx where
 prog:=P
 w:=w
 K:=K
 mg:=mg
 base:=base
 A:=A.deeper (envOfC qual scope s.heap.objs.size f cd)
 N:=N
 s₀:=s
 H₀:=H
 env:=envOfC qual scope s.heap.objs.size f cd
 outer:=outer
 stack:=envOfC qual scope s.heap.objs.size f cd::outer
 ex:=[]
 calm:=true
 fn:=fun _=>true
 pn:=[]
 xe:=fun e s'=>wpAny (model P w) (A.deeper (envOfC qual scope s.heap.objs.size f cd)) (leaving (envOfC qual scope s.heap.objs.size f cd) e) (fun _ s''=>CX outer H s E e s'') (fun e' s''=>CX outer H s E e' s'') s'
theorem Xl {sc:Scope} {n:Nat} {x:Str} (h:sc.names.lookup x=some .cell):∃ c,(cellsFrom n sc.names []).lookup x=some c:=by
 have q:=PySem.W.cellsFrom_some sc.names n [] (.inl h)
 exact uk.mp q
theorem QP {CX:CXT} {P:Program} {w:World} {K:Frag} {mg:Str->Option Value} {base:Heap} {N ps:List Str} {qual:Str} {scope:Scope} {f:Addr} {cd:Value} {A:Around} {outer:List Env} {s s1:Shared} {H:Hp} {E:XK} {us:List Value} {vs:List V}
  (S:zC N ps scope) (hd:A.handled=none) (e0:Env0 P w K mg base A outer s H) (hl:vs.length=ps.length) (r:Vals vs us)
  (x:InCallC s s.heap.objs.size (bindL (envOfC qual scope s.heap.objs.size f cd).kindOf (ps.zip us) fun _=>none) (cellsFrom (s.heap.objs.size+1) scope.names []) (bindC (envOfC qual scope s.heap.objs.size f cd).kindOf (ps.zip us) fun _=>none) s1) :
  Inv (cxOf CX P w K mg base N qual scope f cd A outer s H E) [] (start N vs) H s1:=by
 have hpl:ps.length<=N.length:=by have:=congrArg List.length S.pre;rw [kH] at this;omega
 obtain ⟨h1,tk,rfl,hk⟩:=x.done
 have noA:∀ b:Addr,b∉(cxOf CX P w K mg base N qual scope f cd A outer s H E).ex:=fun b z=>absurd (show b∈([]:List Addr) from z) (by simp)
 refine ⟨⟨e0.mod,S.kind,rfl,rfl,kf _,fun y z c h1 h2=>?_,fun y hy=>?_,fun y c _ h=>?_,fun _=>hd,Around.frames_deeper e0.frames,.inr ⟨rfl,rfl⟩,fun b z=>absurd z (noA b),e0.bs,e0.bsz,fun b _ _=>noA b,fun b z=>absurd z (noA b),e0.funs,e0.frf⟩,
  rfl,e0.bare,Un.kept hk,⟨_,x.toInCall.ns,fun i y v h1 h2 h3=>?_⟩,fun y c h=>⟨_,x.cell y c h⟩,e0.hok.fresh (kf _),fun y c h=>?_,fun p hp=>absurd (show p∈([]:List (Addr×Obj)) from hp) (by simp),e0.hok.kept hk,?_⟩
 ·exact name_of_addr x.apart (um h1) (um h2)
 ·have hy:scope.names.lookup y=some .cell\/scope.names.lookup y=some .free:=hy
  rcases hy with hy | hy
  ·exact Xl hy
  ·exact absurd rfl (S.nofree _ (um hy))
 ·exact vI (x.above y c (um h))
 ·have hi:i<vs.length:=by
   unfold start at h2
   by_cases hi:i<vs.length
   ·exact hi
   ·rw [vP (by simpa using hi)] at h2
    rw [List.getElem?_replicate] at h2
    split at h2<;>cases h2
  have ha:vs[i]?=some v:=by
   unfold start at h2
   rw [vS (by simpa using hi),va] at h2
   cases e:vs[i]? with
   | none=>rw [e] at h2;cases h2
   | some a=>rw [e] at h2;cases h2;rfl
  obtain ⟨u,hu,rv⟩:=r.get ha
  have hp:ps[i]?=some y:=by
   rw [<- S.pre,List.getElem?_take_of_lt (by omega)];exact h1
  have ndP:ps.Nodup:=by rw [<- S.pre];exact S.nd.sublist (List.take_sublist _ _)
  refine ⟨u,rv,?_⟩
  rcases S.par y (kZ hp) with k | k
  ·exact .inl ⟨k,Yp ndP hp hu k⟩
  ·obtain ⟨c,e⟩:=Xl (n:=s.heap.objs.size+1) k
   refine .inr ⟨.inl k,c,e,?_⟩
   have q:=x.cell y c e
   rw [Yq ndP hp hu (by show scope.names.lookup y≠_;rw [k];decide)] at q
   exact q
 ·exact e0.hok.fresh (vI (x.above y c (um h)))
 ·unfold start
  show _=N.length
  rw [ki,ke,List.length_replicate]
  omega
theorem zaH {CX:CXT} {P:Program} {w:World} {K:Frag} {mg:Str->Option Value} {base:Heap} {k:Nat} {f:Addr} {name qual:Str} {params:Arguments} {body:List Stmt} {scope:Scope} {dV kV doc pm cdv ct oc:Value} {an od:Option Addr}
  {osl:Array (Option Value)} {N ps:List Str} {sp:Sp} (lk:K.lookup f=some ⟨oc,od,.func (kJ name qual params body scope dV kV doc pm an cdv ct),osl⟩) (hcd:kG K cdv qual=true) (S:zC N ps scope)
  (len:∀ vs H Q E,sp vs H Q E->vs.length=ps.length)
  (hbody:∀ (A:Around) (outer:List Env) (s:Shared) (H:Hp) (vs:List V) (Q:VK) (E:XK),Room k (A.deeper (envOfC qual scope s.heap.objs.size f cdv))->sp vs H Q E ->
   ∃ t,PSs (cxOf CX P w K mg base N qual scope f cdv A outer s H E) body t/\t {nx:=fun _ H'=>Q .non H',rt:=Q} (start N vs) H) :
  FnOk P w K mg base CX (k+1) f (kJ name qual params body scope dV kV doc pm an cdv ct) ps sp:=by
 refine ⟨len,fun A outer s H args us vs Q E hr e0 hb r hsp=>?_⟩
 have hl:=len _ _ _ _ hsp
 have KX:K.In s.heap:=e0.mod.kin.keeps fun b o e=>(e0.bs b o e).1
 have lim:s.heap.NoLimit:=e0.mod.nolimit.keeps fun b o e=>(e0.bs b o e).1
 have hkind:∀ y∈ps.zip us,scope.names.lookup y.1=some .local\/(scope.names.lookup y.1=some .cell/\((cellsFrom (s.heap.objs.size+1) scope.names []).lookup y.1).isSome=true):=fun ⟨n,v⟩ hy=>by
  rcases S.par n (List.of_mem_zip hy).1 with q | q
  ·exact .inl q
  ·exact .inr ⟨q,PySem.W.cellsFrom_some _ _ _ (.inl q)⟩
 refine codeAny_call_function hr.depth (KX _ _ lk) rfl S.co S.gen rfl (PySem.W.codeRec_of KX hcd) (hb _ _ _ _ ?_)
 refine wpAny_newFunctionEnv_cells S.kind hkind fun env he s1 x=>?_
 subst he
 refine ⟨lim.keeps x.toInCall.keep,codeAny_func ?_⟩
 obtain ⟨t,ht,hq⟩:=hbody A outer s H vs Q E (hr.deeper _) hsp
 have I:Inv (cxOf CX P w K mg base N qual scope f cdv A outer s H E) [] (start N vs) H s1:=QP S hr.hd e0 hl r x
 refine wpAny_mono (ht [] s1 (start N vs) H _ I hq) (fun fl s' hs=>?_) fun e s' hs=>hs
 have fin:∀ {σ':St} {H':Hp} {v:V} {u:Value},Inv (cxOf CX P w K mg base N qual scope f cdv A outer s H E) [] σ' H' s'->RelV v u->Q v H'->CE outer P w H s Q u s' :=
  fun {σ' H' v u} J rv q=>⟨v,H',J.os,J.bare,J.base,J.hok,rv,q⟩
 cases fl with
 | ret u =>
  obtain ⟨v,σ',H',J,rv,q⟩:=hs
  exact fin J rv q
 | next =>
  obtain ⟨σ',H',J,q⟩:=hs
  exact fin (v:=V.non) (u:=Value.none) J rfl q
 | brk =>
  obtain ⟨_,_,_,q⟩:=hs
  exact False.elim q
 | cont =>
  obtain ⟨_,_,_,q⟩:=hs
  exact False.elim q
section
variable {X:Cx} {x:Str} {p pos:Pos} {e:Expr} {es:List Expr} {t:TA} {id T:String} {r:List V->Hp->VK->Prop}
noncomputable def tCB (r:List V->Hp->VK->Prop) (t:TA):TE:=fun σ H Q=>t σ H fun vs H1=>r vs H1 Q
theorem zi (hc:yM X (.builtin id) r) (hg:Gl X x) (hm:X.mg x=none) (hv:bootBuiltins x=some (.builtin id)) (ha:PA X (e::es) t) (hn:x ≠ "__name__" := by decide) (hdb:(x == ("__debug__" : Str))=false:=by decide)
  (he:starEach (e::es) X.env=(false,eval e X.env)::starEach es X.env:=by rfl) (hpl:(backTo pos (starEach es X.env)).any (·.1)=false:=by rfl):PE X (.Call (.Name x p) (e::es) [] pos) (tCB r t):=by
 intro pins s σ H Q I h
 refine wpAny_Call_Name_kw (xb I hg hm hv ?_ hn hdb)
 exact bg (thn (ha pos pins s σ H _ I h) fun us s1 ⟨vs,H1,I1,r1,q1⟩=>hc pins s1 σ H1 vs us Q I1 r1 q1) he hpl
theorem wT (hc:yM X (.type T) r) (hg:Gl X x) (hm:X.mg x=none) (hv:bootBuiltins x=some (.type T)) (ha:PA X (e::es) t) (hn:x ≠ "__name__" := by decide) (hdb:(x == ("__debug__" : Str))=false:=by decide)
  (he:starEach (e::es) X.env=(false,eval e X.env)::starEach es X.env:=by rfl) (hpl:(backTo pos (starEach es X.env)).any (·.1)=false:=by rfl):PE X (.Call (.Name x p) (e::es) [] pos) (tCB r t):=by
 intro pins s σ H Q I h
 refine wpAny_Call_Name_kw (xb I hg hm hv ?_ hn hdb)
 exact vv (thn (ha pos pins s σ H _ I h) fun us s1 ⟨vs,H1,I1,r1,q1⟩=>hc pins s1 σ H1 vs us Q I1 r1 q1) he hpl
end
end _L2
namespace _HT
open PySem PyProof.Rows
section
variable {prog:Program} {w:World} {A:Around} {E:Value->Shared->Prop} {s:Shared}
theorem zaY {t b:Addr} {vs ws:List Value} {Q:Value->Shared->Prop} (ht:IsTup s.heap t vs.toArray) (hb:IsTup s.heap b ws.toArray) (hv:vs≠[])
  (h1:ws=[]->Q (.ref t) s) (h2:ws≠[]->Q (.ref s.heap.objs.size) {s with heap:=s.heap.push {cls:=.type "tuple",data:=.seq (vs++ws).toArray}})
  (hsz:vs.length+ws.length<=sizeLine):wpAny (model prog w) A (binaryOp .Add (.ref t) (.ref b)) Q E s:=by
 obtain ⟨⟨cls,dd,data,sl⟩,ho,hc,n,hd⟩:=id ht
 obtain ⟨⟨cls2,dd2,data2,sl2⟩,ho2,hc2,n2,hd2⟩:=id hb
 simp only at hc hd hc2 hd2
 subst hc hd hc2 hd2
 have e:vs.toArray++ws.toArray=(vs++ws).toArray:=by simp
 by_cases hw:ws=[]
 ·exact concat_meets ⟨_,ho,rfl⟩ ⟨_,ho2,rfl⟩ noFill_tuple_add seq_tuple_add uX uU (uL _ _)
   (tuple_addW1 t b vs.toArray ws.toArray n n2 dd dd2 sl sl2 (by simpa using hv) (by simp [hw])) ⟨ho,ho2,h1 hw⟩
 ·refine concat_meets ⟨_,ho,rfl⟩ ⟨_,ho2,rfl⟩ noFill_tuple_add seq_tuple_add uX uU (uL _ _)
   (tuple_addW2 t b vs.toArray ws.toArray n n2 dd dd2 sl sl2 (by simpa using hv) (by simpa using hw) (by rw [ku,ku];exact hsz)) ⟨ho,ho2,?_⟩
  rw [e]
  exact h2 hw
noncomputable def sIx (n d:Nat):Option Int->Nat
 | none=>d
 | some v=>if v<0 then (v+(n:Int)).toNat else min v.toNat n
theorem xO (n d:Nat):sIx n d none=d:=rfl
theorem wm (n d k:Nat):sIx n d (some (k:Int))=min k n:=by
 show (if (k:Int)<0 then ((k:Int)+(n:Int)).toNat else min (k:Int).toNat n)=min k n
 rw [if_neg (by omega),uY]
theorem zb7 (n d:Nat) (hd:d<=n) (o:Option Int):sIx n d o<=n:=by
 cases o with
 | none=>exact hd
 | some v =>
  show (if v<0 then (v+(n:Int)).toNat else min v.toNat n)<=n
  by_cases hv:v<0
  ·rw [if_pos hv];omega
  ·rw [if_neg hv];exact Nat.min_le_right _ _
theorem WC (v:Int) (n d:Nat):(if v<0 then max (v+(n:Int)) 0 else min v (n:Int))=((sIx n d (some v):Nat):Int):=by
 show (if v<0 then max (v+(n:Int)) 0 else min v (n:Int))=(((if v<0 then (v+(n:Int)).toNat else min v.toNat n):Nat):Int)
 by_cases hv:v<0
 ·simp only [if_pos hv];omega
 ·simp only [if_neg hv];omega
theorem Qa (lo hi:Option Int) (n:Nat):Builtin.Slice.sliceAdjust lo hi 1 (n:Int)=(((sIx n 0 lo:Nat):Int),((sIx n n hi:Nat):Int)):=by
 have h1:¬ ((1:Int)<0):=by omega
 unfold Builtin.Slice.sliceAdjust
 simp only [h1,if_false]
 refine Prod.ext ?_ ?_
 ·cases lo with
  | none=>rfl
  | some v=>exact WC v n 0
 ·cases hi with
  | none=>rfl
  | some v=>exact WC v n n
theorem Qb (i j:Nat):Builtin.Slice.slicePlaces (i:Int) (j:Int) 1=j-i:=by
 unfold Builtin.Slice.slicePlaces
 have h1:(1:Int)>0:=by omega
 simp only [h1,if_true,Int.ediv_one]
 split<;>omega
theorem Zm {v:Value} {o:Option Int} {Q:Option Int->Shared->Prop} (p:IsPart v o) (h:Q o s):wpAny (model prog w) A (Builtin.Slice.slicePartIndex v) Q E s:=by
 cases p with
 | none=>exact slicePart_none h
 | int i t=>exact slicePart_int h
theorem j4 {sl:Addr} {vl vu:Value} {lo hi:Option Int} {n:Nat} {Q:Int×Int×Nat->Shared->Prop} (hs:s.heap.IsSliceOf sl vl vu .none) (pl:IsPart vl lo) (pu:IsPart vu hi)
  (h:Q (((sIx n 0 lo:Nat):Int),1,sIx n n hi-sIx n 0 lo) s):wpAny (model prog w) A (Builtin.Slice.sliceApplied (.ref sl) (pure (n:Int))) Q E s:=by
 obtain ⟨os,hos,hcs,hds⟩:=id hs
 unfold Builtin.Slice.sliceApplied Builtin.Slice.sliceFields
 refine wpAny_bind (wpAny_bind (wpAny_field hos hds (x:=vl) rfl (wpAny_bind (wpAny_field hos hds (x:=vu) rfl (wpAny_bind (wpAny_field hos hds (x:=.none) rfl (wpAny_pure ?_)))))))
 refine wpAny_bind (slicePart_none ?_)
 show wpAny _ _ (if ((1:Int) == 0)=true then _ else _) _ _ s
 rw [if_neg (by decide)]
 refine wpAny_bind (Zm pl (wpAny_bind (Zm pu (wpAny_bind (wpAny_pure ?_)))))
 show wpAny _ _ (match Builtin.Slice.sliceAdjust lo hi 1 (n:Int) with | (lo,hi)=>pure (lo,(1:Int),Builtin.Slice.slicePlaces lo hi 1)) _ _ s
 rw [Qa lo hi n]
 show wpAny _ _ (pure (((sIx n 0 lo:Nat):Int),(1:Int),Builtin.Slice.slicePlaces ((sIx n 0 lo:Nat):Int) ((sIx n n hi:Nat):Int) 1)) _ _ s
 rw [Qb]
 exact wpAny_pure h
theorem JO (xs:Array Value) (i k:Nat):((vo k).filterMap fun (m:Nat)=>xs[((i:Int)+(m:Int)*1).toNat]?).toArray=((xs.toList.drop i).take k).toArray:=by
 have e:(fun (m:Nat)=>xs[((i:Int)+(m:Int)*1).toNat]?)=fun m=>xs[i+m]?:=by
  funext m
  have:((i:Int)+(m:Int)*1).toNat=i+m:=by omega
  rw [this]
 rw [e]
 have:=pick_run xs i k
 rw [List.filterMap_map] at this
 have e2:((fun x=>xs[x]?)∘fun x=>i+x)=fun m=>xs[i+m]?:=rfl
 rw [e2] at this
 rw [this]
theorem jY {t sl:Addr} {items:Array Value} {vl vu:Value} {lo hi:Option Int} {Q:Value->Shared->Prop} (ht:IsTup s.heap t items) (hs:s.heap.IsSliceOf sl vl vu .none) (pl:IsPart vl lo) (pu:IsPart vu hi)
  (hw:¬ (sIx items.size 0 lo=0/\sIx items.size items.size hi=items.size))
  (h:Q (.ref s.heap.objs.size) {s with heap:=s.heap.push {cls:=.type "tuple",data:=.seq ((items.toList.drop (sIx items.size 0 lo)).take (sIx items.size items.size hi-sIx items.size 0 lo)).toArray}})
  (hsz:items.size<=sizeLine):wpAny (model prog w) A (getItem (.ref t) (.ref sl)) Q E s:=by
 have htake:sizeOk (.seq ((items.toList.drop (sIx items.size 0 lo)).take (sIx items.size items.size hi-sIx items.size 0 lo)).toArray):=by
  show ((items.toList.drop (sIx items.size 0 lo)).take (sIx items.size items.size hi-sIx items.size 0 lo)).toArray.size<=sizeLine
  rw [ku,kH,vq,Array.length_toList]
  omega
 have hj:sIx items.size items.size hi<=items.size:=zb7 _ _ (kf _) hi
 obtain ⟨os,hos,hcs,hds⟩:=id hs
 have hTs:s.TypeIs (.ref sl) "slice" := ⟨os,hos,hcs⟩
 unfold getItem
 try with_reducible refine wpAny_holding ?_
 first | refine wpAny_bind (wpAny_pure ?_) | skip
 refine wpAny_bind (wpAny_sequenceKey ht.typeIs (by decide) ?_)
 refine wpAny_bind (wpAny_callSpecial?_slot (name:=Str.ofString "__getitem__") ht.typeIs PyProof.Rows.slot_tuple_getitem
  (wpAny_call_entry PyProof.Rows.slot_tuple_getitem ht.typeIs entry_tuple_getitem ?_ (args_tuple_getitem _ _)))
 show wpAny _ _ (Builtin.Tuple.tupleItemsOf (.ref t) >>= _) _ _ s
 refine wpAny_bind (tupleItemsOf_ ht ?_)
 refine wpAny_bind (wpAny_typeOf hTs ?_)
 rw [if_pos (by decide)]
 refine wpAny_bind (j4 hs pl pu ?_)
 have hno:¬ ((((sIx items.size 0 lo:Nat):Int) == 0 && (1:Int) == 1 && (sIx items.size items.size hi-sIx items.size 0 lo) == items.size)=true):=by
  intro q
  rw [vx,vx] at q
  have q1:((sIx items.size 0 lo:Nat):Int)=0:=eq_of_beq q.1.1
  have q2:sIx items.size items.size hi-sIx items.size 0 lo=items.size:=eq_of_beq q.2
  exact hw ⟨by omega,by omega⟩
 show wpAny _ _ (if (((sIx items.size 0 lo:Nat):Int) == 0 && (1:Int) == 1 && (sIx items.size items.size hi-sIx items.size 0 lo) == items.size)=true then _ else _) _ _ s
 rw [if_neg hno,JO]
 first
  | exact wpAny_bind (m:=Builtin.Tuple.tupleExact _) (wpAny_newObj_type (wpAny_pure ⟨_,rfl,wpAny_pure h⟩) htake)
  | exact wpAny_bind (m:=Builtin.Tuple.tupleExact _) (wpAny_newObj_type (wpAny_bind (wpAny_pure (wpAny_pure ⟨_,rfl,wpAny_pure h⟩))) htake)
  | exact wpAny_bind (wpAny_bind (m:=Builtin.Tuple.tupleExact _) (wpAny_newObj_type (wpAny_pure (wpAny_pure ⟨_,rfl,wpAny_pure h⟩)) htake))
  | exact wpAny_bind (wpAny_bind (m:=Builtin.Tuple.tupleExact _) (wpAny_newObj_type (wpAny_pure ⟨_,rfl,wpAny_pure h⟩) htake))
end
end _HT
namespace _L2
open PySem PySem.Spec PyProof.Rows
abbrev TO:=St->Hp->(Option Int->Hp->Prop)->Prop
noncomputable def PO (X:Cx) (e:Option Expr) (t:TO):Prop :=
 ∀ (pins:List (Addr×Obj)) (s:Shared) (σ:St) (H:Hp) (Q:Option Int->Hp->Prop),Inv X pins σ H s->t σ H Q ->
  wpAny (model X.prog X.w) X.A (evalPart e X.env) (fun u s'=>∃ o H',Inv X pins σ H' s'/\IsPart u o/\Q o H') X.xe s
noncomputable def WD:TO:=fun _ H Q=>Q none H
noncomputable def zaI (t:TE):TO:=fun σ H Q=>t σ H fun x H1=>∃ i,x=.int i/\Q (some i) H1
section
variable {X:Cx} {e:Expr} {te:TE} {lo hi:Option Expr} {tl th:TO} {pos p2:Pos}
theorem yl:PO X none WD:=by
 intro pins s σ H Q I h
 rw [evalPart_none]
 exact wpAny_pure ⟨none,H,I,.none,h⟩
theorem yg (h:PE X e te):PO X (some e) (zaI te):=by
 intro pins s σ H Q I hw
 rw [evalPart_some]
 refine thn (h pins s σ H _ I hw) fun u s1 h9=>?_
 obtain ⟨x,H1,I1,r1,q1⟩:=h9
 obtain ⟨i,rfl,q⟩:=q1
 obtain ⟨t,rfl⟩:=r1
 exact ⟨some i,H1,I1,.int i t,q⟩
noncomputable def SlR (X:Cx) (r:V->Option Int->Option Int->Hp->VK->Prop):Prop :=
 ∀ (pins:List (Addr×Obj)) (s:Shared) (σ:St) (H:Hp) (x:V) (v vl vu:Value) (lo hi:Option Int) (sl:Addr) (Q:VK),Inv X pins σ H s->RelV x v->s.heap.IsSliceOf sl vl vu .none->IsPart vl lo->IsPart vu hi->r x lo hi H Q ->
  ∃ T id,typeLookup (.type T) "__getitem__" = pure (some (.builtin id))/\s.TypeIs v T/\wpAny (model X.prog X.w) X.A (getItem v (.ref sl)) (EP X pins σ Q) X.xe s
noncomputable def tSl (r:V->Option Int->Option Int->Hp->VK->Prop) (te:TE) (tl th:TO):TE:=fun σ H Q=>te σ H fun x H1=>tl σ H1 fun l H2=>th σ H2 fun u H3=>r x l u H3 Q
theorem yc {r:V->Option Int->Option Int->Hp->VK->Prop} (hr:SlR X r) (he:PE X e te) (hl:PO X lo tl) (hu:PO X hi th):PE X (.Subscript e (.Slice lo hi none p2) pos) (tSl r te tl th):=by
 intro pins s σ H Q I h
 refine Subscript_ (thn (he pins s σ H _ I h) fun v s1 h9=>?_)
 obtain ⟨x,H1,I1,r1,q1⟩:=h9
 refine wpAny_Slice (thn (hl pins s1 σ H1 _ I1 q1) fun vl s2 ⟨l,H2,I2,pl,q2⟩=>thn (hu pins s2 σ H2 _ I2 q2) fun vu s3 h9=>?_)
 obtain ⟨u,H3,I3,pu,q3⟩:=h9
 rw [evalPart_none]
 refine wpAny_pure ?_
 have I4:Inv X pins σ H3 {s3 with heap:=s3.heap.push {cls:=.type "slice",data:=.fields #[vl,vu,.none]}}:=I3.kept (t':=s3.toks) fun b ob q=>Heap.get?_push_of_some _ q
 obtain ⟨T,id,hT,ht,hg⟩:=hr pins {s3 with heap:=s3.heap.push {cls:=.type "slice",data:=.fields #[vl,vu,.none]}} σ H3 x v vl vu l u s3.heap.objs.size Q I4 r1 (Heap.IsSliceOf.new ..) pl pu q3
 show wpAny (model X.prog X.w) X.A (subscriptTail e (.Slice lo hi none p2) v (.ref s3.heap.objs.size)) (EP X pins σ Q) X.xe {s3 with heap:=s3.heap.push {cls:=.type "slice",data:=.fields #[vl,vu,.none]}}
 exact tail_any (ops:=[.ref s3.heap.objs.size,v]) ht hT hg (by with_unfolding_all rfl)
noncomputable def cutV (xs:List V) (lo hi:Option Int):List V:=(xs.drop (_HT.sIx xs.length 0 lo)).take (_HT.sIx xs.length xs.length hi-_HT.sIx xs.length 0 lo)
theorem jZ (xs:List V) (lo hi:Option Int):(cutV xs lo hi).length<=xs.length:=by
 unfold cutV
 rw [kH,vq]
 omega
noncomputable def rSlT (K:Frag):V->Option Int->Option Int->Hp->VK->Prop:=fun x lo hi H Q=>∃ a xs,x=.ref a/\SqT K H a xs /\
 ¬ (_HT.sIx xs.length 0 lo=0/\_HT.sIx xs.length xs.length hi=xs.length)/\∀ p,H p=none->Q (.ref p) (upd H p (.tup (cutV xs lo hi)))
theorem jc:SlR X (rSlT X.K):=by
 intro pins s σ H x v vl vu lo hi sl Q I rx hs pl pu h
 refine E_2 h fun a xs n8=>A_4 n8 fun e9 hx hw q=>?_;clear n8 h;subst e9
 cases rx
 obtain ⟨its,r,ht,hz⟩:=I.tuple hx
 have hlen:its.toArray.size=xs.length:=by rw [ku];exact r.length.symm
 refine ⟨"tuple",_,PyProof.Rows.slot_tuple_getitem.lookup,ht.typeIs,?_⟩
 refine _HT.jY ht hs pl pu (by rw [hlen];exact hw) ?_ (by rw [hlen];exact hz)
 rw [hlen]
 refine ⟨.ref s.heap.objs.size,_,I.laid (t':=s.toks) (o:=.tup (cutV xs lo hi)) (fun b ob q=>Heap.get?_push_of_some _ q) (kf _) ?_,rfl,q _ (I.hok.fresh (kf _))⟩
 exact ⟨km (jZ xs lo hi) hz,_,(r.drop (_HT.sIx xs.length 0 lo)).take (_HT.sIx xs.length xs.length hi-_HT.sIx xs.length 0 lo),IsTup.new _ _⟩
noncomputable def zc7 (K:Frag):R2:=fun x y H Q=>∃ a b xs ys,x=.ref a/\y=.ref b/\SqT K H a xs/\SqT K H b ys/\xs≠[]/\xs.length+ys.length<=sizeLine /\
 (ys=[]->Q (.ref a) H)/\(ys≠[]->∀ p,H p=none->Q (.ref p) (upd H p (.tup (xs++ys))))
theorem Vals.nil_iff {xs:List V} {us:List Value} (r:Vals xs us):us=[]↔xs=[]:=by
 cases r with
 | nil=>simp
 | cons _ _=>simp
theorem zaZ:OpR X (binaryOp .Add) (zc7 X.K):=by
 intro pins s σ H x y v u Q I rx ry h
 refine E_4 h fun a b xs ys n8=>A_8 n8 fun e9 n90 ha hb hx hz q1 q2=>?_;clear n8 h;subst e9;subst n90
 cases rx
 cases ry
 obtain ⟨its,r1,p1,_⟩:=I.tuple ha
 obtain ⟨its2,r2,p2,_⟩:=I.tuple hb
 refine _HT.zaY p1 p2 (fun z=>hx (r1.nil_iff.mp z)) (fun z=>⟨.ref a,H,I,rfl,q1 (r2.nil_iff.mp z)⟩) (fun z=>?_) (by rw [<- r1.length,<- r2.length];exact hz)
 refine ⟨.ref s.heap.objs.size,_,I.laid (t':=s.toks) (o:=.tup (xs++ys)) (fun b ob q=>Heap.get?_push_of_some _ q) (kf _) ?_,rfl,q2 (fun w=>z (r2.nil_iff.mpr w)) _ (I.hok.fresh (kf _))⟩
 exact ⟨by rw [ki];exact hz,_,r1.append r2,IsTup.new _ _⟩
end
noncomputable def ixN (n:Nat) (i:Int):Option Nat:=if 0<=i then (if i<n then some i.toNat else none) else if -(n:Int)<=i then some (i+n).toNat else none
noncomputable def atI {α:Type} (xs:List α) (i:Int):Option α:=(ixN xs.length i).bind fun j=>xs[j]?
theorem WE {n:Nat} {i:Int} {j:Nat} (h:ixN n i=some j):seqIndex? i n=some j/\j<n /\ -(n:Int)<=i/\i<n:=by
 unfold ixN at h
 by_cases h0:0<=i
 ·rw [if_pos h0] at h
  by_cases h1:i<n
  ·rw [if_pos h1] at h
   have e:i.toNat=j:=Option.some.inj h
   exact ⟨by rw [seqIndex_of h0 h1,e],by omega,by omega,h1⟩
  ·rw [if_neg h1] at h;cases h
 ·rw [if_neg h0] at h
  by_cases h1:-(n:Int)<=i
  ·rw [if_pos h1] at h
   have e:(i+n).toNat=j:=Option.some.inj h
   exact ⟨by rw [seqIndex_neg (by omega) h1,e],by omega,h1,by omega⟩
  ·rw [if_neg h1] at h;cases h
theorem ZR {α:Type} {xs:List α} {i:Int} {v:α} (h:atI xs i=some v):∃ j,seqIndex? i xs.length=some j/\xs[j]?=some v/\j<xs.length /\ -(xs.length:Int)<=i/\i<xs.length:=by
 unfold atI at h
 cases e:ixN xs.length i with
 | none=>rw [e] at h;cases h
 | some j =>
  rw [e] at h
  obtain ⟨h1,h2,h3,h4⟩:=WE e
  exact ⟨j,h1,h,h2,h3,h4⟩
theorem yK {α:Type} {xs:List α} {j:Nat} {v:α} (h:xs[j]?=some v):atI xs (j:Int)=some v:=by
 have hj:j<xs.length:=(kg.mp h).1
 have e:ixN xs.length (j:Int)=some j:=by
  unfold ixN
  rw [if_pos (by omega),if_pos (by omega)];simp
 unfold atI;rw [e];exact h
theorem j5 {α:Type} (xs:List α) (v:α):atI (xs++[v]) (-1)=some v:=by
 have hl:(xs++[v]).length=xs.length+1:=by simp
 have e:ixN (xs++[v]).length (-1)=some xs.length:=by
  unfold ixN
  rw [hl,if_neg (by decide),if_pos (by omega)]
  congr 1
  omega
 unfold atI
 rw [e]
 show (xs++[v])[xs.length]?=some v
 simp
noncomputable def za0 (b:Expr):Prop:=∀ o i,subscripted b false o i=operate [o,i] (getItem o i)
noncomputable def IxR (X:Cx) (r:R2):Prop :=
 ∀ (value slice:Expr) (pins:List (Addr×Obj)) (s:Shared) (σ:St) (H:Hp) (x y:V) (v u:Value) (Q:VK),Inv X pins σ H s->RelV x v->RelV y u->r x y H Q ->
  subscripted slice false v u=operate [v,u] (getItem v u)->wpAny (model X.prog X.w) X.A (subscriptTail value slice v u) (EP X pins σ Q) X.xe s
noncomputable def MtR (X:Cx) (id:String) (r:V->List V->Hp->VK->Prop):Prop :=
 ∀ (pins:List (Addr×Obj)) (s:Shared) (σ:St) (H:Hp) (x:V) (xs:List V) (v:Value) (us:List Value) (Q:VK),Inv X pins σ H s->RelV x v->Vals xs us->r x xs H Q ->
  wpAny (model X.prog X.w) X.A (call (.builtin id) (v::us)) (EP X pins σ Q) X.xe s
section
variable {X:Cx} {a b:Expr} {ta tb:TE} {pos:Pos}
theorem zw {r:R2} (hr:IxR X r) (ha:PE X a ta) (hb:PE X b tb) (hs:za0 b):PE X (.Subscript a b pos) (tOp r ta tb):=by
 intro pins s σ H Q I h
 exact Subscript_ (binT ha hb I h fun v u s2 x y H2 I2 rx ry q=>hr a b pins s2 σ H2 x y v u Q I2 rx ry q (hs _ _))
noncomputable def rIxL (K:Frag):R2:=fun x y H Q=>∃ p xs i v,x=.ref p/\y=.int i/\SqL K H p xs/\atI xs i=some v/\Q v H
noncomputable def rIxT (K:Frag):R2:=fun x y H Q=>∃ p xs i v,x=.ref p/\y=.int i/\SqT K H p xs/\atI xs i=some v/\Q v H
noncomputable def rIxS:R2:=fun x y H Q=>∃ z i c,x=.str z/\y=.int i/\z.length<=sizeLine/\atI z.cps.toList i=some c/\Q (.str ⟨#[c]⟩) H
theorem zV:IxR X (rIxL X.K):=by
 intro value slice pins s σ H x y v u Q I rx ry h hs
 refine E_4 h fun p xs i z n8=>A_5 n8 fun e9 n90 hq he q=>?_;clear n8 h;subst e9;subst n90
 cases rx
 obtain ⟨t,rfl⟩:=ry
 obtain ⟨its,r,pl,hz⟩:=I.list hq
 obtain ⟨j,h1,h2,h3,h4,h5⟩:=ZR he
 obtain ⟨w,ew,rw'⟩:=r.get h2
 have hl:=r.length
 have hn:=wF
 have fin:EP X pins σ Q w s:=⟨z,H,I,rw',q⟩
 by_cases h0:0<=i
 ·have hj:i.toNat=j:=by
   rw [seqIndex_of h0 h5] at h1
   exact Option.some.inj h1
  exact item_listR pl.isList h0 (by omega) (by rw [hj];simpa using ew) fin hs
 ·have hj:(i+(its.toArray.size:Int)).toNat=j:=by
   rw [seqIndex_neg (by omega) h4] at h1
   rw [ku,<- hl]
   exact Option.some.inj h1
  exact subscriptTail_builtinR (x:=w) pl.isList.typeIs slot_list_getitem.lookup
   (wpAny_getItem_list_neg (Q:=fun r s'=>r=w/\EP X pins σ Q r s') pl.isList (by omega) (by rw [ku]<;>omega) (by omega) (by rw [hj];simpa using ew) ⟨rfl,fin⟩) hs
theorem zP:IxR X (rIxT X.K):=by
 intro value slice pins s σ H x y v u Q I rx ry h hs
 refine E_4 h fun p xs i z n8=>A_5 n8 fun e9 n90 hq he q=>?_;clear n8 h;subst e9;subst n90
 cases rx
 obtain ⟨t,rfl⟩:=ry
 obtain ⟨its,r,pl,hz⟩:=I.tuple hq
 obtain ⟨j,h1,h2,h3,h4,h5⟩:=ZR he
 obtain ⟨w,ew,rw'⟩:=r.get h2
 have hl:=r.length
 have hn:=wF
 have fin:EP X pins σ Q w s:=⟨z,H,I,rw',q⟩
 exact subscriptTail_builtinR (x:=w) pl.typeIs slot_tuple_getitem.lookup
  (getItem_tuple (j:=j) (Q:=fun r s'=>r=w/\EP X pins σ Q r s') pl (by omega) (by omega) (by rw [ku,<- hl];exact h1) (by simpa using ew) ⟨rfl,fin⟩) hs
theorem zb8:IxR X rIxS:=by
 intro value slice pins s σ H x y v u Q I rx ry h hs
 refine E_3 h fun z i c n8=>A_5 n8 fun e9 n90 hz he q=>?_;clear n8 h;subst e9;subst n90
 obtain ⟨t,rfl⟩:=rx
 obtain ⟨t',rfl⟩:=ry
 obtain ⟨j,h1,h2,h3,h4,h5⟩:=ZR he
 have hl:z.cps.toList.length=z.length:=by simp [Str.length]
 rw [hl] at h1 h4 h5
 have hn:=wF
 exact tail_any (typeIs_str s z t) slot_str_getitem.lookup (getItem_str (c:=c) (by
  have e1:decide (i < -(2^63:Int))=false:=decide_eq_false (by omega)
  have e2:decide (i≥2^63)=false:=decide_eq_false (by omega)
  rw [e1,e2,Bool.or_false]) (by rw [h1];simpa using h2) ⟨.str ⟨#[c]⟩,H,I.tok _,⟨_,rfl⟩,q⟩) hs
theorem Qc (its:List Value) (n j:Nat) (u:Value):Obj.mapSeq (·.setIfInBounds j u) {cls:=.type "list",data:=.seq its.toArray n}={cls:=.type "list",data:=.seq (its.set j u).toArray n}:=by
 simp [Obj.mapSeq]
theorem Inv.lst {pins:List (Addr×Obj)} {σ:St} {H:Hp} {s:Shared} {p:Addr} {xs:List V} (I:Inv X pins σ H s) (h:H p=some (.lst xs)) :
  ∃ (its:List Value) (n:Nat),Vals xs its/\s.heap.get? p=some {cls:=.type "list",data:=.seq its.toArray n}/\xs.length<=sizeLine:=by
 obtain ⟨z,its,n,r,e⟩:=I.hok p _ h
 exact ⟨its,n,r,e,z⟩
theorem Inv.lstUpd {pins:List (Addr×Obj)} {σ:St} {H:Hp} {s:Shared} {p:Addr} {xs ys:List V} {its its':List Value} {n n':Nat} {f:Obj->Obj} (I:Inv X pins σ H s) (h:H p=some (.lst xs))
  (ho:s.heap.get? p=some {cls:=.type "list",data:=.seq its.toArray n}) (hf:f {cls:=.type "list",data:=.seq its.toArray n}={cls:=.type "list",data:=.seq its'.toArray n'}) (r:Vals ys its') (hz:ys.length<=sizeLine) (t:Nat) :
  Inv X pins σ (upd H p (.lst ys)) {s with heap:=s.heap.update p f,toks:=t}:=by
 have e:(s.heap.update p f).get? p=some {cls:=.type "list",data:=.seq its'.toArray n'}:=by
  rw [Heap.get?_update_self f ho (by rw [hf]<;>rfl),hf]
 refine I.write (x:=p) (e:=p) (by rw [h];exact trivial) (.inl rfl) (fun b u hb q=>(Heap.get?_update_other _ _ (Ne.symm hb)).trans q) ⟨_,e⟩ ?_
 exact ⟨hz,its',n',r,e⟩
noncomputable def zc8:V->V->V->Hp->(Hp->Prop)->Prop:=fun o i v H Q=>∃ p xs k j,o=.ref p/\i=.int k/\H p=some (.lst xs)/\ixN xs.length k=some j/\Q (upd H p (.lst (xs.set j v)))
theorem set_list:PSet X zc8:=by
 intro pins s σ H o i v ov iv u Q I ro ri rv h
 refine E_4 h fun p xs k j n8=>A_5 n8 fun e9 n90 hp hj q=>?_;clear n8 h;subst e9;subst n90
 cases ro
 obtain ⟨t,rfl⟩:=ri
 obtain ⟨its,n,r,ho,hz⟩:=I.lst hp
 obtain ⟨h1,h2,h3,h4⟩:=WE hj
 have hl:=r.length
 have hn:=wF
 have I':Inv X pins σ (upd H p (.lst (xs.set j v))) {s with heap:=s.heap.update p (Obj.mapSeq (·.setIfInBounds j u))} :=
  I.lstUpd hp ho (Qc its n j u) (r.set rv j) (by rw [List.length_set];exact hz) s.toks
 by_cases h0:0<=k
 ·have hk:k.toNat=j:=by
   rw [seqIndex_of h0 h4] at h1
   exact Option.some.inj h1
  exact PySem.W.ki_setAt ho h0 (by omega) (by rw [ku,<- hl];exact h4) (by rw [hk];exact ⟨_,I',q⟩)
 ·have hk:(k+(its.toArray.size:Int)).toNat=j:=by
   rw [seqIndex_neg (by omega) h3] at h1
   rw [ku,<- hl]
   exact Option.some.inj h1
  exact PySem.W.ki_setBack ho (by omega) (by rw [ku,<- hl];exact h3) (by omega) (by rw [hk];exact ⟨_,I',q⟩)
theorem Xm (lo hi:Option Int) (n:Nat):(sliceBounds lo hi none n).1=((_HT.sIx n 0 lo:Nat):Int)/\(sliceBounds lo hi none n).2.1=((_HT.sIx n n hi:Nat):Int)/\(sliceBounds lo hi none n).2.2=1:=by
 refine ⟨?_,?_,rfl⟩
 ·cases lo with
  | none=>simp [sliceBounds,_HT.sIx]
  | some i =>
   simp only [sliceBounds,_HT.sIx,Option.getD_none,show (1:Int)>0 by decide,if_true]
   by_cases h:i<0
   ·simp only [h,if_true]<;>omega
   ·simp only [h,if_false]<;>omega
 ·cases hi with
  | none=>simp [sliceBounds,_HT.sIx]
  | some i =>
   simp only [sliceBounds,_HT.sIx,Option.getD_none,show (1:Int)>0 by decide,if_true]
   by_cases h:i<0
   ·simp only [h,if_true]<;>omega
   ·simp only [h,if_false]<;>omega
theorem YT (its:List Value) (lo hi:Option Int):slicePick its.toArray lo hi none=((its.drop (_HT.sIx its.length 0 lo)).take (_HT.sIx its.length its.length hi-_HT.sIx its.length 0 lo)).toArray:=by
 obtain ⟨h1,h2,h3⟩:=Xm lo hi its.toArray.size
 unfold slicePick
 rw [h1,h2,h3]
 simp only [sliceRange_one,pick_run,ku]<;>rfl
noncomputable def rSlL (K:Frag):V->Option Int->Option Int->Hp->VK->Prop:=fun x lo hi H Q=>∃ a xs,x=.ref a/\SqL K H a xs/\∀ p,H p=none->Q (.ref p) (upd H p (.lst (cutV xs lo hi)))
theorem yP:SlR X (rSlL X.K):=by
 intro pins s σ H x v vl vu lo hi sl Q I rx hs pl pu h
 refine E_2 h fun a xs n8=>A_3 n8 fun e9 hx q=>?_;clear n8 h;subst e9
 cases rx
 obtain ⟨its,r,ht,hz⟩:=I.list hx
 have hlen:=r.length
 refine ⟨"list",_,slot_list_getitem.lookup,ht.isList.typeIs,?_⟩
 refine wpAny_getItem_list_slice ht.isList hs pl pu .none (by simp) ?_ (by rw [ku]<;>omega)
 rw [YT,<- hlen]
 refine ⟨.ref s.heap.objs.size,_,I.laid (t':=s.toks) (o:=.lst (cutV xs lo hi)) (fun b ob q=>Heap.get?_push_of_some _ q) (kf _) ?_,rfl,q _ (I.hok.fresh (kf _))⟩
 exact ⟨km (jZ xs lo hi) hz,_,0,(r.drop (_HT.sIx xs.length 0 lo)).take (_HT.sIx xs.length xs.length hi-_HT.sIx xs.length 0 lo),Heap.get?_push_size _ rfl⟩
noncomputable def y6:V->Bool
 | .non=>true
 | .bl _=>true
 | .int _=>true
 | .str _=>true
 | _=>false
noncomputable def eqV:V->V->Bool
 | .non,.non=>true
 | .bl a,.bl b=>a == b
 | .bl a,.int b=>(if a then 1 else 0) == b
 | .int a,.bl b=>a == (if b then 1 else 0)
 | .int a,.int b=>a == b
 | .str a,.str b=>a == b
 | _,_=>false
theorem Xn {A:Around} {s:Shared} {y x:V} {u v:Value} (ry:RelV y u) (rx:RelV x v) (fy:y6 y=true) (fx:y6 x=true):SeqAt.EqAt A s u v (eqV y x):=by
 cases y with
 | non =>
  cases ry
  cases x with
  | non=>cases rx;exact SeqAt.EqAt.same _
  | bl b=>cases rx;exact SeqAt.EqAt.none_bool b
  | int b=>obtain ⟨t,rfl⟩:=rx;exact SeqAt.EqAt.none_int b t
  | str b=>obtain ⟨t,rfl⟩:=rx;exact SeqAt.EqAt.none_str b t
  | _=>exact absurd (show false=true from fx) kF
 | bl a =>
  cases ry
  cases x with
  | non=>cases rx;exact SeqAt.EqAt.bool_none a
  | bl b=>cases rx;exact SeqAt.EqAt.bool_bool a b
  | int b=>obtain ⟨t,rfl⟩:=rx;exact SeqAt.EqAt.bool_int a b t
  | str b=>obtain ⟨t,rfl⟩:=rx;exact SeqAt.EqAt.bool_str a b t
  | _=>exact absurd (show false=true from fx) kF
 | int a =>
  obtain ⟨t',rfl⟩:=ry
  cases x with
  | non=>cases rx;exact SeqAt.EqAt.int_none a t'
  | bl b=>cases rx;exact SeqAt.EqAt.int_bool a t' b
  | int b=>obtain ⟨t,rfl⟩:=rx;exact SeqAt.EqAt.int_int a t' b t
  | str b=>obtain ⟨t,rfl⟩:=rx;exact SeqAt.EqAt.int_str a t' b t
  | _=>exact absurd (show false=true from fx) kF
 | str a =>
  obtain ⟨t',rfl⟩:=ry
  cases x with
  | non=>cases rx;exact SeqAt.EqAt.str_none a t'
  | bl b=>cases rx;exact SeqAt.EqAt.str_bool a t' b
  | int b=>obtain ⟨t,rfl⟩:=rx;exact SeqAt.EqAt.str_int a t' b t
  | str b=>obtain ⟨t,rfl⟩:=rx;exact SeqAt.EqAt.str_str a t' b t
  | _=>exact absurd (show false=true from fx) kF
 | _=>exact absurd (show false=true from fy) kF
noncomputable def eqU (x:V) (u:Value):Bool:=match u with
 | .none=>eqV .non x
 | .bool b=>eqV (.bl b) x
 | .int i _=>eqV (.int i) x
 | .str z _=>eqV (.str z) x
 | _=>false
theorem QQ {x y:V} {u:Value} (r:RelV y u) (f:y6 y=true):eqU x u=eqV y x:=by
 cases y with
 | non=>cases r;rfl
 | bl b=>cases r;rfl
 | int i=>obtain ⟨t,rfl⟩:=r;rfl
 | str z=>obtain ⟨t,rfl⟩:=r;rfl
 | _=>exact absurd (show false=true from f) kF
theorem qc {x:V}:∀ {xs:List V} {us:List Value},Vals xs us->xs.all y6=true->us.any (eqU x)=xs.any fun y=>eqV y x
 | _,_,.nil,_=>rfl
 | y::xs,u::us,.cons r t,f=>by
  rw [bK,vx] at f
  rw [List.any_cons,List.any_cons,QQ r f.1,qc t f.2]
theorem wG {A:Around} {s:Shared} {x:V} {v:Value} (rx:RelV x v) (fx:y6 x=true):∀ {xs:List V} {us:List Value},Vals xs us->xs.all y6=true->∀ u∈us,SeqAt.EqAt A s u v (eqU x u)
 | _,_,.nil,_=>fun u hu=>by cases hu
 | y::xs,u::us,.cons r t,f=>fun u' hu=>by
  rw [bK,vx] at f
  rcases kY.mp hu with rfl | hu
  ·rw [QQ r f.1];exact Xn r rx f.1 fx
  ·exact wG rx fx t f.2 u' hu
noncomputable def inV (x:V) (xs:List V):Bool:=xs.any fun y=>eqV y x
noncomputable def rIn (K:Frag) (neg:Bool):R2:=fun x y H Q=>∃ p xs,y=.ref p/\(SqL K H p xs\/SqT K H p xs)/\y6 x=true/\xs.all y6=true/\Q (.bl (if neg then !inV x xs else inV x xs)) H
theorem Yr:OpR X (compareOp .In) (rIn X.K false):=by
 intro pins s σ H x y v u Q I rx ry h
 refine E_2 h fun p xs n8=>A_5 n8 fun e9 hq fx fs q=>?_;clear n8 h;subst e9
 cases ry
 rcases hq with hq | hq
 ·obtain ⟨its,r,pl,hz⟩:=I.list hq
  refine SeqAt.in_listAt (eqU x) pl.isList (fun w hw=>wG rx fx r fs w (by simpa using hw)) ⟨.bl _,H,I,rfl,?_⟩
  rw [show its.toArray.any (eqU x)=its.any (eqU x) by simp,qc r fs]
  exact q
 ·obtain ⟨its,r,pl,hz⟩:=I.tuple hq
  refine SeqAt.in_tupleAt (eqU x) pl (fun w hw=>wG rx fx r fs w (by simpa using hw)) ⟨.bl _,H,I,rfl,?_⟩
  rw [show its.toArray.any (eqU x)=its.any (eqU x) by simp,qc r fs]
  exact q
theorem Xo:OpR X (compareOp .NotIn) (rIn X.K true):=by
 intro pins s σ H x y v u Q I rx ry h
 refine E_2 h fun p xs n8=>A_5 n8 fun e9 hq fx fs q=>?_;clear n8 h;subst e9
 cases ry
 rcases hq with hq | hq
 ·obtain ⟨its,r,pl,hz⟩:=I.list hq
  refine SeqAt.notIn_listAt (eqU x) pl.isList (fun w hw=>wG rx fx r fs w (by simpa using hw)) ⟨.bl _,H,I,rfl,?_⟩
  rw [show its.toArray.any (eqU x)=its.any (eqU x) by simp,qc r fs]
  exact q
 ·obtain ⟨its,r,pl,hz⟩:=I.tuple hq
  refine SeqAt.notIn_tupleAt (eqU x) pl (fun w hw=>wG rx fx r fs w (by simpa using hw)) ⟨.bl _,H,I,rfl,?_⟩
  rw [show its.toArray.any (eqU x)=its.any (eqU x) by simp,qc r fs]
  exact q
theorem zy:yM X (.builtin "len") (fun xs H Q=>∃ p ys,xs=[.ref p]/\(SqL X.K H p ys\/SqT X.K H p ys)/\Q (.int ys.length) H):=by
 intro pins s σ H xs us Q I r h
 refine E_2 h fun p ys n8=>A_3 n8 fun e9 hq q=>?_;clear n8 h;subst e9
 obtain ⟨u,rfl,rx⟩:=vals1 r
 cases rx
 have hn:=wF
 rcases hq with hq | hq
 ·obtain ⟨its,r',pl,hz⟩:=I.list hq
  have hlen:=r'.length
  exact Calls.call_len_list pl.isList (by simp only [ku]<;>omega) ⟨.int ys.length,H,I.tok _,⟨s.toks+1,by rw [ku,hlen]⟩,q⟩
 ·obtain ⟨its,r',pl,hz⟩:=I.tuple hq
  have hlen:=r'.length
  exact len_tuple pl (by simp only [ku]<;>omega) ⟨.int ys.length,H,I.tok _,⟨s.toks+1,by rw [ku,hlen]⟩,q⟩
theorem yf:yM X (.builtin "len") (fun xs H Q=>∃ z,xs=[.str z]/\z.length<=sizeLine/\Q (.int z.length) H):=by
 intro pins s σ H xs us Q I r h
 refine E_1 h fun z n8=>A_3 n8 fun e9 hz q=>?_;clear n8 h;subst e9
 obtain ⟨u,rfl,t,rfl⟩:=vals1 r
 have hn:=wF
 exact len_str (by omega) ⟨.int z.length,H,I.tok _,⟨_,rfl⟩,q⟩
theorem jd:yM X (.type "list") (fun xs H Q=>∃ p ys,xs=[.ref p]/\(SqL X.K H p ys\/SqT X.K H p ys)/\∀ l,H l=none->Q (.ref l) (upd H l (.lst ys))):=by
 intro pins s σ H xs us Q I r h
 refine E_2 h fun p ys n8=>A_3 n8 fun e9 hq q=>?_;clear n8 h;subst e9
 obtain ⟨u,rfl,rx⟩:=vals1 r
 cases rx
 have fin:∀ (its:List Value),Vals ys its->ys.length<=sizeLine->∀ (h':Heap) (c':Nat),(∀ b o',s.heap.get? b=some o'->h'.get? b=some o') ->
   h'.get? s.heap.objs.size=some {cls:=.type "list",dict:=none,data:=.seq its.toArray c',slots:=#[]}->EP X pins σ Q (.ref s.heap.objs.size) {s with heap:=h'}:=fun its r' hz h' c' kp e =>
  ⟨.ref s.heap.objs.size,_,I.laid (t':=s.toks) kp (kf _) (show yo X.prog X.w _ h' _ (.lst ys) from ⟨hz,its,c',r',e⟩),rfl,q _ (I.hok.fresh (kf _))⟩
 rcases hq with hq | hq
 ·obtain ⟨its,r',pl,hz⟩:=I.list hq
  have hlen:=r'.length
  obtain ⟨o,ho,hc,n,hd⟩:=pl.isList
  exact call_list_seq p (.inl rfl) ho hc hd (fun h' c' kp e=>fin its r' hz h' c' kp e) (by simp only [ku]<;>omega)
 ·obtain ⟨its,r',pl,hz⟩:=I.tuple hq
  have hlen:=r'.length
  obtain ⟨o,ho,hc,n,hd⟩:=pl
  exact call_list_seq p (.inr rfl) ho hc hd (fun h' c' kp e=>fin its r' hz h' c' kp e) (by simp only [ku]<;>omega)
theorem q8:yM X (.type "tuple") (fun xs H Q=>∃ p ys,xs=[.ref p]/\((SqL X.K H p ys/\∀ l,H l=none->Q (.ref l) (upd H l (.tup ys)))\/(SqT X.K H p ys/\Q (.ref p) H))):=by
 intro pins s σ H xs us Q I r h
 revert h;intro n7;refine E_2 n7 fun p ys n8=>A_2 n8 fun e9 h=>?_;clear n8 n7;subst e9
 obtain ⟨u,rfl,rx⟩:=vals1 r
 cases rx
 rcases h with ⟨hq,q⟩ | ⟨hq,q⟩
 ·obtain ⟨its,r',pl,hz⟩:=I.list hq
  have hlen:=r'.length
  refine call_tuple_list pl.isList (fun h' kp=>?_) (by simp only [ku]<;>omega)
  have I1:Inv X pins σ H {s with heap:=h'}:=I.kept (t':=s.toks) kp
  have I2:Inv X pins σ (upd H h'.objs.size (.tup ys)) {s with heap:=h'.push {cls:=.type "tuple",data:=.seq its.toArray}} :=
   I1.laid (t':=s.toks) (fun b o e=>Heap.get?_push_of_some _ e) (kf _) (show yo X.prog X.w _ _ _ (.tup ys) from ⟨hz,its,r',IsTup.new _ _⟩)
  exact ⟨.ref h'.objs.size,_,I2,rfl,q _ (I1.hok.fresh (kf _))⟩
 ·obtain ⟨its,r',pl,hz⟩:=I.tuple hq
  exact call_tuple_same pl ⟨.ref p,H,I,rfl,q⟩
noncomputable def tyV (K:Frag) (T:String) (x:V) (H:Hp):Prop:=match x with
 | .str _=>T = "str"
 | .int _=>T = "int"
 | .ref p=>(T = "list" /\ ∃ xs,SqL K H p xs)\/(T = "tuple" /\ ∃ o,K.lookup p=some o/\o.cls=.type "tuple" /\ o.dict=none) \/
   (T = "dict" /\ ((∃ kvs,H p=some (.dK kvs))\/∃ kvs,H p=some (.dT kvs)))\/(T = "set" /\ ∃ S n,H p=some (.set S n))
 | _=>False
theorem QR {pins:List (Addr×Obj)} {σ:St} {H:Hp} {s:Shared} {T:String} {x:V} {v:Value} (I:Inv X pins σ H s) (r:RelV x v) (ty:tyV X.K T x H) :
  s.TypeIs v T/\∀ a,v=.ref a->∃ ob,s.heap.get? a=some ob/\ob.dict=none:=by
 cases x with
 | str z =>
  obtain ⟨t,rfl⟩:=r
  cases (show T = "str" from ty)
  exact ⟨typeIs_str s z t,fun _ e=>nomatch e⟩
 | int i =>
  obtain ⟨t,rfl⟩:=r
  cases (show T = "int" from ty)
  exact ⟨typeIs_int s i t,fun _ e=>nomatch e⟩
 | ref p =>
  cases r
  rcases ty with ⟨rfl,xs,hq⟩ | ⟨rfl,o,hk,hc,hd⟩ | ⟨rfl,hk⟩ | ⟨rfl,S,n,hk⟩
  ·obtain ⟨its,_,pl,_⟩:=I.list hq
   refine ⟨pl.isList.typeIs,fun a e=>?_⟩
   cases e
   obtain ⟨o,n,e,c,hd,_⟩:=pl
   exact ⟨o,e,hd⟩
  ·refine ⟨⟨o,I.kIn p o hk,hc⟩,fun a e=>?_⟩
   cases e
   exact ⟨o,I.kIn _ o hk,hd⟩
  ·have z:∃ o,s.heap.get? p=some o/\o.ExactDict:=by
    rcases hk with ⟨kvs,hk⟩ | ⟨kvs,hk⟩
    ·obtain ⟨_,_,_,_,o,_,_,e,ex,_⟩:=I.hok p _ hk
     exact ⟨o,e,ex⟩
    ·obtain ⟨_,_,_,_,o,_,_,e,ex,_⟩:=I.hok p _ hk
     exact ⟨o,e,ex⟩
   obtain ⟨o,e,ex⟩:=z
   refine ⟨⟨o,e,ex.1⟩,fun a e2=>?_⟩
   cases e2
   exact ⟨o,e,ex.2.1⟩
  ·obtain ⟨o,_,_,_,e,ex,_⟩:=I.hok p _ hk
   refine ⟨⟨o,e,ex.1⟩,fun a e2=>?_⟩
   cases e2
   exact ⟨o,e,ex.2.1⟩
 | _=>exact False.elim ty
noncomputable def tBM0 (K:Frag) (T:String) (r:V->List V->Hp->VK->Prop) (to:TE):TE:=fun σ H Q=>to σ H fun x H1=>tyV K T x H1/\r x [] H1 Q
noncomputable def tBM (K:Frag) (T:String) (r:V->List V->Hp->VK->Prop) (to:TE) (t:TA):TE:=fun σ H Q=>to σ H fun x H1=>tyV K T x H1/\t σ H1 fun xs H2=>r x xs H2 Q
variable {o e:Expr} {es:List Expr} {to:TE} {t:TA} {name:Str} {apos cpos:Pos} {T id:String} {r:V->List V->Hp->VK->Prop}
theorem Xp (pa:PlainAttrs T) (slot:Slot T name id) (hty:typeOf (.builtin id)=pure (.type "method_descriptor")) (hm:MtR X id r) (ho:PE X o to)
  (hbase:attributeBase o name X.env (eval o X.env)=eval o X.env:=by rfl) (hline:(apos.endLine == cpos.line)=true:=by rfl):PE X (.Call (.Attribute o name apos) [] [] cpos) (tBM0 X.K T r to):=by
 intro pins s σ H Q I h
 refine wpAny_Call_method0_late hbase hline (thn (ho pins s σ H _ I h) fun v s1 h9=>?_)
 obtain ⟨x,H1,I1,r1,ty,q1⟩:=h9
 obtain ⟨h1,h2⟩:=QR I1 r1 ty
 exact ⟨T,id,pa,slot,hty,h1,h2,Calls.callWith_builtin rfl (PySem.evalArgs_none (hm pins s1 σ H1 x [] v [] Q I1 r1 .nil q1))⟩
theorem yG (pa:PlainAttrs T) (slot:Slot T name id) (hty:typeOf (.builtin id)=pure (.type "method_descriptor")) (hm:MtR X id r) (ho:PE X o to) (ha:PA X (e::es) t)
  (hbase:attributeBase o name X.env (eval o X.env)=eval o X.env:=by rfl)
  (hfew:((backTo cpos (starEach (e::es) X.env)).all (fun x=>!x.1) && (backToKw cpos (keywordEach [] X.env)).all (fun x=>x.1.isSome)
   && decide ((e::es).length+([]:List Keyword).length+(if ([]:List Keyword).isEmpty then 0 else 1)<30))=true:=by rfl)
  (hline:(apos.endLine == cpos.line)=true:=by rfl) (hs:starEach (e::es) X.env=(false,eval e X.env)::starEach es X.env:=by rfl) (hplain:(backTo cpos (starEach es X.env)).any (·.1)=false:=by rfl) :
  PE X (.Call (.Attribute o name apos) (e::es) [] cpos) (tBM X.K T r to t):=by
 intro pins s σ H Q I h
 refine wpAny_Call_method_late hbase hfew hline rfl (thn (ho pins s σ H _ I h) fun v s1 h9=>?_)
 obtain ⟨x,H1,I1,r1,ty,q1⟩:=h9
 obtain ⟨h1,h2⟩:=QR I1 r1 ty
 refine ⟨T,id,pa,slot,hty,h1,h2,?_⟩
 have hA:=ha cpos pins s1 σ H1 _ I1 q1
 rw [hs] at hA ⊢
 refine Calls.callWith_builtin (by show (false || (backTo cpos (starEach es X.env)).any (·.1))=false;rw [hplain]<;>rfl) (Calls.evalArgs_plain ?_)
 exact thn hA fun us s2 ⟨vs,H2,I2,r2,q2⟩=>hm pins s2 σ H2 x vs v us Q I2 r1 r2 q2
end
noncomputable def MtM (X:Cx) (id:String) (r:V->List V->Hp->VK->Prop):Prop :=
 ∀ (pins:List (Addr×Obj)) (s:Shared) (σ:St) (H:Hp) (x:V) (xs:List V) (v:Value) (us:List Value) (Q:VK),Inv X pins σ H s->RelV x v->Vals xs us->r x xs H Q ->
  wpAny (model X.prog X.w) X.A (call (.builtin id) (v::us)) (EP X pins σ Q) X.xe s
theorem Vals.one:∀ {x:V} {us:List Value},Vals [x] us->∃ u,us=[u]/\RelV x u
 | _,_,.cons r .nil=>⟨_,rfl,r⟩
theorem Vals.zero:∀ {us:List Value},Vals [] us->us=[]
 | _,.nil=>rfl
theorem Vals.dropLast {xs:List V} {us:List Value} (h:Vals xs us):Vals xs.dropLast us.dropLast:=by
 induction h with
 | nil=>exact .nil
 | cons r t ih =>
  cases t with
  | nil=>exact .nil
  | cons q t'=>exact .cons r ih
theorem Vals.eraseIdx:∀ {xs:List V} {us:List Value} (i:Nat),Vals xs us->Vals (xs.eraseIdx i) (us.eraseIdx i)
 | _,_,_,.nil=>.nil
 | _,_,0,.cons _ t=>t
 | _,_,i+1,.cons r t=>.cons r (Vals.eraseIdx i t)
theorem Vals.rep {xs:List V} {us:List Value} (h:Vals xs us):∀ k:Nat,Vals (vp k xs).flatten (vp k us).flatten
 | 0=>.nil
 | k+1=>by
  rw [v6,v6,vJ,vJ]
  exact Vals.append h (Vals.rep h k)
theorem Qd {α:Type} (l:List α):l.eraseIdx (l.length-1)=l.dropLast:=by
 induction l with
 | nil=>rfl
 | cons a r ih =>
  cases r with
  | nil=>rfl
  | cons b r =>
   have e:(a::b::r).length-1=((b::r).length-1)+1:=by
    have h1:(a::b::r).length=r.length+2:=rfl
    have h2:(b::r).length=r.length+1:=rfl
    omega
   rw [e,List.eraseIdx_cons_succ,ih]
   all_goals rfl
theorem Ys {α:Type}:∀ (l:List α) (i:Nat),(l.eraseIdx i).length<=l.length
 | [],_=>kf _
 | _::_,0=>uF _
 | _::r,i+1=>vB (Ys r i)
theorem foldl_rep (its:List Value):∀ (k:Nat) (acc:List Value),
  List.foldl (fun x1 x2=>x1++x2) acc.toArray (vp k its.toArray)=(acc++(vp k its).flatten).toArray
 | 0,acc=>by simp
 | k+1,acc=>by
  have e:acc.toArray++its.toArray=(acc++its).toArray:=by simp
  have e2:(acc++its)++(vp k its).flatten=acc++(vp (k+1) its).flatten:=by
   rw [v6,vJ,vZ]
  rw [<- e2,<- foldl_rep its k (acc++its),<- e,v6,uP]
section
variable {X:Cx} {pins:List (Addr×Obj)} {σ:St} {H:Hp} {s:Shared} {l b:Addr} {xs ys zs:List V}
theorem Inv.lset {its its':List Value} {n:Nat} {f:Array Value->Array Value} {t':Nat} (I:Inv X pins σ H s) (hH:H l=some (.lst xs))
  (e:s.heap.get? l=some {cls:=.type "list",data:=.seq its.toArray n}) (hf:f its.toArray=its'.toArray) (hv:Vals ys its') (hz:ys.length<=sizeLine) :
  Inv X pins σ (upd H l (.lst ys)) {s with heap:=s.heap.update l (Obj.mapSeq f),toks:=t'}:=by
 have q:=PySem.IsL.update e f
 rw [hf] at q
 refine I.write (x:=l) (e:=l) (by rw [hH];exact trivial) (.inl rfl) (fun b' u hb hu=>(Heap.get?_update_other s.heap (Obj.mapSeq f) (Ne.symm hb)).trans hu) ⟨_,q⟩ ?_
 exact ⟨hz,its',_,hv,q⟩
theorem Inv.lnew {its:List Value} {t':Nat} (I:Inv X pins σ H s) (hv:Vals ys its) (hz:ys.length<=sizeLine) :
  Inv X pins σ (upd H s.heap.objs.size (.lst ys)) {s with heap:=s.heap.push {cls:=.type "list",data:=.seq its.toArray},toks:=t'} :=
 I.laid (fun _ _ q=>Heap.get?_push_of_some _ q) (kf _) ⟨hz,its,0,hv,Heap.get?_push_size _ rfl⟩
theorem Inv.fresh (I:Inv X pins σ H s):H s.heap.objs.size=none:=I.hok.fresh (kf _)
theorem Inv.lstM (I:Inv X pins σ H s) (hH:H l=some (.lst xs)):xs.length<=sizeLine/\∃ (its:List Value) (n:Nat),Vals xs its/\xs.length=its.length/\s.heap.get? l=some {cls:=.type "list",data:=.seq its.toArray n}:=by
 obtain ⟨z,its,n,r,e⟩:=I.hok l _ hH
 exact ⟨z,its,n,r,r.length,e⟩
theorem j6 {n:Nat} (h:n<=sizeLine):Builtin.List.listTooLong n=false:=by
 unfold Builtin.List.listTooLong
 exact decide_eq_false (by omega)
end
section
variable {X:Cx}
noncomputable def WF:V->List V->Hp->VK->Prop:=fun x vs H Q=>∃ l xs y,x=.ref l/\vs=[y]/\H l=some (.lst xs)/\xs.length<sizeLine/\Q .non (upd H l (.lst (xs++[y])))
theorem ye:MtM X "list.append" WF:=by
 intro pins s σ H x vs v us Q I rx rv h
 refine E_3 h fun l xs y n8=>A_5 n8 fun e9 n90 hH hz q=>?_;clear n8 h;subst e9;subst n90
 cases rx
 obtain ⟨u,rfl,ru⟩:=rv.one
 obtain ⟨z,its,n,r,hl,e⟩:=I.lstM hH
 refine call_meets F.slot_list_append ⟨_,e,rfl⟩ F.entry_list_append (F.args_list_append_2 _ _) (PySem.list_append l its.toArray n u (by rw [ku];omega)) ⟨e,?_⟩
 refine ⟨.non,_,I.lset (its':=its++[u]) hH e (by simp) (r.append (.cons ru .nil)) ?_,rfl,q⟩
 rw [ki,kU]
 omega
noncomputable def za1:V->List V->Hp->VK->Prop:=fun x vs H Q=>∃ l b xs zs,x=.ref l/\vs=[.ref b]/\H l=some (.lst xs)/\H b=some (.lst zs)/\xs.length+zs.length<=sizeLine/\Q .non (upd H l (.lst (xs++zs)))
theorem QS:MtM X "list.extend" za1:=by
 intro pins s σ H x vs v us Q I rx rv h
 refine E_4 h fun l b xs zs n8=>A_6 n8 fun e9 n90 hH hB hz q=>?_;clear n8 h;subst e9;subst n90
 cases rx
 obtain ⟨u,rfl,ru⟩:=rv.one
 cases ru
 obtain ⟨z,its,n,r,hl,e⟩:=I.lstM hH
 obtain ⟨z2,its2,n2,r2,hl2,e2⟩:=I.lstM hB
 have hsz:its.toArray.size+its2.toArray.size<=sizeLine:=by rw [ku,ku];omega
 have hlong:¬ (!its.toArray.isEmpty && Builtin.List.listTooLong (its.toArray.size+its2.toArray.size))=true:=by
  rw [j6 hsz,bE]
  exact kF
 refine call_meets F.slot_list_extend ⟨_,e,rfl⟩ F.entry_list_extend (F.args_list_extend_2 _ _)
  (AutoSeq1.list_extend_list_list_0 l its.toArray n b its2.toArray n2 hlong (by rw [ku];omega) (by omega)) ⟨e,e2,?_⟩
 refine ⟨.non,_,I.lset (its':=its++its2) hH e (by simp) (r.append r2) ?_,rfl,q⟩
 rw [ki]
 omega
noncomputable def rPop:V->List V->Hp->VK->Prop:=fun x vs H Q=>∃ l xs y,x=.ref l/\vs=[]/\H l=some (.lst xs)/\xs[xs.length-1]?=some y/\Q y (upd H l (.lst xs.dropLast))
theorem Xq:MtM X "list.pop" rPop:=by
 intro pins s σ H x vs v us Q I rx rv h
 refine E_3 h fun l xs y n8=>A_5 n8 fun e9 n90 hH hy q=>?_;clear n8 h;subst e9;subst n90
 cases rx
 have hus:=rv.zero
 subst hus
 obtain ⟨z,its,n,r,hl,e⟩:=I.lstM hH
 obtain ⟨u,hu,ru⟩:=r.get hy
 have hy':its.toArray[its.toArray.size-1]?=some u:=by
  show its.toArray[its.length-1]?=some u
  rw [<- Array.getElem?_toList,<- hl]
  exact hu
 refine call_meets F.slot_list_pop ⟨_,e,rfl⟩ F.entry_list_pop (F.args_list_pop_1 _) (MeetsSeq.list_pop_last l its.toArray n u hy' (by rw [ku];omega)) ⟨e,?_⟩
 refine ⟨y,_,I.lset (its':=its.dropLast) hH e ?_ r.dropLast ?_,ru,q⟩
 ·show its.toArray.eraseIdxIfInBounds (its.toArray.size-1)=its.dropLast.toArray
  rw [ku,List.eraseIdxIfInBounds_toArray,Qd]
 ·rw [uG]
  omega
noncomputable def zb9:V->List V->Hp->VK->Prop:=fun x vs H Q=>∃ l xs i k y,x=.ref l/\vs=[.int i]/\H l=some (.lst xs) /\ -(2^63)<=i/\i<2^63/\seqIndex? i xs.length=some k/\xs[k]?=some y/\Q y (upd H l (.lst (xs.eraseIdx k)))
theorem JP:MtM X "list.pop" zb9:=by
 intro pins s σ H x vs v us Q I rx rv h
 refine E_5 h fun l xs i k y n8=>A_8 n8 fun e9 n90 hH h1 h2 hk hy q=>?_;clear n8 h;subst e9;subst n90
 cases rx
 obtain ⟨u,rfl,ru⟩:=rv.one
 obtain ⟨t,rfl⟩:=ru
 obtain ⟨z,its,n,r,hl,e⟩:=I.lstM hH
 obtain ⟨w,hw,rw'⟩:=r.get hy
 refine call_meets F.slot_list_pop ⟨_,e,rfl⟩ F.entry_list_pop (F.args_list_pop_2 _ _)
  (MeetsSeq.list_pop_at l its.toArray n i t k w (fitsIndex_both h1 h2) (by rw [ku,<- hl];exact hk) (by rw [<- Array.getElem?_toList];exact hw) (by rw [ku];omega)) ⟨e,?_⟩
 refine ⟨y,_,I.lset (its':=its.eraseIdx k) hH e ?_ (r.eraseIdx k) ?_,rw',q⟩
 ·show its.toArray.eraseIdxIfInBounds k=(its.eraseIdx k).toArray
  rw [List.eraseIdxIfInBounds_toArray]
 ·have:=Ys xs k
  omega
noncomputable def rCat:R2:=fun x y H Q=>∃ l b xs zs,x=.ref l/\y=.ref b/\H l=some (.lst xs)/\H b=some (.lst zs)/\xs.length+zs.length<=sizeLine/\∀ p,H p=none->Q (.ref p) (upd H p (.lst (xs++zs)))
theorem yX:OpR X (binaryOp .Add) rCat:=by
 intro pins s σ H x y v u Q I rx ry h
 refine E_4 h fun l b xs zs n8=>A_6 n8 fun e9 n90 hH hB hz q=>?_;clear n8 h;subst e9;subst n90
 cases rx
 cases ry
 obtain ⟨z,its,n,r,hl,e⟩:=I.lstM hH
 obtain ⟨z2,its2,n2,r2,hl2,e2⟩:=I.lstM hB
 refine PySem.P.add_list e e2 ?_ (by rw [ku,ku];omega)
 have ea:its.toArray++its2.toArray=(its++its2).toArray:=by simp
 rw [ea]
 exact ⟨.ref _,_,I.lnew (t':=s.toks) (r.append r2) (by rw [ki];omega),rfl,q _ I.fresh⟩
noncomputable def rRep:R2:=fun x y H Q=>∃ l k xs,x=.ref l/\y=.int k/\H l=some (.lst xs) /\ -(2^63)<=k/\k<2^63/\xs.length*k.toNat<=sizeLine /\
 ∀ p,H p=none->Q (.ref p) (upd H p (.lst (vp k.toNat xs).flatten))
theorem len_rep {α:Type} (xs:List α) (k:Nat):(vp k xs).flatten.length=k*xs.length:=by
 induction k with
 | zero=>simp
 | succ k ih=>rw [v6,vJ,ki,ih,Nat.succ_mul,Nat.add_comm]
theorem QT:OpR X (binaryOp .Mult) rRep:=by
 intro pins s σ H x y v u Q I rx ry h
 refine E_3 h fun l k xs n8=>A_7 n8 fun e9 n90 hH h1 h2 hz q=>?_;clear n8 h;subst e9;subst n90
 cases rx
 obtain ⟨t,rfl⟩:=ry
 obtain ⟨z,its,n,r,hl,e⟩:=I.lstM hH
 have hlen:its.toArray.size*k.toNat<=sizeLine:=by rw [ku,<- hl];exact hz
 have hcap:¬ its.toArray.size*k.toNat>(2^63-1) / 8:=by
  have:(sizeLine:Nat)<=(2^63-1) / 8:=by decide
  omega
 have hfit:¬ (!Builtin.List.listFitsIndex k)=true:=by
  rw [fitsIndex_both h1 h2]
  exact kF
 have hlong:¬ Builtin.List.listTooLong (its.toArray.size*k.toNat)=true:=by
  rw [j6 hlen]
  exact kF
 have hnew:List.foldl (fun x1 x2=>x1++x2) #[] (vp (if its.toArray.isEmpty=true then 0 else k.toNat) its.toArray)=(vp k.toNat its).flatten.toArray:=by
  have f0:∀ m:Nat,List.foldl (fun x1 x2=>x1++x2) #[] (vp m its.toArray)=(vp m its).flatten.toArray:=fun m=>by
   have:=foldl_rep its m []
   rw [List.nil_append] at this
   exact this
  rw [f0]
  cases its with
  | nil=>simp
  | cons a r'=>rw [if_neg (by simp)]
 refine wpAny_binaryOp_repeat_ref (T := "list") (U := "int") (by decide) ⟨_,e,rfl⟩ (fun s'=>typeIs_int s' k t) noFill_list_mul F.fills_int_mul F.slot_int_rmul repeat_list F.slot_int_index.lookup
  (call_meets F.slot_int_rmul (typeIs_int s k t) F.entry_int_rmul (F.args_int_rmul_2 _ _) (int___rmul___int_list k t l its.toArray n)
   ⟨e,rfl,⟨_,e,rfl⟩,call_meets F.slot_list_mul ⟨_,e,rfl⟩ F.entry_list_mul (F.args_list_mul_2 _ _) (AutoListH.list___mul___list_int_3 l its.toArray n k t hfit hcap hlong) ⟨e,?_⟩⟩)
 rw [hnew]
 exact ⟨.ref _,_,I.lnew (t':=s.toks) (r.rep k.toNat) (by rw [len_rep,Nat.mul_comm];exact hz),rfl,q _ I.fresh⟩
end
end _L2
namespace _Att
open PySem PySem.W PySem.Calls PyProof.Rows
theorem Zn {P:Params} {h:Heap}:∀ (ns:List Int) (vs:List Value),WellAll P h vs (ns.map WData.int)->IntsAre vs ns:=by
 intro ns
 induction ns with
 | nil =>
  intro vs w
  rw [List.map_nil] at w
  cases w
  exact .nil
 | cons n ns ih =>
  intro vs w
  rw [vj] at w
  cases w with
  | cons a b =>
   cases a
   exact .cons _ _ (ih _ b)
theorem QU {l:OpenLaw} {n:Nat} (hn:l.most=some n) {P:Params} {h:Heap} {args:List WData} {vals:List Value}
  (hpre:l.row.toRowW.claim.pre args=true) (hwl:WellAll P h vals args) :
  ∃ a vs ns,vals=[Value.ref a]/\args=[WData.list (ns.map WData.int)]/\h.get? a=some {cls:=.type "list",data:=.seq vs.toArray}/\IntsAre vs ns/\ns.length<=n:=by
 have hsh:WShape.hasAll [] args [.list .int]=true:=(pre_splitW hpre).1
 have hc:l.pre.holds [] {args:=args}=true:=(pre_splitW hpre).2
 obtain ⟨d,r,rfl,h1,h2⟩:=hasAllW_cons hsh
 obtain rfl:=hasAllW_nil h2
 obtain ⟨xs,rfl,h3⟩:=hasW_list h1
 obtain ⟨ns,rfl⟩:=items_int h3
 have hlen:ns.length<=n:=by
  unfold OpenLaw.pre at hc
  have h4:(WTm.not (.lt (.lit (.int (n:Int))) (.len (.arg 0)))).holds [] {args:=[.list (ns.map .int)]}=true:=by
   have h4:=(holds_andW hc).1
   rw [hn] at h4
   exact h4
  have h5:=condW_of h4 (w_not (w_lt w_lit (w_len_list (w_arg rfl))))
  rw [ke] at h5
  refine Nat.le_of_not_lt fun q=>?_
  have q':(n:Int)<((ns.length:Nat):Int):=by omega
  first
   | (rw [decide_eq_true q'] at h5;exact absurd h5 (by decide))
   | (simp at h5;omega)
 cases hwl with
 | cons w1 w2 =>
  cases w2
  cases w1 with
  | list ho hall=>exact ⟨_,_,ns,rfl,rfl,ho,Zn ns _ hall,hlen⟩
theorem QV (l:OpenLaw) (args:List WData):l.row.toRowW.claim.post args (.bool true) args=true :=
 postW_of (r:=l.row.toRowW) (X:=(true == true))
  (show WShape.has [] (.bool true) .bool=true by first | rfl | decide | simp [WShape.has,WShape.arms,WShape.armsAll])
  (show (WTm.eq .res (.lit (.bool true))).value [] {args:=args,res:=some (.bool true),after:=args}=some (.bool (true == true)) from w_eq_bool (w_res rfl) w_lit) rfl
theorem Ws {l:OpenLaw} {n:Nat} {q:Program} {loose:List Str} {XP:(Str->Option Value)->Heap->Prop} {YP:World->Heap->Prop} {d:DefRec}
  (hn:l.most=some n) (hdf:d.params.defaults=[])
  (call:∀ (w:World) (s₀ s₁:Shared) (mg mb:Str->Option Value) (fa:Addr) (o:Obj) (pm cd doc:Value) (a:Addr) (vs:List Value) (ns:List Int),
   Ground q loose [] XP w s₀ mg mb s₁.heap->YP w s₁.heap ->
   s₁.heap.get? fa=some o->o.data=.func (docDef d.name d.params d.body d.scope pm cd doc)->s₁.heap.CodeRec cd d.name->mg d.name=some (.ref fa) ->
   s₁.heap.get? a=some {cls:=.type "list",data:=.seq vs.toArray}->IntsAre vs ns->ns.length<=n->s₁.gens=#[] ->
   codeAny (model l.prog w) callerA (.call (.ref fa) ⟨[.ref a],[]⟩) (fun r s'=>r=.ok (.ret (.bool true))/\OldK s₁.heap s'.heap/\s'.os=s₁.os/\AllBare s'.gens) s₁) :
  WalkO q loose XP YP l.row.toRowW d [] (fun f vs=>PySem.call f vs):=by
 intro w s₀ s₁ mg mb G Y fa o pm cd doc dV kV ho hd hcd hD hmg hg args vals as hpre hlay hrd hwl hlo
 obtain rfl:dV=.none:=Dflts.none hD hdf
 obtain rfl:kV=.none:=Dflts.noKw hD
 obtain ⟨a,vs,ns,rfl,rfl,hobj,hints,hlen⟩:=QU hn hpre hwl
 refine enter_call (codeAny_mono (call w s₀ s₁ mg mb fa o pm cd doc a vs ns G Y ho (fd_plain hd) hcd hmg hobj hints hlen hg) fun r s' hq=>?_)
 obtain ⟨rfl,h2,h3,h4⟩:=hq
 exact ⟨.inl ⟨.bool true,.bool true,[],rfl,fun _=>rfl,.bool true,QV l _,fun _=>⟨List.Pairwise.nil,fun _ hm=>(nomatch hm)⟩⟩,h2,h3,h4⟩
end _Att
namespace _L2
open PySem PySem.Spec PyProof.Rows
theorem Yt:∀ {vs:List Value} {ns:List Int},IntsAre vs ns->Vals (ns.map V.int) vs
 | _,_,.nil=>.nil
 | _,_,.cons n t h=>.cons ⟨t,rfl⟩ (Yt h)
noncomputable def Only (H:Hp):Prop:=∀ b,H b=none\/∃ o xs,H b=some (.frz o (.lst xs))
theorem JQ {P:Program} {w:World} {K:Frag} {mg mb:Str->Option Value} {CX:CXT} {k:Nat} {fa a:Addr} {fd:FuncData} {x:Str} {sp:Sp} {s₁:Shared} {vs:List Value} {ns:List Int}
  (KX:K.In s₁.heap) (hns:s₁.heap.Ns mainGlobals mg) (hb:s₁.heap.Ns builtinsNs mb) (hbb:∀ x:Str,x ≠ "__name__" -> mb x=bootBuiltins x) (hlim:s₁.heap.NoLimit) (hg:s₁.gens=#[])
  (ha:s₁.heap.get? a=some {cls:=.type "list",data:=.seq vs.toArray}) (hi:IntsAre vs ns) (hl:ns.length<=sizeLine) (hr:Room k callerA)
  (F:∀ base:Heap,K.In base->base.Ns mainGlobals mg->FnOk P w K mg base CX k fa fd [x] sp) (hbind:∀ (s:Shared) (u:Value),BindsTo s fd ⟨[u],[]⟩ [(x,u)])
  (hsp:∀ H:Hp,Only H->SqL K H a (ns.map V.int)->sp [.ref a] H (fun v _=>v=.bl true) fun _ _ _=>False)
  (hCX:∀ H e s',CX [] H s₁ (fun _ _ _=>False) e s'->False) :
  codeAny (model P w) callerA (.call (.ref fa) ⟨[.ref a],[]⟩) (fun r s'=>r=.ok (.ret (.bool true))/\OldK s₁.heap s'.heap/\s'.os=s₁.os/\AllBare s'.gens) s₁:=by
 have rv:=Yt hi
 have lenV:=hi.length
 -- from an abstract heap in which nothing but the script may be tracked
 have core:∀ H:Hp,Only H->SqL K H a (ns.map V.int)->HOk P w H s₁.heap->(∀ b,H b≠none->b=a)->(H a≠none->K.lookup a=none) ->
   codeAny (model P w) callerA (.call (.ref fa) ⟨[.ref a],[]⟩) (fun r s'=>r=.ok (.ret (.bool true))/\OldK s₁.heap s'.heap/\s'.os=s₁.os/\AllBare s'.gens) s₁:=by
  intro H hO hS hok hA hK
  have base_of:∀ {b:Addr} {o:Obj},s₁.heap.get? b=some o->H b=none->(hidT s₁.heap H).get? b=some o:=fun e n=>JK e n
  have noA:∀ {b:Addr} {o:Obj} {es:Array DictEntry} {ep:Nat},s₁.heap.get? b=some o->o.data=.dict es ep->H b=none:=fun {b o es ep} e d=>by
   cases q:H b with
   | none=>rfl
   | some u =>
    have e':b=a:=hA b (by rw [q];simp)
    subst e'
    rw [ha] at e;cases e
    have d':Data.seq vs.toArray _=Data.dict es ep:=d
    cases d'
  have nsK:∀ {b:Addr} {m:Str->Option Value},s₁.heap.Ns b m->(hidT s₁.heap H).Ns b m:=fun {b m} ⟨o,es,ep,e,d,r⟩=>⟨o,es,ep,base_of e (noA e d),d,r⟩
  have hKb:K.In (hidT s₁.heap H):=fun b o e=>base_of (KX b o e) (by
   cases q:H b with
   | none=>rfl
   | some u =>
    have e':b=a:=hA b (by rw [q];simp)
    subst e'
    rw [hK (by rw [q];simp)] at e;cases e)
  have hM:Mod K mg (hidT s₁.heap H):=⟨hKb,nsK hns,⟨mb,nsK hb,hbb⟩,let ⟨mc,h1,h2⟩:=hlim;⟨mc,nsK h1,h2⟩⟩
  have e0:Env0 P w K mg (hidT s₁.heap H) callerA [] s₁ H:=⟨rfl,hM,fun b o e=>zaU e,uf (QE _ _),trivial,fun b hb=>absurd (show b∈([]:List Addr) from hb) (by simp),hok,.of_eq hg⟩
  refine codeAny_mono ((F _ hKb (nsK hns)).run callerA [] s₁ H ⟨[.ref a],[]⟩ [.ref a] [.ref a] _ _ hr e0 (hbind s₁ (.ref a)) (.cons rfl .nil) (hsp H hO hS)) fun r s' h=>?_
  cases r with
  | error e=>exact (hCX H e s' h).elim
  | ok fl =>
   cases fl with
   | next=>exact False.elim h
   | brk=>exact False.elim h
   | cont=>exact False.elim h
   | ret u =>
    obtain ⟨v,H',os,bare,un,hok',r',q⟩:=h
    have q':v=.bl true:=q
    subst q'
    obtain rfl:u=Value.bool true:=r'
    refine ⟨rfl,OldK.of_keep fun b o e=>?_,os,bare⟩
    cases q:H b with
    | none=>exact un.keep b o e q (by intro z;exact absurd (show b∈([]:List Addr) from z) (by simp)) (by simp)
    | some u =>
     rcases hO b with z | ⟨ob,xs,z⟩
     ·rw [q] at z;cases z
     ·have z2:=un.frzs b ob _ z
      obtain ⟨e1,_⟩:=hok b _ z
      obtain ⟨e2,_⟩:=hok' b _ z2
      rw [e] at e1;cases e1
      exact e2
 cases hk:K.lookup a with
 | some o =>
  -- the script is one of the module's own objects
  have e:=KX a o hk
  rw [ha] at e
  cases e
  refine core (fun _=>none) (fun _=>.inl rfl) (.inr ⟨_,vs.toArray,_,hk,rfl,rfl,rfl,by rw [ku,lenV];exact hl,by simpa using rv⟩) (fun b u z=>by have z':(none:Option HO)=some u:=z;cases z') (fun b z=>absurd rfl z) fun z=>absurd rfl z
 | none =>
  refine core (fun b=>if b=a then some (.frz {cls:=.type "list",data:=.seq vs.toArray} (.lst (ns.map V.int))) else none) (fun b=>?_) (.inl (.inr ⟨{cls:=.type "list",data:=.seq vs.toArray},if_pos rfl⟩)) (fun b u z=>?_) (fun b z=>?_) fun _=>hk
  ·by_cases hb:b=a
   ·exact .inr ⟨_,_,if_pos hb⟩
   ·exact .inl (if_neg hb)
  ·by_cases hb:b=a
   ·have z':=(if_pos hb).symm.trans z
    cases z'
    subst hb
    exact ⟨ha,by rw [ke];exact hl,vs,_,rv,ha⟩
   ·have z':=(if_neg hb).symm.trans z
    cases z'
  ·by_cases hb:b=a
   ·exact hb
   ·exact absurd (if_neg hb) z
theorem za2 {l:PySem.W.OpenLaw} {n k:Nat} {q:Program} {loose:List Str} {XP:(Str->Option Value)->Heap->Prop} {YP:World->Heap->Prop} {d:DefRec} {K:Params->Frag} {CX:World->CXT} {sp:World->Sp} {x:Str}
  (hn:l.most=some n) (hn2:n<=sizeLine) (hdf:d.params.defaults=[]) (hr:Room k callerA)
  (hY:∀ (w:World) (h:Heap),YP w h->(K w.params).In h)
  (F:∀ (w:World) (mg:Str->Option Value) (fa:Addr) (h:Heap),(K w.params).In h->h.Ns mainGlobals mg->mg d.name=some (.ref fa) ->
   ∃ fd:FuncData,(∀ (s:Shared) (u:Value),BindsTo s fd ⟨[u],[]⟩ [(x,u)]) /\
    ∀ base:Heap,(K w.params).In base->base.Ns mainGlobals mg->FnOk l.prog w (K w.params) mg base (CX w) k fa fd [x] (sp w))
  (hsp:∀ (w:World) (H:Hp) (a:Addr) (ns:List Int),ns.length<=n->Only H->SqL (K w.params) H a (ns.map V.int)->sp w [.ref a] H (fun v _=>v=.bl true) fun _ _ _=>False)
  (hCX:∀ (w:World) (H:Hp) (s:Shared) (e:Value) (s':Shared),CX w [] H s (fun _ _ _=>False) e s'->False) :
  PySem.W.WalkO q loose XP YP l.row.toRowW d [] (fun f vs=>PySem.call f vs):=by
 refine _Att.Ws hn hdf fun w s₀ s₁ mg mb fa o pm cd doc a vs ns G Y ho hd hcd hmg hobj hints hlen hg=>?_
 have KX:=hY w _ Y
 obtain ⟨fd,hb,hF⟩:=F w mg fa _ KX G.T.g hmg
 exact JQ KX G.T.g G.T.b G.T.builtins G.T.nolimit hg hobj hints (km hlen hn2) hr hF hb (fun H hO hS=>hsp w H a ns hlen hO hS) fun H e s'=>hCX w H s₁ e s'
theorem JR {l:PySem.W.OpenLaw} {n k:Nat} {q:Program} {loose:List Str} {XP:(Str->Option Value)->Heap->Prop} {YP:World->Heap->Prop} {d:DefRec} {K:Params->Frag} {CX:CXT} {sp:Frag->Sp} {x:Str}
  (hn:l.most=some n) (hn2:n<=sizeLine) (hdf:d.params.defaults=[]) (hr:Room k callerA)
  (hY:∀ (w:World) (h:Heap),YP w h->(K w.params).In h)
  (F:∀ (w:World) (mg:Str->Option Value) (fa:Addr) (h:Heap),(K w.params).In h->h.Ns mainGlobals mg->mg d.name=some (.ref fa) ->
   ∃ fd:FuncData,(∀ (s:Shared) (u:Value),BindsTo s fd ⟨[u],[]⟩ [(x,u)]) /\
    ∀ base:Heap,(K w.params).In base->base.Ns mainGlobals mg->FnOk l.prog w (K w.params) mg base CX k fa fd [x] (sp (K w.params)))
  (hsp:∀ (K:Frag) (H:Hp) (a:Addr) (ns:List Int),ns.length<=n->Only H->SqL K H a (ns.map V.int)->sp K [.ref a] H (fun v _=>v=.bl true) fun _ _ _=>False)
  (hCX:∀ (H:Hp) (s:Shared) (e:Value) (s':Shared),CX [] H s (fun _ _ _=>False) e s'->False) :
  PySem.W.WalkO q loose XP YP l.row.toRowW d [] (fun f vs=>PySem.call f vs) :=
 za2 (K:=K) (CX:=fun _=>CX) (sp:=fun w=>sp (K w.params)) hn hn2 hdf hr hY F (fun w H a ns h1 h2 h3=>hsp (K w.params) H a ns h1 h2 h3) fun _ H s e s'=>hCX H s e s'
noncomputable def zB (s:Stmt):Arguments:=match s with
 | .FunctionDef _ a _ _ _ _ _ _ _ _=>a
 | _=>{posonlyargs:=[],args:=[],vararg:=none,kwonlyargs:=[],kw_defaults:=[],kwarg:=none,defaults:=[]}
noncomputable def zx (s:Stmt):List Stmt:=match s with
 | .FunctionDef _ _ b _ _ _ _ _ _ _=>b
 | _=>[]
noncomputable def zg (s:Stmt):Scope:=match s with
 | .FunctionDef _ _ _ _ _ _ sc _ _ _=>sc
 | _=>{kind:=.function,names:=[],isGenerator:=false,isCoroutine:=false}
abbrev CX0:CXT:=fun _ _ _ _ _ _=>False
abbrev E0:XK:=fun _ _ _=>False
theorem zG {X:Cx}:jb CX0 X E0:=fun _ _ _ _ _ _ _ h=>h.elim
structure Fun (K:Frag) (x qual:Str) (st:Stmt) (f:Addr) (fd:FuncData):Prop where
 ex:∃ (oc:Value) (od:Option Addr) (kV doc pm:Value) (an:Option Addr) (cdv ct:Value) (osl:Array (Option Value)),
  fd=kJ x qual (zB st) (zx st) (zg st) .none kV doc pm an cdv ct/\K.lookup f=some ⟨oc,od,.func fd,osl⟩/\kG K cdv qual=true
 kp:kE K (.ref f)=true
section
variable {P:Program} {w:World} {K:Frag} {mg:Str->Option Value} {base:Heap}
theorem Fun.ok {x qual:Str} {st:Stmt} {f:Addr} {fd:FuncData} {N ps:List Str} {k:Nat} {sp:Sp} (F:Fun K x qual st f fd) (S:zC N ps (zg st)) (len:∀ vs H Q E,sp vs H Q E->vs.length=ps.length)
  (hbody:∀ (cdv:Value) (A:Around) (outer:List Env) (s:Shared) (H:Hp) (vs:List V) (Q:VK) (E:XK),Room k (A.deeper (envOfC qual (zg st) s.heap.objs.size f cdv))->sp vs H Q E ->
   ∃ t,PSs (cxOf CX0 P w K mg base N qual (zg st) f cdv A outer s H E).nox (zx st) t/\t {nx:=fun _ H'=>Q .non H',rt:=Q} (start N vs) H):FnOk P w K mg base CX0 (k+1) f fd ps sp:=by
 obtain ⟨oc,od,kV,doc,pm,an,cdv,ct,osl,rfl,lk,hcd⟩:=F.ex
 refine zaH lk hcd S len fun A outer s H vs Q E hr hsp=>?_
 obtain ⟨t,h,q⟩:=hbody cdv A outer s H vs Q E hr hsp
 exact ⟨t,h.nox,q⟩
theorem Fun.binds {x qual:Str} {st:Stmt} {f:Addr} {fd:FuncData} {ps:List Str} (F:Fun K x qual st f fd)
  (h:∀ (kV doc pm:Value) (an:Option Addr) (cdv ct:Value) (us:List Value),us.length=ps.length->bindArgs (kJ x qual (zB st) (zx st) (zg st) .none kV doc pm an cdv ct) ⟨us,[]⟩=pure (ps.zip us)):Binds K fd ps []:=by
 obtain ⟨oc,od,kV,doc,pm,an,cdv,ct,osl,rfl,lk,hcd⟩:=F.ex
 exact .all (h kV doc pm an cdv ct)
theorem zH {x qual:Str} {st:Stmt} {f:Addr} {oc:Value} {od an:Option Addr} {osl:Array (Option Value)} {kV doc pm cdv ct:Value} (l:K.lookup f=some ⟨oc,od,.func (kJ x qual (zB st) (zx st) (zg st) .none kV doc pm an cdv ct),osl⟩)
  (c:kG K cdv qual=true) (k:kE K (.ref f)=true):Fun K x qual st f (kJ x qual (zB st) (zx st) (zg st) .none kV doc pm an cdv ct):=⟨⟨oc,od,kV,doc,pm,an,cdv,ct,osl,rfl,l,c⟩,k⟩
end
section
variable {X:Cx}
theorem pv (i:Nat) {x:Str} {pos:Pos} (hN:X.N[i]?=some x:=by rfl) (hv:Vis X.env.scope x:=by first | exact Or.inl rfl | exact Or.inr (Or.inl rfl) | exact Or.inr (Or.inr rfl)) (hd:(x == ("__debug__" : Str))=false:=by decide)
  (hcd:(x == ("__classdict__" : Str))=false:=by decide):PE X (.Name x pos) (tVar i):=zb2 hN hv hd hcd
end
theorem iteF {A B:Prop} (h:B):if false=true then A else B:=by
 rw [if_neg kF]
 exact h
theorem iteT {A B:Prop} (h:A):if true=true then A else B:=by
 rw [if_pos rfl]
 exact h
theorem ite2 {c A B:Prop} [Decidable c] (h1:c->A) (h2:¬ c->B):if c then A else B:=by
 by_cases h:c
 ·rw [if_pos h]
  exact h1 h
 ·rw [if_neg h]
  exact h2 h
noncomputable def Same (H H':Hp):Prop:=∀ b o,H b=some o->H' b=some o
theorem Same.refl (H:Hp):Same H H:=fun _ _ h=>h
theorem Same.trans {H H1 H2:Hp} (a:Same H H1) (b:Same H1 H2):Same H H2:=fun c o h=>b c o (a c o h)
theorem Same.free {H H':Hp} (e:Same H H') {l:Addr} (h:H' l=Option.none):H l=Option.none:=by
 cases q:H l with
 | none=>rfl
 | some o =>
  rw [e l o q] at h
  cases h
theorem Same.seq {K:Frag} {H H':Hp} {a:Addr} {xs:List V} (e:Same H H') (h:SqL K H a xs):SqL K H' a xs:=by
 rcases h with (h | ⟨o,h⟩) | h
 ·exact .inl (.inl (e _ _ h))
 ·exact .inl (.inr ⟨o,e _ _ h⟩)
 ·exact .inr h
theorem PS.nox {X:Cx} {st:Stmt} {t:TS} (h:PS X.nox st t):PS X st t:=fun pins s σ H D I hw =>
 wpAny_mono (h pins s σ H D (I.wish _) hw) (fun _ _ q=>q.unwish) fun _ _ z=>False.elim z
theorem yo.some_ {P:Program} {w:World} {H:Hp} {h:Heap} {a:Addr} {o:HO} (x:yo P w H h a o):∃ ob,h.get? a=some ob:=by
 cases o with
 | lst xs=>obtain ⟨_,_,_,_,e⟩:=x;exact ⟨_,e⟩
 | tup xs=>obtain ⟨_,_,_,ob,e,_⟩:=x;exact ⟨_,e⟩
 | dK kvs=>obtain ⟨_,_,_,_,o,_,_,e,_⟩:=x;exact ⟨_,e⟩
 | dT kvs=>obtain ⟨_,_,_,_,o,_,_,e,_⟩:=x;exact ⟨_,e⟩
 | set S n=>obtain ⟨o,_,_,_,e,_⟩:=x;exact ⟨_,e⟩
 | ins C dx fs=>obtain ⟨_,_,_,e,_⟩:=x;exact ⟨_,e⟩
 | own y=>obtain ⟨_,e⟩:=x;exact ⟨_,e⟩
 | xd fs=>obtain ⟨_,⟨_,_,_,e,_⟩,_⟩:=x;exact ⟨_,e⟩
 | rng lo hi=>obtain ⟨_,_,_,e⟩:=x;exact ⟨_,e⟩
 | frz ob u=>obtain ⟨e,_⟩:=x;exact ⟨_,e⟩
 | tbl ps=>exact ⟨_,(show h.get? a=some _ from x)⟩
 | met f y=>exact ⟨_,(show h.get? a=some _ from x)⟩
 | ext φ=>obtain ⟨_,⟨_,e⟩,_⟩:=x;exact ⟨_,e⟩
theorem Inv.there {X:Cx} {pins:List (Addr×Obj)} {σ:St} {H:Hp} {s:Shared} (I:Inv X pins σ H s) {a:Addr} {o:HO} (e:H a=some o):∃ ob,s.heap.get? a=some ob:=(I.hok a o e).some_
theorem Inv.none_of {X:Cx} {pins:List (Addr×Obj)} {σ:St} {H:Hp} {s:Shared} (I:Inv X pins σ H s) {a:Addr} (e:s.heap.get? a=none):H a=none:=by
 cases q:H a with
 | none=>rfl
 | some o =>
  obtain ⟨ob,z⟩:=I.there q
  rw [e] at z
  cases z
structure Fly (h0 h:Heap) (H:Hp) (C ea T:Addr):Prop where
 ob:∃ (oe:Obj) (vs:Array Value) (a0:Value) (oT:Obj) (ts:Array Value),h.get? ea=some oe/\oe.cls=.ref C/\oe.data=.fields vs/\vs[0]?=some a0/\vs[1]?=some (.ref T)/\h.get? T=some oT/\oT.data=.fields ts/\ts[3]?=some .none
 ne:T≠ea
 fe:H ea=none
 fT:H T=none
 ne0:h0.get? ea=none
 nT0:h0.get? T=none
noncomputable def CXE (P:Program) (w:World):CXT:=fun outer H s E e s'=>∃ (ea T C:Addr) (H':Hp),e=.ref ea/\s'.os=s.os/\AllBare s'.gens/\Un (frs outer) [] H H' s.heap s'.heap/\HOk P w H' s'.heap/\Fly s.heap s'.heap H' C ea T/\E (.ref C) none H'
theorem zca {P:Program} {w:World} {X:Cx}:jb (CXE P w) X E0:=fun _ _ _ _ _ _ _ ⟨_,_,_,_,_,_,_,_,_,_,z⟩=>z.elim
structure Exc (K:Frag) (mg:Str->Option Value) (x:Str) (C:Addr):Prop where
 bound:mg x=some (.ref C)
 ex:uM K C [.type "ValueError",.type "Exception",.type "BaseException",.type "object"] "ValueError.__new__" = true
theorem za3 {K:Frag} {h:Heap} {C:Addr} {bmB:List Value} {newId:String} (X:K.In h) (q:uM K C bmB newId=true) :
  ∃ bm N nm qn bs hdct sn sub ab col dd k0 k1 k2 k3 k5 mN,h.get? C=some (excClassObj nm qn C N bs bm hdct sn sub ab col dd k0 k1 k2 k3 k5 newId)/\h.Ns N mN/\mN "__init__" = none/\OwnTail h bmB bm:=by
 unfold uM at q
 split at q
 case h_2=>cases q
 case h_1 dd cd sl ho =>
  split at q
  case h_2=>cases q
  case h_1 C' bm k0 k1 k2 k3 n k5 hm hs =>
   simp only [vx,beq_iff_eq,Bool.not_eq_true'] at q
   obtain ⟨⟨⟨⟨⟨e1,e2⟩,e3⟩,e4⟩,e5⟩,e6⟩:=q
   subst e1 e2
   cases cd with
   | mk nm bs mro ns qn hd sn sub ab col del =>
    have hsl:sl=#[k0,k1,k2,k3,some (.builtin n),k5]:=by rw [<- Array.toList_inj];exact hs
    simp only at hm e3 e5 e6
    subst hm e3 hsl
    exact ⟨bm,ns,nm,qn,bs,hd,sn,sub,ab,col,dd,k0,k1,k2,k3,k5,_,X _ _ ho,.of_isNs (PySem.W.isNs_of_in X e5),PySem.W.nsMap_none_of_in X e5 e6,PySem.W.tail_of_in X e4⟩
noncomputable def zcb (C:Addr) (t:TA) (E:XK):TS:=fun _ σ H=>t σ H fun xs H1=>xs.length<=sizeLine/\E (.ref C) none H1
theorem Inv.hid {X:Cx} {pins:List (Addr×Obj)} {σ:St} {H:Hp} {s:Shared} (I:Inv X pins σ H s) (as:List Addr) (hs:∀ b∈frs X.stack,b∈as):s.heap.FunFrames (PySem.W.hideAll s.heap as) X.stack :=
 PySem.W.funFrames_hide I.stack fun env he a hf=>hs a (List.mem_filterMap.mpr ⟨env,he,hf⟩)
section
variable {P:Program} {w:World} {K:Frag} {mg:Str->Option Value} {base:Heap} {N:List Str} {qual:Str} {scope:Scope} {f:Addr} {cd:Value} {A:Around} {outer:List Env} {s₀:Shared} {H₀:Hp} {E:XK}
theorem Wt {pins:List (Addr×Obj)} {σ:St} {H:Hp} {s:Shared} {C e:Addr} {vs:List Value} {h':Heap} (I:Inv (cxOf (CXE P w) P w K mg base N qual scope f cd A outer s₀ H₀ E) pins σ H s)
  (hx:Heap.MadeExcOf s.heap h' e (.ref C) vs) (q:E (.ref C) none H):(cxOf (CXE P w) P w K mg base N qual scope f cd A outer s₀ H₀ E).xe (.ref e) {s with heap:=h'}:=by
 have hin:∀ b∈frs (envOfC qual scope s₀.heap.objs.size f cd::outer),b∈frs (envOfC qual scope s₀.heap.objs.size f cd::outer):=fun _ z=>z
 have ff:=I.hid _ hin
 show wpAny _ _ (leaving _ _) _ _ _
 refine wpAny_leaves_madeW (base:=PySem.W.hideAll s.heap (frs (envOfC qual scope s₀.heap.objs.size f cd::outer))) (h:=s.heap) I.ok.frames rfl (fun b o z=>PySem.W.of_hideAll _ z) ff hx fun h2 t fl tt tn up=>?_
 have inB:∀ b o,b∉frs (envOfC qual scope s₀.heap.objs.size f cd::outer)->s.heap.get? b=some o->h2.get? b=some o:=fun b o nb z=>fl.1 b o (bv _ z nb)
 have upS:∀ b o,b∈frs (envOfC qual scope s₀.heap.objs.size f cd::outer)->s.heap.get? b=some o->∃ sl,h2.get? b=some {o with slots:=sl}:=fun b o nb z=>by
  obtain ⟨_,o',z',hd⟩:=I.stack.mem nb
  rw [z] at z'
  cases z'
  exact up b o (hx.keeps b o z) hd
 have notL:∀ b o,s₀.heap.get? b=some o->b∉frs outer->b∉frs (envOfC qual scope s₀.heap.objs.size f cd::outer):=fun b o z nb m=>by
  rcases kY.mp (I.stkSub b m) with z' | z'
  ·have:=Heap.lt_size z
   have z':b=s₀.heap.objs.size:=z'
   rw [z'] at this
   exact vK _ this
  ·exact nb z'
 have thr:∀ b o,s.heap.get? b=some o->∃ o',h2.get? b=some o':=fun b o z=>by
  by_cases hb:b∈frs (envOfC qual scope s₀.heap.objs.size f cd::outer)
  ·obtain ⟨sl,z'⟩:=upS b o hb z
   exact ⟨_,z'⟩
  ·exact ⟨o,inB b o hb z⟩
 obtain ⟨_,_,_,oe,vs',T,oT,ts,a1,⟨a2,a3⟩,a4,a5,a6,a7,a8,a9,a10⟩:=fl
 have noT:s.heap.get? T=none:=by
  cases z:s.heap.get? T with
  | none=>rfl
  | some o =>
   by_cases hb:T∈frs (envOfC qual scope s₀.heap.objs.size f cd::outer)
   ·obtain ⟨_,o',z',hd⟩:=I.stack.mem hb
    obtain ⟨sl,z2⟩:=upS T o hb z
    rw [z] at z'
    cases z'
    rw [a8] at z2
    cases z2
    exact absurd a9 (hd ts)
   ·rw [bv _ z hb] at a6
    cases a6
 have no0:∀ b,s.heap.get? b=none->s₀.heap.get? b=none:=fun b z=>by
  cases y:s₀.heap.get? b with
  | none=>rfl
  | some o =>
   obtain ⟨o',z'⟩:=I.base.there b o y (fun m=>nomatch m)
   rw [z] at z'
   cases z'
 refine ⟨e,T,C,H,rfl,I.os,I.bare,⟨fun b o z n nb _=>?_,fun b o z n nb _=>?_,fun b o z n _=>I.base.free b o z n (fun m=>nomatch m),fun b o z _=>?_,I.base.tups,I.base.frzs,I.base.tbls⟩,fun a o z=>?_,
  ⟨⟨oe,vs',.ref t,oT,ts,a1,a2,a4,a3,a5,a8,a9,a10⟩,a7,I.none_of hx.new,I.none_of noT,no0 _ hx.new,no0 _ noT⟩,q⟩
 ·exact inB b o (notL b o z nb) (I.base.keep b o z n nb (fun m=>nomatch m))
 ·obtain ⟨sl,z1⟩:=I.base.slot b o z n nb (fun m=>nomatch m)
  obtain ⟨sl',z2⟩:=upS b _ (by
   show b∈frs _
   unfold frs
   rw [uc]
   exact kq _ nb) z1
  exact ⟨sl',z2⟩
 ·obtain ⟨o',z'⟩:=I.base.there b o z (fun m=>nomatch m)
  exact thr b o' z'
 ·refine (I.hok a o z).stay (fun b u hb r=>?_) (fun _ y=>y) fun _ _ y=>y
  refine inB b u (fun m=>?_) r
  have:=I.stkFree b m
  rcases hb with rfl | hb
  ·rw [z] at this;cases this
  ·rw [hb] at this;cases this
theorem xP {x:Str} {C:Addr} {e:Expr} {es:List Expr} {t:TA} {np cpos pos:Pos} (ex:Exc K mg x C) (hh:A.handled=none) (hg:Gl (cxOf (CXE P w) P w K mg base N qual scope f cd A outer s₀ H₀ E) x)
  (ha:PA (cxOf (CXE P w) P w K mg base N qual scope f cd A outer s₀ H₀ E) (e::es) t)
  (hs:starEach (e::es) (envOfC qual scope s₀.heap.objs.size f cd)=(false,eval e (envOfC qual scope s₀.heap.objs.size f cd))::starEach es (envOfC qual scope s₀.heap.objs.size f cd):=by rfl)
  (hpl:(backTo cpos (starEach es (envOfC qual scope s₀.heap.objs.size f cd))).any (·.1)=false:=by rfl) (hd:(x == ("__debug__" : Str))=false:=by decide) :
  PS (cxOf (CXE P w) P w K mg base N qual scope f cd A outer s₀ H₀ E) (.Raise (some (.Call (.Name x np) (e::es) [] cpos)) none pos) (zcb C t E):=by
 intro pins s σ H D I h
 obtain ⟨bm,N',nm,qn,bs,hdct,sn,sub,ab,col,dd,k0,k1,k2,k3,k5,mN,hC,hN,hni,TL⟩:=za3 (h:=base) I.mod.kin ex.ex
 refine wpAny_Raise_call_subT (C:=C) (nm:=nm) (q:=qn) (N:=N') (bs:=bs) (bm:=bm) (hdct:=hdct) (sn:=sn) (sub:=sub) (ab:=ab) (col:=col) (dd:=dd) (k0:=k0) (k1:=k1) (k2:=k2) (k3:=k3) (k5:=k5)
  PySem.F.excBase_ValueError (mN:=mN) (TL.hasType PySem.F.excBase_ValueError.hasBase) hh (by
   show (backTo cpos (starEach (e::es) (envOfC qual scope s₀.heap.objs.size f cd))).any (·.1)=false
   rw [hs]
   show (false || (backTo cpos (starEach es (envOfC qual scope s₀.heap.objs.size f cd))).any (·.1))=false
   rw [hpl]
   rfl) hni (w6 I hg ex.bound ⟨rfl,?_⟩ hd)
 have h1:=ha cpos pins s σ H _ I h
 show wpAny _ _ (evalArgs (.ref C) true (backTo cpos (starEach (e::es) (envOfC qual scope s₀.heap.objs.size f cd))) []) _ _ _
 have h1:wpAny _ _ (spliced (backTo cpos (starEach (e::es) (envOfC qual scope s₀.heap.objs.size f cd)))) _ _ s:=h1
 rw [hs] at h1 ⊢
 refine Calls.evalArgs_plain (wpAny_mono h1 (fun us s2 ⟨xs,H2,I2,r,z,q⟩=>⟨rfl,?_,I2.bk _ _ hC,hN.keeps I2.bk,TL.keeps I2.bk,fun h' e' hx=>?_⟩) fun _ _ y=>y)
 ·rw [<- r.length];exact z
 ·exact Wt I2 hx q
end
theorem Fun.okE {P:Program} {w:World} {K:Frag} {mg:Str->Option Value} {base:Heap} {x qual:Str} {st:Stmt} {f:Addr} {fd:FuncData} {N ps:List Str} {k:Nat} {sp:Sp} (F:Fun K x qual st f fd) (S:zC N ps (zg st)) (len:∀ vs H Q E,sp vs H Q E->vs.length=ps.length)
  (hbody:∀ (cdv:Value) (A:Around) (outer:List Env) (s:Shared) (H:Hp) (vs:List V) (Q:VK) (E:XK),Room k (A.deeper (envOfC qual (zg st) s.heap.objs.size f cdv))->A.handled=none->sp vs H Q E ->
   ∃ t,PSs (cxOf (CXE P w) P w K mg base N qual (zg st) f cdv A outer s H E) (zx st) t/\t {nx:=fun _ H'=>Q .non H',rt:=Q} (start N vs) H):FnOk P w K mg base (CXE P w) (k+1) f fd ps sp:=by
 obtain ⟨oc,od,kV,doc,pm,an,cdv,ct,osl,rfl,lk,hcd⟩:=F.ex
 exact zaH lk hcd S len fun A outer s H vs Q E hr hsp=>hbody cdv A outer s H vs Q E hr hr.hd hsp
theorem Inv.track {X:Cx} {pins:List (Addr×Obj)} {σ:St} {H:Hp} {s:Shared} {p:Addr} {o:HO} (I:Inv X pins σ H s) (hn:H p=none) (h0:X.s₀.heap.get? p=none) (hl:p≠X.env.locals)
  (hc:∀ x c,X.env.cells.lookup x=some c->c≠p) (hp:∀ q∈X.pn++pins,q.1≠p) (new:yo X.prog X.w (upd H p o) s.heap p o):Inv X pins σ (upd H p o) s where
 ok:=I.ok
 os:=I.os
 bare:=I.bare
 base:=⟨I.base.keep,I.base.slot,fun b ob e n hx=>by
   rw [zp (fun z=>by rw [z,h0] at e;cases e)]
   exact I.base.free b ob e n hx,I.base.there,
  fun b xs e=>by rw [zp (zO (I.base.tups b xs e) hn)];exact I.base.tups b xs e,
  fun b ob u e=>by rw [zp (zO (I.base.frzs b ob u e) hn)];exact I.base.frzs b ob u e,
  fun b ps e=>by
   obtain ⟨m,z⟩:=I.base.tbls b ps e
   exact ⟨m,by rw [zp (zO z hn)];exact z⟩⟩
 loc:=I.loc
 cell:=I.cell
 free:=by rw [zp hl.symm];exact I.free
 freeC:=fun x c e=>by rw [zp (hc x c e)];exact I.freeC x c e
 pin:=fun q m=>by
  obtain ⟨a,b,c⟩:=I.pin q m
  exact ⟨a,by rw [zp (hp q m)];exact b,c⟩
 hok:=fun b u e=>by
  by_cases hb:b=p
  ·subst hb
   rw [zd] at e
   cases e
   exact new
  ·rw [zp hb] at e
   exact (I.hok b u e).stay (fun _ _ _ q=>q) (fun c q=>by rw [zp (zO q hn)];exact q) fun c xs q=>by rw [zp (zO q hn)];exact q
 len:=I.len
theorem getD_at {α:Type} {xs:List α} {i:Nat} {d:α} (h:i<xs.length):xs.getD i d=xs[i]:=by
 rw [kP,kh h]
 rfl
section
variable {X:Cx}
theorem xQ {ns:List Int} {its:List Value} (r:Vals (ns.map V.int) its):∀ (i:Nat) (v:Value),its.toArray[i]?=some v->∃ t,v=Value.int (ns.getD i 0) t:=by
 intro i v e
 rw [List.getElem?_toArray] at e
 have hl:=r.length
 have hi:i<its.length:=(kg.mp e).1
 rw [ke] at hl
 have hx:(ns.map V.int)[i]?=some (.int (ns.getD i 0)):=by
  rw [va,kh (by omega)]
  simp [List.getD,show i<ns.length by omega]
 obtain ⟨u,hu,ru⟩:=r.get hx
 rw [e] at hu
 cases hu
 exact ru
theorem j7 {ns:List Int} {k:Nat} (h:k<ns.length):ns.getD k 0∈ns:=by
 rw [getD_at h]
 exact vF h
theorem Xr {ns:List Int} {z:Int} (h:z∈ns):∃ j,j<ns.length/\ns.getD j 0=z:=by
 obtain ⟨j,hj,e⟩:=ug.mp h
 exact ⟨j,hj,by rw [getD_at hj];exact e⟩
theorem yY {xs:List V} {us:List Value} (r:Vals xs us) {j:Nat} (h1:j<us.length):RelV (xs.getD j .non) us[j]:=by
 have hl:=r.length
 obtain ⟨u,hu,ru⟩:=r.get (i:=j) (x:=xs.getD j .non) (by rw [kh (by omega),getD_at (by omega)])
 rw [kh h1] at hu
 cases hu
 exact ru
end
end _L2
namespace _Srt
open PySem.W PyProof.Rows
noncomputable def Run (key:Nat->Int) (n:Nat) {α:Type} (Q:α->Prop):KasT α->Prop
 | .ret a=>Q a
 | .ask i j k=>i<n/\j<n/\Run key n Q (k (decide (key i<key j)))
theorem Run.mono {key:Nat->Int} {n:Nat} {α:Type} {Q Q':α->Prop} (h:∀ a,Q a->Q' a):∀ (t:KasT α),Run key n Q t->Run key n Q' t
 | .ret a,x=>h a x
 | .ask _ _ k,⟨a,b,x⟩=>⟨a,b,Run.mono h _ x⟩
theorem Run.bind {key:Nat->Int} {n:Nat} {α β:Type} {Q:β->Prop} {f:α->KasT β}:∀ (t:KasT α),Run key n (fun a=>Run key n Q (f a)) t->Run key n Q (t.bind f)
 | .ret a,x=>x
 | .ask _ _ k,⟨a,b,x⟩=>⟨a,b,Run.bind _ x⟩
theorem n1 {m f n:Nat} (h:m+(f+1)<=n):m<n:=vh (Nat.lt_add_of_pos_right (uH f)) h
theorem n2 {m f n:Nat} (h:m+(f+1)<=n):m-1<n:=vi (uu m 1) (n1 h)
theorem n3 (m f:Nat):m+1+f=m+(f+1):=by rw [Nat.add_assoc,Nat.add_comm 1 f]
theorem n3' {m f n:Nat} (h:m+(f+1)<=n):m+1+f<=n:=(n3 m f).symm ▸ h
theorem n4 {i m:Nat} (h:i<m+1) (e:¬ i=m):i<m:=uS (v5 h) e
theorem n6 {r m f:Nat} (h:r<=m+1+f):r<=m+(f+1):=n3 m f ▸ h
theorem n7 {r m f:Nat} (h:r=m+1+f):r=m+(f+1):=n3 m f ▸ h
theorem n8 {i m:Nat} (a:m<=i) (b:i<m+1):i=m:=Nat.le_antisymm (v5 b) a
section
variable {key:Nat->Int} {n:Nat}
structure Ord (n:Nat) (p:Array Nat):Prop where
 sz:p.size=n
 pm:p.Perm (uZ (vo n))
theorem Ord.lt {p:Array Nat} (o:Ord n p) {i:Nat} (h:i<n):p.getD i 0<n:=by
 have hi:i<p.size:=by rw [o.sz];exact h
 have e:p.getD i 0=p[i]:=by simp [Array.getD,hi]
 have m:p[i]∈p:=Array.getElem_mem hi
 have m2:p[i]∈(uZ (vo n)):=(Array.Perm.mem_iff o.pm).mp m
 rw [e]
 simpa using m2
noncomputable def kv (key:Nat->Int) (p:Array Nat) (i:Nat):Int:=key (p.getD i 0)
theorem wH {p q:Array Nat} {i j:Nat} (h:p[i]?=q[j]?):kv key p i=kv key q j:=by
 unfold kv
 rw [Array.getD_eq_getD_getElem?,Array.getD_eq_getD_getElem?,h]
theorem Ord.rev {p:Array Nat} (o:Ord n p) (i j:Nat):Ord n (kas_rev p i j):=⟨by unfold kas_rev;rw [mirror_size];exact o.sz,(mirror_perm _ _ _ _).trans o.pm⟩
theorem Ord.bub {p:Array Nat} (o:Ord n p) (i j:Nat):Ord n (bubble p i j):=⟨by rw [bubble_size];exact o.sz,(bubble_perm _ _ _).trans o.pm⟩
theorem Zo {p:Array Nat} {i j:Nat} (hj:j<=p.size) (k:Nat):kv key (kas_rev p i j) k=if i<=k/\k<j then kv key p (i+j-1-k) else kv key p k:=by
 have e:=getElem?_mirror_all (i:=i) hj k
 unfold kas_rev
 by_cases h:i<=k/\k<j
 ·rw [if_pos h] at e ⊢;exact wH e
 ·rw [if_neg h] at e ⊢;exact wH e
theorem QW {p:Array Nat} {src d:Nat} (hs:src<p.size) (hd:d<=src) (k:Nat):kv key (bubble p src d) k=if k=src-d then kv key p src else if src-d<k/\k<=src then kv key p (k-1) else kv key p k:=by
 have e:=getElem?_bubble hs d hd k
 by_cases h1:k=src-d
 ·rw [if_pos h1] at e ⊢;exact wH e
 ·rw [if_neg h1] at e ⊢
  by_cases h2:src-d<k/\k<=src
  ·rw [if_pos h2] at e ⊢;exact wH e
  ·rw [if_neg h2] at e ⊢;exact wH e
noncomputable def Up (key:Nat->Int) (p:Array Nat) (m:Nat):Prop:=∀ i,1<=i->i<m->kv key p (i-1)<=kv key p i
noncomputable def Down (key:Nat->Int) (p:Array Nat) (m:Nat):Prop:=∀ i,1<=i->i<m->kv key p i<=kv key p (i-1)
theorem Up.le {p:Array Nat} {m:Nat} (u:Up key p m):∀ {i j:Nat},i<=j->j<m->kv key p i<=kv key p j:=by
 intro i j h hj
 induction j with
 | zero=>(have:i=0:=uV.mp h;subst this;exact vU _)
 | succ j ih =>
  by_cases e:i=j+1
  ·subst e;exact vU _
  ·exact uh (ih (v5 (uS h e)) (Nat.lt_of_succ_lt hj)) (u (j+1) (vB (ve j)) hj)
theorem Down.le {p:Array Nat} {m:Nat} (u:Down key p m):∀ {i j:Nat},i<=j->j<m->kv key p j<=kv key p i:=by
 intro i j h hj
 induction j with
 | zero=>(have:i=0:=uV.mp h;subst this;exact vU _)
 | succ j ih =>
  by_cases e:i=j+1
  ·subst e;exact vU _
  ·exact uh (u (j+1) (vB (ve j)) hj) (ih (v5 (uS h e)) (Nat.lt_of_succ_lt hj))
theorem ZS {p:Array Nat} (o:Ord n p):∀ (f m:Nat),1<=m->m+f<=n->Up key p m->Run key n (fun r=>m<=r/\r<=m+f/\Up key p r/\(r=m+f\/(r<n/\kv key p r<kv key p (r-1)))) (kas_asc p f m)
 | 0,m,h1,h2,u=>⟨kf _,kf _,u,.inl rfl⟩
 | f+1,m,h1,h2,u=>by
  refine ⟨o.lt (n1 h2),o.lt (n2 h2),?_⟩
  by_cases c:key (p.getD m 0)<key (p.getD (m-1) 0)
  ·rw [decide_eq_true c];dsimp only;(try rw [if_pos rfl])
   exact ⟨kf _,bh _ _,u,.inr ⟨n1 h2,c⟩⟩
  ·rw [decide_eq_false c];dsimp only;(try rw [if_neg kF])
   have u':Up key p (m+1):=fun i i1 i2=>by
    by_cases e:i=m
    ·subst e;exact Int.not_lt.mp c
    ·exact u i i1 (n4 i2 e)
   refine Run.mono (fun r ⟨a,b,d,e⟩=>⟨ui a,n6 b,d,?_⟩) _ (ZS o f (m+1) (vB (ve m)) (n3' h2) u')
   rcases e with e | e
   ·exact .inl (n7 e)
   ·exact .inr e
noncomputable def Flat (key:Nat->Int) (p:Array Nat) (m q:Nat):Prop:=q+1<=m/\∀ i,m-(q+1)<=i->i<m->kv key p i=kv key p (m-1)
theorem Xs {p:Array Nat} {m q:Nat} (hm:m<=p.size) (f:Flat key p m q) (k:Nat):kv key (kas_rev p (m-(q+1)) m) k=kv key p k:=by
 rw [Zo hm]
 split
 ·rename_i h
  rw [f.2 k h.1 h.2,f.2 _ (by omega) (by omega)]
 ·rfl
theorem qI:∀ (f:Nat) (p:Array Nat) (m q:Nat),Ord n p->m+f<=n->Down key p m->Flat key p m q ->
  Run key n (fun r=>Ord n r.1/\m<=r.2.1/\r.2.1<=n/\Down key r.1 r.2.1/\Flat key r.1 r.2.1 r.2.2) (kas_desc f p m q)
 | 0,p,m,q,o,h,d,fl=>⟨o,kf _,h,d,fl⟩
 | f+1,p,m,q,o,h,d,fl=>by
  have h1:1<=m:=km (vB (ve q)) fl.1
  refine ⟨o.lt (n1 h),o.lt (n2 h),?_⟩
  by_cases c:key (p.getD m 0)<key (p.getD (m-1) 0)
  ·rw [decide_eq_true c];dsimp only;(try rw [if_pos rfl])
   by_cases hq:q>0
   ·rw [if_pos hq]
    have kr:=Xs (key:=key) (p:=p) (m:=m) (q:=q) (by rw [o.sz];exact vI (n1 h)) fl
    refine Run.mono (fun r h9=>by obtain ⟨a,b,e⟩:=h9;exact (⟨a,ui b,e⟩)) _ (qI f _ (m+1) 0 (o.rev _ _) (n3' h) (fun i i1 i2=>?_) ⟨vB (ve m),fun i i1 i2=>?_⟩)
    ·rw [kr,kr]
     by_cases e:i=m
     ·subst e;exact bC c
     ·exact d i i1 (n4 i2 e)
    ·have:i=m:=n8 i1 i2
     subst this;rfl
   ·rw [if_neg hq]
    refine Run.mono (fun r h9=>by obtain ⟨a,b,e⟩:=h9;exact (⟨a,ui b,e⟩)) _ (qI f _ (m+1) 0 o (n3' h) (fun i i1 i2=>?_) ⟨vB (ve m),fun i i1 i2=>?_⟩)
    ·by_cases e:i=m
     ·subst e;exact bC c
     ·exact d i i1 (n4 i2 e)
    ·have:i=m:=n8 i1 i2
     subst this;rfl
  ·rw [decide_eq_false c];dsimp only;(try rw [if_neg kF])
   refine ⟨o.lt (n2 h),o.lt (n1 h),?_⟩
   by_cases c2:key (p.getD (m-1) 0)<key (p.getD m 0)
   ·rw [decide_eq_true c2];dsimp only;(try rw [if_pos rfl])
    exact ⟨o,kf _,vI (n1 h),d,fl⟩
   ·rw [decide_eq_false c2];dsimp only;(try rw [if_neg kF])
    have ee:kv key p m=kv key p (m-1):=bu (Int.not_lt.mp c2) (Int.not_lt.mp c)
    refine Run.mono (fun r h9=>by obtain ⟨a,b,e⟩:=h9;exact (⟨a,ui b,e⟩)) _ (qI f _ (m+1) (q+1) o (n3' h) (fun i i1 i2=>?_) ⟨vB fl.1,fun i i1 i2=>?_⟩)
    ·by_cases e:i=m
     ·subst e;rw [ee];exact vU _
     ·exact d i i1 (n4 i2 e)
    ·show kv key p i=kv key p m
     by_cases e:i=m
     ·subst e;rfl
     ·rw [ee];exact fl.2 i (by rw [Nat.succ_sub_succ] at i1;exact i1) (n4 i2 e)
noncomputable def Good (key:Nat->Int) (n:Nat) (r:Nat×Array Nat):Prop:=Ord n r.2/\1<=r.1/\r.1<=n/\Up key r.2 r.1
theorem Yu {p:Array Nat} {m:Nat} (o:Ord n p) (h1:1<=m) (h:m<=n) (d:Down key p m):Run key n (Good key n) (kas_tail3 m n p):=by
 have e9:m+(n-m)=n:=uK h
 refine Run.bind _ (Run.mono (fun r h9=>by obtain ⟨a,b,e,_⟩:=h9;exact (⟨o.rev _ _,km h1 a,km b (uf e9),e⟩)) _ (ZS (o.rev 0 m) (n-m) m h1 (uf e9) fun i i1 i2=>?_))
 have i3:i-1<m:=vi (uu i 1) i2
 rw [Zo (by rw [o.sz];exact h),Zo (by rw [o.sz];exact h),if_pos ⟨ve _,i3⟩,if_pos ⟨ve _,i2⟩]
 exact d.le (Nat.sub_le_sub_left (uu i 1) _) (vi (uu _ _) (by rw [Nat.zero_add];exact Nat.sub_lt h1 Nat.one_pos))
theorem je {p:Array Nat} {m:Nat} (o:Ord n p) (h1:1<=m) (h:m+1<=n) (d:Down key p (m+1)):Run key n (Good key n) (kas_descPart m n p):=by
 have fl0:Flat key p (m+1) 0:=⟨vB (ve m),fun i i1 i2=>by
  have e:i=m:=n8 i1 i2
  rw [e];rfl⟩
 refine Run.bind _ (Run.mono (fun r ⟨a,b,c,e,f⟩=>?_) _ (qI (n-(m+1)) p (m+1) 0 o (by rw [uK h];exact kf _) d fl0))
 by_cases q:r.2.2>0
 ·rw [if_pos q]
  have kr:=Xs (key:=key) (p:=r.1) (m:=r.2.1) (q:=r.2.2) (by rw [a.sz];exact c) f
  exact Yu (a.rev _ _) (km (vB (ve m)) b) c fun i i1 i2=>by rw [kr,kr];exact e i i1 i2
 ·rw [if_neg q]
  exact Yu a (km (vB (ve m)) b) c e
theorem QX {p:Array Nat} (o:Ord n p) (h:1<=n):Run key n (Good key n) (kas_count n p):=by
 refine Run.bind _ (Run.mono (fun r ⟨a,b,c,e⟩=>?_) _ (ZS o (n-1) 1 (kf _) (by rw [uK h];exact kf _) fun i i1 i2=>absurd i1 (Nat.not_le.mpr i2)))
 have h9:1+(n-1)=n:=uK h
 rw [h9] at b e
 by_cases q:(r == n)=true
 ·rw [if_pos q]
  exact ⟨o,a,b,c⟩
 ·rw [if_neg q]
  have q':r≠n:=fun z=>q (by rw [z];exact beq_self_eq_true n)
  have e':r<n/\kv key p r<kv key p (r-1):=by
   rcases e with e | e
   ·exact absurd e q'
   ·exact e
  split
  ·rename_i hr
   refine ⟨o.lt h,o.lt (vi (uu r 1) e'.1),?_⟩
   by_cases c2:key (p.getD 0 0)<key (p.getD (r-1) 0)
   ·rw [decide_eq_true c2];dsimp only;(try rw [if_pos rfl])
    exact ⟨o,a,b,c⟩
   ·rw [decide_eq_false c2];dsimp only;(try rw [if_neg kF])
    have fl:∀ i,i<r->kv key p i=kv key p 0:=fun i hi=>by
     have x1:=c.le (i:=0) (j:=i) (ve i) hi
     have x2:=c.le (i:=i) (j:=r-1) (Nat.le_sub_one_of_lt hi) (Nat.sub_lt a Nat.one_pos)
     have x3:kv key p (r-1)<=kv key p 0:=Int.not_lt.mp c2
     exact bu (uh x2 x3) x1
    have kr:∀ k,kv key (kas_rev p 0 r) k=kv key p k:=fun k=>by
     rw [Zo (by rw [o.sz];exact b)]
     split
     ·rename_i hk
      rw [fl _ (vi (uu _ k) (by rw [Nat.zero_add];exact Nat.sub_lt a Nat.one_pos)),fl k hk.2]
     ·rfl
    refine je (o.rev _ _) a e'.1 fun i i1 i2=>?_
    rw [kr,kr]
    by_cases z:i=r
    ·subst z;exact bC e'.2
    ·rw [fl i (n4 i2 z),fl (i-1) (vi (uu i 1) (n4 i2 z))];exact vU _
  ·have hr:r=1:=by omega
   refine je o a e'.1 fun i i1 i2=>?_
   have:i=r:=by omega
   subst this
   exact bC e'.2
theorem mid_ {l r:Nat} (h:l<r):(l+r) / 2<r/\l<=(l+r) / 2:=by omega
theorem zc9 {l r f m:Nat} (a:m<r) (h:r-l<=f+1):m-l<=f:=by omega
theorem zda {l r f m:Nat} (a:l<=m) (h:r-l<=f+1):r-(m+1)<=f:=by omega
theorem jf {p:Array Nat} {k:Nat} (o:Ord n p) (hk:k<n) (u:Up key p k):∀ (f l r:Nat),l<=r->r<=k->r-l<=f->(∀ i,i<l->kv key p i<=kv key p k)->(∀ i,r<=i->i<k->kv key p k<kv key p i) ->
  Run key n (fun m=>m<=k/\(∀ i,i<m->kv key p i<=kv key p k)/\(∀ i,m<=i->i<k->kv key p k<kv key p i)) (kas_place p k f l r)
 | 0,l,r,h1,h2,h3,a,b=>⟨km h1 h2,a,fun i i1 i2=>b i (km (Nat.le_of_sub_eq_zero (uV.mp h3)) i1) i2⟩
 | f+1,l,r,h1,h2,h3,a,b=>by
  unfold kas_place
  by_cases c:l≥r
  ·rw [if_pos c]
   exact ⟨km h1 h2,a,fun i i1 i2=>b i (km c i1) i2⟩
  ·rw [if_neg c]
   have hm:(l+r) / 2<r/\l<=(l+r) / 2:=mid_ (Nat.not_le.mp c)
   have hmk:=vh hm.1 h2
   refine ⟨o.lt hk,o.lt (Nat.lt_trans hmk hk),?_⟩
   by_cases c2:key (p.getD k 0)<key (p.getD ((l+r) / 2) 0)
   ·rw [decide_eq_true c2];dsimp only;(try rw [if_pos rfl])
    refine jf o hk u f l _ hm.2 (vI hmk) (zc9 hm.1 h3) a fun i i1 i2=>?_
    exact Int.lt_of_lt_of_le c2 (u.le i1 i2)
   ·rw [decide_eq_false c2];dsimp only;(try rw [if_neg kF])
    refine jf o hk u f _ r hm.1 h2 (zda hm.2 h3) (fun i i1=>?_) b
    exact uh (u.le (j:=(l+r) / 2) (v5 i1) hmk) (Int.not_lt.mp c2)
theorem WG:∀ (f:Nat) (p:Array Nat) (k:Nat),Ord n p->1<=k->k+f=n->Up key p k->Run key n (fun r=>Ord n r/\Up key r n) (kas_bin f p k)
 | 0,p,k,o,h1,h,u=>by
  have:k=n:=h
  subst this
  exact ⟨o,u⟩
 | f+1,p,k,o,h1,h,u=>by
  have hk:k<n:=n1 (uf h)
  refine Run.bind _ (Run.mono (fun m ⟨a,b,c⟩=>?_) _ (jf o hk u k 0 k (ve k) (kf _) (uu k 0) (fun i hi=>absurd hi (Nat.not_lt_zero i)) fun i i1 i2=>absurd i1 (Nat.not_le.mpr i2)))
  refine WG f _ (k+1) (o.bub _ _) (vB (ve k)) ((n3 k f).trans h) fun i i1 i2=>?_
  rw [QW (by rw [o.sz];exact hk) (uu k m),QW (by rw [o.sz];exact hk) (uu k m),Nat.sub_sub_self a]
  have ik:i<=k:=v5 i2
  have il:i-1<i:=Nat.sub_lt i1 Nat.one_pos
  rcases Nat.lt_trichotomy i m with q | q | q
  ·rw [if_neg (vz (Nat.lt_trans il q)),if_neg (fun z=>Nat.lt_asymm q (Nat.lt_trans z.1 il)),if_neg (vz q),if_neg (fun z=>Nat.lt_asymm q z.1)]
   exact u i i1 (vh q a)
  ·subst q
   rw [if_neg (vz il),if_neg (fun z=>Nat.lt_asymm il z.1),if_pos rfl]
   exact b _ il
  ·rw [if_neg (show ¬ i=m from ue q),if_pos (show m<i/\i<=k from ⟨q,ik⟩)]
   by_cases z:i-1=m
   ·rw [if_pos z,z]
    exact bC (c m (kf _) (vh q ik))
   ·have w:=uS (Nat.le_sub_one_of_lt q) (Ne.symm z)
    rw [if_neg z,if_pos ⟨w,vI (vh il ik)⟩]
    exact u (i-1) (km (vB (ve m)) w) (vh il ik)
theorem JS (h:1<=n):Run key n (fun r=>Ord n r/\Up key r n) (kas_sort n):=by
 refine Run.bind _ (Run.mono (fun r ⟨a,b,c,d⟩=>?_) _ (QX ⟨by simp,Array.Perm.refl _⟩ h))
 split
 ·have e:max r.1 1=r.1:=by omega
  rw [e]
  exact WG _ _ _ a b (by omega) d
 ·have e:r.1=n:=by omega
  rw [e] at d
  exact ⟨a,d⟩
end
end _Srt
namespace _L2
open PySem PySem.Spec PyProof.Rows PySem.W
theorem Yv {key:Nat->Int} {n:Nat} {α:Type} {cmp:Nat->Nat->(Bool->Shared->Prop)->Shared->Prop} {s:Shared} {Q:α->Prop}
  (hc:∀ i j C,i<n->j<n->C (decide (key i<key j)) s->cmp i j C s):∀ (t:KasT α),_Srt.Run key n Q t->t.kasWp cmp (fun a s'=>Q a/\s'=s) s
 | .ret a,x=>⟨x,rfl⟩
 | .ask i j k,⟨h1,h2,x⟩=>hc i j _ h1 h2 (Yv hc _ x)
section
variable {X:Cx} {pins:List (Addr×Obj)} {σ:St} {H:Hp} {s:Shared}
structure Zp (X:Cx) (pins:List (Addr×Obj)) (b:Addr):Prop where
 lo:b≠X.env.locals
 fs:b∉X.fs
 ge:b∈X.ex\/X.s₀.heap.objs.size<=b
 ce:∀ x c,X.env.cells.lookup x=some c->c≠b
 pi:∀ p∈X.pn++pins,p.1≠b
theorem Inv.young (I:Inv X pins σ H s) {b:Addr} (hb:s.heap.objs.size<=b):Zp X pins b:=by
 obtain ⟨_,a1,a2,a3,a4,a5⟩:=I.fpOk (b:=b) hb (H':=fun _=>none) rfl
 exact ⟨a1,a2,a3,a4,a5⟩
theorem Inv.record (I:Inv X pins σ H s) {b:Addr} {h':Heap} (y:Zp X pins b) (hn:H b=none) (hs:Heap.SameBut b s.heap h'):Inv X pins σ H {s with heap:=h'} :=
 I.turned (t':=s.toks) (fun c o nc e=>(hs.2 c nc).trans e) hn y.lo y.ge y.ce y.pi
end
open Builtin.Getset_descriptor
noncomputable def yS (ea C:Addr):Heap->Prop:=fun h=>∃ o,h.get? ea=some o/\o.cls=.ref C
theorem yS.ok {P:Program} {w:World} {H:Hp} {h:Heap} {ea C:Addr} (x:yS ea C h):yo P w H h ea (.ext (yS ea C)) :=
 ⟨x,let ⟨o,e,_⟩:=x;⟨o,e⟩,fun _ _ ⟨o,e,c⟩ k=>⟨o,k o e,c⟩⟩
theorem yS.ty {M:Model} {h:Heap} {ea C:Addr} (x:yS ea C h):Looks M h (typeOf (.ref ea)) (.ref C):=by
 obtain ⟨o,e,c⟩:=x
 rw [<- c]
 exact (Looks.ld e).andThen .now
section
variable {prog:Program} {w:World} {A:Around} {E:Value->Shared->Prop} {K:Frag} {x C:Addr}
theorem YU {s:Shared} {tp:Value} {R:Result->Shared->Prop} (X:K.In s.heap) (J:yS x C s.heap) (hm:mroIn K C (.type "object")=some true) (q:R (.ok (.ret (.ref C))) s) :
  codeAny (model prog w) A (.call (.builtin "getset_descriptor.__get__") ⟨[.builtin "object.__class__",.ref x,tp],[]⟩) R s:=by
 obtain ⟨h0,g0,d0,t0,o0⟩:=s
 have LT:=J.ty (M:=model prog w)
 have LM:=looks_mroIn (M:=model prog w) X hm
 refine codeAny_call_builtin KF.slot_gs.plain KF.entry_gs ?_
 refine KF.slot_gs.check _ _ _ _ _ _ _ _ KF.type_class (KF.args_gs _ _ _) ?_
 unfold Builtin.«getset_descriptor.__get__»
 unfold descrGet
 rw [dga_obj]
 refine wpAny_bind ?_
 refine wpAny_pure ?_
 unfold descrGetter
 unfold descrCheckInstance
 unfold descrNameAndClass
 unfold isInstance
 simp only [KF.owner_class]
 repeat lk
 refine ⟨Code.quiet_builtin _ (by decide +kernel),?_⟩
 refine codeAny_builtin KF.entry_class ?_
 unfold Builtin.«object.__class__»
 unfold shownTypeOf
 repeat lk
 exact q
structure xj (K:Frag) (C:Addr):Prop where
 ga:findIn K (.ref C) "__getattribute__" = some (some (.builtin "BaseException.__getattribute__"))
 gn:findIn K (.ref C) "__getattr__" = some none
 ha:findIn K (.ref C) "__class__" = some (some (.builtin "object.__class__"))
 hn:specialIn K (.builtin "object.__class__") "__get__" = some (some (.builtin "getset_descriptor.__get__"))
 tk:takesIn K (.builtin "object.__class__")=some true
 mo:mroIn K C (.type "object")=some true
 mb:mroIn K C (.type "BaseException")=some true
 ty:typeIn K (.ref C)=some (.type "type")
 cl:(clsIn K C).isSome=true
theorem JU {M:Model} {h:Heap} (X:K.In h) (J:yS x C h) (c:xj K C):Looks M h (Builtin.ObjectAttr.find (.ref x) (.ref C) "__class__") (.bind (.builtin "getset_descriptor.__get__") (.builtin "object.__class__")):=by
 have L1:=looks_findIn (M:=M) X c.ha
 have _L2:Looks M h (Builtin.ObjectAttr.getOf (some (.builtin "object.__class__"))) (some (.builtin "getset_descriptor.__get__")):=looks_specialIn X c.hn
 have L3:=looks_takesIn (M:=M) X c.tk
 exact L1.andThen (_L2.andThen ((show Looks M h (Builtin.ObjectAttr.dataDescriptor? (some (.builtin "object.__class__")) (some (.builtin "getset_descriptor.__get__"))) (some (.builtin "getset_descriptor.__get__",.builtin "object.__class__")) from L3.andThen .now).andThen (Looks.tag .now)))
theorem QY {s:Shared} {tk:Tok} {R:Result->Shared->Prop} (X:K.In s.heap) (J:yS x C s.heap) (c:xj K C) (q:R (.ok (.ret (.ref C))) s) :
  codeAny (model prog w) A (.call (.builtin "BaseException.__getattribute__") ⟨[.ref x,.str "__class__" tk],[]⟩) R s:=by
 obtain ⟨h0,g0,d0,t0,o0⟩:=s
 have LT:=J.ty (M:=model prog w)
 have LF:=JU (M:=model prog w) X J c
 have LB:=looks_mroIn (M:=model prog w) X c.mb
 refine codeAny_call_builtin PySem.F.attr_ValueError.ga.plain PySem.F.entry_bexc_ga ?_
 have hk:builtinKind "BaseException.__getattribute__" = some .slot:=by decide +kernel
 have hsp:splitId "BaseException.__getattribute__" = some ("BaseException","__getattribute__"):=by decide +kernel
 have hao:=PySem.F.args_bexc_ga (.ref x) (.str "__class__" tk)
 simp only [checkBuiltinCall,hk,hsp]
 refine wpAny_bind ?_
 unfold isInstance
 repeat (any_goals (first | assumption | with_reducible refine Looks.at (by assumption) ?_ | wp_step))
 refine YU X J c.mo ?_
 repeat (any_goals (first | assumption | wp_step))
theorem JV {s:Shared} {Q:Option Value->Shared->Prop} (X:K.In s.heap) (J:yS x C s.heap) (c:xj K C) (q:Q (some (.ref C)) {s with toks:=s.toks+1}):wpAny (model prog w) A (getAttr? (.ref x) "__class__") Q E s:=by
 obtain ⟨h0,g0,d0,t0,o0⟩:=s
 have LT:=J.ty (M:=model prog w)
 have L1:=looks_findIn (M:=model prog w) X c.ga
 have _L2:=looks_findIn (M:=model prog w) X c.gn
 have f3:=PySem.F.attr_ValueError.ga.bind (.ref x)
 have hx2:(Value.builtin "BaseException.__getattribute__" == Value.builtin "object.__getattribute__")=false:=by decide +kernel
 have hx1:(onTheHeap (Value.ref C) && Value.builtin "BaseException.__getattribute__" == Value.builtin "object.__getattribute__")=false:=by rw [hx2];rfl
 unfold getAttr? getAttrBy?
 repeat (any_goals (first | assumption | with_reducible refine Looks.at (by assumption) ?_ | wp_step))
 refine QY X J c ?_
 repeat (any_goals (first | assumption | wp_step))
theorem Wu {s:Shared} {P:Addr} {Q:Bool->Shared->Prop} (X:K.In s.heap) (J:yS x C s.heap) (c:xj K P) (hm:mroIn K C (.ref P)=some true) (q:Q true s):wpAny (model prog w) A (excMatches (.ref x) (.ref P)) Q E s:=by
 obtain ⟨h0,g0,d0,t0,o0⟩:=s
 have LT:=J.ty (M:=model prog w)
 have LP:=looks_typeIn (M:=model prog w) X c.ty
 have LM:=looks_mroIn (M:=model prog w) X hm
 have LB:=looks_mroIn (M:=model prog w) X c.mb
 have LI:Looks (model prog w) h0 (isType (.ref P)) true:=by
  obtain ⟨cd,hc⟩:=uk.mp c.cl
  unfold clsIn at hc
  split at hc
  ·rename_i a1 a2 a3 a4 ho
   intro A' Q' E' s' k z
   unfold isType loadHead
   exact wpAny_bind (wpAny_loadPart (k _ _ (X _ _ ho)) (wpAny_pure z))
  ·cases hc
 have LN:Looks (model prog w) h0 (isSubtype (.type "type") (.type "tuple")) false:=Looks.of_pure tc_notTuple
 unfold excMatches isInstance isExcClass
 repeat lk
 exact q
theorem JX (c:xj K C):KitX K (.ref x) (.ref C) (yS x C) where
 ty:=fun _ _ _ J=>J.ty
 it:=fun M h X _=>by
  obtain ⟨cd,hc⟩:=uk.mp c.cl
  unfold clsIn at hc
  split at hc
  ·rename_i a1 a2 a3 a4 ho
   intro A' Q' E' s' k z
   unfold isType loadHead
   exact wpAny_bind (wpAny_loadPart (k _ _ (X _ _ ho)) (wpAny_pure z))
  ·cases hc
 ne:=fun h tp dd its n sl X htp=>by
  obtain ⟨cd,hc⟩:=uk.mp c.cl
  refine Bool.eq_false_iff.mpr fun q=>?_
  obtain rfl:C=tp:=Value.ref.inj (beq_iff_eq.mp q)
  unfold clsIn at hc
  split at hc
  ·rename_i a1 a2 a3 a4 ho
   have z:=(X _ _ ho).symm.trans htp
   cases z
  ·cases hc
 ca:=fun X J k=>JV X J c k
end
end _L2
namespace _L2
open PySem PySem.Spec PyProof.Rows PySem.W
structure zaJ (X:Cx) (pins:List (Addr×Obj)) (h:Heap) (H:Hp) (C ea T:Addr):Prop where
 ob:∃ (oe:Obj) (vs:Array Value) (a0:Value) (oT:Obj) (ts:Array Value),h.get? ea=some oe/\oe.cls=.ref C/\oe.data=.fields vs/\vs[0]?=some a0/\vs[1]?=some (.ref T)/\h.get? T=some oT/\oT.data=.fields ts/\ts[3]?=some .none
 ne:T≠ea
 fe:H ea=none
 fT:H T=none
 s0:X.s₀.heap.get? ea=none/\X.s₀.heap.get? T=none
 lo:X.env.locals≠ea/\X.env.locals≠T
 ce:∀ x c,X.env.cells.lookup x=some c->c≠ea/\c≠T
 pi:∀ p∈X.pn++pins,p.1≠ea/\p.1≠T
theorem Inv.exc {X:Cx} {pins:List (Addr×Obj)} {σ:St} {H:Hp} {s:Shared} {h':Heap} {C ea T:Addr} (I:Inv X pins σ H s) (f:zaJ X pins s.heap H C ea T)
  (k1:∀ b o,b∉frs X.stack->b≠ea->b≠T->s.heap.get? b=some o->h'.get? b=some o) (k2:∀ b o,b∈frs X.stack->s.heap.get? b=some o->∃ sl,h'.get? b=some {o with slots:=sl}) :
  Inv X pins σ H {s with heap:=h'}:=by
 have old:∀ b o,X.s₀.heap.get? b=some o->b≠ea/\b≠T/\b≠X.env.locals:=fun b o e =>
  ⟨(fun z=>by rw [z,f.s0.1] at e;cases e),(fun z=>by rw [z,f.s0.2] at e;cases e),vz (vh (Heap.lt_size e) I.ok.above)⟩
 have nst:∀ b,b≠X.env.locals->b∉X.fs->b∉frs X.stack:=fun b n1 n2 m=>(kY.mp (I.stkSub b m)).elim n1 n2
 have sst:∀ b,b∈X.fs->b∈frs X.stack:=fun b m=>by
  rcases I.ok.stk with e | ⟨e,hf⟩
  ·rw [e];exact m
  ·rw [e]
   unfold frs
   rw [uc,hf]
   exact kq _ m
 have any:∀ b o,b≠ea->b≠T->s.heap.get? b=some o->∃ sl,h'.get? b=some {o with slots:=sl}:=fun b o n1 n2 e=>by
  by_cases hb:b∈frs X.stack
  ·exact k2 b o hb e
  ·exact ⟨o.slots,k1 b o hb n1 n2 e⟩
 have cellK:∀ x c,X.env.cells.lookup x=some c->∀ v,s.heap.IsCell c v->h'.IsCell c v:=fun x c e v ⟨o,ho,hd⟩=>by
  obtain ⟨sl,z⟩:=any c o (f.ce x c e).1 (f.ce x c e).2 ho
  exact ⟨_,z,hd⟩
 refine ⟨I.ok,I.os,I.bare,⟨fun b o e n hb hx=>?_,fun b o e n hb hx=>?_,I.base.free,fun b o e hx=>?_,I.base.tups,I.base.frzs,I.base.tbls⟩,?_,fun x c e=>?_,I.free,I.freeC,fun p hp=>?_,fun a o z=>?_,I.len⟩
 ·obtain ⟨n1,n2,n3⟩:=old b o e
  exact k1 b o (nst b n3 hb) n1 n2 (I.base.keep b o e n hb hx)
 ·obtain ⟨sl,z⟩:=I.base.slot b o e n hb hx
  obtain ⟨sl',z'⟩:=k2 b _ (sst b hb) z
  exact ⟨sl',z'⟩
 ·obtain ⟨o',z⟩:=I.base.there b o e hx
  obtain ⟨n1,n2,n3⟩:=old b o e
  obtain ⟨sl,z'⟩:=any b o' n1 n2 z
  exact ⟨_,z'⟩
 ·obtain ⟨m,⟨o,es,ep,ho,hd,r⟩,hl⟩:=I.loc
  obtain ⟨sl,z⟩:=any _ o f.lo.1 f.lo.2 ho
  refine ⟨m,⟨_,es,ep,z,hd,r⟩,fun i x v e1 e2 e3=>?_⟩
  obtain ⟨u,ru,l⟩:=hl i x v e1 e2 e3
  refine ⟨u,ru,?_⟩
  rcases l with l | ⟨k,c,e,y⟩
  ·exact .inl l
  ·exact .inr ⟨k,c,e,cellK x c e _ y⟩
 ·obtain ⟨v,y⟩:=I.cell x c e
  exact ⟨v,cellK x c e v y⟩
 ·obtain ⟨e,n,n1,n2,d⟩:=I.pin p hp
  exact ⟨k1 p.1 p.2 (nst p.1 n1 n2) (f.pi p hp).1 (f.pi p hp).2 e,n,n1,n2,d⟩
 ·refine (I.hok a o z).stay (fun b u hb r=>?_) (fun _ y=>y) fun _ _ y=>y
  have hb':∃ u',H b=some u':=by
   rcases hb with rfl | hb
   ·exact ⟨_,z⟩
   ·exact ⟨_,hb⟩
  obtain ⟨u',hb'⟩:=hb'
  refine k1 b u (fun m=>?_) (fun y=>?_) (fun y=>?_) r
  ·rw [I.stkFree b m] at hb';cases hb'
  ·rw [y,f.fe] at hb';cases hb'
  ·rw [y,f.fT] at hb';cases hb'
noncomputable def Cx.tr (X:Cx) (pl:List (Addr×Obj)) (Ec:Addr->St->Hp->Prop):Cx :=
 {X with pn:=X.pn++pl,xe:=fun e s'=>∃ ea T C σ H,e=.ref ea/\Inv X pl σ H s'/\zaJ X pl s'.heap H C ea T/\Ec C σ H}
theorem Inv.tr {X:Cx} {pl:List (Addr×Obj)} {σ:St} {H:Hp} {s:Shared} (I:Inv X pl σ H s) (Ec:Addr->St->Hp->Prop):Inv (X.tr pl Ec) [] σ H s :=
 ⟨⟨I.ok.mod,I.ok.kind,I.ok.glob,I.ok.blt,I.ok.above,I.ok.inj,I.ok.has,I.ok.cab,I.ok.hd,I.ok.frames,I.ok.stk,I.ok.exf,I.ok.bs,I.ok.bsz,I.ok.noex,I.ok.exfs,I.ok.funs,I.ok.frf⟩,I.os,I.bare,I.base,I.loc,I.cell,I.free,I.freeC,
  fun p hp=>I.pin p (by simpa [Cx.tr] using hp),I.hok,I.len⟩
theorem Inv.untr {X:Cx} {pl pins:List (Addr×Obj)} {σ:St} {H:Hp} {s:Shared} {Ec:Addr->St->Hp->Prop} (I:Inv (X.tr pl Ec) pins σ H s):Inv X pl σ H s :=
 ⟨⟨I.ok.mod,I.ok.kind,I.ok.glob,I.ok.blt,I.ok.above,I.ok.inj,I.ok.has,I.ok.cab,I.ok.hd,I.ok.frames,I.ok.stk,I.ok.exf,I.ok.bs,I.ok.bsz,I.ok.noex,I.ok.exfs,I.ok.funs,I.ok.frf⟩,I.os,I.bare,I.base,I.loc,I.cell,I.free,I.freeC,
  fun p hp=>I.pin p (vt _ hp),I.hok,I.len⟩
noncomputable def zcc (sp:Sp) (dvs:List V) (Ec:Addr->St->Hp->Prop) (t:TA):TE:=fun σ H Q=>t σ H fun vs H1=>sp (vs++dvs) H1 Q fun c _ H2=>∃ C,c=.ref C/\Ec C σ H2
theorem qJ {X:Cx} {pl:List (Addr×Obj)} {Ec:Addr->St->Hp->Prop} {k:Nat} {f:Addr} {fd:FuncData} {ps:List Str} {sp:Sp} {dvs:List V} {ds:List Value} {x:Str} {p pos:Pos} {e:Expr} {es:List Expr} {t:TA}
  (F:FnOk X.prog X.w X.K X.mg X.base (CXE X.prog X.w) k f fd ps sp) (hr:Room k X.A) (hg:Gl X x) (hm:X.mg x=some (.ref f)) (hk:kE X.K (.ref f)=true) (hb:Binds X.K fd ps ds) (hd:Vals dvs ds) (hex:X.ex=[])
  (ha:PA (X.tr pl Ec) (e::es) t) (hdb:(x == ("__debug__" : Str))=false:=by decide) (he:starEach (e::es) X.env=(false,eval e X.env)::starEach es X.env:=by rfl) (hpl:(backTo pos (starEach es X.env)).any (·.1)=false:=by rfl) :
  PE (X.tr pl Ec) (.Call (.Name x p) (e::es) [] pos) (zcc sp dvs Ec t):=by
 intro pins s σ H Q I h
 refine wpAny_Call_Name_kw (w6 (X:=X.tr pl Ec) I hg hm ?_ hdb)
 refine PySem.W.callWith_K (h₀:=X.base) I.ok.mod.kin hk (thn (ha pos pins s σ H _ I h) fun us s1 ⟨vs,H1,I1,r,q⟩=>⟨I1.kIn,?_⟩) he hpl
 have r2:Vals (vs++dvs) (us++ds):=r.append hd
 have hl:(us++ds).length=ps.length:=by rw [<- r2.length];exact F.len _ _ _ _ q
 refine wpAny_call (codeAny_mono (F.run X.A X.stack s1 H1 ⟨us,[]⟩ (us++ds) (vs++dvs) Q _ hr I1.env0 (hb s1 us I1.kIn hl) r2 q) fun r s' hq=>?_)
 cases r with
 | ok fl =>
  cases fl with
  | ret u=>exact I1.after hq
  | next=>exact False.elim hq
  | brk=>exact False.elim hq
  | cont=>exact False.elim hq
 | error e' =>
  obtain ⟨ea,T,C,H',rfl,os,bare,un,hok,fl,C',eC,z⟩:=hq
  cases eC
  have I2:Inv (X.tr pl Ec) pins σ H' s':=I1.call' (ch:=[]) os un hok bare (fun b z=>nomatch z)
  have lo:∀ b o,s1.heap.get? b=some o->b≠ea/\b≠T:=fun b o e=>⟨(fun y=>by rw [y,fl.ne0] at e;cases e),(fun y=>by rw [y,fl.nT0] at e;cases e)⟩
  have s0n:∀ b,s1.heap.get? b=none->X.s₀.heap.get? b=none:=fun b e=>by
   cases y:X.s₀.heap.get? b with
   | none=>rfl
   | some o =>
    obtain ⟨o',y'⟩:=I1.base.there b o y (by show b∉X.ex;rw [hex];exact fun z=>nomatch z)
    rw [e] at y'
    cases y'
  refine I_5 ea T C σ H' ⟨rfl,I2.untr,⟨fl.ob,fl.ne,fl.fe,fl.fT,⟨s0n _ fl.ne0,s0n _ fl.nT0⟩,?_,fun x c e=>?_,fun p hp=>?_⟩,z⟩
  ·obtain ⟨m,⟨o,_,_,ho,_⟩,_⟩:=I1.loc
   exact lo _ o ho
  ·obtain ⟨v,o,ho,_⟩:=I1.cell x c e
   exact lo c o ho
  ·exact lo _ _ (I1.pin p (vt _ hp)).1
noncomputable def Cx.su (X:Cx) (e:Value):Cx:={X with A:=X.A.mark (some e),calm:=false,xe:=fun _ _=>False}
theorem Inv.su {X:Cx} {pins:List (Addr×Obj)} {σ:St} {H:Hp} {s:Shared} (I:Inv X pins σ H s) (e:Value):Inv (X.su e) pins σ H s :=
 ⟨⟨I.ok.mod,I.ok.kind,I.ok.glob,I.ok.blt,I.ok.above,I.ok.inj,I.ok.has,I.ok.cab,(fun z=>nomatch z),I.ok.frames,I.ok.stk,I.ok.exf,I.ok.bs,I.ok.bsz,I.ok.noex,I.ok.exfs,I.ok.funs,I.ok.frf⟩,I.os,I.bare,I.base,I.loc,I.cell,I.free,I.freeC,I.pin,I.hok,I.len⟩
theorem Inv.unsu {X:Cx} {pins:List (Addr×Obj)} {σ:St} {H:Hp} {s:Shared} {e:Value} (ok:X.Ok) (I:Inv (X.su e) pins σ H s):Inv X pins σ H s :=
 ⟨ok,I.os,I.bare,I.base,I.loc,I.cell,I.free,I.freeC,I.pin,I.hok,I.len⟩
theorem Inv.unname {X:Cx} {pins:List (Addr×Obj)} {σ:St} {H:Hp} {s:Shared} {h':Heap} {t':Nat} {i:Nat} {n:Str} {v:Option Value} {m:Str->Option Value} (I:Inv X pins σ H s) (hN:X.N.Nodup) (hi:X.N[i]?=some n)
  (hn:s.heap.Ns X.env.locals m) (hl:∀ (j:Nat) (x:Str) (w:V),X.N[j]?=some x->σ[j]?=some (some w)->Vis X.env.scope x->∃ u,RelV w u/\Look X.env s.heap m x u) (hn':h'.Ns X.env.locals fun y=>if y=n then v else m y)
  (hs:Heap.SameBut X.env.locals s.heap h'):Inv X pins (σ.set i none) H {s with heap:=h',toks:=t'}:=by
 have old:∀ b o,X.s₀.heap.get? b=some o->b≠X.env.locals:=fun b o e=>vz (vh (Heap.lt_size e) I.ok.above)
 refine ⟨I.ok,I.os,I.bare,⟨fun b o e n hb hx=>(hs.2 b (old b o e)).trans (I.base.keep b o e n hb hx),fun b o e n hb hx=>?_,I.base.free,fun b o e hx=>?_,I.base.tups,I.base.frzs,I.base.tbls⟩,⟨_,hn',fun j y w e1 e2 e3=>?_⟩,fun y c e=>?_,I.free,I.freeC,fun p hp=>?_,fun b ob e=>?_,by simpa using I.len⟩
 ·obtain ⟨sl,z⟩:=I.base.slot b o e n hb hx
  exact ⟨sl,(hs.2 b (old b o e)).trans z⟩
 ·obtain ⟨o',z⟩:=I.base.there b o e hx
  exact ⟨o',(hs.2 b (old b o e)).trans z⟩
 ·by_cases hj:j=i
  ·subst hj
   rw [List.getElem?_set] at e2
   split at e2
   ·split at e2<;>cases e2
   ·exact absurd rfl (by assumption)
  ·rw [bj (Ne.symm hj)] at e2
   obtain ⟨u,ru,l⟩:=hl j y w e1 e2 e3
   have yn:y≠n:=fun z=>hj (j2 hN e1 (z ▸ hi))
   refine ⟨u,ru,?_⟩
   rcases l with ⟨k,z⟩ | ⟨k,c,e,z⟩
   ·exact .inl ⟨k,by show (if y=n then v else m y)=some u;rw [if_neg yn];exact z⟩
   ·exact .inr ⟨k,c,e,z.sameBut hs (I.cne y c e)⟩
 ·obtain ⟨w,z⟩:=I.cell y c e
  exact ⟨w,z.sameBut hs (I.cne y c e)⟩
 ·obtain ⟨e,a,b,c,d⟩:=I.pin p hp
  exact ⟨(hs.2 p.1 b).trans e,a,b,c,d⟩
 ·refine (I.hok b ob e).stay (fun c w hc q=>(hs.2 c ?_).trans q) (fun _ q=>q) fun _ _ q=>q
  intro z
  rcases hc with rfl | hc
  ·rw [z,I.free] at e;cases e
  ·rw [z,I.free] at hc;cases hc
noncomputable def tTry (i:Nat) (CP:Addr->Prop) (tb:(Addr->St->Hp->Prop)->TS) (ts:TS):TS:=fun D σ H =>
 tb (fun C σ1 H1=>CP C/\∀ ea,H1 ea=none->ts {nx:=fun σ2 H2=>D.nx (σ2.set i none) H2,rt:=D.rt,bk:=fun σ2 H2=>D.bk (σ2.set i none) H2,ct:=fun σ2 H2=>D.ct (σ2.set i none) H2} (σ1.set i (some (.ref ea))) (upd H1 ea (.ext (yS ea C)))) D σ H
theorem SP.untr {X:Cx} {pl pins:List (Addr×Obj)} {Ec:Addr->St->Hp->Prop} {D:Ends} {f:Flow} {s':Shared} (h:SP (X.tr pl Ec) pins D f s'):SP X pl D f s':=by
 cases f with
 | next=>obtain ⟨σ',H',I,q⟩:=h;exact ⟨σ',H',I.untr,q⟩
 | brk=>obtain ⟨σ',H',I,q⟩:=h;exact ⟨σ',H',I.untr,q⟩
 | cont=>obtain ⟨σ',H',I,q⟩:=h;exact ⟨σ',H',I.untr,q⟩
 | ret u=>obtain ⟨v,σ',H',I,r,q⟩:=h;exact ⟨v,σ',H',I.untr,r,q⟩
theorem zcd {X:Cx} {i:Nat} {n x:Str} {P:Addr} {body:List Stmt} {b₀:Stmt} {suite:List Stmt} {tb:(Addr->St->Hp->Prop)->TS} {ts:TS} {np hpos pos:Pos} (hst:X.stack=X.env::X.outer) (hf:X.env.frame=some X.env.locals)
  (hN:X.N.Nodup) (hi:X.N[i]?=some n) (hlo:X.env.scope.names.lookup n=some .local) (hg:Gl X x) (hm:X.mg x=some (.ref P)) (cP:xj X.K P) (hb:∀ pl Ec,PSs (X.tr pl Ec) body (tb Ec)) (hs:∀ e,PSs (X.su e) (b₀::suite) ts)
  (hd:(x == ("__debug__" : Str))=false:=by decide) :
  PS X (.Try body [.ExceptHandler (some (.Name x np)) (some n) (b₀::suite) hpos] [] [] pos) (tTry i (fun C=>mroIn X.K C (.ref P)=some true) tb ts):=by
 intro pins s σ H D I h
 refine wpAny_Try_except ?_
 have hB:=hb pins _ [] s σ H D (I.tr _) h
 refine wpAny_mono hB (fun f s1 q=>?_) fun e s1 q=>?_
 ·have q':=q.untr
  cases f with
  | next =>
   obtain ⟨σ',H',I',z⟩:=q'
   exact wpAny_execs_nil ⟨σ',H',I',z⟩
  | brk=>exact q'
  | cont=>exact q'
  | ret u=>exact q'
 revert q;intro n7;refine E_5 n7 fun ea T C σ1 H1 n8=>A_5 n8 fun e9 I1 fly hC q=>?_;clear n8 n7;subst e9
 obtain ⟨oe,vs,a0,oT,ts',e1,e2,e3,e4,e5,e6,e7,e8⟩:=fly.ob
 have frN:∀ b∈frs X.stack,b≠ea/\b≠T:=fun b hb=>by
  obtain ⟨_,o,ho,hnf⟩:=I1.stack.mem hb
  exact ⟨(fun z=>by rw [z,e1] at ho;cases ho;exact hnf vs e3),(fun z=>by rw [z,e6] at ho;cases ho;exact hnf ts' e7)⟩
 -- the heap without the frames and the exception's records
 have ff:s1.heap.FunFrames (hideAll s1.heap (ea::T::frs X.stack)) X.stack:=I1.hid _ fun b hb=>kq _ (kq _ hb)
 have fl:Heap.FlyingW (hideAll s1.heap (ea::T::frs X.stack)) X.stack ea (.ref C) a0 s1.heap :=
  ⟨fun b o z=>of_hideAll _ z,hideAll_none _ kw,ff,oe,vs,T,oT,ts',e1,⟨e2,e4⟩,e3,e5,hideAll_none _ (kq _ kw),fly.ne,e6,e7,e8⟩
 have frA:X.A.frames=some (X.env::X.outer):=by rw [<- hst];exact I.ok.frames
 have back:∀ {h':Heap},Heap.StaysIn (hideAll s1.heap (ea::T::frs X.stack)) h'->s1.heap.UpToSlots h'->Inv X pins σ1 H1 {s1 with heap:=h'}:=fun {h'} st up=>by
  refine I1.exc fly (fun b o n1 n2 n3 z=>st b o (hideAll_get _ z ?_)) fun b o n1 z=>?_
  ·intro m
   rcases kY.mp m with m | m
   ·exact n2 m
   ·rcases kY.mp m with m | m
    ·exact n3 m
    ·exact n1 m
  ·obtain ⟨_,o',ho,hnf⟩:=I1.stack.mem n1
   rw [z] at ho
   cases ho
   exact up b o z hnf
 rw [hst] at fl back
 refine wpAny_looks_onW frA hf fl fun h4 held4 up4=>?_
 refine wpAny_landsW held4 fun h5 fl5 up5=>?_
 have I5:Inv X pins σ1 H1 {s1 with heap:=h5}:=back fl5.1 (up4.trans up5)
 have J5:yS ea C h5:=by
  obtain ⟨o,z1,z2⟩:=fl5.there
  exact ⟨o,z1,z2⟩
 refine wpAny_handleBy_cons (codeAny_handlers_test (w6 (X:=X.su (.ref ea)) (I5.su _) hg hm ?_ hd)) (by intro z;cases z)
 refine Wu (K:=X.K) (P:=P) I5.kIn J5 cP hC ?_
 refine codeAny_handlers_suite_as ?_
 refine lands_againW fl5 fun h6 fl6 up6=>?_
 have I6:Inv X pins σ1 H1 {s1 with heap:=h6}:=back fl6.1 ((up4.trans up5).trans up6)
 have J6:yS ea C h6:=by
  obtain ⟨o,z1,z2⟩:=fl6.there
  exact ⟨o,z1,z2⟩
 have I7:Inv X pins σ1 (upd H1 ea (.ext (yS ea C))) {s1 with heap:=h6}:=I6.track fly.fe fly.s0.1 fly.lo.1.symm (fun x c e=>(fly.ce x c e).1) (fun p hp=>(fly.pi p hp).1) J6.ok
 refine qF (X:=X.su (.ref ea)) (I7.su _) hN hi (Or.inl hlo) (v:=.ref ea) rfl (fun s8 I8=>?_) (Or.inr hlo)
 refine wpAny_mono (hs _ pins s8 _ _ _ I8 (q ea fly.fe)) (fun f s9 q9=>?_) fun _ _ z=>False.elim z
 have hcls:(X.env.scope.kind == .class || (X.env.scope.kind == .module && X.env.locals != X.env.globals))=false:=by rw [I.ok.kind];rfl
 have fin:∀ {σ9:St} {H9:Hp} {R:Unit->Shared->Prop},Inv (X.su (.ref ea)) pins σ9 H9 s9->(∀ s10,Inv X pins (σ9.set i none) H9 s10->R () s10) ->
   wpAny (model X.prog X.w) X.A (do bindName X.env n .none;unbindBehindTheSuite X.env n hpos) R X.xe s9:=fun {σ9 H9 R} I9 k=>by
  obtain ⟨m,hn,hl⟩:=I9.loc
  exact wpAny_nameGoes_keeps hlo hn hcls fun h' v hn' hs'=>k _ ((I9.unsu I.ok).unname hN hi hn hl hn' hs')
 cases f with
 | next =>
  obtain ⟨σ9,H9,I9,z⟩:=q9
  exact fin I9 fun s10 I10=>⟨_,H9,I10,z⟩
 | brk =>
  obtain ⟨σ9,H9,I9,z⟩:=q9
  exact fin I9 fun s10 I10=>⟨_,H9,I10,z⟩
 | cont =>
  obtain ⟨σ9,H9,I9,z⟩:=q9
  exact fin I9 fun s10 I10=>⟨_,H9,I10,z⟩
 | ret u =>
  obtain ⟨v,σ9,H9,I9,r,z⟩:=q9
  exact fin I9 fun s10 I10=>⟨v,_,H9,I10,r,z⟩
end _L2
namespace _L2
open PySem PySem.Spec PyProof.Rows
noncomputable def Evl (t:TE) (σ:St) (H:Hp) (v:V):Prop:=∀ Q:VK,Q v H->t σ H Q
noncomputable def Tst (t:TT) (σ:St) (H:Hp) (p:Prop) [Decidable p]:Prop:=∀ Q:Bool->Hp->Prop,Q (decide p) H->t σ H Q
section
variable {σ:St} {H:Hp} {ta tb tc:TE} {x y v:V} {i j k:Int} {K:Frag} {D:Ends} {n m:Nat}
theorem zA {i:Nat} (h:σ[i]?=some (some v)):Evl (tVar i) σ H v:=fun Q q=>⟨v,h,q⟩
theorem yT:Evl (tC v) σ H v:=fun Q q=>q
theorem yz {g:Int->Int->V} (a:Evl ta σ H (.int i)) (b:Evl tb σ H (.int j)):Evl (tOp (rI0 g) ta tb) σ H (g i j):=fun Q q=>a _ (b _ ⟨i,j,rfl,rfl,q⟩)
theorem WH (a:Evl ta σ H (.int i)) (b:Evl tb σ H (.int j)):Evl (tOp rEq ta tb) σ H (.bl (decide (i=j))):=fun Q q=>a _ (b _ ⟨rfl,by
 have e:decide (V.int i=V.int j)=decide (i=j):=by
  rw [decide_eq_decide]
  exact ⟨fun z=>V.int.inj z,fun z=>by rw [z]⟩
 rw [e]
 exact q⟩)
theorem yV {p:Addr} {xs:List V} (a:Evl ta σ H (.ref p)) (b:Evl tb σ H (.int i)) (h:SqT K H p xs) (e:atI xs i=some v):Evl (tOp (rIxT K) ta tb) σ H v:=fun Q q=>a _ (b _ ⟨p,xs,i,v,rfl,rfl,h,e,q⟩)
theorem xq {p:Addr} {xs:List V} (a:Evl ta σ H (.ref p)) (b:Evl tb σ H (.int i)) (h:SqL K H p xs) (e:atI xs i=some v):Evl (tOp (rIxL K) ta tb) σ H v:=fun Q q=>a _ (b _ ⟨p,xs,i,v,rfl,rfl,h,e,q⟩)
theorem xF {p:Addr} {ys:List V} (a:Evl ta σ H (.ref p)) (h:SqL K H p ys):Evl (tCB (fun xs H Q=>∃ p ys,xs=[.ref p]/\(SqL K H p ys\/SqT K H p ys)/\Q (.int ys.length) H) (yk ta tNil)) σ H (.int ys.length):=fun Q q=>a _ ⟨p,ys,rfl,.inl h,q⟩
theorem Yw {g:Int->Int->V} (a:Evl ta σ H (.int i)) (b:Evl tb σ H (.int j)):Evl (tCB (fun xs H Q=>∃ i j,xs=[.int i,.int j]/\Q (g i j) H) (yk ta (yk tb tNil))) σ H (g i j):=fun Q q=>a _ (b _ ⟨i,j,rfl,q⟩)
theorem y3 {p:Prop} [Decidable p] (a:Evl ta σ H (.bl (decide p))):Tst (qH ta) σ H p:=fun Q q=>a _ ⟨_,rfl,q⟩
theorem WI {t u:TT} {p q:Prop} [Decidable p] [Decidable q] (a:Tst t σ H p) (b:Tst u σ H q):Tst (tAnd t u) σ H (p/\q):=fun Q z=>a _ (by
 by_cases h:p
 ·rw [decide_eq_true h,if_pos rfl]
  refine b _ ?_
  have e:decide (p/\q)=decide q:=by rw [decide_eq_decide];exact ⟨fun z=>z.2,fun z=>⟨h,z⟩⟩
  rw [<- e];exact z
 ·rw [decide_eq_false h,if_neg kF]
  have e:decide (p/\q)=false:=decide_eq_false fun z=>h z.1
  rw [<- e];exact z)
theorem x5 {t:TT} {a b:TS} {p:Prop} [Decidable p] (h:Tst t σ H p) (h1:p->a D σ H) (h2:¬ p->b D σ H):tIfS t a b D σ H:=h _ (by
 by_cases c:p
 ·rw [decide_eq_true c,if_pos rfl];exact h1 c
 ·rw [decide_eq_false c,if_neg kF];exact h2 c)
theorem QZ {t:TT} {a b u:TS} {p:Prop} [Decidable p] (h:Tst t σ H p) (h1:p->a {D with nx:=u D} σ H) (h2:¬ p->b {D with nx:=u D} σ H):tSeq (tIfS t a b) u D σ H:=x5 h h1 h2
theorem WJ {i:Nat} (h:Evl ta σ H v) (q:D.nx (σ.set i (some v)) H):tAsg ta (z7 i) D σ H:=h _ q
theorem wo {i:Nat} {u:TS} (h:Evl ta σ H v) (q:u D (σ.set i (some v)) H):tSeq (tAsg ta (z7 i)) u D σ H:=h _ q
theorem Xt {t1 t2 t3 t4:TE} {v1 v2 v3 v4:V} {Q:VK} (h1:Evl t1 σ H v1) (h2:Evl t2 σ H v2) (h3:Evl t3 σ H v3) (h4:Evl t4 σ H v4) (q:∀ p,H p=none->Q (.ref p) (upd H p (.tup [v1,v2,v3,v4]))) :
  tTup (yk t1 (yk t2 (yk t3 (yk t4 tNil)))) σ H Q:=h1 _ (h2 _ (h3 _ (h4 _ ⟨Zz4,q⟩)))
theorem zY (h:D.nx σ H):zaG D σ H:=h
theorem run_seq {t u:TS} (h:t {D with nx:=u D} σ H):tSeq t u D σ H:=h
end
open PySem.W
inductive TyX (K:Frag) (H:Hp):V->Value->Prop where
 | of {x:V} {t:Value} (h:TyOf K H x t):TyX K H x t
 | exc {ea C:Addr} (e:H ea=some (.ext (yS ea C))) (c:xj K C):TyX K H (.ref ea) (.ref C)
noncomputable def clsV:V->Value
 | .ref a=>.ref a
 | .ty n=>.type n
 | _=>.none
noncomputable def jy:V->Bool
 | .ref _=>true
 | .ty _=>true
 | _=>false
theorem Xu:∀ {c:V} {u:Value},jy c=true->RelV c u->u=clsV c
 | .ref _,_,_,r=>r
 | .ty _,_,_,r=>r
theorem Xv:∀ {cs:List V} {us:List Value},cs.all jy=true->Vals cs us->us=cs.map clsV
 | _,_,_,.nil=>rfl
 | c::cs,u::us,h,.cons r t=>by
  rw [bK,vx] at h
  rw [Xu h.1 r,Xv h.2 t]
  rfl
section
variable {X:Cx}
theorem WK {pins:List (Addr×Obj)} {σ:St} {H:Hp} {s:Shared} {x:V} {u t:Value} (I:Inv X pins σ H s) (rx:RelV x u) (ty:TyX X.K H x t):∃ J,KitX X.K u t J/\J s.heap/\u≠.builtin "__main__.__loader__#opaque" := by
 cases ty with
 | exc e c =>
  cases (show u=Value.ref _ from rx)
  obtain ⟨J,_⟩:=I.hok _ _ e
  exact ⟨_,JX c,J,fun z=>nomatch z⟩
 | of ty =>
  cases ty with
  | non=>cases (show u=Value.none from rx);exact ⟨_,kitx_none,trivial,fun z=>nomatch z⟩
  | bl y=>cases (show u=Value.bool y from rx);exact ⟨_,kitx_bool,trivial,fun z=>nomatch z⟩
  | int i=>obtain ⟨t,q⟩:=(show ∃ t,u=Value.int i t from rx);cases q;exact ⟨_,kitx_int,trivial,fun z=>nomatch z⟩
  | str y=>obtain ⟨t,q⟩:=(show ∃ t,u=Value.str y t from rx);cases q;exact ⟨_,kitx_str,trivial,fun z=>nomatch z⟩
  | flt y=>obtain ⟨t,q⟩:=(show ∃ t,u=Value.float y t from rx);cases q;exact ⟨_,kitx_float,trivial,fun z=>nomatch z⟩
  | @lst a xs ea =>
   cases (show u=Value.ref a from rx)
   obtain ⟨_,_,n,_,h1⟩:=(show yo X.prog X.w H s.heap a (.lst xs) from I.hok a _ ea)
   exact ⟨_,kitx_list,⟨_,h1,rfl⟩,fun z=>nomatch z⟩
  | @frz a ob xs ea =>
   cases (show u=Value.ref a from rx)
   obtain ⟨_,_,_,n,_,h1⟩:=(show yo X.prog X.w H s.heap a (.frz ob (.lst xs)) from I.hok a _ ea)
   exact ⟨_,kitx_list,⟨_,h1,rfl⟩,fun z=>nomatch z⟩
  | @tup a xs ea =>
   cases (show u=Value.ref a from rx)
   obtain ⟨_,_,_,p⟩:=(show yo X.prog X.w H s.heap a (.tup xs) from I.hok a _ ea)
   obtain ⟨o,h1,h2,_⟩:=p
   exact ⟨_,kitx_tuple,⟨o,h1,h2⟩,fun z=>nomatch z⟩
  | @dK a kvs ea =>
   cases (show u=Value.ref a from rx)
   obtain ⟨_,_,vs,_,p⟩:=(show yo X.prog X.w H s.heap a (.dK kvs) from I.hok a _ ea)
   obtain ⟨o,es,ep,h1,h2,_⟩:=p
   exact ⟨_,kitx_dict,⟨o,h1,h2.1⟩,fun z=>nomatch z⟩
  | @dT a kvs ea =>
   cases (show u=Value.ref a from rx)
   obtain ⟨_,_,xs,_,o,es,ep,h1,h2,_⟩:=(show yo X.prog X.w H s.heap a (.dT kvs) from I.hok a _ ea)
   exact ⟨_,kitx_dict,⟨o,h1,h2.1⟩,fun z=>nomatch z⟩
  | @ins a C dx fs ea cl ha hn htk hm =>
   cases (show u=Value.ref a from rx)
   obtain ⟨mA,O,_⟩:=zaW I.hok ea
   obtain ⟨od,J,_⟩:=O.look
   exact ⟨_,kitx_own (cl.get _) cl.hd ha hn htk hm,J,fun z=>nomatch z⟩
theorem yj:yM X (.builtin "isinstance") (fun xs H Q=>∃ x c t b,xs=[x,c]/\jy c=true/\TyX X.K H x t/\kitOne X.K t (clsV c)=some b/\Q (.bl b) H):=by
 intro pins s σ H xs us Q I r h
 refine E_4 h fun x c t b n8=>A_5 n8 fun e9 hc ty e q=>?_;clear n8 h;subst e9
 obtain ⟨u,v,rfl,r1,r2⟩:=vals2 r
 rw [Xu hc r2]
 obtain ⟨J,Z,hJ,hx⟩:=WK I r1 ty
 exact kia_one Z I.kIn hJ e hx fun tk=>⟨.bl b,H,I.tok tk,rfl,q⟩
theorem Q0:yM X (.builtin "isinstance") (fun xs H Q=>∃ x p cs t b,xs=[x,.ref p]/\SqT X.K H p cs/\cs.all jy=true/\TyX X.K H x t/\kitAny X.K t (cs.map clsV)=some b/\Q (.bl b) H):=by
 intro pins s σ H xs us Q I r h
 refine E_5 h fun x p cs t b n8=>A_6 n8 fun e9 hp hc ty e q=>?_;clear n8 h;subst e9
 obtain ⟨u,v,rfl,r1,r2⟩:=vals2 r
 cases (show v=Value.ref p from r2)
 obtain ⟨J,Z,hJ,hx⟩:=WK I r1 ty
 obtain ⟨its,r',pl,hz⟩:=I.tuple hp
 rw [<- Xv hc r'] at e
 obtain ⟨⟨oc,od,dt,sl⟩,h1,h2,n,h3⟩:=(show s.heap.IsTuple p its.toArray from pl)
 have h2:oc=.type "tuple" := h2
 have h3:dt=.seq its.toArray n:=h3
 subst h2 h3
 exact kia_tup Z I.kIn hJ h1 e hx fun tk=>⟨.bl b,H,I.tok tk,rfl,q⟩
end
end _L2
namespace _L2
open PySem PySem.Spec PyProof.Rows
section
variable {X:Cx}
theorem Q1 {pins:List (Addr×Obj)} {σ:St} {H:Hp} {s:Shared} {a:Addr} {its:List Value} (I:Inv X pins σ H s) (tp:s.heap.IsList a its.toArray) (hc:X.calm=true) {Q:Value->Shared->Prop}
  (q:∀ s2:Shared,s2={s with heap:=s.heap.push {cls:=.type "list_iterator",data:=.fields #[.ref a,.int 0 0]}}->Walks X.prog X.w X.A.in1 s.heap.objs.size [s.heap.objs.size,a] [s.heap.objs.size] its.toArray.size (fun i v=>its.toArray[i]?=some v) (fun i h=>h.IsListIter s.heap.objs.size a i/\h.IsList a its.toArray) ->
   (s2.heap.IsListIter s.heap.objs.size a 0/\s2.heap.IsList a its.toArray)->(∀ b∈[s.heap.objs.size,a],b<s2.heap.objs.size)->Q (.ref s.heap.objs.size) s2):wpAny (model X.prog X.w) X.A.in1 (pyIter (.ref a)) Q X.xe s:=by
 have hlt:a<s.heap.objs.size:=by obtain ⟨_,e,_⟩:=tp;exact Heap.lt_size e
 refine wpAny_pyIter_list tp (q _ rfl (Walks.list (by exact I.ok.hd hc) _ _ (vz hlt) _) ⟨⟨_,Heap.get?_push_size _ rfl,rfl,rfl⟩,?_⟩ fun b hb=>?_)
 ·obtain ⟨o,e,r⟩:=tp
  exact ⟨o,Heap.get?_push_of_some _ e,r⟩
 ·show b<(s.heap.push _).objs.size
  rw [Heap.size_push]
  rcases kY.mp hb with rfl | hb
  ·exact uo _
  ·rw [kD.mp hb]
   exact uE hlt
theorem j0 (ns:List Int):∀ k,k<=ns.length->preSum (fun i=>ns.getD i 0) k=(ns.take k).sum
 | 0,_=>rfl
 | k+1,h=>by
  show preSum _ k+ns.getD k 0=_
  rw [j0 ns k (by omega),<- kz (by omega:k<ns.length),uQ,getD_at (by omega)]
  simp
end
theorem za4 {A B:Prop} (h:if false=true then A else B):B:=by rwa [if_neg kF] at h
theorem za5 {A B:Prop} (h:if true=true then A else B):A:=by rwa [if_pos rfl] at h
noncomputable def ym (X:Cx) (Nc:List Str) (scope:Scope) (cl:List (Str×Addr)) (s:Shared) (H:Hp) (C:Addr) (fp:List Addr):Cx :=
 {X with N:=Nc,s₀:=s,H₀:=H,env:=compEnvC scope cl C X.env,outer:=X.stack,ex:=fp,fn:=fun _=>false,pn:=[],xe:=fun _ _=>False}
noncomputable def seen (ix:List (Option Nat)) (σ:St):St:=ix.map fun o=>match o with
 | some j=>(σ[j]?).getD none
 | none=>none
theorem Qe {scope:Scope} {env:Env} (h:∀ x∈scope.names,x.2=.free->∃ c,env.cells.lookup x.1=some c) :
  ∃ cl,closureFor scope env=pure cl/\(∀ x c,cl.lookup x=some c->env.cells.lookup x=some c)/\∀ x∈scope.names,x.2=.free->∃ c,cl.lookup x.1=some c:=by
 have go:∀ (ns:List (Str×NameKind)) (cs:List (Str×Addr)),(∀ x∈ns,x.2=.free->∃ c,env.cells.lookup x.1=some c)->(∀ x c,cs.lookup x=some c->env.cells.lookup x=some c) ->
   ∃ cl,(forIn ns cs fun (x:Str×NameKind) (r:List (Str×Addr))=>(if (x.2 == .free)=true then (do let c <- cellOf env x.1;pure (ForInStep.yield ((x.1,c)::r))) else pure (ForInStep.yield r):Sem _))=pure cl /\
    (∀ x c,cl.lookup x=some c->env.cells.lookup x=some c)/\(∀ x∈ns,x.2=.free->∃ c,cl.lookup x.1=some c)/\∀ x c,cs.lookup x=some c->∃ c',cl.lookup x=some c':=by
  intro ns
  induction ns with
  | nil=>intro cs _ h2;exact ⟨cs,rfl,h2,fun x hx=>(nomatch hx),fun x c e=>⟨c,e⟩⟩
  | cons p r ih =>
   obtain ⟨n,k⟩:=p
   intro cs h1 h2
   by_cases hk:k=.free
   ·subst hk
    obtain ⟨c,hc⟩:=h1 (n,.free) kw rfl
    have hcs:∀ x c',bJ x ((n,c)::cs)=some c'->env.cells.lookup x=some c':=fun x c' e=>by
     rw [vG] at e
     cases hx:x == n with
     | true=>rw [hx] at e;cases e;rw [eq_of_beq hx];exact hc
     | false=>rw [hx] at e;exact h2 x c' e
    obtain ⟨cl,e1,e2,e3,e4⟩:=ih ((n,c)::cs) (fun x hx=>h1 x (kq _ hx)) hcs
    refine ⟨cl,?_,e2,fun x hx hf=>?_,fun x c' e=>?_⟩
    ·rw [uz]
     have:cellOf env n=pure c:=by unfold cellOf;rw [hc]
     simp only [beq_self_eq_true,if_true,this,pure_bind]
     exact e1
    ·rcases kY.mp hx with rfl | hx
     ·exact e4 n c (by rw [vG,beq_self_eq_true])
     ·exact e3 x hx hf
    ·cases hx:x == n with
     | true=>exact e4 x c (by rw [vG,hx])
     | false=>exact e4 x c' (by rw [vG,hx];exact e)
   ·obtain ⟨cl,e1,e2,e3,e4⟩:=ih cs (fun x hx=>h1 x (kq _ hx)) h2
    refine ⟨cl,?_,e2,fun x hx hf=>?_,e4⟩
    ·rw [uz]
     have hb:(k == NameKind.free)=false:=by simpa using hk
     simp only [hb,uv,if_false,pure_bind]
     exact e1
    ·rcases kY.mp hx with rfl | hx
     ·exact absurd hf hk
     ·exact e3 x hx hf
 obtain ⟨cl,e1,e2,e3,_⟩:=go scope.names [] h (fun x c e=>by cases e)
 refine ⟨cl,?_,e2,e3⟩
 unfold closureFor
 simp only [bind_pure]
 exact e1
noncomputable def PTs (X:Cx) (ifs:List Expr) (t:TT):Prop :=
 ∀ (pins:List (Addr×Obj)) (s:Shared) (σ:St) (H:Hp) (Q:Bool->Hp->Prop),Inv X pins σ H s->t σ H Q ->
  wpAny (model X.prog X.w) X.A (forIn ifs true fun c r=>if r=true then do let ok <- isTrue c X.env (eval c X.env);pure (ForInStep.yield ok) else pure (ForInStep.yield r)) (TP X pins σ Q) X.xe s
noncomputable def tYes:TT:=fun _ H Q=>Q true H
theorem yd {X:Cx}:PTs X [] tYes:=fun _ _ _ H _ I h=>wpAny_tests_nil ⟨H,I,h⟩
theorem WL {X:Cx} {c:Expr} {t:TT} (h:PT X c t):PTs X [c] t:=fun pins s σ H Q I q=>wpAny_tests_one (h pins s σ H Q I q)
noncomputable def Xw (wi:TI) (ix:List (Option Nat)) (g:TG) (tc:TT) (te:TE) (σ:St) (H:Hp) (R:List V->Hp->Prop):Prop:=wi σ H fun J H1=>∃ W:Nat->Nat->List V->St->Hp->Prop,(∃ m,W 0 m [] (seen ix σ) H1)/\∀ i m ys σ' H',W i m ys σ' H' ->
 (J.stop i H'/\ys.length<=sizeLine/\R ys H') \/
 (J.go i H'/\ys.length<=sizeLine/\∃ N:List V->St->Hp->Prop,(∀ ys' σ2 H2,N ys' σ2 H2->∃ m',m'<m/\W (i+1) m' ys' σ2 H2) /\
  ∀ x H2,J.yld i H' x H2->g x σ' H2 fun σ2 H3=>tc σ2 H3 fun b H4=>if b=true then te σ2 H4 fun y H5=>N (ys++[y]) σ2 H5 else N ys σ2 H4)
noncomputable def zdb (wi:TI) (ix:List (Option Nat)) (g:TG) (tc:TT) (te:TE):TE:=fun σ H Q=>Xw wi ix g tc te σ H fun ys H'=>∀ l,H' l=none->Q (.ref l) (upd H' l (.lst ys))
noncomputable def Zq (scope outer:Scope) (N Nc:List Str) (ix:List (Option Nat)):Bool :=
 scope.names.all (fun y=>y.2 != .cell) && scope.kind == .function && scope.names.all (fun y=>y.2 != .local || scope.names.lookup y.1 == some .local) &&
 scope.names.all (fun y=>y.2 != .free || outer.names.lookup y.1 == some .cell || outer.names.lookup y.1 == some .free) && ix.length == Nc.length &&
 (vo Nc.length).all fun i=>match ix[i]?,Nc[i]? with
  | some (some j),some x=>N[j]? == some x && (outer.names.lookup x == some .cell || outer.names.lookup x == some .free) && scope.names.lookup x == some .free
  | _,_=>true
theorem qK {env:Env}:∀ {names:List (Str×NameKind)} {y:Str} {k:NameKind},(∀ z∈names,z.2≠.cell) ->
  (names.map fun (n,k)=>if (k == NameKind.free && env.scope.kind == .function && env.kindOf n == some .cell) then (n,NameKind.cell) else (n,k)).lookup y=some k->k=.cell\/k=.free->∃ z∈names,z.1=y/\z.2=.free
 | [],_,_,_,h,_=>by simp at h
 | (n,k0)::r,y,k,hc,h,hk=>by
  rw [vj] at h
  have h:bJ y ((if (k0 == NameKind.free && env.scope.kind == .function && env.kindOf n == some .cell)=true then (n,NameKind.cell) else (n,k0))::_)=some k:=h
  cases hx:y == n with
  | true =>
   by_cases hb:(k0 == NameKind.free && env.scope.kind == .function && env.kindOf n == some .cell)=true
   ·simp only [vx,beq_iff_eq] at hb
    exact ⟨(n,k0),kw,(eq_of_beq hx).symm,hb.1.1⟩
   ·rw [if_neg hb,vG,hx] at h
    cases h
    rcases hk with rfl | rfl
    ·exact absurd rfl (hc (n,.cell) kw)
    ·exact ⟨(n,.free),kw,(eq_of_beq hx).symm,rfl⟩
  | false =>
   have h':bJ y (r.map fun (n,k)=>if (k == NameKind.free && env.scope.kind == .function && env.kindOf n == some .cell) then (n,NameKind.cell) else (n,k))=some k:=by
    by_cases hb:(k0 == NameKind.free && env.scope.kind == .function && env.kindOf n == some .cell)=true
    ·rw [if_pos hb,vG,hx] at h;exact h
    ·rw [if_neg hb,vG,hx] at h;exact h
   obtain ⟨z,hz,e1,e2⟩:=qK (fun z hz=>hc z (kq _ hz)) h' hk
   exact ⟨z,kq _ hz,e1,e2⟩
theorem wI {env:Env}:∀ {names:List (Str×NameKind)} {y:Str},names.lookup y=some .free ->
  (names.map fun (n,k)=>if (k == NameKind.free && env.scope.kind == .function && env.kindOf n == some .cell) then (n,NameKind.cell) else (n,k)).lookup y=some .cell \/
  (names.map fun (n,k)=>if (k == NameKind.free && env.scope.kind == .function && env.kindOf n == some .cell) then (n,NameKind.cell) else (n,k)).lookup y=some .free
 | [],_,h=>by simp at h
 | (n,k0)::r,y,h=>by
  rw [vj]
  show bJ y ((if (k0 == NameKind.free && env.scope.kind == .function && env.kindOf n == some .cell)=true then (n,NameKind.cell) else (n,k0))::_)=_\/bJ y ((if (k0 == NameKind.free && env.scope.kind == .function && env.kindOf n == some .cell)=true then (n,NameKind.cell) else (n,k0))::_)=_
  cases hx:y == n with
  | true =>
   rw [vG,hx] at h
   cases h
   by_cases hb:((NameKind.free == NameKind.free) && env.scope.kind == .function && env.kindOf n == some .cell)=true
   ·rw [if_pos hb,vG,hx];exact .inl rfl
   ·rw [if_neg hb,vG,hx];exact .inr rfl
  | false =>
   rw [vG,hx] at h
   by_cases hb:(k0 == NameKind.free && env.scope.kind == .function && env.kindOf n == some .cell)=true
   ·rw [if_pos hb,vG,hx];exact wI h
   ·rw [if_neg hb,vG,hx];exact wI h
theorem Yx {X:Cx} {elt tg iter:Expr} {ifs:List Expr} {scope:Scope} {pos ipos:Pos} {Nc:List Str} {ix:List (Option Nat)} {wi:TI} {g:TG} {tc:TT} {te:TE} {use:Option (Value->Sem Unit)} {Q':Value->Shared->Prop} {R:List V->Hp->Prop}
  {pins:List (Addr×Obj)} {σ:St} {H:Hp} {s:Shared} (hc:X.calm=true)
  (hcell:∀ y∈scope.names,y.2≠.cell) (hkind:scope.kind=.function) (hnames:∀ y∈scope.names,y.2=.local->scope.names.lookup y.1=some .local)
  (hfree:∀ y∈scope.names,y.2=.free->X.env.kindOf y.1=some .cell\/X.env.kindOf y.1=some .free) (hvis:∀ y k,(relabel scope X.env).names.lookup y=some k->k=.cell\/k=.free->∃ z∈scope.names,z.1=y/\z.2=.free)
  (hlen:ix.length=Nc.length) (hix:∀ (i:Nat) (x:Str) (j:Nat),Nc[i]?=some x->ix[i]?=some (some j)->X.N[j]?=some x/\Vis X.env.scope x/\(X.env.kindOf x=some .local->False)/\((relabel scope X.env).names.lookup x=some .cell\/(relabel scope X.env).names.lookup x=some .free))
  (hi:PI X tg iter wi) (hg:∀ cl s H C fp,PG (ym X Nc scope cl s H C fp) tg g) (hifs:∀ cl s H C fp,PTs (ym X Nc scope cl s H C fp) ifs tc) (he:∀ cl s H C fp,PE (ym X Nc scope cl s H C fp) elt te)
  (hs:∀ x,foldedSetIterable iter X.env x=pure x) (I:Inv X pins σ H s) (h:Xw wi ix g tc te σ H R)
  (fin:∀ (D C:Addr) (oC:Obj) (ys:List V) (H3:Hp) (s4:Shared),(∃ m,∀ h':Heap,h'.get? C=some oC->h'.Ns C m)->H3 D=none->(upd H3 D (.lst ys)) C=none->Zp X pins C->Inv X (pins++[(C,oC)]) σ (upd H3 D (.lst ys)) s4->R ys H3 ->
   compPost (model X.prog X.w) X.A X.xe use Q' (.ref D) C (.ok .next) s4) :
  wpAny (model X.prog X.w) X.A (comprehension (.ListComp elt [⟨tg,iter,ifs,0⟩] scope pos) scope X.env ipos (newList []) false (eval iter X.env) use) Q' X.xe s:=by
 obtain ⟨cl,hclos,clX,clF⟩:=Qe (scope:=scope) (env:=X.env) fun x hx hf=>I.ok.has x.1 (hfree x hx hf)
 refine wpAny_comprehension_free (use:=use) rfl hs hclos hkind hnames (thn (hi pins s σ H _ I h) fun v s1 h1=>thn h1 fun itv s2 h2=>?_)
 obtain ⟨it,fp,tn,J,H1,rfl,I1,T,t0,hfp,W,⟨m0,w0⟩,turn⟩:=h2
 refine wpAny_newObj_type (wpAny_newFunctionEnv hcell (by intro y hy;simp at hy) (fun h₁ hns₁ hsb₁=>?_) hkind)
 dsimp only at hns₁ hsb₁ ⊢
 generalize hH2:s2.heap.push {cls:=.type "list",dict:=none,data:=.seq ([]:List Value).toArray}=H2 at hns₁ hsb₁ ⊢
 have hC:H2.objs.size=s2.heap.objs.size+1:=by rw [<- hH2,Heap.size_push]
 have hDC:s2.heap.objs.size≠H2.objs.size:=by rw [hC];exact vz (uo _)
 have old:∀ b o,s2.heap.get? b=some o->h₁.get? b=some o:=fun b o e=>by
  have hb:=Heap.lt_size e
  exact hsb₁.extBut b o (by rw [hC];exact vz (uE hb)) (Heap.get?_push_of_some _ (hH2 ▸ Heap.get?_push_of_some _ e))
 obtain ⟨e0,hacc⟩ : ∃ e0,h₁.get? s2.heap.objs.size=some (seqObj "list" ([]:List Value).toArray e0):=⟨_,hsb₁.extBut _ _ hDC (Heap.get?_push_of_some _ (hH2 ▸ Heap.get?_push_size _ rfl))⟩
 generalize hCC:H2.objs.size=C at hns₁ hsb₁ hDC hC ⊢
 generalize hDD:s2.heap.objs.size=D at hDC hC hacc ⊢
 have hDle:s2.heap.objs.size<=D:=uf hDD
 have hCle:s2.heap.objs.size<=C:=by rw [hC,<- hDD];exact uF _
 have yD:=I1.young hDle
 have nD:H1 D=none:=I1.hok.fresh hDle
 have nC:H1 C=none:=I1.hok.fresh hCle
 have fpLt:∀ b∈fp,b<s2.heap.objs.size:=fun b hb=>by
  obtain ⟨o,e,_⟩:=T.obj 0 _ t0 b hb
  exact Heap.lt_size e
 have fpD:D∉fp:=fun hm=>absurd (fpLt _ hm) (uT.mpr hDle)
 have fpC:C∉fp:=fun hm=>absurd (fpLt _ hm) (uT.mpr hCle)
 have frN:∀ b∈frs X.stack,b<s2.heap.objs.size:=fun b hb=>by
  obtain ⟨_,o,ho,_⟩:=I1.stack.mem hb
  exact Heap.lt_size ho
 have frFp:∀ b∈fp,b∉frs X.stack:=fun b hb hm=>by
  rcases kY.mp (I1.stkSub b hm) with z | z
  ·exact (hfp b hb).2.1 z
  ·exact (hfp b hb).2.2.1 z
 -- the block's context
 have ok:(ym X Nc scope cl s2 H1 C fp).Ok :=
  ⟨I.ok.mod,(by show (relabel scope X.env).kind=_;exact hkind),I.ok.glob,I.ok.blt,hCle,(fun x y c e1 e2=>I.ok.inj x y c (clX x c e1) (clX y c e2)),
   (fun x hx=>by
    obtain ⟨z,hz,rfl,hf⟩ : ∃ z∈scope.names,z.1=x/\z.2=.free:=by
     rcases hx with hx | hx
     ·exact hvis x _ hx (.inl rfl)
     ·exact hvis x _ hx (.inr rfl)
    exact clF z hz hf),(fun x c z=>nomatch z),I.ok.hd,I.ok.frames,.inl rfl,
   (fun b hb=>⟨fun z=>fpC ((show b=C from z) ▸ hb),fun x c e=>(hfp b hb).2.2.2.2.1 x c (clX x c e)⟩),(fun b o e=>I1.bs b o e),km I.ok.bsz I1.sz,
   (fun b o e hb=>by
    rcases (hfp b hb).2.2.2.1 with z | z
    ·exact I.ok.noex b o e z
    ·have:=Heap.lt_size (I.ok.bs b o e).1
     exact absurd this (uT.mpr z)),
   frFp,I1.stack,I1.stkFree⟩
 have start:∀ tk,Inv (ym X Nc scope cl s2 H1 C fp) [(D,seqObj "list" ([]:List Value).toArray e0)] (seen ix σ) H1 {s2 with heap:=h₁,toks:=tk}:=fun tk=>by
  refine ⟨ok,rfl,I1.bare,Un.kept old,⟨_,hns₁,fun i x v e1 e2 e3=>?_⟩,fun x c e=>?_,nC,fun x c e=>I1.freeC x c (clX x c e),fun p hp=>?_,I1.hok.kept old,by show (seen ix σ).length=Nc.length;unfold seen;rw [ke];exact hlen⟩
  ·unfold seen at e2
   rw [va] at e2
   cases ei:ix[i]? with
   | none=>rw [ei] at e2;cases e2
   | some o =>
    rw [ei] at e2
    cases o with
    | none=>cases e2
    | some j =>
     have e2':(σ[j]?).getD none=some v:=Option.some.inj e2
     have e2'':σ[j]?=some (some v):=by
      cases ej:σ[j]? with
      | none=>rw [ej] at e2';cases e2'
      | some z=>rw [ej] at e2';exact congrArg some e2'
     obtain ⟨n1,n2,n3,n4⟩:=hix i x j e1 ei
     obtain ⟨m,hm,hl⟩:=I1.loc
     obtain ⟨u,ru,lk⟩:=hl j x v n1 e2'' n2
     refine ⟨u,ru,.inr ⟨n4,?_⟩⟩
     rcases lk with ⟨k,_⟩ | ⟨_,c,ec,hc'⟩
     ·exact (n3 k).elim
     ·obtain ⟨z,hz,rfl,hf⟩ : ∃ z∈scope.names,z.1=x/\z.2=.free:=by
       rcases n4 with hx | hx
       ·exact hvis x _ hx (.inl rfl)
       ·exact hvis x _ hx (.inr rfl)
      obtain ⟨c',ec'⟩:=clF z hz hf
      have:c'=c:=Option.some.inj ((clX _ _ ec').symm.trans ec)
      subst this
      obtain ⟨o,ho,hd⟩:=hc'
      exact ⟨c',ec',o,old _ o ho,hd⟩
  ·obtain ⟨v,o,ho,hd⟩:=I1.cell x c (clX x c e)
   exact ⟨v,o,old _ o ho,hd⟩
  ·have hp':p=(D,seqObj "list" ([]:List Value).toArray e0):=by simpa [ym] using hp
   subst hp'
   exact ⟨hacc,nD,hDC,fun hm=>absurd (frN _ hm) (uT.mpr hDle),fun v z=>by cases z⟩
 have stat:∀ {ks:List Value} {e:Nat} {H':Hp},(∀ b∈fp,H' b=none)->∀ b∈fp,FpOk (ym X Nc scope cl s2 H1 C fp) [(D,seqObj "list" ks.toArray e)] H' b:=fun {ks e H'} hn b hb =>
  ⟨hn b hb,fun z=>fpC ((show b=C from z) ▸ hb),frFp b hb,.inl hb,fun x c ec=>(hfp b hb).2.2.2.2.1 x c (clX x c ec),fun p hp z=>by
   have hp':p=(D,seqObj "list" ks.toArray e):=by simpa [ym] using hp
   subst hp'
   exact fpD ((show b=D from z.symm) ▸ hb)⟩
 have loop:∀ tk,codeAny (model X.prog X.w) X.A (.compLoop (.ListComp elt [⟨tg,iter,ifs,0⟩] scope pos) 0 (.ref it) (.ref D) (compEnvC scope cl C X.env)) (compPost (model X.prog X.w) X.A X.xe use Q' (.ref D) C) {s2 with heap:=h₁,toks:=tk}:=fun tk=>by
  refine codeAny_loop rfl (fun n s'=>∃ i ys ks e σ' H',Inv (ym X Nc scope cl s2 H1 C fp) [(D,seqObj "list" ks.toArray e)] σ' H' s'/\Vals ys ks/\tn i s'.heap/\(∀ b∈fp,H' b=none)/\W i n ys σ' H') ?_ m0
   ⟨0,[],[],e0,_,H1,start tk,.nil,T.keep _ _ _ t0 fun b _ o e=>old b o e,fun b hb=>(hfp b hb).1,w0⟩
  rintro n s3 ⟨i,ys,ks,e,σ3,H3,I3,rv,st3,fr3,w3⟩
  show wpAny _ X.A ((compTurn (.ListComp elt [⟨tg,iter,ifs,0⟩] scope pos) 0 (.ref it) (.ref D) (compEnvC scope cl C X.env)).onRaise (fun x=>do noteFrame x (compEnvC scope cl C X.env);theTreesLotGoes x)) _ _ s3
  refine wpAny_noted ?_
  rw [compTurn_list]
  refine wpAny_bind (wpAny_standAt ?_)
  have lk:=rv.length
  rcases turn i n ys σ3 H3 w3 with ⟨stop,sz,q⟩ | ⟨go,sz,N,hN,step⟩
  ·refine wpAny_bind (thn (T.done (ym X Nc scope cl s2 H1 C fp) rfl rfl rfl hc i _ s3 σ3 H3 _ I3 (stat fr3) st3 stop) fun r s4 h9=>?_)
   obtain ⟨hr,I4⟩:=h9
   subst hr
   refine wpAny_pure ?_
   obtain ⟨m,⟨oC,esC,epC,hoC,hdC,rC⟩,_⟩:=I4.loc
   have hoC:s4.heap.get? C=some oC:=hoC
   have pD:=I4.pin (D,seqObj "list" ks.toArray e) (kQ _ kw)
   have nC4:H3 C=none:=I4.free
   have yC:=I1.young hCle
   have I5:Inv X pins σ H3 s4:=I1.call' (ch:=fp) I4.os (show Un (frs X.stack) fp H1 H3 s2.heap s4.heap from I4.base) I4.hok I4.bare fun b hb=>⟨(hfp b hb).2.2.2.1,(hfp b hb).2.1,(hfp b hb).2.2.2.2.1,(hfp b hb).2.2.2.2.2⟩
   have I6:=I5.track (p:=D) (o:=.lst ys) pD.2.1 (Heap.get?_none_of_le (km I1.sz hDle)) yD.lo yD.ce yD.pi ⟨sz,ks,e,rv,pD.1⟩
   have nC6:(upd H3 D (.lst ys)) C=none:=by rw [zp hDC.symm];exact nC4
   have I7:Inv X (pins++[(C,oC)]) σ (upd H3 D (.lst ys)) s4:=I6.pins_of fun p hp=>by
    rcases vc.mp hp with hp | hp
    ·exact I6.pin p (kQ _ hp)
    ·obtain rfl:=kD.mp hp
     exact ⟨hoC,nC6,yC.lo,yC.fs,fun v z=>by rw [hdC] at z;cases z⟩
   exact fin D C oC ys H3 s4 ⟨m,fun h' e'=>⟨oC,esC,epC,e',hdC,rC⟩⟩ pD.2.1 nC6 yC I7 q
  ·refine wpAny_bind (thn (T.item (ym X Nc scope cl s2 H1 C fp) rfl rfl rfl hc i _ s3 σ3 H3 _ I3 (stat fr3) st3 go) fun r s4 h9=>?_)
   obtain ⟨u,hr,h4⟩:=h9
   subst hr
   refine wpAny_bind (thn h4 fun _ s5 h9=>?_)
   obtain ⟨x,H5,I5,r5,y5,st5,fr5⟩:=h9
   have I5':=I5.pinned (stat fr5) (T.obj _ _ st5)
   refine wpAny_bind (wpAny_mono (hg cl s2 H1 C fp _ s5 σ3 H5 x u _ I5' r5 (step x H5 y5)) (fun _ s6 ⟨σ6,H6,I6,q6⟩=>?_) fun _ _ z=>False.elim z)
   refine wpAny_bind (wpAny_mono (hifs cl s2 H1 C fp _ s6 σ6 H6 _ I6 q6) (fun ok s7 ⟨H7,I7,q7⟩=>?_) fun _ _ z=>False.elim z)
   have fin:∀ {ks':List Value} {e':Nat} {ys':List V} {σ8:St} {H8:Hp} {s8:Shared},Inv (ym X Nc scope cl s2 H1 C fp) ([(D,seqObj "list" ks'.toArray e')]++x4 fp s5.heap) σ8 H8 s8->Vals ys' ks'->N ys' σ8 H8 ->
     ∃ m,m<n/\∃ i ys ks e σ' H',Inv (ym X Nc scope cl s2 H1 C fp) [(D,seqObj "list" ks.toArray e)] σ' H' s8/\Vals ys ks/\tn i s8.heap/\(∀ b∈fp,H' b=none)/\W i m ys σ' H':=fun {ks' e' ys' σ8 H8 s8} I8 rv' n8=>by
    obtain ⟨m',hm,w8⟩:=hN _ σ8 H8 n8
    refine ⟨m',hm,i+1,ys',ks',e',σ8,H8,I8.unpinned,rv',T.keep _ _ _ st5 fun b hb o eo=>(I8.pin (b,o) (kQ _ (kQ _ (x9 hb eo)))).1,fun b hb=>?_,w8⟩
    obtain ⟨o,eo,d⟩:=T.obj _ _ st5 b hb
    exact (I8.pin (b,o) (kQ _ (kQ _ (x9 hb eo)))).2.1
   cases ok with
   | false =>
    have q7:=za4 q7
    exact wpAny_pure ⟨rfl,fin I7 rv q7⟩
   | true =>
    have q7:=za5 q7
    refine wpAny_bind (wpAny_bind (wpAny_mono (he cl s2 H1 C fp _ s7 σ6 H7 _ I7 q7) (fun y s8 ⟨vy,H8,I8,ry,n8⟩=>?_) fun _ _ z=>False.elim z))
    have pD:=I8.pin (D,seqObj "list" ks.toArray e) (kQ _ (vt _ kw))
    refine wpAny_bind (wpAny_list_append_plain (hsz:=by rw [ku,<- lk];exact sz) ⟨e,pD.1⟩ fun h9 hl9 hs9=>?_)
    refine wpAny_pure (wpAny_pure ⟨rfl,?_⟩)
    obtain ⟨e9,hl9⟩:=hl9
    have ea:ks.toArray.push y=(ks++[y]).toArray:=by simp
    rw [ea] at hl9
    refine fin (ks':=ks++[y]) (e':=e9) (ys':=ys++[vy]) ?_ (Vals.append rv (.cons ry .nil)) n8
    have ne9:∀ p∈x4 fp s5.heap,p.1≠D:=fun p hp z=>fpD (z ▸ (Ym hp).1)
    have yDb:Zp (ym X Nc scope cl s2 H1 C fp) (x4 fp s5.heap) D:=⟨hDC,fun hm=>absurd (frN _ hm) (uT.mpr hDle),.inr hDle,fun x c ec=>yD.ce x c (clX x c ec),fun p hp=>ne9 p (by simpa [ym] using hp)⟩
    have I8a:Inv (ym X Nc scope cl s2 H1 C fp) (x4 fp s5.heap) σ6 H8 s8:=I8.pins_of fun p hp=>I8.pin p (kQ _ (kQ _ hp))
    have I8b:=I8a.record yDb pD.2.1 hs9
    exact I8b.pins_of fun p hp=>by
     rcases vc.mp hp with hp | hp
     ·obtain rfl:=kD.mp hp
      exact ⟨hl9,pD.2.1,yDb.lo,yDb.fs,fun v z=>by cases z⟩
     ·exact I8b.pin p (kQ _ hp)
 exact codeAny_compStart_list (loop _) (T.self _ 0 _ _ _ (T.keep _ _ _ t0 fun b _ o e=>old b o e) (loop _))
theorem Zr {X:Cx} {scope:Scope} {Nc:List Str} {ix:List (Option Nat)} (h:Zq scope X.env.scope X.N Nc ix=true):(∀ y∈scope.names,y.2≠.cell)/\scope.kind=.function/\(∀ y∈scope.names,y.2=.local->scope.names.lookup y.1=some .local) /\
  (∀ y∈scope.names,y.2=.free->X.env.kindOf y.1=some .cell\/X.env.kindOf y.1=some .free)/\ix.length=Nc.length /\
  ∀ (i:Nat) (x:Str) (j:Nat),Nc[i]?=some x->ix[i]?=some (some j)->X.N[j]?=some x/\Vis X.env.scope x/\(X.env.kindOf x=some .local->False)/\((relabel scope X.env).names.lookup x=some .cell\/(relabel scope X.env).names.lookup x=some .free):=by
 unfold Zq at h
 simp only [vx,beq_iff_eq,vD,uR,bne_iff_ne] at h
 obtain ⟨⟨⟨⟨⟨h1,h2⟩,h3⟩,h4⟩,h5⟩,h6⟩:=h
 refine ⟨h1,h2,fun y hy e=>?_,fun y hy e=>?_,h5,fun i x j e1 e2=>?_⟩
 ·rcases h3 y hy with z | z
  ·exact absurd e z
  ·exact z
 ·rcases h4 y hy with (z | z) | z
  ·exact absurd e z
  ·exact .inl z
  ·exact .inr z
 ·have q:=h6 i (vO.mpr (kg.mp e1).1)
  rw [e1,e2] at q
  simp only [vx,beq_iff_eq,uR] at q
  obtain ⟨⟨q1,q2⟩,q3⟩:=q
  refine ⟨q1,?_,fun z=>?_,wI q3⟩
  ·rcases q2 with z | z
   ·exact .inr (.inl z)
   ·exact .inr (.inr z)
  ·have z':X.env.scope.names.lookup x=some .local:=z
   rcases q2 with y | y
   ·rw [y] at z';cases z'
   ·rw [y] at z';cases z'
theorem yq {X:Cx} {elt tg iter:Expr} {ifs:List Expr} {scope:Scope} {pos:Pos} {Nc:List Str} {ix:List (Option Nat)} {wi:TI} {g:TG} {tc:TT} {te:TE} (hc:X.calm=true) (hok:Zq scope X.env.scope X.N Nc ix=true)
  (hi:PI X tg iter wi) (hg:∀ cl s H C fp,PG (ym X Nc scope cl s H C fp) tg g) (hifs:∀ cl s H C fp,PTs (ym X Nc scope cl s H C fp) ifs tc) (he:∀ cl s H C fp,PE (ym X Nc scope cl s H C fp) elt te)
  (hs:∀ x,foldedSetIterable iter X.env x=pure x:=by intro _;rfl):PE X (.ListComp elt [⟨tg,iter,ifs,0⟩] scope pos) (zdb wi ix g tc te):=by
 intro pins s σ H Q I h
 obtain ⟨h1,h2,h3,h4,h5,h6⟩:=Zr hok
 rw [eval_ListComp]
 refine Yx (Q':=EP X pins σ Q) hc h1 h2 h3 h4 (fun y k e hk=>qK h1 e hk) h5 h6 hi hg hifs he hs I h fun D C oC ys H3 s4 hN nD nC yC I4 q=>?_
 have pC:=I4.pin (C,oC) (kQ _ (kQ _ kw))
 obtain ⟨m,hm⟩:=hN
 exact ⟨m,hm _ pC.1,fun h' hsb=>⟨.ref D,_,I4.unpinned.record yC nC hsb,rfl,q D nD⟩⟩
noncomputable def zdc (i:Nat) (wi:TI) (ix:List (Option Nat)) (g:TG) (tc:TT) (te:TE):TS:=fun D σ H=>Xw wi ix g tc te σ H fun ys H'=>∀ l,H' l=none->D.nx (σ.set i (some (.ref l))) (upd H' l (.lst ys))
theorem xR {X:Cx} {i:Nat} {y:Str} {elt tg iter:Expr} {ifs:List Expr} {scope:Scope} {pos spos py:Pos} {Nc:List Str} {ix:List (Option Nat)} {wi:TI} {g:TG} {tc:TT} {te:TE} (hN:X.N.Nodup) (hi':X.N[i]?=some y) (hx:Loc X.env.scope y) (hc:X.calm=true) (hok:Zq scope X.env.scope X.N Nc ix=true)
  (hi:PI X tg iter wi) (hg:∀ cl s H C fp,PG (ym X Nc scope cl s H C fp) tg g) (hifs:∀ cl s H C fp,PTs (ym X Nc scope cl s H C fp) ifs tc) (he:∀ cl s H C fp,PE (ym X Nc scope cl s H C fp) elt te)
  (hs:∀ x,foldedSetIterable iter X.env x=pure x:=by intro _;rfl) (hsw:swapsWith (.ListComp elt [⟨tg,iter,ifs,0⟩] scope pos) (some (.Name y py)) spos.line X.env=pure true:=by rfl)
  (hf:X.fn y=true\/X.env.scope.names.lookup y=some .local:=by first | exact .inl rfl | exact .inr rfl | assumption):PS X (.Assign [.Name y py] (.ListComp elt [⟨tg,iter,ifs,0⟩] scope pos) spos) (zdc i wi ix g tc te):=by
 intro pins s σ H D I h
 obtain ⟨h1,h2,h3,h4,h5,h6⟩:=Zr hok
 rw [exec_Assign_Name_used _ _ _ _ hsw]
 refine wpAny_bind (wpAny_standAt (wpAny_bind ?_))
 show wpAny _ X.A (do let _ <- comprehension (.ListComp elt [⟨tg,iter,ifs,0⟩] scope pos) scope X.env _ (newList []) false (eval iter X.env) (some (assign (.Name y py) X.env))) _ _ s
 refine wpAny_bind (wpAny_mono (Yx (Q':=fun _ s'=>SP X pins D .next s') hc h1 h2 h3 h4 (fun y k e hk=>qK h1 e hk) h5 h6 hi hg hifs he hs I h fun Da C oC ys H3 s4 hN' nD nC yC I4 q=>?_)
  (fun _ s' hq=>wpAny_pure (wpAny_pure hq)) fun _ _ e=>e)
 show wpAny _ _ (assign (.Name y py) X.env (.ref Da)) _ _ s4
 refine thn (zo (i:=i) hN hi' hx hf _ s4 σ _ (.ref Da) (.ref Da) (fun σ' H'=>σ'=σ.set i (some (.ref Da))/\H'=upd H3 Da (.lst ys)) I4 rfl ⟨rfl,rfl⟩) fun _ s5 h9=>?_
 obtain ⟨σ5,H5,I5,e1,e2⟩:=h9
 subst e1 e2
 have pC:=I5.pin (C,oC) (kQ _ (kQ _ kw))
 obtain ⟨m,hm⟩:=hN'
 exact ⟨m,hm _ pC.1,fun h' hsb=>⟨_,_,I5.unpinned.record yC nC hsb,q Da nD⟩⟩
section
variable {X:Cx}
theorem wJ {pins:List (Addr×Obj)} {σ:St} {H:Hp} {s:Shared} {a:Addr} {its:List Value} (I:Inv X pins σ H s) (tp:s.heap.IsList a its.toArray) (hc:X.calm=true) {Q:Value->Shared->Prop}
  (q:∀ s2:Shared,s2={s with heap:=s.heap.push {cls:=.type "list_iterator",data:=.fields #[.ref a,.int 0 0]}}->Walks X.prog X.w X.A.in1 s.heap.objs.size [s.heap.objs.size,a] [s.heap.objs.size] its.toArray.size (fun i v=>its.toArray[i]?=some v) (fun i h=>h.IsListIter s.heap.objs.size a i/\h.IsList a its.toArray) ->
   (s2.heap.IsListIter s.heap.objs.size a 0/\s2.heap.IsList a its.toArray)->(∀ b∈[s.heap.objs.size,a],b<s2.heap.objs.size)->Q (.ref s.heap.objs.size) s2):wpAny (model X.prog X.w) X.A.in1 (pyIter (.ref a)) Q X.xe s:=by
 have hlt:a<s.heap.objs.size:=by obtain ⟨_,e,_⟩:=tp;exact Heap.lt_size e
 refine wpAny_pyIter_list tp (q _ rfl (Walks.list (by exact I.ok.hd hc) _ _ (vz hlt) _) ⟨⟨_,Heap.get?_push_size _ rfl,rfl,rfl⟩,?_⟩ fun b hb=>?_)
 ·obtain ⟨o,e,r⟩:=tp
  exact ⟨o,Heap.get?_push_of_some _ e,r⟩
 ·show b<(s.heap.push _).objs.size
  rw [Heap.size_push]
  rcases kY.mp hb with rfl | hb
  ·exact uo _
  ·rw [kD.mp hb]
   exact uE hlt
theorem Xx {bs:List Bool} {its:List Value} (r:Vals (bs.map V.bl) its):∀ (i:Nat) (v:Value),its.toArray[i]?=some v->v=Value.bool (bs.getD i false):=by
 intro i v e
 rw [List.getElem?_toArray] at e
 have hl:=r.length
 have hi:i<its.length:=(kg.mp e).1
 rw [ke] at hl
 have hx:(bs.map V.bl)[i]?=some (.bl (bs.getD i false)):=by
  rw [va,kh (by omega)]
  simp [List.getD,show i<bs.length by omega]
 obtain ⟨u,hu,ru⟩:=r.get hx
 rw [e] at hu
 cases hu
 exact ru
theorem all_range (bs:List Bool):(vo bs.length).all (fun i=>bs.getD i false)=bs.all id:=by
 rw [vR,vD,vD]
 constructor
 ·intro h b hb
  obtain ⟨i,hi,rfl⟩:=ug.mp hb
  have:=h i (vO.mpr hi)
  rwa [getD_at hi] at this
 ·intro h i hi
  have hi:=vO.mp hi
  rw [getD_at hi]
  exact h _ (vF hi)
theorem any_range (bs:List Bool):(vo bs.length).any (fun i=>bs.getD i false)=bs.any id:=by
 rw [vR,List.any_eq_true,List.any_eq_true]
 constructor
 ·rintro ⟨i,hi,h⟩
  have hi:=vO.mp hi
  rw [getD_at hi] at h
  exact ⟨_,vF hi,h⟩
 ·rintro ⟨b,hb,h⟩
  obtain ⟨i,hi,rfl⟩:=ug.mp hb
  exact ⟨i,vO.mpr hi,by rw [getD_at hi];exact h⟩
theorem jg (hc:X.calm=true):yM X (.builtin "all") (fun xs H Q=>∃ (a:Addr) (bs:List Bool),xs=[.ref a]/\SqL X.K H a (bs.map V.bl)/\Q (.bl (bs.all id)) H):=by
 intro pins s σ H xs us Q I r h
 refine E_2 h fun a bs n8=>A_3 n8 fun e9 hq q=>?_;clear n8 h;subst e9
 obtain ⟨u,rfl,ru⟩:=vals1 r
 cases ru
 obtain ⟨its,rv,tp,hz⟩:=I.list hq
 have hl:=rv.length
 rw [ke] at hl
 refine call_all_walk (wJ I tp.isList hc fun s2 e W st hfp=>?_)
 subst e
 refine ⟨_,_,_,_,_,_,fun i=>bs.getD i false,rfl,W,st,fun i v A' Q' E' hP hQ=>?_,fun h' tk hk=>?_⟩
 ·have:=Xx rv i v hP
  subst this
  exact wpAny_truthy_bool hQ
 ·refine ⟨.bl _,H,I.kept (t':=tk) fun b o e=>hk b o (fun m=>?_) (Heap.get?_push_of_some _ e),?_,q⟩
  ·have:=Heap.lt_size e
   rw [kD.mp m] at this
   exact vK _ this
  ·show Value.bool _=Value.bool _
   rw [ku,<- hl,all_range]
theorem Q2 (hc:X.calm=true):yM X (.builtin "any") (fun xs H Q=>∃ (a:Addr) (bs:List Bool),xs=[.ref a]/\SqL X.K H a (bs.map V.bl)/\Q (.bl (bs.any id)) H):=by
 intro pins s σ H xs us Q I r h
 refine E_2 h fun a bs n8=>A_3 n8 fun e9 hq q=>?_;clear n8 h;subst e9
 obtain ⟨u,rfl,ru⟩:=vals1 r
 cases ru
 obtain ⟨its,rv,tp,hz⟩:=I.list hq
 have hl:=rv.length
 rw [ke] at hl
 refine call_any_walk (wJ I tp.isList hc fun s2 e W st hfp=>?_)
 subst e
 refine ⟨_,_,_,_,_,_,fun i=>bs.getD i false,rfl,W,st,fun i v A' Q' E' hP hQ=>?_,fun h' tk hk=>?_⟩
 ·have:=Xx rv i v hP
  subst this
  exact wpAny_truthy_bool hQ
 ·refine ⟨.bl _,H,I.kept (t':=tk) fun b o e=>hk b o (fun m=>?_) (Heap.get?_push_of_some _ e),?_,q⟩
  ·have:=Heap.lt_size e
   rw [kD.mp m] at this
   exact vK _ this
  ·show Value.bool _=Value.bool _
   rw [ku,<- hl,any_range]
theorem Q3 (hc:X.calm=true):yM X (.builtin "min") (fun xs H Q=>∃ (a:Addr) (ns:List Int),xs=[.ref a]/\SqL X.K H a (ns.map V.int)/\0<ns.length/\∀ M,M∈ns->(∀ z∈ns,M<=z)->Q (.int M) H):=by
 intro pins s σ H xs us Q I r h
 refine E_2 h fun a ns n8=>A_4 n8 fun e9 hq hn q=>?_;clear n8 h;subst e9
 obtain ⟨u,rfl,ru⟩:=vals1 r
 cases ru
 obtain ⟨its,rv,tp,hz⟩:=I.list hq
 have hl:=rv.length
 rw [ke] at hl
 refine call_min_walk (wJ I tp.isList hc fun s2 e W st hfp=>?_)
 subst e
 refine I_7 _ _ _ _ _ _ _ ⟨rfl,W,st,hfp,by simp;omega,CmpOf.ints_lt (fun i=>ns.getD i 0) (xQ rv),fun v h' tk hP hk=>?_⟩
 obtain ⟨t,rfl⟩:=xQ rv _ _ hP
 obtain ⟨b1,b2⟩:=argBest_lt (fun i=>ns.getD i 0) (its.toArray.size-1)
 rw [ku] at b1 b2
 refine ⟨.int _,H,I.kept (t':=tk) fun b o e=>hk b o (fun m=>?_) (Heap.get?_push_of_some _ e),⟨t,rfl⟩,q _ (j7 ?_) fun z hz=>?_⟩
 ·have:=Heap.lt_size e
  rw [kD.mp m] at this
  exact vK _ this
 ·rw [ku];omega
 ·obtain ⟨j,hj,e⟩:=Xr hz
  rw [<- e,ku]
  exact b2 j (by omega)
theorem Q4 (hc:X.calm=true):yM X (.builtin "max") (fun xs H Q=>∃ (a:Addr) (ns:List Int),xs=[.ref a]/\SqL X.K H a (ns.map V.int)/\0<ns.length/\∀ M,M∈ns->(∀ z∈ns,z<=M)->Q (.int M) H):=by
 intro pins s σ H xs us Q I r h
 refine E_2 h fun a ns n8=>A_4 n8 fun e9 hq hn q=>?_;clear n8 h;subst e9
 obtain ⟨u,rfl,ru⟩:=vals1 r
 cases ru
 obtain ⟨its,rv,tp,hz⟩:=I.list hq
 have hl:=rv.length
 rw [ke] at hl
 refine call_max_walk (wJ I tp.isList hc fun s2 e W st hfp=>?_)
 subst e
 refine I_7 _ _ _ _ _ _ _ ⟨rfl,W,st,hfp,by simp;omega,CmpOf.ints_gt (fun i=>ns.getD i 0) (xQ rv),fun v h' tk hP hk=>?_⟩
 obtain ⟨t,rfl⟩:=xQ rv _ _ hP
 obtain ⟨b1,b2⟩:=argBest_gt (fun i=>ns.getD i 0) (its.toArray.size-1)
 rw [ku] at b1 b2
 refine ⟨.int _,H,I.kept (t':=tk) fun b o e=>hk b o (fun m=>?_) (Heap.get?_push_of_some _ e),⟨t,rfl⟩,q _ (j7 ?_) fun z hz=>?_⟩
 ·have:=Heap.lt_size e
  rw [kD.mp m] at this
  exact vK _ this
 ·rw [ku];omega
 ·obtain ⟨j,hj,e⟩:=Xr hz
  rw [<- e,ku]
  exact b2 j (by omega)
end
inductive EqR (K:Frag) (H:Hp):Nat->V->V->Bool->Prop where
 | flat {n:Nat} {x y:V} (fx:y6 x=true) (fy:y6 y=true):EqR K H n x y (eqV x y)
 | tups {n:Nat} {a b:Addr} {xs ys:List V} {e:Nat->Bool} (ha:SqT K H a xs) (hb:SqT K H b ys) (he:∀ j,j<xs.length->j<ys.length->EqR K H n (xs.getD j .non) (ys.getD j .non) (e j)) :
   EqR K H (n+1) (.ref a) (.ref b) ((vo (min xs.length ys.length)).all e && xs.length == ys.length)
 | lsts {n:Nat} {a b:Addr} {xs ys:List V} {e:Nat->Bool} (ha:SqL K H a xs) (hb:SqL K H b ys) (hl:xs.length=ys.length) (he:∀ j,j<xs.length->EqR K H n (xs.getD j .non) (ys.getD j .non) (e j)) :
   EqR K H (n+1) (.ref a) (.ref b) ((vo xs.length).all e)
 | lens {n:Nat} {a b:Addr} {xs ys:List V} (ha:SqL K H a xs) (hb:SqL K H b ys) (hl:xs.length≠ys.length):EqR K H (n+1) (.ref a) (.ref b) false
theorem qL:∀ {x:V},y6 x=true->eqV x x=true
 | .non,_=>rfl
 | .bl b,_=>beq_self_eq_true b
 | .int i,_=>beq_self_eq_true i
 | .str s,_=>beq_self_eq_true s
section
variable {X:Cx} {pins:List (Addr×Obj)} {σ:St} {H:Hp} {s:Shared}
theorem EqR.refl (I:Inv X pins σ H s) {n:Nat} {x y:V} {b:Bool} (h:EqR X.K H n x y b):x=y->b=true:=by
 induction h with
 | flat fx fy=>intro e;subst e;exact qL fx
 | @tups n a b xs ys e ha hb he ih =>
  intro z
  cases z
  have:=I.tuple_inj ha hb
  subst this
  rw [beq_self_eq_true,Bool.and_true,vD]
  intro j hj
  have hj:=vO.mp hj
  exact ih j (by omega) (by omega) rfl
 | @lsts n a b xs ys e ha hb hl he ih =>
  intro z
  cases z
  have:=I.list_inj ha hb
  subst this
  rw [vD]
  intro j hj
  exact ih j (vO.mp hj) rfl
 | @lens n a b xs ys ha hb hl =>
  intro z
  cases z
  exact absurd (by rw [I.list_inj ha hb]) hl
theorem EqR.at (I:Inv X pins σ H s) {n:Nat} {x y:V} {b:Bool} (h:EqR X.K H n x y b):∀ {A:Around} {u v:Value},RelV x u->RelV y v->A.units+n<cLine->SeqAt.EqAt A s u v b:=by
 induction h with
 | flat fx fy=>intro A u v ru rv _;exact Xn ru rv fx fy
 | @tups n a b xs ys e ha hb he ih =>
  intro A u v ru rv hu
  cases ru
  cases rv
  by_cases hab:a=b
  ·have:=EqR.refl I (EqR.tups (n:=n) ha hb he) (by rw [hab])
   rw [this,hab]
   exact SeqAt.EqAt.same _
  ·obtain ⟨i1,r1,p1,z1⟩:=I.tuple ha
   obtain ⟨i2,r2,p2,z2⟩:=I.tuple hb
   have l1:=r1.length
   have l2:=r2.length
   have:=SeqAt.RcAt.tuples (A:=A) (e:=e) (show s.heap.IsTuple a i1.toArray from p1) (show s.heap.IsTuple b i2.toArray from p2) (by omega) fun j h1 h2=>by
    have h1':j<i1.length:=by simpa using h1
    have h2':j<i2.length:=by simpa using h2
    have q:=ih j (by omega) (by omega) (A:=A.in1) (yY r1 h1') (yY r2 h2') (by show A.units+1+n<cLine;omega)
    simpa using q
   rw [ku,ku,<- l1,<- l2] at this
   exact SeqAt.EqAt.of_refs hab this
 | @lsts n a b xs ys e ha hb hl he ih =>
  intro A u v ru rv hu
  cases ru
  cases rv
  by_cases hab:a=b
  ·have:=EqR.refl I (EqR.lsts (n:=n) ha hb hl he) (by rw [hab])
   rw [this,hab]
   exact SeqAt.EqAt.same _
  ·obtain ⟨i1,r1,p1,z1⟩:=I.list ha
   obtain ⟨i2,r2,p2,z2⟩:=I.list hb
   have l1:=r1.length
   have l2:=r2.length
   have:=SeqAt.RcAt.lists (A:=A) (e:=e) p1.isList p2.isList (by simp;omega) (by omega) fun j h1 h2=>by
    have h1':j<i1.length:=by simpa using h1
    have h2':j<i2.length:=by simpa using h2
    have q:=ih j (by omega) (A:=A.in1) (yY r1 h1') (yY r2 h2') (by show A.units+1+n<cLine;omega)
    simpa using q
   rw [ku,<- l1] at this
   exact SeqAt.EqAt.of_refs hab this
 | @lens n a b xs ys ha hb hl =>
  intro A u v ru rv hu
  cases ru
  cases rv
  obtain ⟨i1,r1,p1,z1⟩:=I.list ha
  obtain ⟨i2,r2,p2,z2⟩:=I.list hb
  have l1:=r1.length
  have l2:=r2.length
  have hab:a≠b:=fun z=>by subst z;exact hl (by rw [I.list_inj ha hb])
  exact SeqAt.EqAt.of_refs hab (SeqAt.RcAt.lists_lengths p1.isList p2.isList (by simp;omega) (by omega))
noncomputable def rEqR (K:Frag) (neg:Bool):R2:=fun x y H Q=>∃ (a c:Addr) (n:Nat) (b:Bool),x=.ref a/\y=.ref c/\EqR K H n x y b/\n<=50/\Q (.bl (if neg then !b else b)) H
theorem Zu (hu:X.A.units+64<cLine):OpR X (compareOp .Eq) (rEqR X.K false):=by
 intro pins s σ H x y v u Q I rx ry h
 refine E_4 h fun a c n b n8=>A_5 n8 fun e9 n90 e hn q=>?_;clear n8 h;subst e9;subst n90
 cases rx
 cases ry
 have fin:∀ {k:Bool},k=b->EP X pins σ Q (.bool k) s:=fun z=>⟨.bl b,H,I,by rw [z];rfl,q⟩
 cases e with
 | flat fx fy=>exact absurd (show false=true from fx) kF
 | @tups n _ _ xs ys e ha hb he =>
  obtain ⟨i1,r1,p1,z1⟩:=I.tuple ha
  obtain ⟨i2,r2,p2,z2⟩:=I.tuple hb
  have l1:=r1.length
  have l2:=r2.length
  refine SeqAt.eq_tupleAt (e:=e) (show s.heap.IsTuple a i1.toArray from p1) (show s.heap.IsTuple c i2.toArray from p2) (by omega) (fun j h1 h2=>?_) (fin ?_)
  ·have h1':j<i1.length:=by simpa using h1
   have h2':j<i2.length:=by simpa using h2
   have q:=(he j (by omega) (by omega)).at I (A:=X.A.in1) (yY r1 h1') (yY r2 h2') (by show X.A.units+1+n<cLine;omega)
   simpa using q
  ·rw [ku,ku,<- l1,<- l2]
 | @lsts n _ _ xs ys e ha hb hl he =>
  obtain ⟨i1,r1,p1,z1⟩:=I.list ha
  obtain ⟨i2,r2,p2,z2⟩:=I.list hb
  have l1:=r1.length
  have l2:=r2.length
  refine SeqAt.eq_listAt (e:=e) p1.isList p2.isList (by simp;omega) (by omega) (fun j h1 h2=>?_) (fin ?_)
  ·have h1':j<i1.length:=by simpa using h1
   have h2':j<i2.length:=by simpa using h2
   have q:=(he j (by omega)).at I (A:=X.A.in1) (yY r1 h1') (yY r2 h2') (by show X.A.units+1+n<cLine;omega)
   simpa using q
  ·rw [ku,<- l1]
 | @lens n _ _ xs ys ha hb hl =>
  obtain ⟨i1,r1,p1,z1⟩:=I.list ha
  obtain ⟨i2,r2,p2,z2⟩:=I.list hb
  have l1:=r1.length
  have l2:=r2.length
  exact SeqAt.eq_list_lengthsAt p1.isList p2.isList (by simp;omega) (by omega) (fin rfl)
theorem Zv (hu:X.A.units+64<cLine):OpR X (compareOp .NotEq) (rEqR X.K true):=by
 intro pins s σ H x y v u Q I rx ry h
 refine E_4 h fun a c n b n8=>A_5 n8 fun e9 n90 e hn q=>?_;clear n8 h;subst e9;subst n90
 cases rx
 cases ry
 have fin:∀ {k:Bool},k=b->EP X pins σ Q (.bool (!k)) s:=fun z=>⟨.bl (!b),H,I,by rw [z];rfl,q⟩
 cases e with
 | flat fx fy=>exact absurd (show false=true from fx) kF
 | @tups n _ _ xs ys e ha hb he =>
  obtain ⟨i1,r1,p1,z1⟩:=I.tuple ha
  obtain ⟨i2,r2,p2,z2⟩:=I.tuple hb
  have l1:=r1.length
  have l2:=r2.length
  refine SeqAt.RcNeAt.tuples (e:=e) (show s.heap.IsTuple a i1.toArray from p1) (show s.heap.IsTuple c i2.toArray from p2) (by omega) (fun j h1 h2=>?_) _ _ _ _ (fin ?_)
  ·have h1':j<i1.length:=by simpa using h1
   have h2':j<i2.length:=by simpa using h2
   have q:=(he j (by omega) (by omega)).at I (A:=X.A.in1) (yY r1 h1') (yY r2 h2') (by show X.A.units+1+n<cLine;omega)
   simpa using q
  ·rw [ku,ku,<- l1,<- l2]
 | @lsts n _ _ xs ys e ha hb hl he =>
  obtain ⟨i1,r1,p1,z1⟩:=I.list ha
  obtain ⟨i2,r2,p2,z2⟩:=I.list hb
  have l1:=r1.length
  have l2:=r2.length
  refine SeqAt.RcNeAt.lists (e:=e) p1.isList p2.isList (by simp;omega) (by omega) (fun j h1 h2=>?_) _ _ _ _ (fin ?_)
  ·have h1':j<i1.length:=by simpa using h1
   have h2':j<i2.length:=by simpa using h2
   have q:=(he j (by omega)).at I (A:=X.A.in1) (yY r1 h1') (yY r2 h2') (by show X.A.units+1+n<cLine;omega)
   simpa using q
  ·rw [ku,<- l1]
 | @lens n _ _ xs ys ha hb hl =>
  obtain ⟨i1,r1,p1,z1⟩:=I.list ha
  obtain ⟨i2,r2,p2,z2⟩:=I.list hb
  have l1:=r1.length
  have l2:=r2.length
  exact SeqAt.RcNeAt.lists_lengths p1.isList p2.isList (by simp;omega) (by omega) _ _ _ _ (fin (k:=false) rfl)
end
open PySem.W
end _L2
namespace _L2
open PySem PySem.Spec PyProof.Rows
section
variable {g:TG} {tc:TT} {te:TE} {σ0:St} {H0:Hp} {R:List V->Hp->Prop} {K:Frag} {a:Addr} {xs:List V}
theorem wp {J:It} {n:Nat} (Pv:Nat->List V->St->Hp->Prop) (h0:Pv 0 [] σ0 H0) (hz:∀ i ys σ H,i<=n->Pv i ys σ H->ys.length<=sizeLine) (hst:∀ ys σ H,Pv n ys σ H->J.stop n H/\R ys H)
  (hgo:∀ i ys σ H,i<n->Pv i ys σ H->J.go i H/\∀ x H2,J.yld i H x H2->g x σ H2 fun σ2 H3=>tc σ2 H3 fun b H4=>if b=true then te σ2 H4 fun y H5=>Pv (i+1) (ys++[y]) σ2 H5 else Pv (i+1) ys σ2 H4) :
  ∃ W:Nat->Nat->List V->St->Hp->Prop,(∃ m,W 0 m [] σ0 H0)/\∀ i m ys σ' H',W i m ys σ' H' ->
   (J.stop i H'/\ys.length<=sizeLine/\R ys H') \/
   (J.go i H'/\ys.length<=sizeLine/\∃ N:List V->St->Hp->Prop,(∀ ys' σ2 H2,N ys' σ2 H2->∃ m',m'<m/\W (i+1) m' ys' σ2 H2) /\
    ∀ x H2,J.yld i H' x H2->g x σ' H2 fun σ2 H3=>tc σ2 H3 fun b H4=>if b=true then te σ2 H4 fun y H5=>N (ys++[y]) σ2 H5 else N ys σ2 H4):=by
 refine ⟨fun i m ys σ H=>m=n-i/\i<=n/\Pv i ys σ H,⟨n,by simp,ve _,h0⟩,?_⟩
 rintro i m ys σ H ⟨rfl,hi,p⟩
 by_cases hlt:i<n
 ·obtain ⟨go,turn⟩:=hgo i ys σ H hlt p
  exact .inr ⟨go,hz i ys σ H hi p,Pv (i+1),fun ys' σ' H' p'=>⟨n-(i+1),by omega,rfl,hlt,p'⟩,turn⟩
 ·have e:i=n:=by omega
  subst e
  obtain ⟨st,r⟩:=hst ys σ H p
  exact .inl ⟨st,hz i ys σ H hi p,r⟩
theorem yH (Pv:Nat->List V->St->Hp->Prop) (h0:Pv 0 [] σ0 H0) (hz:∀ i ys σ H,i<=xs.length->Pv i ys σ H->ys.length<=sizeLine/\SqL K H a xs) (hst:∀ ys σ H,Pv xs.length ys σ H->R ys H)
  (hgo:∀ i x ys σ H,xs[i]?=some x->Pv i ys σ H->g x σ H fun σ2 H3=>tc σ2 H3 fun b H4=>if b=true then te σ2 H4 fun y H5=>Pv (i+1) (ys++[y]) σ2 H5 else Pv (i+1) ys σ2 H4) :
  ∃ W:Nat->Nat->List V->St->Hp->Prop,(∃ m,W 0 m [] σ0 H0)/\∀ i m ys σ' H',W i m ys σ' H' ->
   ((Itl K a).stop i H'/\ys.length<=sizeLine/\R ys H') \/
   ((Itl K a).go i H'/\ys.length<=sizeLine/\∃ N:List V->St->Hp->Prop,(∀ ys' σ2 H2,N ys' σ2 H2->∃ m',m'<m/\W (i+1) m' ys' σ2 H2) /\
     ∀ x H2,(Itl K a).yld i H' x H2->g x σ' H2 fun σ2 H3=>tc σ2 H3 fun b H4=>if b=true then te σ2 H4 fun y H5=>N (ys++[y]) σ2 H5 else N ys σ2 H4) :=
 wp (n:=xs.length) Pv h0 (fun i ys σ H hi p=>(hz i ys σ H hi p).1) (fun ys σ H p=>⟨⟨xs,(hz _ ys σ H (kf _) p).2,kf _⟩,hst ys σ H p⟩)
  fun i ys σ H hi p=>⟨⟨xs,xs[i],(hz i ys σ H (vI hi) p).2,by simp [hi]⟩,fun x H2 y=>by
   obtain ⟨e,y⟩:=y
   subst e
   exact hgo i x ys σ _ (y xs (hz i ys σ _ (vI hi) p).2) p⟩
theorem qd (Pv:Nat->List V->St->Hp->Prop) (h0:Pv 0 [] σ0 H0) (hz:∀ i ys σ H,i<=xs.length->Pv i ys σ H->ys.length<=sizeLine/\SqT K H a xs) (hst:∀ ys σ H,Pv xs.length ys σ H->R ys H)
  (hgo:∀ i x ys σ H,xs[i]?=some x->Pv i ys σ H->g x σ H fun σ2 H3=>tc σ2 H3 fun b H4=>if b=true then te σ2 H4 fun y H5=>Pv (i+1) (ys++[y]) σ2 H5 else Pv (i+1) ys σ2 H4) :
  ∃ W:Nat->Nat->List V->St->Hp->Prop,(∃ m,W 0 m [] σ0 H0)/\∀ i m ys σ' H',W i m ys σ' H' ->
   ((Itt K a).stop i H'/\ys.length<=sizeLine/\R ys H') \/
   ((Itt K a).go i H'/\ys.length<=sizeLine/\∃ N:List V->St->Hp->Prop,(∀ ys' σ2 H2,N ys' σ2 H2->∃ m',m'<m/\W (i+1) m' ys' σ2 H2) /\
     ∀ x H2,(Itt K a).yld i H' x H2->g x σ' H2 fun σ2 H3=>tc σ2 H3 fun b H4=>if b=true then te σ2 H4 fun y H5=>N (ys++[y]) σ2 H5 else N ys σ2 H4) :=
 wp (n:=xs.length) Pv h0 (fun i ys σ H hi p=>(hz i ys σ H hi p).1) (fun ys σ H p=>⟨⟨xs,(hz _ ys σ H (kf _) p).2,kf _⟩,hst ys σ H p⟩)
  fun i ys σ H hi p=>⟨⟨xs,xs[i],(hz i ys σ H (vI hi) p).2,by simp [hi]⟩,fun x H2 y=>by
   obtain ⟨e,y⟩:=y
   subst e
   exact hgo i x ys σ _ (y xs (hz i ys σ _ (vI hi) p).2) p⟩
theorem Q5 {lo:Int} {n:Nat} (Pv:Nat->List V->St->Hp->Prop) (h0:Pv 0 [] σ0 H0) (hz:∀ i ys σ H,i<=n->Pv i ys σ H->ys.length<=sizeLine) (hst:∀ ys σ H,Pv n ys σ H->R ys H)
  (hgo:∀ i ys σ H,i<n->Pv i ys σ H->g (.int (lo+i)) σ H fun σ2 H3=>tc σ2 H3 fun b H4=>if b=true then te σ2 H4 fun y H5=>Pv (i+1) (ys++[y]) σ2 H5 else Pv (i+1) ys σ2 H4) :
  ∃ W:Nat->Nat->List V->St->Hp->Prop,(∃ m,W 0 m [] σ0 H0)/\∀ i m ys σ' H',W i m ys σ' H' ->
   ((Itr lo n).stop i H'/\ys.length<=sizeLine/\R ys H') \/
   ((Itr lo n).go i H'/\ys.length<=sizeLine/\∃ N:List V->St->Hp->Prop,(∀ ys' σ2 H2,N ys' σ2 H2->∃ m',m'<m/\W (i+1) m' ys' σ2 H2) /\
     ∀ x H2,(Itr lo n).yld i H' x H2->g x σ' H2 fun σ2 H3=>tc σ2 H3 fun b H4=>if b=true then te σ2 H4 fun y H5=>N (ys++[y]) σ2 H5 else N ys σ2 H4) :=
 wp (n:=n) Pv h0 hz (fun ys σ H p=>⟨kf _,hst ys σ H p⟩) fun i ys σ H hi p=>⟨hi,fun x H2 y=>by
  obtain ⟨e,y⟩:=y
  subst e y
  exact hgo i ys σ _ hi p⟩
end
open PySem.W
section
variable {X:Cx} {pins:List (Addr×Obj)} {σ:St} {H:Hp} {s:Shared}
theorem Xy {E:Value->Shared->Prop} {Q:Value->Shared->Prop} (I:Inv X pins σ H s) {l:Addr} {xs:List V} (hl:SqL X.K H l xs) (h64:xs.length<64) (key:Nat->Int) (κ:SortKind)
  (kind:2<=xs.length->∀ (vs:List Value) (s':Shared) (pins':List (Addr×Obj)) (C:SortKind->Shared->Prop),Vals xs vs->Inv X pins' σ H s'->C κ s'->wpAny (model X.prog X.w) X.A.in1.in1 (keyKind' vs.toArray) C E s')
  (less:∀ (vs:List Value) (s':Shared) (pins':List (Addr×Obj)) (i j:Nat) (C:Bool->Shared->Prop),i<xs.length->j<xs.length->Vals xs vs->Inv X pins' σ H s'->C (decide (key i<key j)) s' ->
   wpAny (model X.prog X.w) X.A.in1.in1 (keyLt' κ (vs.getD i Value.none) (vs.getD j Value.none)) C (fun _ _=>False) s')
  (q:∀ (D:Addr) (p:Array Nat) (s':Shared),H D=none->_Srt.Ord xs.length p->_Srt.Up key p xs.length->Inv X pins σ (upd H D (.lst (p.toList.map fun i=>xs.getD i .non))) s'->Q (.ref D) s') :
  wpAny (model X.prog X.w) X.A (call (.builtin "sorted") [.ref l]) Q E s:=by
 obtain ⟨vs,rv,pl,hz⟩:=I.list hl
 have lv:=rv.length
 have hsm:vs.length<=sizeLine:=by omega
 refine Calls.call_function_entry kind_sorted plain_sorted entry_sorted (args_sorted1 _) ?_
 unfold Builtin.«sorted»
 refine wpAny_bind (m:=checkCount "sorted" 1 1 _) (wpAny_pure ?_)
 refine wpAny_bind (collect_list pl.isList ?_ hsm)
 refine wpAny_bind (wpAny_newList ?_ hsm)
 have z1:((s.heap.push (seqObj "list" #[] 0)).update s.heap.objs.size (Obj.mapSeq (·++vs.toArray))).objs.size=s.heap.objs.size+1:=by rw [Heap.size_update,size_push']
 have keep1:∀ b o,s.heap.get? b=some o->(((s.heap.push (seqObj "list" #[] 0)).update s.heap.objs.size (Obj.mapSeq (·++vs.toArray))).push (seqObj "list" vs.toArray 0)).get? b=some o:=fun b o e=>by
  have hlt:b<s.heap.objs.size:=Heap.lt_size e
  rw [Heap.get?_push_ne _ _ _ (by rw [z1];exact vz (uE hlt)),Heap.get?_update_ne _ _ _ _ (vz hlt),Heap.get?_push_ne _ _ _ (vz hlt)]
  exact e
 generalize hh1:((s.heap.push (seqObj "list" #[] 0)).update s.heap.objs.size (Obj.mapSeq (·++vs.toArray))).push (seqObj "list" vs.toArray 0)=h1' at keep1 ⊢
 have hD1:h1'.get? (s.heap.objs.size+1)=some (seqObj "list" vs.toArray 0):=by
  rw [<- hh1,<- z1];exact Heap.get?_push_size _ rfl
 show wpAny _ _ _ _ _ {s with heap:=h1'}
 rw [z1]
 clear hh1
 have yD:Zp X pins (s.heap.objs.size+1):=I.young (uF _)
 have nD0:H (s.heap.objs.size+1)=none:=I.hok.fresh (uF _)
 generalize hDD:s.heap.objs.size+1=D at hD1 yD nD0 ⊢
 have I1:Inv X pins σ H {s with heap:=h1'}:=I.kept (t':=s.toks) keep1
 refine wpAny_bind (wpAny_holding (wpAny_call_entry slot_list_sort ⟨_,hD1,rfl⟩ entry_list_sort ?body (args_list_sort _)))
 case body =>
  rw [list_sort_plain]
  refine wpAny_bind (listItems_at hD1 rfl ?_)
  refine wpAny_bind (listUpdate_at hD1 rfl ?_ (by rw [ku];omega) (ve _))
  have sb:=Heap.SameBut.update h1' D (Obj.mapSeq fun _=>(#[]:Array Value))
  obtain ⟨e1,hD2⟩ : ∃ e1,(h1'.update D (Obj.mapSeq fun _=>(#[]:Array Value))).get? D=some (seqObj "list" #[] e1):=⟨_,get?_update_seq hD1 fun _=>#[]⟩
  have I2:=I1.record (h':=h1'.update D (Obj.mapSeq fun _=>(#[]:Array Value))) yD nD0 sb
  generalize h1'.update D (Obj.mapSeq fun _=>(#[]:Array Value))=h2' at hD2 I2 ⊢
  refine wpAny_bind (seqEpoch_at hD2 rfl ?_)
  refine wpAny_bind (wpAny_newTuple ?_ hsm)
  refine wpAny_bind (wpAny_newList ?_ (ve _))
  refine wpAny_holding ?_
  have I3:Inv X pins σ H {s with heap:=(h2'.push {cls:=.type "tuple",data:=.seq vs.toArray}).push {cls:=.type "list",data:=.seq ([]:List Value).toArray}} :=
   I2.kept (t':=s.toks) fun b o e=>Heap.get?_push_of_some _ (Heap.get?_push_of_some _ e)
  have hD3:((h2'.push {cls:=.type "tuple",data:=.seq vs.toArray}).push {cls:=.type "list",data:=.seq ([]:List Value).toArray}).get? D=some (seqObj "list" #[] e1):=Heap.get?_push_of_some _ (Heap.get?_push_of_some _ hD2)
  dsimp only
  show wpAny _ _ _ _ _ {s with heap:=(h2'.push {cls:=.type "tuple",data:=.seq vs.toArray}).push {cls:=.type "list",data:=.seq ([]:List Value).toArray}}
  generalize (h2'.push {cls:=.type "tuple",data:=.seq vs.toArray}).push {cls:=.type "list",data:=.seq ([]:List Value).toArray}=h3' at I3 hD3 ⊢
  have tail:∀ (st:SortSt) (p:Array Nat),arrOf st=p.map (kas_item (vs.toArray.zip vs.toArray))->failedOf st=none->_Srt.Ord xs.length p->_Srt.Up key p xs.length ->
    wpAny (model X.prog X.w) X.A.in1.in1 (do
     let sorted:=(arrOf st).map (·.2)
     let touched:=(<- seqEpoch D) != e1
     Builtin.List.listUpdate (.ref D) fun _=>sorted
     if let some e:=failedOf st then rule "list.sort.comparison-raised"; throw e
     if touched then rule "list.sort.modified"; raiseError "ValueError" "list modified during sort"
     ret .none) (fun fin s''=>∃ v,fin=.done (.ret v)/\wpAny (model X.prog X.w) X.A.in1 (ret (.ref D)) (fun fin s3=>∃ v,fin=.done (.ret v)/\Q v s3) E s'') E {s with heap:=h3'}:=by
   intro st p ha hf po pu
   have out:=kat_snds (ks:=vs) (vs:=vs) rfl ha
   dsimp only
   rw [out,hf]
   have plen:(p.toList.map fun i=>vs.getD i Value.none).length=vs.length:=by rw [ke,Array.length_toList,po.sz,lv]
   refine wpAny_bind (seqEpoch_at hD3 rfl ?_)
   refine wpAny_bind (listUpdate_at hD3 rfl ?_ (ve _) (by rw [ku,plen];omega))
   have sb2:=Heap.SameBut.update h3' D (Obj.mapSeq fun _=>(p.toList.map fun i=>vs.getD i Value.none).toArray)
   have J2:=I3.record yD nD0 sb2
   obtain ⟨c3,hD5⟩ : ∃ c3,(h3'.update D (Obj.mapSeq fun _=>(p.toList.map fun i=>vs.getD i Value.none).toArray)).get? D=some (seqObj "list" (p.toList.map fun i=>vs.getD i Value.none).toArray c3):=⟨_,get?_update_seq hD3 _⟩
   generalize h3'.update D (Obj.mapSeq fun _=>(p.toList.map fun i=>vs.getD i Value.none).toArray)=h6 at J2 hD5 ⊢
   simp only [bne_self_eq_false,uv,if_false]
   have rel:Vals (p.toList.map fun i=>xs.getD i .non) (p.toList.map fun i=>vs.getD i Value.none):=by
    have:∀ (ls:List Nat),(∀ i∈ls,i<xs.length)->Vals (ls.map fun i=>xs.getD i .non) (ls.map fun i=>vs.getD i Value.none):=by
     intro ls
     induction ls with
     | nil=>intro _;exact .nil
     | cons a r ih =>
      intro h
      refine .cons ?_ (ih fun i hi=>h i (kq _ hi))
      have ha:=h a kw
      have:=yY rv (j:=a) (by omega)
      show RelV (xs.getD a .non) (vs.getD a Value.none)
      rw [getD_at (xs:=vs) (by omega:a<vs.length)]
      exact this
    refine this _ fun i hi=>?_
    have m:i∈p:=by simpa using hi
    have m2:i∈(uZ (vo xs.length)):=(Array.Perm.mem_iff po.pm).mp m
    simpa using m2
   have J3:=J2.track (p:=D) (o:=.lst (p.toList.map fun i=>xs.getD i .non)) nD0 (Heap.get?_none_of_le (by rw [<- hDD];have:=I.sz;omega)) yD.lo yD.ce yD.pi
    ⟨by rw [ke,Array.length_toList,po.sz];omega,_,c3,rel,hD5⟩
   exact wpAny_pure ⟨_,rfl,wpAny_pure ⟨_,rfl,q D p _ nD0 po pu J3⟩⟩
  by_cases h2:vs.toArray.size<2
  ·rw [if_pos h2,if_pos h2]
   rw [ku] at h2
   refine wpAny_bind (wpAny_pure ?_)
   rw [StateT.run_pure]
   refine wpAny_bind (wpAny_pure ?_)
   dsimp only
   refine tail _ (uZ (vo xs.length)) ?_ rfl ⟨by simp,Array.Perm.refl _⟩ fun i i1 i2=>by omega
   show vs.toArray.zip vs.toArray=_
   have e:=kas_range (vs.toArray.zip vs.toArray)
   rw [show (vs.toArray.zip vs.toArray).size=xs.length by simp;omega] at e
   exact e.symm
  ·rw [if_neg h2,if_neg h2]
   rw [ku] at h2
   refine wpAny_bind (kind (by omega) vs _ pins _ rv I3 ?_)
   have run:=Yv (key:=key) (n:=vs.length) (cmp:=kas_ask X.prog X.w X.A.in1.in1 κ vs) (s:={s with heap:=h3'}) (Q:=fun r=>_Srt.Ord vs.length r/\_Srt.Up key r vs.length) (fun i j C hi hj hC=>?_) _ (_Srt.JS (n:=vs.length) (by omega))
   ·refine wpAny_bind (wpAny_mono (kat_run (Q:=fun st' s''=>∃ p,arrOf st'=p.map (kas_item (vs.toArray.zip vs.toArray))/\failedOf st'=none/\(_Srt.Ord vs.length p/\_Srt.Up key p vs.length)/\s''={s with heap:=h3'}) rfl (by omega) (by omega)
     (fun p st' s'' a1 a2 a3 a4=>⟨p,a2,a3,a4.1,a4.2⟩) run) ?_ fun _ _ x=>x)
    rintro ⟨⟨⟩,st'⟩ s'' ⟨p,a2,a3,⟨a4,a5⟩,rfl⟩
    dsimp only
    rw [<- lv] at a4 a5
    exact tail st' p a2 a3 a4 a5
   ·exact less vs _ pins i j C (by omega) (by omega) rv I3 hC
end
noncomputable def zce (K:Frag) (tl:TE):TE:=fun σ H Q=>tl σ H fun x H1=>∃ (l:Addr) (xs:List V) (ns:List Int) (rest:List (List V)),x=.ref l/\SqL K H1 l xs/\xs.length<64/\ns.length=xs.length/\rest.length=xs.length/\ns.Nodup /\
 (∀ (i:Nat) (x:V) (n:Int) (r:List V),xs[i]?=some x->ns[i]?=some n->rest[i]?=some r->∃ p,x=.ref p/\H1 p=some (.tup (.int n::r))/\r.length=1) /\
 ∀ (D:Addr) (p:Array Nat),H1 D=none->_Srt.Ord xs.length p->_Srt.Up (fun i=>ns.getD i 0) p xs.length->Q (.ref D) (upd H1 D (.lst (p.toList.map fun i=>xs.getD i .non)))
theorem JY {X:Cx} {l:Expr} {tl:TE} {p pos:Pos} (hg:Gl X "sorted") (hm:X.mg "sorted" = none) (hl:PE X l tl) (hs:starEach [l] X.env=[(false,eval l X.env)]:=by rfl):PE X (.Call (.Name "sorted" p) [l] [] pos) (zce X.K tl):=by
 intro pins s σ H Q I h
 refine wpAny_Call_Name_kw (xb I hg hm boot_sorted ?_ (by decide) (by decide))
 refine bg (thn ((za hl zb hs) pos pins s σ H (fun vs H1=>match vs with
  | [x]=>∃ (l:Addr) (xs:List V) (ns:List Int) (rest:List (List V)),x=.ref l/\SqL X.K H1 l xs/\xs.length<64/\ns.length=xs.length/\rest.length=xs.length/\ns.Nodup /\
   (∀ (i:Nat) (x:V) (n:Int) (r:List V),xs[i]?=some x->ns[i]?=some n->rest[i]?=some r->∃ p,x=.ref p/\H1 p=some (.tup (.int n::r))/\r.length=1) /\
   ∀ (D:Addr) (p:Array Nat),H1 D=none->_Srt.Ord xs.length p->_Srt.Up (fun i=>ns.getD i 0) p xs.length->Q (.ref D) (upd H1 D (.lst (p.toList.map fun i=>xs.getD i .non)))
  | _=>False) I h) fun us s1 ⟨vs,H1,I1,r1,q1⟩=>?_) (by rw [hs];rfl) (by rfl)
 match vs,q1 with
 | [x],q1 =>
 obtain ⟨u,rfl,ru⟩:=vals1 r1
 refine E_4 q1 fun la xs ns rest n8=>A_8 n8 fun e9 hL h64 hns hrs nd items q=>?_;clear n8 q1;subst e9
 cases (show u=Value.ref la from ru)
 have tupAt:∀ {pins':List (Addr×Obj)} {s':Shared} {vs:List Value},Vals xs vs->Inv X pins' σ H1 s'->∀ i,i<xs.length->∃ (p:Addr) (o:Obj) (m:Nat) (t:Tok) (w:Value),vs.getD i Value.none=.ref p/\s'.heap.get? p=some o/\o.cls=.type "tuple" /\ o.data=.seq #[.int (ns.getD i 0) t,w] m:=by
  intro pins' s' vs rv I' i hi
  have e1:xs[i]?=some xs[i]:=kh hi
  have e2:ns[i]?=some ns[i]:=kh (by omega)
  have e3:rest[i]?=some rest[i]:=kh (by omega)
  obtain ⟨p,hp,hH,hr⟩:=items i _ _ _ e1 e2 e3
  obtain ⟨_,its,r,⟨o,e,c,m,d⟩⟩:=I'.hok p _ hH
  have lv:=rv.length
  have ev:=yY rv (j:=i) (by omega)
  rw [getD_at hi,hp] at ev
  cases r with
  | cons r1 rr =>
   obtain ⟨t,rfl⟩:=r1
   generalize rest[i]=rs at rr hr
   cases rr with
   | nil=>simp at hr
   | @cons a b c' d' r2 rr =>
    cases rr with
    | nil =>
     refine ⟨p,o,m,t,b,?_,e,c,?_⟩
     ·rw [getD_at (by omega:i<vs.length)];exact ev
     ·rw [d,getD_at (by omega:i<ns.length)]
    | cons _ _=>simp at hr
 refine Xy I1 hL h64 (fun i=>ns.getD i 0) (tuples' true) (fun h2 vs s' pins' C rv I' hC=>?_) (fun vs s' pins' i j C hi hj rv I' hC=>?_) fun D p s' hD po pu I'=>⟨.ref D,_,I',rfl,q D p hD po pu⟩
 ·have lv:=rv.length
  have KT:∀ (k:Nat),k<=vs.length->∃ fs:List Value,fs.length=vs.length-k/\KatTups s'.heap (vs.drop k) fs/\∀ v∈fs,∃ i t,v=Value.int i t:=by
   intro k hk
   generalize hd:vs.length-k=d
   induction d generalizing k with
   | zero =>
    refine ⟨[],rfl,?_,fun v hv=>nomatch hv⟩
    rw [List.drop_of_length_le (by omega)]
    exact KatTups.nil
   | succ d ih =>
    obtain ⟨fs,f1,f2,f3⟩:=ih (k+1) (by omega) (by omega)
    obtain ⟨p,o,m,t,w,g1,g2,g3,g4⟩:=tupAt rv I' k (by omega)
    rw [getD_at (by omega:k<vs.length)] at g1
    refine ⟨.int (ns.getD k 0) t::fs,by rw [kK,f1],?_,fun v hv=>?_⟩
    ·rw [<- u4 (show k<vs.length by omega),g1]
     exact KatTups.cons g2 g3 g4 rfl f2
    ·rcases kY.mp hv with rfl | hv
     ·exact ⟨_,_,rfl⟩
     ·exact f3 v hv
  obtain ⟨fs,f1,f2,f3⟩:=KT 0 (ve _)
  rw [List.drop_zero] at f2
  refine kat_kind f2 (by omega) (T:=.type "int") (fun v hv=>?_) (by decide) ?_
  ·obtain ⟨i,t,rfl⟩:=f3 v hv
   exact Looks.of_pure rfl
  have hkind:(Value.type "int" != Value.type "tuple")=true:=by decide
  rw [hkind]
  exact hC
 ·obtain ⟨p1,o1,m1,t1,w1,a1,a2,_,a4⟩:=tupAt rv I' i hi
  obtain ⟨p2,o2,m2,t2,w2,b1,b2,_,b4⟩:=tupAt rv I' j hj
  rw [a1,b1]
  refine kat_lt a2 a4 b2 b4 ?_
  show KatLex _ _ _ true _ _ [(Value.int (ns.getD i 0) t1,Value.int (ns.getD j 0) t2),(w1,w2)] 0 s'
  refine kat_cons (wpAny_eqBool_int ?_)
  by_cases e:ns.getD i 0=ns.getD j 0
  ·have hij:i=j:=by
    have e':=e
    rw [getD_at (by omega:i<ns.length),getD_at (by omega:j<ns.length)] at e'
    exact (List.getElem_inj nd).mp e'
   subst hij
   rw [a1] at b1
   cases b1
   rw [a2] at b2
   cases b2
   rw [a4] at b4
   injection b4 with b4 _
   have b5:[Value.int (ns.getD i 0) t1,w1]=[Value.int (ns.getD i 0) t2,w2]:=congrArg Array.toList b4
   injection b5 with b6 b7
   injection b7 with b8 _
   subst b8
   rw [beq_self_eq_true]
   refine kat_yes (kat_cons (SeqAt.EqAt.same w1 _ _ _ _ ?_))
   refine kat_yes (kat_nil ?_)
   have z:decide (ns.getD i 0<ns.getD i 0)=false:=decide_eq_false (by omega)
   rw [z] at hC
   exact hC
  ·rw [beq_eq_false_iff_ne.mpr e]
   exact kat_no (oneLt_int hC)
noncomputable def txt (l:List Nat):Str:=⟨l.toArray⟩
theorem yA (l:List Nat):(txt l).length=l.length:=by simp [txt,Str.length]
theorem za6 {a b:List Nat} (h:txt a=txt b):a=b:=by
 have:(txt a).cps.toList=(txt b).cps.toList:=by rw [h]
 simpa [txt] using this
theorem Yy (c:Nat):∀ (n:Nat) (acc:Array Nat),(vp n (#[c]:Array Nat)).foldl (·++·) acc=acc++(vp n c).toArray
 | 0,acc=>by simp
 | n+1,acc=>by
  rw [v6,uP,Yy c n (acc++#[c])]
  apply Array.toList_inj.mp
  simp [v6]
theorem Xz {c:Nat} {n:Int} (h0:0<=n):Txt.mul (txt [c]) n=txt (vp n.toNat c):=by
 unfold Txt.mul
 by_cases h1:n<1
 ·rw [if_pos h1]
  have e:n.toNat=0:=by omega
  rw [e]
  rfl
 ·rw [if_neg h1]
  by_cases h2:n=1
  ·subst h2
   rfl
  ·have e:(n == 1 || (txt [c]).length == 0)=false:=by
    rw [beq_eq_false_iff_ne.mpr h2]
    rfl
   rw [e,if_neg kF]
   have:=Yy c n.toNat #[]
   show (⟨(vp n.toNat (#[c]:Array Nat)).foldl (·++·) #[]⟩ : Str)=_
   rw [this]
   simp [txt]
section
variable {X:Cx}
theorem za7:OpR X (binaryOp .Mult) (fun x y H Q=>∃ (c:Nat) (n:Int),x=.str (txt [c])/\y=.int n/\0<=n/\n<=1000000/\Q (.str (txt (vp n.toNat c))) H):=by
 intro pins s σ H x y v u Q I rx ry h
 refine E_2 h fun c n n8=>A_5 n8 fun e9 n90 h0 h1 q=>?_;clear n8 h;subst e9;subst n90
 obtain ⟨t,rfl⟩:=rx
 obtain ⟨t',rfl⟩:=ry
 have hl:(txt [c]).length=1:=rfl
 refine SB.mul ⟨?_,fun _ _=>?_,fun _ _=>?_⟩ fun tk k=>⟨.str _,H,I.tok k,⟨tk,by rw [Xz h0]⟩,q⟩
 ·rw [decide_eq_false (by omega),decide_eq_false (by omega)]
  rfl
 ·rw [hl]
  have hn:0<n:=by omega
  intro z
  have z':(2^63-1) / n<1:=by simpa using z
  have:=(Int.ediv_lt_iff_lt_mul hn).mp z'
  omega
 ·rw [hl]
  unfold Builtin.Str.tooLong sizeLine
  rw [decide_eq_false_iff_not]
  omega
noncomputable def rIxC:R2:=fun x y H Q=>∃ (l:List Nat) (i:Int) (c:Nat),x=.str (txt l)/\y=.int i/\l.length<=1000000/\atI l i=some c/\Q (.str (txt [c])) H
theorem WM:IxR X rIxC:=by
 intro value slice pins s σ H x y v u Q I rx ry h hs
 refine E_3 h fun l i c n8=>A_5 n8 fun e9 n90 hl hc q=>?_;clear n8 h;subst e9;subst n90
 exact zb8 value slice pins s σ H _ _ v u Q I rx ry ⟨txt l,i,c,rfl,rfl,by rw [yA];exact km hl (by decide),by simpa [txt] using hc,q⟩ hs
end
section
variable {X:Cx} {K:Frag}
theorem y7 (hK:X.K=K):IxR X (rIxT K):=by subst hK;exact zP
theorem JZ (hK:X.K=K):IxR X (rIxL K):=by subst hK;exact zV
theorem Q6 (hK:X.K=K):yM X (.builtin "len") (fun xs H Q=>∃ p ys,xs=[.ref p]/\(SqL K H p ys\/SqT K H p ys)/\Q (.int ys.length) H):=by subst hK;exact zy
theorem qf {es:List Expr} {k:Nat} {t:TGs} {n:Nat} {pos:Pos} (hK:X.K=K) (hc:X.calm=true) (h:PGs X es t)
  (hn:(assignEach es X.env).length=n:=by rfl) (hs:(assignEach es X.env).findIdx? (·.1)=none:=by rfl):PG X (.Tuple es k pos) (gTup K n t):=by
 subst hK
 exact wB hc h hn hs
end
end _L2
namespace _Lin
abbrev W:=List Nat
noncomputable def glue:List W->W
 | []=>[]
 | [a]=>a
 | a::b::r=>a++32::glue (b::r)
theorem Yz:∀ (ws:List W) (w:W),ws≠[]->glue (ws++[w])=glue ws++32::w
 | [],_,h=>absurd rfl h
 | [a],w,_=>rfl
 | a::b::r,w,_=>by
  have ih:glue (b::(r++[w]))=glue (b::r)++32::w:=Yz (b::r) w (by simp)
  show a++32::glue (b::(r++[w]))=(a++32::glue (b::r))++32::w
  rw [ih]
  simp
theorem snoc_ind {P:List W->Prop} (h0:P []) (h1:∀ ws w,P ws->P (ws++[w])):∀ (n:Nat) (ws:List W),ws.length=n->P ws
 | 0,ws,h=>by rw [vY.mp h];exact h0
 | n+1,ws,h=>by
  have hn:ws≠[]:=fun z=>by rw [z] at h;cases h
  rw [<- vX hn]
  exact h1 _ _ (snoc_ind h0 h1 n _ (by rw [uG,h];rfl))
noncomputable def put (wide:Int) (rows:List W) (w:W):List W :=
 match rows.getLast? with
 | some r=>if (r.length:Int)+1+w.length<=wide then rows.dropLast++[r++32::w] else rows++[w]
 | none=>[w]
noncomputable def taken (wide:Int) (ws:List W):List W:=ws.foldl (put wide) []
theorem xz (wide:Int) (ws:List W) (w:W):taken wide (ws++[w])=put wide (taken wide ws) w:=by
 unfold taken
 rw [u5]
 rfl
theorem wb {rows:List W} {r:W} (h:rows.getLast?=some r):rows=rows.dropLast++[r]:=by
 have hn:rows≠[]:=fun z=>by rw [z] at h;cases h
 rw [List.getLast?_eq_some_getLast hn] at h
 rw [<- Option.some.inj h]
 exact (vX hn).symm
theorem Qf (wide:Int) (rows:List W) (w:W):(put wide rows w).length<=rows.length+1:=by
 unfold put
 split
 ·rename_i r e
  split
  ·have:=wb e
   have e2:rows.length=rows.dropLast.length+1:=by
    conv=>lhs;rw [this,ki]
    rfl
   rw [ki,kU]
   omega
  ·simp
 ·simp
theorem wK (wide:Int) (ws:List W):(taken wide ws).length<=ws.length :=
 snoc_ind (P:=fun ws=>(taken wide ws).length<=ws.length) (kf _) (fun ws w ih=>by
  rw [xz,ki,kU]
  exact km (Qf _ _ _) (vB ih)) _ ws rfl
noncomputable def pos (ws:List W) (k:Nat):Int:=((ws.take k).map (fun w=>(w.length:Int)+1)).sum
theorem j8 (ws:List W):pos ws 0=0:=rfl
theorem pos_succ {ws:List W} {k:Nat} {w:W} (h:ws[k]?=some w):pos ws (k+1)=pos ws k+w.length+1:=by
 obtain ⟨hk,e⟩:=kg.mp h
 unfold pos
 rw [<- kz hk,kC,uQ,e]
 show _+(((w.length:Int)+1)+0)=_
 omega
theorem J0 (ws:List W) (k:Nat):pos ws k<=pos ws (k+1):=by
 by_cases h:k<ws.length
 ·rw [pos_succ (kh h)]
  omega
 ·unfold pos
  rw [u6 (by omega),u6 (by omega)]
  exact vU _
theorem wL (ws:List W) {i:Nat}:∀ {j:Nat},i<=j->pos ws i<=pos ws j
 | 0,h=>by rw [uV.mp h];exact vU _
 | j+1,h=>by
  rcases u7 i (j+1) with z | z
  ·exact uh (wL ws (v5 z)) (J0 ws j)
  ·rw [Nat.le_antisymm h z]
   exact vU _
noncomputable def gr (ws:List W) (wide:Int):Nat->Nat×Nat
 | 0=>(0,0)
 | k+1=>if (gr ws wide k).1≠0/\pos ws (k+1)-pos ws (gr ws wide k).2-1<=wide then gr ws wide k else ((gr ws wide k).1+1,k)
section
variable {ws:List W} {wide:Int}
theorem qg {k:Nat} (h:(gr ws wide k).1≠0/\pos ws (k+1)-pos ws (gr ws wide k).2-1<=wide):gr ws wide (k+1)=gr ws wide k:=by
 conv=>lhs;unfold gr
 rw [if_pos h]
theorem qM {k:Nat} (h:¬ ((gr ws wide k).1≠0/\pos ws (k+1)-pos ws (gr ws wide k).2-1<=wide)):gr ws wide (k+1)=((gr ws wide k).1+1,k):=by
 conv=>lhs;unfold gr
 rw [if_neg h]
theorem Q7:∀ {k:Nat},0<k->0<(gr ws wide k).1
 | k+1,_=>by
  by_cases h:(gr ws wide k).1≠0/\pos ws (k+1)-pos ws (gr ws wide k).2-1<=wide
  ·rw [qg h];omega
  ·rw [qM h];exact uH _
theorem za8 (k:Nat):(gr ws wide k).1<=(gr ws wide (k+1)).1/\(gr ws wide (k+1)).1<=(gr ws wide k).1+1:=by
 by_cases h:(gr ws wide k).1≠0/\pos ws (k+1)-pos ws (gr ws wide k).2-1<=wide
 ·rw [qg h];omega
 ·rw [qM h];exact ⟨uF _,kf _⟩
theorem zaK:∀ k:Nat,(gr ws wide k).1<=k
 | 0=>kf _
 | k+1=>km (za8 k).2 (vB (zaK k))
theorem XA:∀ {k:Nat},0<k->(gr ws wide k).2<k/\(gr ws wide k).1=(gr ws wide (gr ws wide k).2).1+1
 | k+1,_=>by
  by_cases h:(gr ws wide k).1≠0/\pos ws (k+1)-pos ws (gr ws wide k).2-1<=wide
  ·rw [qg h]
   have hk:0<k:=Nat.pos_of_ne_zero fun z=>by
    rw [z] at h
    exact h.1 rfl
   have:=XA hk
   exact ⟨uE this.1,this.2⟩
  ·rw [qM h]
   exact ⟨uo _,rfl⟩
theorem zcf (hw:∀ w∈ws,(w.length:Int)<=wide):∀ {k:Nat},0<k->k<=ws.length->pos ws k-pos ws (gr ws wide k).2-1<=wide
 | k+1,_,hk=>by
  by_cases h:(gr ws wide k).1≠0/\pos ws (k+1)-pos ws (gr ws wide k).2-1<=wide
  ·rw [qg h]
   exact h.2
  ·rw [qM h]
   have:=pos_succ (kh (show k<ws.length by omega))
   have:=hw _ (vF (show k<ws.length by omega))
   dsimp only
   omega
theorem jh {f k:Nat} (hf:pos ws k-pos ws f-1<=wide):∀ j,f<=j->j<=k->(gr ws wide j).1=(gr ws wide f).1\/((gr ws wide j).1=(gr ws wide f).1+1/\f<=(gr ws wide j).2)
 | 0,h,_=>by rw [uV.mp h];exact .inl rfl
 | j+1,h,hk=>by
  rcases u7 j f with z | z
  ·rw [show f=j+1 by omega]
   exact .inl rfl
  ·by_cases c:(gr ws wide j).1≠0/\pos ws (j+1)-pos ws (gr ws wide j).2-1<=wide
   ·rw [qg c]
    exact jh hf j z (ui hk)
   ·rcases jh hf j z (ui hk) with a | ⟨a,b⟩
    ·rw [qM c]
     exact .inr ⟨by rw [a],z⟩
    ·exfalso
     apply c
     refine ⟨by omega,?_⟩
     have:=wL ws hk
     have:=wL ws b
     omega
theorem zaL {f k:Nat} (hk:f<=k) (hf:pos ws k-pos ws f-1<=wide):(gr ws wide k).1<=(gr ws wide f).1+1:=by
 rcases jh hf k hk (kf _) with a | ⟨a,_⟩<;>omega
theorem XB:∀ {k:Nat},k<=ws.length->(taken wide (ws.take k)).length=(gr ws wide k).1/\(0<k->∃ r,(taken wide (ws.take k)).getLast?=some r/\(r.length:Int)=pos ws k-pos ws (gr ws wide k).2-1)
 | 0,_=>⟨rfl,fun h=>absurd h (vK _)⟩
 | k+1,hk=>by
  have hk':k<ws.length:=hk
  obtain ⟨l,g⟩:=XB (k:=k) (vI hk')
  have ps:=pos_succ (kh hk')
  rw [<- kz hk',xz]
  generalize ws[k]=w at ps
  by_cases h0:k=0
  ·subst h0
   have e:gr ws wide 1=(1,0):=by
    rw [qM (fun z=>z.1 rfl)]
    rfl
   rw [e]
   refine ⟨rfl,fun _=>⟨w,rfl,?_⟩⟩
   rw [j8] at ps
   have ps:pos ws 1=0+(w.length:Int)+1:=ps
   show (w.length:Int)=pos ws 1-0-1
   omega
  ·obtain ⟨r,er,lr⟩:=g (by omega)
   have sp:=wb er
   have n0:(gr ws wide k).1≠0:=ue (Q7 (by omega))
   unfold put
   rw [er]
   dsimp only
   by_cases c:(r.length:Int)+1+w.length<=wide
   ·rw [if_pos c,qg ⟨n0,by omega⟩]
    refine ⟨?_,fun _=>⟨r++32::w,by simp,?_⟩⟩
    ·rw [<- l]
     conv=>rhs;rw [sp]
     simp
    ·rw [ki,kK]
     omega
   ·rw [if_neg c,qM (fun z=>c (by omega))]
    refine ⟨by rw [ki,l];rfl,fun _=>⟨w,by simp,?_⟩⟩
    dsimp only
    omega
end
end _Lin
namespace _L2
open PySem PySem.Spec PyProof.Rows PySem.W
theorem jz (a b:List Nat):txt a++txt b=txt (a++b):=by
 refine Str.ext' ?_
 rw [Str.cps_append]
 simp [txt]
noncomputable def Its (l:List Nat):It:=⟨fun i _=>i<l.length,fun i H x H'=>H'=H/\∃ c,l[i]?=some c/\x=.str (txt [c]),fun i _=>l.length<=i⟩
theorem Qg {P:Program} {w:World} {K:Frag} {tg:Expr} (it:Addr) (l:List Nat) (t:Tok):Turn P w K tg (Its l) [it] it (fun i h=>h.IsStrIter it "str_ascii_iterator" (txt l) t i) where
 mem:=by simp
 obj:=fun i h st b hb=>by
  have e:b=it:=by simpa using hb
  subst e
  obtain ⟨o,e,c,d⟩:=st
  exact ⟨o,e,fun v z=>by rw [d] at z;cases z⟩
 keep:=fun i h h' st k=>let ⟨o,ho,r⟩:=st;⟨o,k it (by simp) o ho,r⟩
 item:=by
  intro X hP hw hK hc i pins s σ H E I hf st hg
  subst hP hw hK
  obtain ⟨f0,f1,f2,f3,f4,f5⟩:=hf it (by simp)
  have hg:i<l.length:=hg
  refine wpAny_pyNext_ascii_item st (c:=l[i]) (by simp [txt,hg]) fun h' st' sb=>?_
  have I1:Inv X pins σ H {s with heap:=h',toks:=s.toks+1}:=I.turned (t':=s.toks+1) (fun b o hb e=>(sb.2 b hb).trans e) f0 f1 f3 f4 f5
  obtain ⟨o,e,c,d⟩:=id st'
  exact ⟨_,rfl,Zi (s:={s with heap:=h',toks:=s.toks+1}) e c d (by decide) ⟨.str (txt [l[i]]),H,I1,⟨_,rfl⟩,⟨rfl,l[i],kh hg,rfl⟩,st',fun b hb=>(hf b hb).1⟩⟩
 done:=by
  intro X hP hw hK hc i pins s σ H E I hf st hg
  subst hP hw hK
  obtain ⟨f0,f1,f2,f3,f4,f5⟩:=hf it (by simp)
  have hg:l.length<=i:=hg
  exact wpAny_pyNext_ascii_end (I.ok.hd hc) st (by simp [txt,hg]) fun h' eb=>⟨rfl,I.turned (t':=s.toks) (fun b o hb e=>eb b o hb e) f0 f1 f3 f4 f5⟩
 self:=fun _ _ _ _ _ st h=>wpAny_pyIter_striter_ascii st h
section
variable {X:Cx} {tg:Expr}
noncomputable def iTxt (tl:TE):TI:=fun σ H R=>tl σ H fun x H1=>∃ l:List Nat,x=.str (txt l)/\(∀ c∈l,c<128)/\R (Its l) H1
theorem zcg {l:Expr} {tl:TE} (hl:PE X l tl):PI X tg l (iTxt tl):=by
 intro pins s σ H R I h
 refine thn (hl pins s σ H _ I h) fun v s1 h9=>?_
 obtain ⟨x,H1,I1,r1,q1⟩:=h9
 obtain ⟨l,e,ha,q⟩:=q1
 subst e
 obtain ⟨t,rfl⟩:=r1
 refine wpAny_pyIter_ascii (by simpa [txt] using ha) ?_
 refine I_5 s1.heap.objs.size [s1.heap.objs.size] _ _ H1 ⟨rfl,I1.kept (t':=s1.toks) fun b o e=>Heap.get?_push_of_some _ e,Qg _ l t,⟨_,Heap.get?_push_size _ rfl,rfl,rfl⟩,fun b hb=>?_,q⟩
 have e:b=s1.heap.objs.size:=by simpa using hb
 subst e
 exact I1.fpOk (kf _) (I1.hok.fresh (kf _))
theorem YA:OpR X (compareOp .LtE) (fun x y H Q=>∃ i j,x=.str i/\y=.str j/\Q (.bl (!decide (j.cps.toList<i.cps.toList))) H):=by
 intro pins s σ H x y v u Q I rx ry h
 refine E_2 h fun i j n8=>A_3 n8 fun e9 n90 q=>?_;clear n8 h;subst e9;subst n90
 obtain ⟨t,rfl⟩:=rx
 obtain ⟨t',rfl⟩:=ry
 exact PySem.P.le_str (zW I q rfl)
theorem YB:∀ (ls:List (List Nat)),Str.join (txt [32]) (ls.map txt)=txt (_Lin.glue ls)
 | []=>rfl
 | [a]=>rfl
 | a::b::r=>by
  have ih:=YB (b::r)
  show txt a++txt [32]++Str.join (txt [32]) ((b::r).map txt)=_
  rw [ih,jz,jz]
  simp [_Lin.glue]
end
section
variable {g:TG} {tc:TT} {te:TE} {σ0:St} {H0:Hp} {R:List V->Hp->Prop} {l:List Nat}
theorem za9 (Pv:Nat->List V->St->Hp->Prop) (h0:Pv 0 [] σ0 H0) (hz:∀ i ys σ H,i<=l.length->Pv i ys σ H->ys.length<=sizeLine) (hst:∀ ys σ H,Pv l.length ys σ H->R ys H)
  (hgo:∀ i c ys σ H,l[i]?=some c->Pv i ys σ H->g (.str (txt [c])) σ H fun σ2 H3=>tc σ2 H3 fun b H4=>if b=true then te σ2 H4 fun y H5=>Pv (i+1) (ys++[y]) σ2 H5 else Pv (i+1) ys σ2 H4) :
  ∃ W:Nat->Nat->List V->St->Hp->Prop,(∃ m,W 0 m [] σ0 H0)/\∀ i m ys σ' H',W i m ys σ' H' ->
   ((Its l).stop i H'/\ys.length<=sizeLine/\R ys H') \/
   ((Its l).go i H'/\ys.length<=sizeLine/\∃ N:List V->St->Hp->Prop,(∀ ys' σ2 H2,N ys' σ2 H2->∃ m',m'<m/\W (i+1) m' ys' σ2 H2) /\
     ∀ x H2,(Its l).yld i H' x H2->g x σ' H2 fun σ2 H3=>tc σ2 H3 fun b H4=>if b=true then te σ2 H4 fun y H5=>N (ys++[y]) σ2 H5 else N ys σ2 H4) :=
 wp (n:=l.length) Pv h0 hz (fun ys σ H p=>⟨kf _,hst ys σ H p⟩) fun i ys σ H hi p=>⟨hi,fun x H2 y=>by
  obtain ⟨e,c,hc,ex⟩:=y
  subst e ex
  exact hgo i c ys σ _ hc p⟩
end
section
variable {σ:St} {H:Hp} {ta tb:TE}
theorem xS {w:List Nat} (a:Evl ta σ H (.str (txt w))) (h:w.length<=1000000):Evl (tCB (fun xs H Q=>∃ z:Str,xs=[.str z]/\z.length<=sizeLine/\Q (.int z.length) H) (yk ta tNil)) σ H (.int (w.length:Nat)):=fun Q q =>
 a _ ⟨txt w,rfl,by rw [yA];exact km h (by decide),by rw [yA];exact q⟩
theorem qN {u w:List Nat} (a:Evl ta σ H (.str (txt u))) (b:Evl tb σ H (.str (txt w))) (h:u.length+w.length<=1000000):Evl (tOp (fun x y H Q=>∃ i j,x=.str i/\y=.str j/\i.length+j.length<=sizeLine/\Q (.str (i++j)) H) ta tb) σ H (.str (txt (u++w))):=fun Q q =>
 a _ (b _ ⟨txt u,txt w,rfl,rfl,by rw [yA,yA];exact km h (by decide),by rw [jz];exact q⟩)
theorem ZT {c:TT} {tb:TS} {D:Ends} (Pv:Nat->St->Hp->Prop) (m0:Nat) (h0:Pv m0 σ H)
  (hs:∀ m σ H,Pv m σ H->∃ (p:Prop) (_:Decidable p),Tst c σ H p/\(p->tb {D with nx:=fun σ' H'=>∃ m',m'<m/\Pv m' σ' H',ct:=fun σ' H'=>∃ m',m'<m/\Pv m' σ' H',bk:=D.nx} σ H)/\(¬ p->D.nx σ H)):QJ c tb D σ H:=by
 refine ⟨Pv,⟨m0,h0⟩,fun m σ H p=>?_⟩
 obtain ⟨q,dq,t,h1,h2⟩:=hs m σ H p
 refine t _ ?_
 by_cases z:q
 ·rw [decide_eq_true z,if_pos rfl]
  exact ⟨_,fun _ _ y=>y,h1 z⟩
 ·rw [decide_eq_false z,if_neg kF]
  exact h2 z
theorem ZU {t u:TS} {D:Ends} (R:St->Hp->Prop) (h3:∀ σ H,R σ H->u D σ H) (h:(∀ σ H,R σ H->u D σ H)->t {D with nx:=u D} σ H):tSeq t u D σ H:=h h3
theorem zQ {i:Nat} {v:V} {Q:St->Hp->Prop} (h:Q (σ.set i (some v)) H):z7 i v σ H Q:=h
theorem wq {t:TA} {i:Nat} {u:TS} {D:Ends} (h:t σ H fun xs H1=>xs.length<=sizeLine/\∀ p,H1 p=none->u D (σ.set i (some (.ref p))) (upd H1 p (.lst xs))):tSeq (tAsg (tLst t) (z7 i)) u D σ H:=h
end
section
variable {P:Program} {w:World} {K:Frag} {mg:Str->Option Value} {base:Heap} {N:List Str} {qual:Str} {scope:Scope} {f:Addr} {cd:Value} {A:Around} {outer:List Env} {s₀:Shared} {H₀:Hp} {E:XK}
theorem x6:jb (CXE P w) (cxOf (CXE P w) P w K mg base N qual scope f cd A outer s₀ H₀ E) E:=by
 intro pins σ H s e s' I q
 revert q;intro n7;refine E_4 n7 fun ea T C H' n8=>A_7 n8 fun e9 os bare un hok fly q=>?_;clear n8 n7;subst e9
 have I2:Inv (cxOf (CXE P w) P w K mg base N qual scope f cd A outer s₀ H₀ E) pins σ H' s':=I.call' (ch:=[]) os un hok bare (fun b z=>nomatch z)
 obtain ⟨oe,vs,a0,oT,ts,e1,e2,e3,e4,e5,e6,e7,e8⟩:=fly.ob
 have no0:∀ b,s.heap.get? b=none->s₀.heap.get? b=none:=fun b z=>by
  cases y:s₀.heap.get? b with
  | none=>rfl
  | some o =>
   obtain ⟨o',z'⟩:=I.base.there b o y (fun m=>nomatch m)
   rw [z] at z'
   cases z'
 have no2:∀ b,s'.heap.get? b=none->s₀.heap.get? b=none:=fun b z=>by
  cases y:s₀.heap.get? b with
  | none=>rfl
  | some o =>
   obtain ⟨o',z'⟩:=I2.base.there b o y (fun m=>nomatch m)
   rw [z] at z'
   cases z'
 have ff:s'.heap.FunFrames (hideAll s'.heap (ea::T::frs (envOfC qual scope s₀.heap.objs.size f cd::outer))) (envOfC qual scope s₀.heap.objs.size f cd::outer):=I2.hid _ fun b hb=>kq _ (kq _ hb)
 have fl:Heap.FlyingW (hideAll s'.heap (ea::T::frs (envOfC qual scope s₀.heap.objs.size f cd::outer))) (envOfC qual scope s₀.heap.objs.size f cd::outer) ea (.ref C) a0 s'.heap :=
  ⟨fun b o z=>of_hideAll _ z,hideAll_none _ kw,ff,oe,vs,T,oT,ts,e1,⟨e2,e4⟩,e3,e5,hideAll_none _ (kq _ kw),fly.ne,e6,e7,e8⟩
 show wpAny _ _ (leaving _ _) _ _ _
 refine wpAny_leaves_onW I2.ok.frames rfl fl fun h2 fl2 up=>?_
 have inB:∀ b o,b≠ea->b≠T->b∉frs (envOfC qual scope s₀.heap.objs.size f cd::outer)->s'.heap.get? b=some o->h2.get? b=some o:=fun b o n1 n2 nb z=>fl2.1 b o (hideAll_get _ z (by
  intro m
  rcases kY.mp m with m | m
  ·exact n1 m
  ·rcases kY.mp m with m | m
   ·exact n2 m
   ·exact nb m))
 have upS:∀ b o,b∈frs (envOfC qual scope s₀.heap.objs.size f cd::outer)->s'.heap.get? b=some o->∃ sl,h2.get? b=some {o with slots:=sl}:=fun b o nb z=>by
  obtain ⟨_,o',z',hd⟩:=I2.stack.mem nb
  rw [z] at z'
  cases z'
  exact up b o z hd
 have notL:∀ b o,s₀.heap.get? b=some o->b∉frs outer->b∉frs (envOfC qual scope s₀.heap.objs.size f cd::outer):=fun b o z nb m=>by
  rcases kY.mp (I2.stkSub b m) with z' | z'
  ·have:=Heap.lt_size z
   have z':b=s₀.heap.objs.size:=z'
   rw [z'] at this
   exact vK _ this
  ·exact nb z'
 have neE:∀ b o,s₀.heap.get? b=some o->b≠ea/\b≠T:=fun b o z=>⟨(fun y=>by rw [y,no0 _ fly.ne0] at z;cases z),(fun y=>by rw [y,no0 _ fly.nT0] at z;cases z)⟩
 obtain ⟨_,_,_,oe',vs',T',oT',ts',a1,⟨a2,a3⟩,a4,a5,a6,a7,a8,a9,a10⟩:=fl2
 have hT':T'=T\/s'.heap.get? T'=none:=by
  by_cases hTT:T'=T
  ·exact .inl hTT
  ·right
   cases z:s'.heap.get? T' with
   | none=>rfl
   | some o =>
    by_cases hb:T'∈frs (envOfC qual scope s₀.heap.objs.size f cd::outer)
    ·obtain ⟨_,o',z',hd⟩:=I2.stack.mem hb
     obtain ⟨sl,z2⟩:=upS T' o hb z
     rw [z] at z'
     cases z'
     rw [a8] at z2
     cases z2
     exact absurd a9 (hd ts')
    ·rw [hideAll_get _ z (by
      intro m
      rcases kY.mp m with m | m
      ·exact a7 m
      ·rcases kY.mp m with m | m
       ·exact hTT m
       ·exact hb m)] at a6
     cases a6
 have fT':H' T'=none:=by
  rcases hT' with e | e
  ·rw [e];exact fly.fT
  ·exact I2.none_of e
 have nT':s₀.heap.get? T'=none:=by
  rcases hT' with e | e
  ·rw [e];exact no0 _ fly.nT0
  ·exact no2 _ e
 refine ⟨ea,T',C,H',rfl,I2.os,I2.bare,⟨fun b o z n nb _=>?_,fun b o z n nb _=>?_,fun b o z n _=>I2.base.free b o z n (fun m=>nomatch m),fun b o z _=>?_,I2.base.tups,I2.base.frzs,I2.base.tbls⟩,fun a o z=>?_,
  ⟨⟨oe',vs',a0,oT',ts',a1,a2,a4,a3,a5,a8,a9,a10⟩,a7,fly.fe,fT',no0 _ fly.ne0,nT'⟩,q⟩
 ·exact inB b o (neE b o z).1 (neE b o z).2 (notL b o z nb) (I2.base.keep b o z n nb (fun m=>nomatch m))
 ·obtain ⟨sl,z1⟩:=I2.base.slot b o z n nb (fun m=>nomatch m)
  obtain ⟨sl',z2⟩:=upS b _ (by
   show b∈frs _
   unfold frs
   rw [uc]
   exact kq _ nb) z1
  exact ⟨sl',z2⟩
 ·obtain ⟨o',z'⟩:=I2.base.there b o z (fun m=>nomatch m)
  by_cases hb:b∈frs (envOfC qual scope s₀.heap.objs.size f cd::outer)
  ·obtain ⟨sl,z2⟩:=upS b o' hb z'
   exact ⟨_,z2⟩
  ·exact ⟨o',inB b o' (neE b o z).1 (neE b o z).2 hb z'⟩
 ·refine (I2.hok a o z).stay (fun b u hb r=>?_) (fun _ y=>y) fun _ _ y=>y
  have hbH:∃ x,H' b=some x:=by
   rcases hb with rfl | hb
   ·exact ⟨_,z⟩
   ·exact ⟨_,hb⟩
  obtain ⟨x,hx⟩:=hbH
  refine inB b u (fun m=>?_) (fun m=>?_) (fun m=>?_) r
  ·rw [m,fly.fe] at hx;cases hx
  ·rw [m,fly.fT] at hx;cases hx
  ·have:=I2.stkFree b m
   rw [hx] at this
   cases this
end
end _L2
namespace _L2
open PySem PySem.Spec PyProof.Rows
theorem Inv.turnedL {X:Cx} {pins:List (Addr×Obj)} {σ:St} {H:Hp} {s:Shared} {h':Heap} {t':Nat} {ch:List Addr} (I:Inv X pins σ H s) (k:∀ b o,b∉ch->s.heap.get? b=some o->h'.get? b=some o) (hf:∀ b∈ch,FpOk X pins H b) :
  Inv X pins σ H {s with heap:=h',toks:=t'}:=by
 have nit:∀ b u,H b=some u->b∉ch:=fun b u e m=>by rw [(hf b m).1] at e;cases e
 refine I.step (g':=s.gens) (d':=s.drawn) (ch:=ch) (fun b hb=>?_) (fun b o _ _ m e _=>k b o m e) (fun b o _ _ m e _=>⟨o.slots,k b o m e⟩) (fun _ _ _ _ n=>n) (fun b o m e=>⟨o,k b o m e⟩) (fun _ _ e=>e) (fun _ _ _ e=>e)
  (fun b ps e=>⟨#[],by rw [e];simp⟩) (fun m hm=>?_) (fun b u e=>?_) I.bare
 ·obtain ⟨a0,a1,a2,a3,a4,a5⟩:=hf b hb
  exact ⟨a3,a1,a4,a5⟩
 ·obtain ⟨o,es,ep,ho,r⟩:=hm
  exact ⟨o,es,ep,k _ o (fun m=>(hf _ m).2.1 rfl) ho,r⟩
 ·refine (I.hok b u e).stay (fun c v hc q=>k c v (fun m=>?_) q) (fun _ q=>q) fun _ _ q=>q
  rcases hc with z | z
  ·rw [z] at m
   exact nit b u e m
  ·exact nit c _ z m
theorem xo {h:Heap} {a c:Addr} {its:Array Value} {o:Obj} (hl:h.IsList a its) (hc:h.get? c=some o) (hn:o.cls≠.type "list"):a≠c:=fun z=>by
 obtain ⟨o',g1,g2,_⟩:=hl
 rw [z,hc] at g1
 cases g1
 exact hn g2
noncomputable def ItZ (K:Frag) (a b:Addr):It :=
 ⟨fun i H=>∃ xs ys x y,SqL K H a xs/\SqL K H b ys/\xs[i]?=some x/\ys[i]?=some y,
 fun i H x H'=>∃ p u v,H p=none/\x=.ref p/\H'=upd H p (.tup [u,v])/\(∀ xs,SqL K H a xs->xs[i]?=some u)/\∀ ys,SqL K H b ys->ys[i]?=some v,
 fun i H=>∃ xs ys,SqL K H a xs/\SqL K H b ys/\(xs.length<=i\/ys.length<=i)⟩
structure Dst (z TI TO i1 i2:Addr):Prop where
 TIz:TI≠z
 TOz:TO≠z
 i1z:i1≠z
 i2z:i2≠z
 TITO:TI≠TO
 TIi1:TI≠i1
 TIi2:TI≠i2
 TOi1:TO≠i1
 TOi2:TO≠i2
 i12:i1≠i2
theorem XC (n:Nat):Dst (n+4) (n+2) (n+3) n (n+1):=by
 have ne:∀ {i j:Nat},i≠j->(show Nat from n+i)≠(show Nat from n+j):=fun h z=>h (Nat.add_left_cancel z)
 exact ⟨ne (i:=2) (j:=4) (by decide),ne (i:=3) (j:=4) (by decide),ne (i:=0) (j:=4) (by decide),ne (i:=1) (j:=4) (by decide),ne (i:=2) (j:=3) (by decide),ne (i:=2) (j:=0) (by decide),ne (i:=2) (j:=1) (by decide),ne (i:=3) (j:=0) (by decide),ne (i:=3) (j:=1) (by decide),ne (i:=0) (j:=1) (by decide)⟩
theorem YC {n c:Nat} (h:c=n+4\/c=n+2\/c=n+3\/c=n\/c=n+1):n<=c:=by omega
theorem ji {h:Heap} {z TI TO i1 i2 a b:Addr} {xs ys:Array Value} {k1 k2:Nat} {f0 v u:Value} (D:Dst z TI TO i1 i2) (hz:IsZip h z TI TO f0) (hTO:IsPair h TO v u) (h1:h.IsListIter i1 a k1) (h2:h.IsListIter i2 b k2) (l1:h.IsList a xs) (l2:h.IsList b ys) :
  ZipApart z TI TO i1 i2 a b:=by
 obtain ⟨o1,e1,c1,_⟩:=h1
 obtain ⟨o2,e2,c2,_⟩:=h2
 have n1:o1.cls≠.type "list" := by rw [c1];decide
 have n2:o2.cls≠.type "list" := by rw [c2];decide
 have nz:Value.type "zip" ≠ .type "list" := by decide
 have nt:Value.type "tuple" ≠ .type "list" := by decide
 exact ⟨D.TIz,D.TOz,D.i1z,D.i2z,D.TITO,D.TIi1,D.TIi2,D.TOi1,D.TOi2,D.i12,xo l1 hz nz,xo l1 hTO nt,xo l1 e1 n1,xo l1 e2 n2,xo l2 hz nz,xo l2 hTO nt,xo l2 e1 n1,xo l2 e2 n2⟩
theorem J1 {P:Program} {w:World} {K:Frag} {elts:List Expr} {kx:Nat} {px:Pos} (a b z TI TO i1 i2:Addr) (D:Dst z TI TO i1 i2) :
  Turn P w K (.Tuple elts kx px) (ItZ K a b) [z,TI,TO,i1,i2] z (fun i h=>IsZip h z TI TO .none/\IsPair h TI (.ref i1) (.ref i2)/\(∃ v u,IsPair h TO v u)/\h.IsListIter i1 a i/\h.IsListIter i2 b i) where
 mem:=by simp
 obj:=fun i h st c hc=>by
  obtain ⟨hz,hTI,⟨v,u,hTO⟩,⟨o1,e1,c1,d1⟩,⟨o2,e2,c2,d2⟩⟩:=st
  have hc:c=z\/c=TI\/c=TO\/c=i1\/c=i2:=by simpa using hc
  rcases hc with rfl | rfl | rfl | rfl | rfl
  ·exact ⟨_,hz,fun v y=>by have y':Data.fields _=Data.cell v:=y;cases y'⟩
  ·exact ⟨_,hTI,fun v y=>by have y':Data.seq _=Data.cell v:=y;cases y'⟩
  ·exact ⟨_,hTO,fun v y=>by have y':Data.seq _=Data.cell v:=y;cases y'⟩
  ·exact ⟨o1,e1,fun v y=>by rw [d1] at y;cases y⟩
  ·exact ⟨o2,e2,fun v y=>by rw [d2] at y;cases y⟩
 keep:=fun i h h' st k=>by
  obtain ⟨hz,hTI,⟨v,u,hTO⟩,h1,h2⟩:=st
  exact ⟨k z (by simp) _ hz,k TI (by simp) _ hTI,⟨v,u,k TO (by simp) _ hTO⟩,h1.at fun o q=>k i1 (by simp) o q,h2.at fun o q=>k i2 (by simp) o q⟩
 item:=by
  intro X hP hw hK hc i pins s σ H E I hf st hg
  subst hP hw hK
  obtain ⟨hz,hTI,⟨v0,u0,hTO⟩,h1,h2⟩:=st
  obtain ⟨xs,ys,x,y,hq1,hq2,hx,hy⟩:=hg
  obtain ⟨its,rv,tp,hz1⟩:=I.list hq1
  obtain ⟨jts,rw',tq,hz2⟩:=I.list hq2
  obtain ⟨u,hu,ru⟩:=rv.get hx
  obtain ⟨v,hv,rv'⟩:=rw'.get hy
  have Z:=ji D hz hTO h1 h2 tp.isList tq.isList
  refine wpAny_pyNext_zip_item Z hz hTI hTO h1 h2 tp.isList tq.isList (x:=u) (y:=v) (by simpa using hu) (by simpa using hv) fun h' a1 a2 a3 a4 a5 a6 hk=>?_
  refine ⟨_,rfl,wpAny_letOwnedTupleGo_zip a1 fun h'' hz'' hs=>?_⟩
  have lt:∀ {c o},s.heap.get? c=some o->s.heap.objs.size≠c:=fun e=>ue (Heap.lt_size e)
  have ne1:=lt hz
  have k2:∀ c o,c∉[z,TO,i1,i2]->s.heap.get? c=some o->h''.get? c=some o:=fun c o m q=>by
   have m:c≠z/\c≠TO/\c≠i1/\c≠i2:=by simpa using m
   exact (hs.2 c m.1).trans (hk c o m.1 m.2.1 m.2.2.1 m.2.2.2 q)
  have I1:Inv X pins σ H {s with heap:=h'',toks:=s.toks}:=I.turnedL (t':=s.toks) k2 fun c m=>hf c (by
   have m:c=z\/c=TO\/c=i1\/c=i2:=by simpa using m
   rcases m with rfl | rfl | rfl | rfl<;>simp)
  have hn:H s.heap.objs.size=none:=I.hok.fresh (kf _)
  have FP:=I.fpOk (b:=s.heap.objs.size) (kf _) hn
  have hT2:h''.get? s.heap.objs.size=some {cls:=.type "tuple",data:=.seq #[u,v]}:=(hs.2 _ ne1).trans a5
  have I2:=I1.track (p:=s.heap.objs.size) (o:=.tup [x,y]) hn (Heap.get?_none_of_le I.sz) FP.2.1 FP.2.2.2.2.1 FP.2.2.2.2.2
   ⟨Zz2,[u,v],.cons ru (.cons rv' .nil),⟨_,hT2,rfl,_,rfl⟩⟩
  refine ⟨.ref s.heap.objs.size,_,I2,rfl,⟨_,x,y,hn,rfl,rfl,fun zs hy'=>?_,fun zs hy'=>?_⟩,⟨hz'',(hs.2 _ D.TIz).trans (hk _ _ D.TIz D.TITO D.TIi1 D.TIi2 hTI),⟨_,_,(hs.2 _ D.TOz).trans a2⟩,a3.at fun o q=>(hs.2 _ D.i1z).trans q,a4.at fun o q=>(hs.2 _ D.i2z).trans q⟩,fun c hc=>?_⟩
  ·rw [I.list_inj hy' hq1];exact hx
  ·rw [I.list_inj hy' hq2];exact hy
  ·have hb2:c≠s.heap.objs.size:=by
    have m:c=z\/c=TI\/c=TO\/c=i1\/c=i2:=by simpa using hc
    rcases m with rfl | rfl | rfl | rfl | rfl
    ·exact ne1.symm
    ·exact (lt hTI).symm
    ·exact (lt hTO).symm
    ·obtain ⟨o,g,_⟩:=h1
     exact (lt g).symm
    ·obtain ⟨o,g,_⟩:=h2
     exact (lt g).symm
   rw [zp hb2]
   exact (hf c hc).1
 done:=by
  intro X hP hw hK hc i pins s σ H E I hf st hg
  subst hP hw hK
  obtain ⟨hz,hTI,⟨v0,u0,hTO⟩,h1,h2⟩:=st
  obtain ⟨xs,ys,hq1,hq2,hx⟩:=hg
  obtain ⟨its,rv,tp,hz1⟩:=I.list hq1
  obtain ⟨jts,rw',tq,hz2⟩:=I.list hq2
  have l1:=rv.length
  have l2:=rw'.length
  have Z:=ji D hz hTO h1 h2 tp.isList tq.isList
  refine wpAny_pyNext_zip_end (I.ok.hd hc) Z hz hTI hTO h1 h2 tp.isList tq.isList ?_ fun h' hk=>⟨rfl,I.turnedL (t':=s.toks) (ch:=[z,TO,i1,i2]) (fun c o m q=>?_) fun c m=>hf c ?_⟩
  ·rcases hx with hx | hx
   ·left;simp;omega
   ·right;simp;omega
  ·have m:c≠z/\c≠TO/\c≠i1/\c≠i2:=by simpa using m
   exact hk c o m.1 m.2.1 m.2.2.1 m.2.2.2 q
  ·have m:c=z\/c=TO\/c=i1\/c=i2:=by simpa using m
   rcases m with rfl | rfl | rfl | rfl<;>simp
 self:=fun _ _ _ _ _ st h=>wpAny_pyIter_zip st.1 h
noncomputable def iZip (K:Frag) (ta:TA):TI:=fun σ H R=>ta σ H fun vs H1=>∃ a b,vs=[.ref a,.ref b]/\(∃ xs,SqL K H1 a xs)/\(∃ ys,SqL K H1 b ys)/\R (ItZ K a b) H1
theorem XD {X:Cx} {l r:Expr} {ta:TA} {elts:List Expr} {kx:Nat} {px p pos:Pos} (hg:Gl X "zip") (hm:X.mg "zip" = none) (ha:PA X [l,r] ta) (hs:starEach [l,r] X.env=[(false,eval l X.env),(false,eval r X.env)]:=by rfl) (hs2:starEach [r] X.env=[(false,eval r X.env)]:=by rfl) :
  PI X (.Tuple elts kx px) (.Call (.Name "zip" p) [l,r] [] pos) (iZip X.K ta):=by
 intro pins s σ H R I h
 refine Call_ (xb I hg hm boot_zip (vv (thn (ha pos pins s σ H _ I h) fun us s1 ⟨vs,H1,I1,r1,q1⟩=>?_) (by rw [hs,hs2]) (by rw [hs2];rfl)))
 obtain ⟨a,b,e,⟨xs,hq1⟩,⟨ys,hq2⟩,q⟩:=q1
 subst e
 cases r1 with
 | cons r rr =>
  cases rr with
  | cons r' rr =>
   cases rr
   cases r
   cases r'
   obtain ⟨its,rv,tp,hz1⟩:=I1.list hq1
   obtain ⟨jts,rw',tq,hz2⟩:=I1.list hq2
   refine call_zip_2 tp.isList tq.isList fun h' a1 a2 a3 a4 a5 a6 hk=>?_
   refine wpAny_pyIter_zip a1 ?_
   refine ⟨s1.heap.objs.size+4,[s1.heap.objs.size+4,s1.heap.objs.size+2,s1.heap.objs.size+3,s1.heap.objs.size,s1.heap.objs.size+1],_,_,H1,rfl,I1.kept (t':=s1.toks) hk,
    J1 a b _ _ _ _ _ (XC _),⟨a1,a2,⟨_,_,a3⟩,a4,a5⟩,fun c hc=>?_,q⟩
   have m:c=s1.heap.objs.size+4\/c=s1.heap.objs.size+2\/c=s1.heap.objs.size+3\/c=s1.heap.objs.size\/c=s1.heap.objs.size+1:=by simpa using hc
   have le:s1.heap.objs.size<=c:=YC m
   exact I1.fpOk le (I1.hok.fresh le)
section
variable {g:TG} {tc:TT} {te:TE} {σ0:St} {H0:Hp} {R:List V->Hp->Prop} {K:Frag} {a b:Addr} {xs ys:List V}
theorem ZV (Pv:Nat->List V->St->Hp->Prop) (h0:Pv 0 [] σ0 H0) (hz:∀ i us σ H,i<=min xs.length ys.length->Pv i us σ H->us.length<=sizeLine/\SqL K H a xs/\SqL K H b ys) (hst:∀ us σ H,Pv (min xs.length ys.length) us σ H->R us H)
  (hgo:∀ i x y us σ H p,xs[i]?=some x->ys[i]?=some y->Pv i us σ H->H p=none->g (.ref p) σ (upd H p (.tup [x,y])) fun σ2 H3=>tc σ2 H3 fun c H4=>if c=true then te σ2 H4 fun u H5=>Pv (i+1) (us++[u]) σ2 H5 else Pv (i+1) us σ2 H4) :
  ∃ W:Nat->Nat->List V->St->Hp->Prop,(∃ m,W 0 m [] σ0 H0)/\∀ i m us σ' H',W i m us σ' H' ->
   ((ItZ K a b).stop i H'/\us.length<=sizeLine/\R us H') \/
   ((ItZ K a b).go i H'/\us.length<=sizeLine/\∃ N:List V->St->Hp->Prop,(∀ us' σ2 H2,N us' σ2 H2->∃ m',m'<m/\W (i+1) m' us' σ2 H2) /\
     ∀ x H2,(ItZ K a b).yld i H' x H2->g x σ' H2 fun σ2 H3=>tc σ2 H3 fun c H4=>if c=true then te σ2 H4 fun u H5=>N (us++[u]) σ2 H5 else N us σ2 H4) :=
 wp (n:=min xs.length ys.length) Pv h0 (fun i us σ H hi p=>(hz i us σ H hi p).1)
  (fun us σ H p=>⟨⟨xs,ys,(hz _ us σ H (kf _) p).2.1,(hz _ us σ H (kf _) p).2.2,by omega⟩,hst us σ H p⟩)
  fun i us σ H hi p=>⟨⟨xs,ys,xs[i]'(by omega),ys[i]'(by omega),(hz i us σ H (vI hi) p).2.1,(hz i us σ H (vI hi) p).2.2,kh _,kh _⟩,fun x H2 y=>by
   obtain ⟨q,u,v,hn,e,e2,y1,y2⟩:=y
   subst e e2
   have z:=hz i us σ H (vI hi) p
   exact hgo i u v us σ H q (y1 xs z.2.1) (y2 ys z.2.2) p hn⟩
end
end _L2
namespace _Lin
theorem WN:∀ {a b:W} {x y:W},32∉a->32∉b->a++32::x=b++32::y->a=b/\x=y
 | [],[],x,y,_,_,h=>by cases h;exact ⟨rfl,rfl⟩
 | [],c::b,x,y,_,hb,h=>by
  cases h
  exact absurd kw hb
 | c::a,[],x,y,ha,_,h=>by
  cases h
  exact absurd kw ha
 | c::a,d::b,x,y,ha,hb,h=>by
  have h:c::(a++32::x)=d::(b++32::y):=h
  injection h with h1 h2
  obtain ⟨e1,e2⟩:=WN (fun z=>ha (kq _ z)) (fun z=>hb (kq _ z)) h2
  exact ⟨by rw [h1,e1],e2⟩
theorem XE:∀ (A B:List W),A≠[]->B≠[]->(∀ a∈A,32∉a)->(∀ b∈B,32∉b)->glue A=glue B->A=B
 | [],_,h,_,_,_,_=>absurd rfl h
 | _,[],_,h,_,_,_=>absurd rfl h
 | [a],[b],_,_,_,_,h=>by
  have h:a=b:=h
  rw [h]
 | [a],b::c::r,_,_,ha,_,h=>by
  have h:a=b++32::glue (c::r):=h
  exact absurd (by rw [h];simp) (ha a kw)
 | a::c::r,[b],_,_,_,hb,h=>by
  have h:a++32::glue (c::r)=b:=h
  exact absurd (by rw [<- h];simp) (hb b kw)
 | a::c::r,b::d::t,_,_,ha,hb,h=>by
  have h:a++32::glue (c::r)=b++32::glue (d::t):=h
  obtain ⟨e1,e2⟩:=WN (ha a kw) (hb b kw) h
  rw [e1,XE (c::r) (d::t) (by simp) (by simp) (fun z hz=>ha z (kq _ hz)) (fun z hz=>hb z (kq _ hz)) e2]
end _Lin
namespace _L2
open PySem PySem.Spec PyProof.Rows PySem.Builtin PySem.Builtin.Str _Lin
theorem Qh (p:Str):txt p.cps.toList=p:=by
 refine Str.ext' ?_
 simp [txt]
theorem Qi {ws:List W} (hn:ws≠[]) (hw:∀ w∈ws,w≠[]/\32∉w):Txt.split (txt (glue ws)) (txt [32])=ws.map txt:=by
 have j:=StrLaws.join_split (txt (glue ws)) (txt [32])
 have fr:=StrLaws.split_free (txt (glue ws)) 32
 have fr:∀ p∈Txt.split (txt (glue ws)) (txt [32]),32∉p.cps.toList:=fr
 generalize Txt.split (txt (glue ws)) (txt [32])=ps at j fr
 have e:(ps.map fun p=>p.cps.toList).map txt=ps:=by
  rw [v7]
  conv=>rhs;rw [<- List.map_id ps]
  exact bx fun p _=>Qh p
 rw [<- e,YB] at j
 have j:=za6 j
 have ne:(ps.map fun p=>p.cps.toList)≠[]:=fun z=>by
  rw [z] at j
  match ws,hn,hw,j with
  | [a],_,hw,j=>exact (hw a kw).1 j.symm
  | a::b::r,_,hw,j =>
   have j:[]=a++32::glue (b::r):=j
   exact absurd j.symm (by simp)
 have q:=XE _ _ ne hn (fun a ha=>by
  obtain ⟨p,hp,rfl⟩:=vC.mp ha
  exact fr p hp) (fun b hb=>(hw b hb).2) j
 rw [<- q,e]
theorem YD:∀ {l:List (Str×Tok)} {ws:List W},l.map (·.1)=ws.map txt->Vals (ws.map fun w=>V.str (txt w)) (strValues l)
 | [],[],_=>.nil
 | [],_::_,h=>nomatch h
 | _::_,[],h=>nomatch h
 | (x,t)::l,w::ws,h=>by
  injection h with h1 h2
  have h1:x=txt w:=h1
  subst h1
  exact .cons ⟨t,rfl⟩ (YD h2)
section
variable {X:Cx}
theorem Q8:MtR X "str.split" (fun x vs H Q=>∃ ws:List W,x=.str (txt (glue ws))/\vs=[.str " "]/\ws≠[]/\(∀ w∈ws,w≠[]/\32∉w)/\(glue ws).length<=1000000/\ws.length<=1000000/\∀ l,H l=none->Q (.ref l) (upd H l (.lst (ws.map fun w=>V.str (txt w))))):=by
 intro pins s σ H x xs v us Q I rx rxs h
 refine E_1 h fun ws n8=>A_7 n8 fun e9 n90 hn hw hl hl2 q=>?_;clear n8 h;subst e9;subst n90
 obtain ⟨t,rfl⟩:=rx
 obtain ⟨z,rfl,u,rfl⟩:=vals1 rxs
 have eb:(" " : Str)=txt [32]:=by decide +kernel
 rw [eb]
 have hs:=Qi hn hw
 have hx:(txt (glue ws)).length<=1000000:=by rw [yA];exact hl
 have big:(1000002:Nat)<=sizeLine:=by decide
 generalize txt (glue ws)=x at hs hx
 have hy:((txt [32]).length == 0)=false:=by decide +kernel
 have fin:∀ (l:List (Str×Tok)) (k:Nat),l.map (·.1)=Txt.split x (txt [32])->EP X pins σ Q (.ref s.heap.objs.size) {s with heap:=s.heap.push {cls:=.type "list",data:=.seq (strValues l).toArray},toks:=k}:=fun l k e =>
  ⟨.ref s.heap.objs.size,_,I.laid (t':=k) (fun b u e=>Heap.get?_push_of_some _ e) (kf _) (show yo X.prog X.w _ _ _ (.lst (ws.map fun w=>V.str (txt w))) from ⟨by rw [ke];omega,strValues l,_,YD (e.trans hs),Heap.get?_push_size _ rfl⟩),rfl,q _ (I.hok.fresh (kf _))⟩
 have hnn:(partsBetween x (occurrences x (txt [32]) 0 x.length (x.length+1)) (txt [32]).length).length<=sizeLine:=by
  have e1:=StrLaws.occ_length_le x (txt [32]) 0 x.length (x.length+1)
  rw [length_partsBetween]
  omega
 cases h1:(decide (x.length<(txt [32]).length) || decide (strKind x<strKind (txt [32])))
 ·cases hf:(occurrences x (txt [32]) 0 x.length (x.length+1)).isEmpty
  ·refine call_meets F.slot_str_split (typeIs_str _ _ _) F.entry_str_split (F.args_str_split_2 _ _) (meets_str_split_sep x (txt [32]) t u h1 hy hf (by omega) hnn) ?_
   show wants _ _ _ {s with toks:=_,heap:=s.heap.push {cls:=.type "list",data:=.seq (strsFrom s.toks (partsBetween x (occurrences x (txt [32]) 0 x.length (x.length+1)) (txt [32]).length)).toArray}}
   rw [strsFrom_eq]
   exact fin (numbered s.toks _) _ ((numbered_texts _ _).trans ((if_neg (ne_true_of_eq_false h1)).trans (if_neg (ne_true_of_eq_false hf))).symm)
  ·exact call_meets F.slot_str_split (typeIs_str _ _ _) F.entry_str_split (F.args_str_split_2 _ _) (meets_str_split_not_found x (txt [32]) t u h1 hy hf)
    (fin [(x,t)] s.toks ((if_neg (ne_true_of_eq_false h1)).trans (if_pos hf)).symm)
 ·exact call_meets F.slot_str_split (typeIs_str _ _ _) F.entry_str_split (F.args_str_split_2 _ _) (meets_str_split_cannot_occur x (txt [32]) t u h1)
   (fin [(x,t)] s.toks (if_pos h1).symm)
end
end _L2
namespace _L2
open PySem PySem.Spec PyProof.Rows
section
variable {X:Cx}
theorem YE (hc:X.calm=true):yM X (.builtin "sum") (fun xs H Q=>∃ (a:Addr) (ns:List Int),xs=[.ref a]/\SqL X.K H a (ns.map V.int)/\Q (.int ns.sum) H):=by
 intro pins s σ H xs us Q I r h
 refine E_2 h fun a ns n8=>A_3 n8 fun e9 hq q=>?_;clear n8 h;subst e9
 obtain ⟨u,rfl,ru⟩:=vals1 r
 cases ru
 obtain ⟨its,rv,tp,hz⟩:=I.list hq
 have hl:=rv.length
 rw [ke] at hl
 refine call_sum_walkG (Q1 I tp.isList hc fun s2 e W st hfp=>?_)
 subst e
 refine ⟨_,_,_,_,_,_,fun i=>ns.getD i 0,rfl,W,st,hfp,xQ rv,fun h' tk t' hk=>?_⟩
 refine ⟨.int ns.sum,H,I.kept (t':=tk) fun b o e=>hk b o (fun m=>?_) (Heap.get?_push_of_some _ e),⟨t',?_⟩,q⟩
 ·have:=Heap.lt_size e
  rw [kD.mp m] at this
  exact vK _ this
 ·rw [ku,<- hl,j0 ns _ (kf _),kO]
theorem Qj {K:Frag} (hK:X.K=K) (hc:X.calm=true):yM X (.builtin "sum") (fun xs H Q=>∃ (a:Addr) (ns:List Int),xs=[.ref a]/\SqL K H a (ns.map V.int)/\Q (.int ns.sum) H):=by
 subst hK
 exact YE hc
end
end _L2
namespace _Lin
noncomputable def putG (wide:Int) (gs:List (List W)) (v:W):List (List W) :=
 match gs.getLast? with
 | some g=>if ((glue g).length:Int)+1+v.length<=wide then gs.dropLast++[g++[v]] else gs++[[v]]
 | none=>[[v]]
noncomputable def grp (wide:Int) (ws:List W):List (List W):=ws.foldl (putG wide) []
theorem xT (wide:Int) (ws:List W) (v:W):grp wide (ws++[v])=putG wide (grp wide ws) v:=by
 unfold grp
 rw [u5]
 rfl
theorem xw (wide:Int) (R:List (List W)) (g:List W) (v:W):putG wide (R++[g]) v=if ((glue g).length:Int)+1+v.length<=wide then R++[g++[v]] else R++[g]++[[v]]:=by
 unfold putG
 rw [List.getLast?_concat,uj]
theorem xC {α:Type} (l:List α):l=[]\/∃ r a,l=r++[a]:=by
 by_cases h:l=[]
 ·exact .inl h
 ·exact .inr ⟨_,_,(vX h).symm⟩
theorem Zw (wide:Int) (ws:List W):(∀ g∈grp wide ws,g≠[])/\(ws≠[]->grp wide ws≠[]) :=
 snoc_ind (P:=fun ws=>(∀ g∈grp wide ws,g≠[])/\(ws≠[]->grp wide ws≠[])) ⟨fun g hg=>(kW hg).elim,fun h=>absurd rfl h⟩ (fun ws v ih=>by
  rw [xT]
  rcases xC (grp wide ws) with e | ⟨R,g,e⟩
  ·rw [e]
   exact ⟨fun g hg=>by rw [kD.mp hg];simp,fun _=>by simp [putG]⟩
  ·rw [e] at ih ⊢
   rw [xw]
   split
   ·refine ⟨fun h hh=>?_,fun _=>by simp⟩
    rcases vc.mp hh with m | m
    ·exact ih.1 h (vt _ m)
    ·rw [kD.mp m];simp
   ·refine ⟨fun h hh=>?_,fun _=>by simp⟩
    rcases vc.mp hh with m | m
    ·exact ih.1 h m
    ·rw [kD.mp m];simp) _ ws rfl
theorem XF (wide:Int) (ws:List W):(grp wide ws).map glue=taken wide ws :=
 snoc_ind (P:=fun ws=>(grp wide ws).map glue=taken wide ws) rfl (fun ws v ih=>by
  rw [xT,xz,<- ih]
  rcases xC (grp wide ws) with e | ⟨R,g,e⟩
  ·rw [e]
   rfl
  ·have gn:=(Zw wide ws).1 g (by rw [e];simp)
   rw [e,xw,kC]
   unfold put
   rw [show (List.map glue [g])=[glue g] from rfl,List.getLast?_concat,uj]
   dsimp only
   split
   ·rw [kC]
    show R.map glue++[glue (g++[v])]=_
    rw [Yz _ _ gn]
   ·rw [kC,kC]
    rfl) _ ws rfl
theorem J4 (wide:Int) (ws:List W):(grp wide ws).flatten=ws :=
 snoc_ind (P:=fun ws=>(grp wide ws).flatten=ws) rfl (fun ws v ih=>by
  rw [xT]
  conv=>rhs;rw [<- ih]
  rcases xC (grp wide ws) with e | ⟨R,g,e⟩
  ·rw [e]
   simp [putG]
  ·rw [e,xw]
   split<;>simp) _ ws rfl
theorem qh (wide:Int) (ws:List W):(grp wide ws).length=(taken wide ws).length:=by rw [<- XF,ke]
noncomputable def val (g h:List W):Int:=((glue g).length:Int)+1+(h.headD []).length
noncomputable def vals:List (List W)->List Int
 | []=>[]
 | [_]=>[]
 | g::h::r=>val g h::vals (h::r)
theorem jj:∀ (R:List (List W)) (g h:List W),vals (R++[g]++[h])=vals (R++[g])++[val g h]
 | [],g,h=>rfl
 | [a],g,h=>rfl
 | a::b::r,g,h=>by
  have ih:=jj (b::r) g h
  show val a b::vals (b::r++[g]++[h])=val a b::vals (b::r++[g])++[val g h]
  rw [ih]
  rfl
theorem jk:∀ (R:List (List W)) (g g':List W),g.headD []=g'.headD []->vals (R++[g])=vals (R++[g'])
 | [],g,g',_=>rfl
 | [a],g,g',e=>by
  show [val a g]=[val a g']
  unfold val
  rw [e]
 | a::b::r,g,g',e=>by
  show val a b::vals (b::r++[g])=val a b::vals (b::r++[g'])
  rw [jk (b::r) g g' e]
theorem YF {g:List W} (h:g≠[]) (v:W):(g++[v]).headD []=g.headD []:=by
 cases g with
 | nil=>exact absurd rfl h
 | cons a r=>rfl
theorem Q9 (wide:Int) (ws:List W):∀ z∈vals (grp wide ws),wide<z :=
 snoc_ind (P:=fun ws=>∀ z∈vals (grp wide ws),wide<z) (fun z hz=>(kW hz).elim) (fun ws v ih=>by
  rw [xT]
  rcases xC (grp wide ws) with e | ⟨R,g,e⟩
  ·rw [e]
   exact fun z hz=>(kW hz).elim
  ·have gn:=(Zw wide ws).1 g (by rw [e];simp)
   rw [e] at ih ⊢
   rw [xw]
   split
   ·rw [jk R _ g (YF gn v)]
    exact ih
   ·rw [jj]
    intro z hz
    rcases vc.mp hz with m | m
    ·exact ih z m
    ·rw [kD.mp m]
     unfold val
     show wide<((glue g).length:Int)+1+(v.length:Int)
     omega) _ ws rfl
theorem XG {wide v:Int} (hv:wide<=v) (ws:List W):(∀ z∈vals (grp wide ws),v<z)->grp v ws=grp wide ws :=
 snoc_ind (P:=fun ws=>(∀ z∈vals (grp wide ws),v<z)->grp v ws=grp wide ws) (fun _=>rfl) (fun ws x ih=>by
  rw [xT,xT]
  rcases xC (grp wide ws) with e | ⟨R,g,e⟩
  ·intro _
   rw [ih (by rw [e];exact fun z hz=>(kW hz).elim),e]
   rfl
  ·have gn:=(Zw wide ws).1 g (by rw [e];simp)
   rw [e] at ih ⊢
   rw [xw]
   split
   ·rw [jk R _ g (YF gn x)]
    intro h
    rw [ih h,xw,if_pos (by omega)]
   ·rw [jj]
    intro h
    rw [ih (fun z hz=>h z (vt _ hz)),xw,if_neg]
    have:=h (val g [x]) (by simp)
    unfold val at this
    have:v<((glue g).length:Int)+1+(x.length:Int):=this
    omega) _ ws rfl
theorem qO:∀ gs:List (List W),(vals gs).length=gs.length-1
 | []=>rfl
 | [_]=>rfl
 | g::h::r=>by
  show (vals (h::r)).length+1=_
  rw [qO (h::r)]
  simp
noncomputable def cnt (ws:List W) (v:Int):Nat:=(gr ws v ws.length).1
theorem xm (ws:List W) (v:Int):(taken v ws).length=cnt ws v:=by
 have:=(XB (ws:=ws) (wide:=v) (kf _)).1
 rwa [kO] at this
theorem zba {ws:List W} {v v':Int} (h:v<=v') (hw:∀ w∈ws,(w.length:Int)<=v):∀ k,k<=ws.length->(gr ws v' k).1<=(gr ws v k).1:=fun k=>Nat.strongRecOn k fun k ih hk=>by
 by_cases h0:k=0
 ·subst h0
  exact kf _
 ·obtain ⟨s1,s2⟩:=XA (ws:=ws) (wide:=v) (k:=k) (by omega)
  have ft:=zcf hw (k:=k) (by omega) hk
  have up:=zaL (ws:=ws) (wide:=v') (f:=(gr ws v k).2) (k:=k) (by omega) (by omega)
  have:=ih _ s1 (by omega)
  omega
theorem wM {ws:List W} {v v':Int} (h:v<=v') (hw:∀ w∈ws,(w.length:Int)<=v):cnt ws v'<=cnt ws v:=zba h hw _ (kf _)
theorem jA {ws:List W} (h:ws≠[]) (v:Int):0<cnt ws v:=Q7 (List.length_pos_iff.mpr h)
theorem zch (ws:List W) (v:Int):cnt ws v<=ws.length:=zaK _
noncomputable def total (ws:List W):Int:=pos ws ws.length-1
theorem jm {ws:List W} (v:Int) (h:total ws<=v):cnt ws v<=1:=by
 have:=zaL (ws:=ws) (wide:=v) (f:=0) (k:=ws.length) (ve _) (by rw [j8];unfold total at h;omega)
 exact this
noncomputable def falls (c:Int->Nat) (lo:Int):Nat->List (Int×Nat)
 | 0=>[(lo,c lo)]
 | k+1=>if c (lo+(k+1:Nat))<c (lo+k) then falls c lo k++[(lo+(k+1:Nat),c (lo+(k+1:Nat)))] else falls c lo k
theorem qP {c:Int->Nat} {lo:Int} {a:Nat}:∀ {k:Nat},a<=k->(∀ j,a<=j->j<=k->c (lo+j)=c (lo+a))->falls c lo k=falls c lo a
 | 0,h,_=>by rw [uV.mp h]
 | k+1,h,hc=>by
  rcases vQ h with z | z
  ·have ih:=qP (c:=c) (lo:=lo) (a:=a) (k:=k) (by omega) fun j h1 h2=>hc j h1 (by omega)
   show (if c (lo+(k+1:Nat))<c (lo+k) then _ else falls c lo k)=_
   rw [if_neg,ih]
   have e1:=hc (k+1) (by omega) (kf _)
   have e2:=hc k (by omega) (by omega)
   omega
  ·rw [z]
theorem jn {c:Int->Nat} {lo:Int}:∀ {k:Nat} {p:Int×Nat},p∈falls c lo k->p=(lo,c lo)\/∃ j,j<k/\p=(lo+(j+1:Nat),c (lo+(j+1:Nat)))/\c (lo+(j+1:Nat))<c (lo+j)
 | 0,p,h=>.inl (kD.mp h)
 | k+1,p,h=>by
  have h:p∈(if c (lo+(k+1:Nat))<c (lo+k) then falls c lo k++[(lo+(k+1:Nat),c (lo+(k+1:Nat)))] else falls c lo k):=h
  split at h
  ·rcases vc.mp h with m | m
   ·rcases jn m with e | ⟨j,h1,h2⟩
    ·exact .inl e
    ·exact .inr ⟨j,by omega,h2⟩
   ·exact .inr ⟨k,uo _,kD.mp m,by assumption⟩
  ·rcases jn h with e | ⟨j,h1,h2⟩
   ·exact .inl e
   ·exact .inr ⟨j,by omega,h2⟩
theorem jo {c:Int->Nat} {lo:Int}:∀ k:Nat,(falls c lo k).length<=k+1
 | 0=>kf _
 | k+1=>by
  show (if c (lo+(k+1:Nat))<c (lo+k) then falls c lo k++[(lo+(k+1:Nat),c (lo+(k+1:Nat)))] else falls c lo k).length<=_
  have:=jo (c:=c) (lo:=lo) k
  split
  ·rw [ki,kU]
   omega
  ·omega
noncomputable def wid:List W->Nat
 | []=>0
 | a::r=>max a.length (wid r)
theorem jp:∀ {ws:List W} {u:W},u∈ws->u.length<=wid ws
 | a::r,u,h=>by
  show u.length<=max a.length (wid r)
  rcases kY.mp h with e | e
  ·rw [e];exact Nat.le_max_left _ _
  ·exact km (jp e) (Nat.le_max_right _ _)
theorem qi:∀ {ws:List W},ws≠[]->∃ u,u∈ws/\u.length=wid ws
 | [],h=>absurd rfl h
 | [a],_=>⟨a,kw,(Nat.max_eq_left (ve _)).symm⟩
 | a::b::r,_=>by
  obtain ⟨u,hu,e⟩:=qi (ws:=b::r) (by simp)
  by_cases c:a.length<=wid (b::r)
  ·exact ⟨u,kq _ hu,by rw [e];exact (Nat.max_eq_right c).symm⟩
  ·exact ⟨a,kw,(Nat.max_eq_left (by omega)).symm⟩
theorem zci {ws:List W} {M:Int} (hM:M∈ws.map fun u=>(u.length:Int)) (hle:∀ z∈ws.map fun u=>(u.length:Int),z<=M):M=(wid ws:Int):=by
 obtain ⟨u,hu,rfl⟩:=vC.mp hM
 obtain ⟨v,hv,e⟩:=qi (ws:=ws) (fun z=>by rw [z] at hu;exact (kW hu).elim)
 have h1:=jp hu
 have h2:=hle (v.length:Int) (vC.mpr ⟨v,hv,rfl⟩)
 omega
theorem zcj (ws:List W) (k:Nat):0<=pos ws k:=by
 have:=wL ws (ve k)
 rwa [j8] at this
theorem jq {ws:List W} (h:ws≠[]):(wid ws:Int)<=total ws:=by
 obtain ⟨u,hu,e⟩:=qi h
 obtain ⟨i,hi,eu⟩:=ug.mp hu
 have ps:=pos_succ (kh hi)
 rw [eu] at ps
 have:=wL ws (show i+1<=ws.length by omega)
 have:=zcj ws i
 unfold total
 omega
noncomputable def xL (ws:List W):List (Int×Nat):=if ws=[] then [(1,1)] else falls (cnt ws) (wid ws) (total ws-wid ws).toNat
theorem Ja {ws:List W} {w M v:Int} (hall:∀ z∈vals (grp w ws),M<=z) (h1:w<=v) (h2:v<M):cnt ws v=cnt ws w:=by
 have e:=XG h1 ws fun z hz=>Int.lt_of_lt_of_le h2 (hall z hz)
 rw [<- xm,<- xm,<- qh,<- qh,e]
theorem Qk {ws:List W} {lo w M:Int} (h1:lo<=w) (h2:w<M) (hst:∀ v,w<=v->v<M->cnt ws v=cnt ws w) :
  falls (cnt ws) lo (M-lo).toNat=if cnt ws M<cnt ws w then falls (cnt ws) lo (w-lo).toNat++[(M,cnt ws M)] else falls (cnt ws) lo (w-lo).toNat:=by
 obtain ⟨k,hk⟩ : ∃ k:Nat,(M-lo).toNat=k+1:=⟨(M-lo).toNat-1,by omega⟩
 rw [hk]
 show (if cnt ws (lo+(k+1:Nat))<cnt ws (lo+k) then falls (cnt ws) lo k++[(lo+(k+1:Nat),cnt ws (lo+(k+1:Nat)))] else falls (cnt ws) lo k)=_
 have eM:lo+((k+1:Nat):Int)=M:=by omega
 have e1:cnt ws (lo+(k:Int))=cnt ws w:=hst _ (by omega) (by omega)
 have e2:falls (cnt ws) lo k=falls (cnt ws) lo (w-lo).toNat:=qP (by omega) fun j h3 h4=>by
  rw [hst _ (by omega) (by omega),hst (lo+((w-lo).toNat:Int)) (by omega) (by omega)]
 rw [eM,e1,e2]
theorem Jb {ws:List W} {lo w T:Int} (hn:ws≠[]) (hw:∀ u∈ws,(u.length:Int)<=lo) (h1:lo<=w) (h2:w<=T) (c1:cnt ws w<=1):falls (cnt ws) lo (T-lo).toNat=falls (cnt ws) lo (w-lo).toNat:=by
 refine qP (by omega) fun j h3 h4=>?_
 have hw':∀ u∈ws,(u.length:Int)<=w:=fun u hu=>uh (hw u hu) h1
 have a1:=wM (ws:=ws) (v:=w) (v':=lo+(j:Int)) (by omega) hw'
 have a2:=wM (ws:=ws) (v:=w) (v':=lo+((w-lo).toNat:Int)) (by omega) hw'
 have b1:=jA hn (lo+(j:Int))
 have b2:=jA hn (lo+((w-lo).toNat:Int))
 omega
theorem Jc {ws:List W} {w:Int} (h1:w<=total ws) (c1:1<cnt ws w):∃ z,z∈vals (grp w ws)/\z<=total ws:=by
 apply Classical.byContradiction
 intro no
 have e:=XG h1 ws fun z hz=>Int.not_le.mp fun y=>no ⟨z,hz,y⟩
 have e2:cnt ws (total ws)=cnt ws w:=by rw [<- xm,<- xm,<- qh,<- qh,e]
 have:=jm (ws:=ws) (total ws) (vU _)
 omega
theorem XH:∀ {gs:List (List W)} {i:Nat} {g h:List W},gs[i]?=some g->gs[i+1]?=some h->(vals gs)[i]?=some (val g h)
 | [],i,g,h,e,_=>by simp at e
 | [a],i,g,h,_,e=>by simp at e
 | a::b::r,0,g,h,e1,e2=>by
  simp at e1 e2
  subst e1 e2
  rfl
 | a::b::r,i+1,g,h,e1,e2=>by
  have:=XH (gs:=b::r) (i:=i) (g:=g) (h:=h) (by simpa using e1) (by simpa using e2)
  simpa [vals] using this
theorem ZW (ws:List W):(ws.map fun u=>(u.length:Int)).sum+ws.length=pos ws ws.length:=by
 unfold pos
 rw [kO]
 induction ws with
 | nil=>rfl
 | cons a r ih =>
  rw [vj,vk,vj,vk,kK,<- ih]
  omega
end _Lin
namespace _L2
open PySem PySem.Spec PyProof.Rows
section
variable {X:Cx} {pins:List (Addr×Obj)} {σ:St} {H:Hp} {s:Shared} {a:Addr} {y v:V} {u r:Value} {o:Option V} {A:Around} {E:Value->Shared->Prop}
theorem Inv.big (I:Inv X pins σ H s):sysModules<s.heap.objs.size:=by
 have h:mainGlobals<s.heap.objs.size:=(I.mod.glob.keeps I.bk).lt
 exact Nat.lt_trans (by decide) h
end
theorem J7 {P:Program} {w:World} {H:Hp} (h:Heap) (hb:sysModules<h.objs.size):yo P w H (h.push {cls:=.type "dict",data:=.dict #[]}) h.objs.size (.dK []) :=
 ⟨ve _,beq_eq_false_iff_ne.mpr (Ne.symm (vz hb)),[],.nil,Heap.DictOf.new h⟩
noncomputable def Jd:TE:=fun _ H Q=>∀ p,H p=none->Q (.ref p) (upd H p (.dK []))
section
variable {X:Cx} {pos:Pos}
theorem XI:PE X (.Dict [] [] pos) Jd:=fun pins s σ H Q I h =>
 wpAny_Dict_empty ⟨.ref s.heap.objs.size,_,I.laid (a:=s.heap.objs.size) (o:=.dK []) (t':=s.toks) (fun _ _ q=>Heap.get?_push_of_some _ q) (kf _) (J7 s.heap I.big),rfl,h _ (I.hok.fresh (kf _))⟩
end
end _L2
namespace _L2
open PySem
noncomputable def GI (mg:Str->Option Value) (x:Str) (n:Int):Prop:=∃ t,mg x=some (.int n t)
theorem z6 {X:Cx} {x:Str} {n:Int} {pos:Pos} (hg:Gl X x) (h:GI X.mg x n) (hd:(x == ("__debug__" : Str))=false:=by decide):PE X (.Name x pos) (tC (.int n)):=by
 obtain ⟨t,h⟩:=h
 exact ZP hg h ⟨t,rfl⟩ hd
theorem xD {X:Cx} {x:Str} {C:Addr} {pos:Pos} (hg:Gl X x) (hm:X.mg x=some (.ref C)) (hd:(x == ("__debug__" : Str))=false:=by decide):PE X (.Name x pos) (tC (.ref C)):=ZP hg hm rfl hd
theorem yU {X:Cx} {x:Str} {T:String} {pos:Pos} (hg:Gl X x) (hm:X.mg x=none) (hv:bootBuiltins x=some (.type T)) (hn:x ≠ "__name__" := by decide) (hd:(x == ("__debug__" : Str))=false:=by decide):PE X (.Name x pos) (tC (.ty T)):=zaV hg hm hv rfl hn hd
end _L2
namespace _JF
open PySem _L2 _Lin
noncomputable def top (i:Nat):Stmt:=PySem.Challenge.pw_pagepart_k65_trees_and_texts_refused.main.body.getD i (.Pass ⟨0,0,0,0⟩)
noncomputable abbrev jB:Stmt:=top 14
noncomputable abbrev jC:Stmt:=top 15
noncomputable abbrev sAre:Stmt:=top 16
noncomputable abbrev wu:Stmt:=top 17
noncomputable abbrev qj:Stmt:=top 18
noncomputable abbrev jD:Stmt:=top 19
noncomputable abbrev qk:Stmt:=top 20
noncomputable abbrev wv:Stmt:=top 21
noncomputable abbrev ww:Stmt:=top 66
noncomputable abbrev sLw:Stmt:=top 76
noncomputable abbrev sLaw:Stmt:=top 85
noncomputable abbrev ql:Stmt:=top 30
noncomputable abbrev sHas:Stmt:=top 37
noncomputable abbrev sBr:Stmt:=top 38
noncomputable abbrev sNum:Stmt:=top 39
noncomputable abbrev jE:Stmt:=top 40
noncomputable abbrev sLwh:Stmt:=top 67
noncomputable abbrev jF:Stmt:=top 69
noncomputable abbrev qm:Stmt:=top 70
noncomputable abbrev sIs:Stmt:=top 71
noncomputable abbrev qo:Stmt:=top 72
noncomputable abbrev sPut:Stmt:=top 73
noncomputable abbrev qp:Stmt:=top 74
noncomputable abbrev qr:Stmt:=top 75
noncomputable abbrev jG:Stmt:=top 41
noncomputable abbrev qt:Stmt:=top 42
noncomputable abbrev jH:Stmt:=top 45
noncomputable abbrev sRTx:Stmt:=top 46
noncomputable abbrev sSbs:Stmt:=top 47
noncomputable abbrev sAll:Stmt:=top 48
noncomputable abbrev jI:Stmt:=top 49
noncomputable abbrev sBst:Stmt:=top 50
noncomputable abbrev sSo:Stmt:=top 51
noncomputable abbrev sLow:Stmt:=top 52
noncomputable abbrev jJ:Stmt:=top 53
noncomputable abbrev sTst:Stmt:=top 54
noncomputable abbrev sLh:Stmt:=top 55
noncomputable abbrev qu:Stmt:=top 56
noncomputable abbrev qv:Stmt:=top 77
noncomputable abbrev qw:Stmt:=top 78
noncomputable abbrev sHts:Stmt:=top 79
noncomputable abbrev jK:Stmt:=top 80
noncomputable abbrev qx:Stmt:=top 81
noncomputable abbrev qz:Stmt:=top 58
noncomputable abbrev sPa:Stmt:=top 59
noncomputable abbrev sPd:Stmt:=top 60
noncomputable abbrev sPo:Stmt:=top 61
noncomputable abbrev x8:Stmt:=top 62
noncomputable abbrev sHin:Stmt:=top 63
noncomputable abbrev xU:Stmt:=top 64
noncomputable abbrev jL:Stmt:=top 84
noncomputable abbrev wx:Stmt:=top 82
noncomputable abbrev jM:Stmt:=top 83
theorem fresh {H:Hp} {p:Addr} {o:HO} {R:Hp->Prop} (hn:H p=none) (k:∀ H1,Same H H1->H1 p=some o->R H1):R (upd H p o) :=
 k _ (fun b u e=>by rw [zp (zO e hn)];exact e) zd
structure Callee (P:Program) (w:World) (K:Frag) (mg:Str->Option Value) (base:Heap) (CX:CXT) (k:Nat) (x:Str) (f:Addr) (fd:FuncData) (ps:List Str) (sp:Sp):Prop where
 ok:FnOk P w K mg base CX k f fd ps sp
 bound:mg x=some (.ref f)
 kp:kE K (.ref f)=true
 bd:Binds K fd ps []
theorem zck {ns:List Int} {k:Int} (h0:0<=k) (h1:k<ns.length):atI (ns.map V.int) k=some (.int (ns.getD k.toNat 0)):=by
 obtain ⟨j,rfl⟩:=vN h0
 refine yK ?_
 rw [va,kh (by omega)]
 simp [List.getD,show j<ns.length by omega]
theorem zU {H H1:Hp} {l:Addr} {o:HO} (S:Same H H1) (hn:H l=none):Same H (upd H1 l o):=fun b u e=>by
 rw [zp (zO e hn)]
 exact S b u e
theorem zc {H:Hp} {p:Addr} {o:HO} (hn:H p=none):Same H (upd H p o):=fun b u e=>by rw [zp (zO e hn)];exact e
theorem qQ {σ:St} {H:Hp}:Evl (tUn (rU fun i=>V.int (-i)) (tC (V.int 1))) σ H (.int (-1)):=fun Q q=>⟨1,rfl,q⟩
noncomputable def tx (ws:List W):List V:=ws.map fun w=>V.str (txt w)
theorem yu (ws:List W):(tx ws).length=ws.length:=ke _
theorem zcl {ws:List W} {i:Nat} {w:W} (h:ws[i]?=some w):(tx ws)[i]?=some (V.str (txt w)):=by
 unfold tx
 rw [va,h]
 rfl
theorem wz {ws:List W} {i:Nat} {x:V} (h:(tx ws)[i]?=some x):∃ w,ws[i]?=some w/\x=V.str (txt w):=by
 unfold tx at h
 rw [va] at h
 cases e:ws[i]? with
 | none=>rw [e] at h;cases h
 | some w=>rw [e] at h;cases h;exact ⟨w,rfl,rfl⟩
theorem xV (ws:List W) (w:W):tx ws++[V.str (txt w)]=tx (ws++[w]):=by
 unfold tx
 rw [kC]
 rfl
noncomputable def good (c:Nat):Prop:=33<=c/\c<=126/\c≠37
noncomputable def okW (w:W):Prop:=1<=w.length/\w.length<=12/\∀ c∈w,good c
structure Nm (K:Frag) (mg:Str->Option Value):Prop where
 gOUT:GI mg "LEFT_OUT" 37
 gMOST:GI mg "MOST_SIGNS" 12
 ti:mg "isinstance" = none
 tstr:mg "str" = none
 tlist:mg "list" = none
 tl:mg "len" = none
 tall:mg "all" = none
 tany:mg "any" = none
 tord:mg "ord" = none
 kNs:ky K (.type "NoneType") (.type "str")=some false
 kBs:ky K (.type "bool") (.type "str")=some false
 kIs:ky K (.type "int") (.type "str")=some false
 kLs:ky K (.type "list") (.type "str")=some false
 kTs:ky K (.type "tuple") (.type "str")=some false
 kDs:ky K (.type "dict") (.type "str")=some false
 kNl:ky K (.type "NoneType") (.type "list")=some false
 kSl:ky K (.type "str") (.type "list")=some false
 kIl:ky K (.type "int") (.type "list")=some false
 kTl:ky K (.type "tuple") (.type "list")=some false
 kDl:ky K (.type "dict") (.type "list")=some false
 kBl:ky K (.type "bool") (.type "list")=some false
noncomputable def isG (c:Nat):Bool:=decide (33<=c) && (decide (c<=126) && decide (c≠37))
noncomputable def isW (l:W):Bool:=decide (1<=l.length) && (decide (l.length<=12) && l.all isG)
theorem ZX {c:Nat}:isG c=true↔good c:=by
 unfold isG good
 rw [vx,vx,decide_eq_true_eq,decide_eq_true_eq,decide_eq_true_eq]
theorem zbb {l:W}:isW l=true↔okW l:=by
 unfold isW okW
 rw [vx,vx,decide_eq_true_eq,decide_eq_true_eq,vD]
 exact and_congr Iff.rfl (and_congr Iff.rfl ⟨fun h c hc=>ZX.mp (h c hc),fun h c hc=>ZX.mpr (h c hc)⟩)
inductive NoS (H:Hp):V->Prop where
 | non:NoS H .non
 | bl (b:Bool):NoS H (.bl b)
 | int (i:Int):NoS H (.int i)
 | lst {a:Addr} {xs:List V} (e:H a=some (.lst xs)):NoS H (.ref a)
 | tup {a:Addr} {xs:List V} (e:H a=some (.tup xs)):NoS H (.ref a)
 | dK {a:Addr} {kvs:List (Key×V)} (e:H a=some (.dK kvs)):NoS H (.ref a)
inductive NoL (H:Hp):V->Prop where
 | non:NoL H .non
 | bl (b:Bool):NoL H (.bl b)
 | int (i:Int):NoL H (.int i)
 | str (x:Str):NoL H (.str x)
 | tup {a:Addr} {xs:List V} (e:H a=some (.tup xs)):NoL H (.ref a)
 | dK {a:Addr} {kvs:List (Key×V)} (e:H a=some (.dK kvs)):NoL H (.ref a)
theorem NoS.same {H H':Hp} (S:Same H H') {x:V} (h:NoS H x):NoS H' x:=by
 cases h with
 | non=>exact .non
 | bl b=>exact .bl b
 | int i=>exact .int i
 | lst e=>exact .lst (S _ _ e)
 | tup e=>exact .tup (S _ _ e)
 | dK e=>exact .dK (S _ _ e)
theorem NoL.same {H H':Hp} (S:Same H H') {x:V} (h:NoL H x):NoL H' x:=by
 cases h with
 | non=>exact .non
 | bl b=>exact .bl b
 | int i=>exact .int i
 | str x=>exact .str x
 | tup e=>exact .tup (S _ _ e)
 | dK e=>exact .dK (S _ _ e)
theorem NoS.ty {K:Frag} {mg:Str->Option Value} (Z:Nm K mg) {H:Hp} {x:V} (h:NoS H x):∃ t,TyX K H x t/\ky K t (.type "str")=some false:=by
 cases h with
 | non=>exact ⟨_,.of .non,Z.kNs⟩
 | bl b=>exact ⟨_,.of (.bl b),Z.kBs⟩
 | int i=>exact ⟨_,.of (.int i),Z.kIs⟩
 | lst e=>exact ⟨_,.of (.lst e),Z.kLs⟩
 | tup e=>exact ⟨_,.of (.tup e),Z.kTs⟩
 | dK e=>exact ⟨_,.of (.dK e),Z.kDs⟩
theorem NoL.ty {K:Frag} {mg:Str->Option Value} (Z:Nm K mg) {H:Hp} {x:V} (h:NoL H x):∃ t,TyX K H x t/\ky K t (.type "list")=some false:=by
 cases h with
 | non=>exact ⟨_,.of .non,Z.kNl⟩
 | bl b=>exact ⟨_,.of (.bl b),Z.kBl⟩
 | int i=>exact ⟨_,.of (.int i),Z.kIl⟩
 | str x=>exact ⟨_,.of (.str x),Z.kSl⟩
 | tup e=>exact ⟨_,.of (.tup e),Z.kTl⟩
 | dK e=>exact ⟨_,.of (.dK e),Z.kDl⟩
noncomputable def JW (H:Hp) (x:V) (b:Bool):Prop:=(∃ l:W,x=.str (txt l)/\(∀ c∈l,c<128)/\l.length<=1000/\b=isW l)\/(b=false/\NoS H x)
theorem JW.same {H H':Hp} (S:Same H H') {x:V} {b:Bool} (h:JW H x b):JW H' x b:=h.imp id fun h=>⟨h.1,h.2.same S⟩
noncomputable def JWs (H:Hp):List V->List Bool->Prop:=Paired (JW H)
theorem JWs.same {H H':Hp} (S:Same H H'):∀ {vs:List V} {bs:List Bool},JWs H vs bs->JWs H' vs bs
 | _,_,.nil=>.nil
 | _,_,.cons h t=>.cons (h.same S) (JWs.same S t)
theorem JWs.len {H:Hp} {vs:List V} {bs:List Bool} (h:JWs H vs bs):vs.length=bs.length:=Paired.length h
theorem JWs.get {H:Hp}:∀ {vs:List V} {bs:List Bool} {i:Nat} {v:V},JWs H vs bs->vs[i]?=some v->∃ b,bs[i]?=some b/\JW H v b
 | _,_,_,_,.nil,e=>by simp at e
 | _,_,0,_,.cons r _,e=>by simp at e;subst e;exact ⟨_,rfl,r⟩
 | _,_,i+1,v,.cons _ t,e=>by
  obtain ⟨p,h1,h2⟩:=JWs.get (i:=i) (v:=v) t (by simpa using e)
  exact ⟨p,by simpa using h1,h2⟩
theorem zbc {H:Hp} {u:W} (h:okW u):JW H (.str (txt u)) true:=.inl ⟨u,rfl,fun c hc=>by
 have:=h.2.2 c hc
 unfold good at this
 omega,by have:=h.2.1;omega,(zbb.mpr h).symm⟩
theorem j9 {H:Hp}:∀ {ws:List W},(∀ u∈ws,okW u)->JWs H (tx ws) (vp ws.length true)
 | [],_=>.nil
 | u::r,h=>.cons (zbc (h u kw)) (j9 (ws:=r) fun v hv=>h v (kq _ hv))
noncomputable def Bad (H:Hp) (x:V):Prop:=(∃ (a:Addr) (xs:List V) (bs:List Bool),x=.ref a/\H a=some (.lst xs)/\JWs H xs bs/\xs.length<=1000/\bs.all id=false)\/NoL H x
noncomputable def XJ:Sp:=fun vs H Q _=>∃ c:Nat,vs=[.str (txt [c])]/\Q (.bl (isG c)) H
noncomputable def XL:Sp:=fun vs H Q _=>∃ (x:V) (b:Bool),vs=[x]/\JW H x b/\∀ H',Same H H'->Q (.bl b) H'
noncomputable def YY:Sp:=fun vs H Q _=>∃ x:V,vs=[x]/\((∃ (a:Addr) (xs:List V) (bs:List Bool),x=.ref a/\H a=some (.lst xs)/\JWs H xs bs/\xs.length<=1000/\∀ H',Same H H'->Q (.bl (bs.all id)) H')\/(NoL H x/\Q (.bl false) H))
noncomputable def Za (C:Addr):Sp:=fun vs H Q E=>∃ x:V,vs=[x]/\((∃ (a:Addr) (ws:List W),x=.ref a/\H a=some (.lst (tx ws))/\(∀ w∈ws,okW w)/\ws.length<=1000/\∀ H',Same H H'->Q .non H')\/(Bad H x/\∀ H',Same H H'->E (.ref C) none H'))
noncomputable def ZY:Sp:=fun vs H Q _=>∃ (a:Addr) (ws:List W) (wide:Int),vs=[.ref a,.int wide]/\H a=some (.lst (tx ws))/\(∀ w∈ws,okW w)/\ws.length<=1000 /\
 ∀ (l:Addr) (H':Hp),Same H H'->H l=none->H' l=some (.lst (tx (taken wide ws)))->Q (.ref l) H'
theorem Je (c d:Nat):decide ((txt [c]).cps.toList<(txt [d]).cps.toList)=decide (c<d):=by
 rw [decide_eq_decide]
 show ([c]:List Nat) < [d]↔c<d
 rw [List.cons_lt_cons_iff]
 constructor
 ·rintro (z | ⟨_,z⟩)
  ·exact z
  ·exact absurd z (List.not_lt_nil _)
 ·exact .inl
section
variable {P:Program} {w:World} {K:Frag} {mg:Str->Option Value} {base:Heap}
theorem zcm:zC ["sign"] ["sign"] (zg jB):=by trivial
theorem zbd {f:Addr} {fd:FuncData} (F:Fun K "is_sign" "is_sign" jB f fd) (Z:Nm K mg):FnOk P w K mg base CX0 1 f fd ["sign"] XJ:=by
 obtain ⟨gOUT,gMOST,ti,tstr,tlist,tl,tall,tany,tord,_,_,_,_,_,_,_,_,_,_,_,_⟩:=Z
 refine F.ok zcm (fun vs H Q E h=>?_) (fun cdv A outer s H vs Q E hr h=>?_)
 ·obtain ⟨c,rfl,_⟩:=h
  rfl
 ·obtain ⟨c,rfl,q⟩:=h
  refine ⟨_,(zf (zn (xt (JL YA YA zM (pv 0) zM) (xJ (y0 W8 (zi JN (by rfl) tord PyProof.Rows.boot_ord (za (pv 0) zb)) (z6 rfl gOUT) (zJ _)))))),?_⟩
  have e1:("!" : Str)=txt [33]:=by decide +kernel
  have e2:("~" : Str)=txt [126]:=by decide +kernel
  refine ⟨_,rfl,_,_,rfl,rfl,_,rfl,?_⟩
  have d1:(!decide ((txt [c]).cps.toList<(("!" : Str)).cps.toList))=decide (33<=c):=by rw [e1,Je,<- decide_not,decide_eq_decide];omega
  rw [d1]
  unfold isG at q
  by_cases c1:33<=c
  ·rw [decide_eq_true c1] at q ⊢
   refine iteT ⟨_,_,rfl,rfl,_,rfl,?_⟩
   have d2:(!decide ((("~" : Str)).cps.toList<(txt [c]).cps.toList))=decide (c<=126):=by rw [e2,Je,<- decide_not,decide_eq_decide];omega
   rw [d2]
   by_cases c2:c<=126
   ·rw [decide_eq_true c2] at q ⊢
    refine iteT ⟨_,rfl,_,rfl,rfl,rfl,?_⟩
    have d3:(!decide (V.int (((txt [c]).cps.getD 0 0:Nat))=V.int 37))=decide (c≠37):=by
     have:(txt [c]).cps.getD 0 0=c:=rfl
     rw [this,qb]
     by_cases h:c=37
     ·subst h;rfl
     ·rw [decide_eq_true h];simp;omega
    rw [d3]
    exact q
   ·rw [decide_eq_false c2] at q ⊢
    exact iteF q
  ·rw [decide_eq_false c1] at q ⊢
   exact iteF ⟨_,rfl,iteF q⟩
end
theorem wZ (wide:Int) (ws:List W):(∀ w∈ws,w.length<=12)->∀ r∈taken wide ws,r.length<=13*ws.length :=
 snoc_ind (P:=fun ws=>(∀ w∈ws,w.length<=12)->∀ r∈taken wide ws,r.length<=13*ws.length) (fun _ r hr=>(kW hr).elim) (fun ws w ih h r hr=>by
  have ih:=ih fun v hv=>h v (vt _ hv)
  have hw:=h w (by simp)
  rw [xz] at hr
  rw [ki,kU]
  unfold put at hr
  split at hr
  ·rename_i q e
   have hq:=ih q (bp e)
   split at hr
   ·rcases vc.mp hr with m | m
    ·have:=ih r (List.dropLast_subset _ m)
     omega
    ·rw [kD.mp m,ki,kK]
     omega
   ·rcases vc.mp hr with m | m
    ·have:=ih r m
     omega
    ·rw [kD.mp m]
     omega
  ·rw [kD.mp hr]
   omega) _ ws rfl
theorem XM (us:List V) (v u:V):ixN (us++[v]).length (-1)=some us.length/\(us++[v]).set us.length u=us++[u]:=by
 refine ⟨?_,?_⟩
 ·unfold ixN
  rw [ki,kU,if_neg (by omega),if_pos (by omega)]
  congr 1
  omega
 ·rw [List.set_append_right _ _ (kf _),bD]
  rfl
section
variable {P:Program} {w:World} {K:Frag} {mg:Str->Option Value} {base:Heap}
theorem zcn:zC ["thing"] ["thing"] (zg jC):=by trivial
theorem zbe {f fS:Addr} {fd fdS:FuncData} (F:Fun K "is_word" "is_word" jC f fd) (Z:Nm K mg) (Si:Callee P w K mg base CX0 1 "is_sign" fS fdS ["sign"] XJ):FnOk P w K mg base CX0 2 f fd ["thing"] XL:=by
 have Z':=Z
 obtain ⟨gOUT,gMOST,ti,tstr,tlist,tl,tall,tany,tord,_,_,_,_,_,_,_,_,_,_,_,_⟩:=Z
 refine F.ok zcn (fun vs H Q E h=>?_) (fun cdv A outer s H vs Q E hr h=>?_)
 ·refine E_2 h fun x b n8=>A_2 n8 fun e9 _=>?_;clear n8 h;subst e9
  rfl
 ·refine E_2 h fun x b n8=>A_3 n8 fun e9 hJ q=>?_;clear n8 h;subst e9
  refine ⟨_,(ze (zR (PW.pt (xE (yW (yi (zi yj (by rfl) ti kM (za (pv 0) (za (yU rfl tstr u9) zb))))) (xI (yW (JM qG qG zh (zi yf (by rfl) tl kL (za (pv 0) zb)) (z6 rfl gMOST))))))
   (zf (zn yB))
   zL)
   (zf (zn (zi (jg rfl) (by rfl) tall ba (za (yq (Nc:=["sign"]) (ix:=[none]) rfl rfl (by exact (zcg (pv 0))) (fun _ _ _ _ _=>(zo (i:=0) (by show (["sign"]:List Str).Nodup;decide +kernel) rfl (Or.inl rfl))) (fun _ _ _ _ _=>yd) (fun _ _ _ _ _=>(zk Si.ok hr rfl Si.bound Si.kp Si.bd .nil zG (za (pv 0) zb)))) zb))))),?_⟩
  rcases hJ with ⟨l,rfl,asc,l1000,rfl⟩ | ⟨rfl,ns⟩
  ·refine ⟨_,rfl,_,_,_,_,rfl,rfl,.of (.str _),rfl,_,rfl,iteF ?_⟩
   refine ⟨_,rfl,txt l,rfl,(by rw [yA];exact km l1000 (by decide)),_,_,rfl,rfl,_,rfl,?_⟩
   rw [yA]
   have q0:=q H (Same.refl _)
   unfold isW at q q0
   by_cases c1:1<=l.length
   ·rw [decide_eq_true c1] at q q0
    have d1:decide ((1:Int)<=(l.length:Nat))=true:=decide_eq_true (by omega)
    rw [d1]
    refine iteT ⟨_,_,rfl,rfl,_,rfl,?_⟩
    by_cases c2:l.length<=12
    ·rw [decide_eq_true c2] at q q0
     have d2:decide (((l.length:Nat):Int)<=12)=true:=decide_eq_true (by omega)
     rw [d2]
     refine iteF ?_
     refine ⟨_,rfl,l,rfl,asc,za9 (l:=l) (fun i ys σ H'=>ys=((l.take i).map isG).map V.bl/\H'=H/\∃ o,σ=[o]) ⟨rfl,rfl,none,rfl⟩
      (fun i ys σ H' hi h9=>by obtain ⟨e,_⟩:=h9;exact (by rw [e,ke,ke,kH];exact km (show _<=1000 by omega) (by decide))) ?_ ?_⟩
     ·intro ys σ H' h8 la nl
      obtain ⟨e,rfl,_⟩:=h8
      rw [kO] at e
      subst e
      refine ⟨la,l.map isG,rfl,SqL.of zd,?_⟩
      rw [List.all_map]
      exact q _ (zc nl)
     ·intro i c ys σ H' hx h8
      obtain ⟨e,rfl,o,rfl⟩:=h8
      subst e
      obtain ⟨hil,ev⟩:=kg.mp hx
      dsimp only [z7,tYes]
      refine iteT ?_
      refine ⟨_,rfl,c,rfl,?_,rfl,_,rfl⟩
      rw [<- kz hil,ev,kC,kC]
      rfl
    ·rw [decide_eq_false c2] at q q0
     have d2:decide (((l.length:Nat):Int)<=12)=false:=decide_eq_false (by omega)
     rw [d2]
     exact iteT q0
   ·rw [decide_eq_false c1] at q q0
    have d1:decide ((1:Int)<=(l.length:Nat))=false:=decide_eq_false (by omega)
    rw [d1]
    exact iteF ⟨_,rfl,iteT q0⟩
  ·obtain ⟨t,ty,k⟩:=ns.ty Z'
   exact ⟨_,rfl,_,_,t,_,rfl,rfl,ty,k,_,rfl,iteT (iteT (q H (Same.refl _)))⟩
theorem zdd:zC ["things"] ["things"] (zg sAre):=by trivial
theorem zco {f fS:Addr} {fd fdS:FuncData} (F:Fun K "are_words" "are_words" sAre f fd) (Z:Nm K mg) (Wo:Callee P w K mg base CX0 2 "is_word" fS fdS ["thing"] XL):FnOk P w K mg base CX0 3 f fd ["things"] YY:=by
 have Z':=Z
 obtain ⟨gOUT,gMOST,ti,tstr,tlist,tl,tall,tany,tord,_,_,_,_,_,_,_,_,_,_,_,_⟩:=Z
 refine F.ok zdd (fun vs H Q E h=>?_) (fun cdv A outer s H vs Q E hr h=>?_)
 ·obtain ⟨x,rfl,_⟩:=h
  rfl
 ·obtain ⟨x,rfl,h⟩:=h
  refine ⟨_,(zf (zn (xt (zi yj (by rfl) ti kM (za (pv 0) (za (yU rfl tlist uw) zb))) (xJ (zi (jg rfl) (by rfl) tall ba (za (yq (Nc:=["thing"]) (ix:=[none]) rfl rfl (by refine' ya ?zz;case zz=>exact (pv 0)) (fun _ _ _ _ _=>(zo (i:=0) (by show (["thing"]:List Str).Nodup;decide +kernel) rfl (Or.inl rfl))) (fun _ _ _ _ _=>yd) (fun _ _ _ _ _=>(zk Wo.ok hr rfl Wo.bound Wo.kp Wo.bd .nil zG (za (pv 0) zb)))) zb)))))),?_⟩
  rcases h with ⟨a,xs,bs,rfl,ha,hJ,hn,q⟩ | ⟨nl,q⟩
  ·refine ⟨_,rfl,_,_,_,_,rfl,rfl,.of (.lst ha),rfl,_,rfl,iteT ?_⟩
   have lb:=hJ.len
   refine ⟨_,rfl,a,rfl,⟨_,SqL.of ha⟩,yH (K:=K) (a:=a) (xs:=xs) (fun i ys σ H'=>ys=(bs.take i).map V.bl/\Same H H'/\∃ o,σ=[o]) ⟨rfl,Same.refl _,none,rfl⟩
    (fun i ys σ H' hi h9=>by obtain ⟨e,S,_⟩:=h9;exact (⟨by rw [e,ke,kH];exact km (show _<=1000 by omega) (by decide),SqL.of (S _ _ ha)⟩)) ?_ ?_⟩
   ·rintro ys σ H' ⟨e,S,_⟩ la nl
    rw [lb,kO] at e
    subst e
    exact ⟨la,bs,rfl,SqL.of zd,q _ (S.trans (zc nl))⟩
   ·intro i x ys σ H' hx h8
    refine A_3 h8 fun e S n8=>E_1 n8 fun o e9=>?_;clear n8 h8;subst e9
    subst e
    obtain ⟨b,eb,hj⟩:=hJ.get hx
    obtain ⟨hil,ev⟩:=kg.mp eb
    dsimp only [z7,tYes]
    refine iteT ?_
    refine ⟨_,rfl,x,b,rfl,hj.same S,fun H2 S2=>⟨?_,S.trans S2,_,rfl⟩⟩
    rw [<- kz hil,ev,kC]
    rfl
  ·obtain ⟨t,ty,k⟩:=nl.ty Z'
   exact ⟨_,rfl,_,_,t,_,rfl,rfl,ty,k,_,rfl,iteF q⟩
theorem J8:zC ["things"] ["things"] (zg wu):=by trivial
theorem Jf {f fS C:Addr} {fd fdS:FuncData} (F:Fun K "refuse_no_words" "refuse_no_words" wu f fd) (ex:Exc K mg "NoTexts" C) (Ar:Callee P w K mg base CX0 3 "are_words" fS fdS ["things"] YY):FnOk P w K mg base (CXE P w) 4 f fd ["things"] (Za C):=by
 refine F.okE J8 (fun vs H Q E h=>?_) (fun cdv A outer s H vs Q E hr hh h=>?_)
 ·obtain ⟨x,rfl,_⟩:=h
  rfl
 ·obtain ⟨x,rfl,h⟩:=h
  refine ⟨_,(zf (zR (yW (yi (zk Ar.ok hr rfl Ar.bound Ar.kp Ar.bd .nil zG (za (pv 0) zb))))
   (zf (xP ex hh rfl (za zM zb)))
   zL)),?_⟩
  rcases h with ⟨a,ws,rfl,ha,hw,hn,q⟩ | ⟨bad,qe⟩
  ·refine ⟨_,rfl,_,rfl,.inl ⟨a,tx ws,_,rfl,ha,j9 hw,by rw [yu];exact hn,fun H' S=>⟨_,rfl,?_⟩⟩⟩
   have e:(vp ws.length true).all id=true:=by simp
   rw [e]
   exact iteF (q H' S)
  ·rcases bad with ⟨a,xs,bs,rfl,ha,hJ,hn,hb⟩ | nl
   ·refine ⟨_,rfl,_,rfl,.inl ⟨a,xs,bs,rfl,ha,hJ,hn,fun H' S=>⟨_,rfl,?_⟩⟩⟩
    rw [hb]
    exact iteT ⟨Zz1,qe H' S⟩
   ·exact ⟨_,rfl,_,rfl,.inr ⟨nl,_,rfl,iteT ⟨Zz1,qe H (Same.refl _)⟩⟩⟩
theorem ZZ:zC ["words","wide","rows","word"] ["words","wide"] (zg qj):=by trivial
theorem J9 {f:Addr} {fd:FuncData} (F:Fun K "taken" "taken" qj f fd) (tl:mg "len" = none):FnOk P w K mg base CX0 1 f fd ["words","wide"] ZY:=by
 refine F.ok ZZ (fun vs H Q E h=>?_) (fun cdv A outer s H vs Q E hr h=>?_)
 ·refine E_3 h fun a ws wide n8=>A_2 n8 fun e9 _=>?_;clear n8 h;subst e9
  rfl
 ·refine E_3 h fun a ws wide n8=>A_5 n8 fun e9 ha hw hn q=>?_;clear n8 h;subst e9
  refine ⟨_,(ze (zm (i:=2) ZZ.nd rfl (Or.inl rfl) (zE zb))
   (ze (yr PassesOwn.never rfl (ya (pv 0)) (zo (i:=3) ZZ.nd rfl (Or.inl rfl))
   (zf (zR (PW.pt (w9 (j3 (pv 2) (fun _=>rfl)) (wk (zF qG (zj zS (zj zS (zi yf (by rfl) tl kL (za (zw zV (pv 2) (xY xB zh) (fun _ _=>rfl)) zb)) zh) (zi yf (by rfl) tl kL (za (pv 3) zb))) (pv 1) (zJ _)))))
    (zf (qa (zj xK (zj xK (zw zV (pv 2) (xY xB zh) (fun _ _=>rfl)) zM) (pv 3)) (QG (pv 2) (xY xB zh) set_list)))
    (zf (zZ (yG kN vf vg ye (pv 2) (za (pv 3) zb)))))))
   (zf (zn (pv 2))))),?_⟩
  refine ⟨Zz0,fun l nl=>?_⟩
  refine fresh (R:=fun H1=>_) nl fun H1 S1 h1=>?_
  refine ⟨_,rfl,a,rfl,⟨_,SqL.of (S1 _ _ ha)⟩,?_⟩
  refine xn (K:=K) (a:=a) (xs:=tx ws) (fun i σ H2=>∃ o:Option V,σ=[some (.ref a),some (.int wide),some (.ref l),o]/\Same H H2/\H2 l=some (.lst (tx (taken wide (ws.take i)))))
   ⟨none,rfl,S1,h1⟩ (fun i σ H2 _ h9=>by obtain ⟨_,_,S,_⟩:=h9;exact (SqL.of (S _ _ ha))) ?_ ?_
  ·intro i x σ H2 hi h8
   refine E_1 h8 fun o n8=>A_3 n8 fun e9 S hl=>?_;clear n8 h8;subst e9
   obtain ⟨v,hv,rfl⟩:=wz hi
   obtain ⟨hil,ev⟩:=kg.mp hv
   have et:taken wide (ws.take (i+1))=put wide (taken wide (ws.take i)) v:=by rw [<- kz hil,ev,xz]
   rw [et]
   have bd:=wZ wide (ws.take i) fun u hu=>(hw u (v8 hu)).2.1
   have lb:=wK wide (ws.take i)
   rw [kH] at bd lb
   have vb:=(hw v (kZ hv)).2.1
   generalize taken wide (ws.take i)=rows at hl bd lb ⊢
   refine zQ ?_
   unfold put
   cases el:rows.getLast? with
   | none =>
    have e':rows=[]:=List.getLast?_eq_none_iff.mp el
    subst e'
    refine ⟨_,rfl,false,.inl ⟨[],SqL.of hl,rfl⟩,iteF ?_⟩
    exact ⟨_,rfl,.inl ⟨rfl,_,SqL.of hl⟩,_,rfl,l,_,_,rfl,rfl,hl,by show 0<sizeLine;decide,_,rfl,zU S nl,by rw [zd];rfl⟩
   | some r =>
    have sp:=wb el
    have rb:=bd r (bp el)
    have ers:tx rows=tx rows.dropLast++[V.str (txt r)]:=by
     conv=>lhs;rw [sp]
     rw [xV]
    have hl2:H2 l=some (.lst (tx rows.dropLast++[V.str (txt r)])):=by rw [<- ers];exact hl
    have ea:atI (tx rows.dropLast++[V.str (txt r)]) (-1)=some (V.str (txt r)):=j5 _ _
    have rs:r.length<=100000:=by omega
    refine ⟨_,rfl,true,.inl ⟨_,SqL.of hl2,by simp⟩,iteT ?_⟩
    refine y3 (p:=(r.length:Int)+1+v.length<=wide) (yz (yz (yz (xS (xq (zA rfl) qQ (SqL.of hl2) ea) (by omega)) yT) (xS (zA rfl) (by omega))) (zA rfl)) _ ?_
    dsimp only
    refine ite2 (fun c=>?_) (fun c=>?_)
    ·have c:=of_decide_eq_true c
     rw [if_pos c]
     have sl:=XM (tx rows.dropLast) (V.str (txt r)) (V.str (txt (r++32::v)))
     refine qN (w:=v) (qN (w:=[32]) (xq (zA rfl) qQ (SqL.of hl2) ea) yT (by simp;omega)) (zA rfl) (by simp;omega) _ ?_
     refine ⟨_,rfl,_,rfl,l,_,_,_,rfl,rfl,hl2,sl.1,?_⟩
     refine ⟨_,rfl,zU S nl,?_⟩
     rw [zd]
     have e2:r++[32]++v=r++32::v:=by simp
     rw [e2,sl.2,xV]
    ·have c:¬ (r.length:Int)+1+v.length<=wide:=fun z=>c (decide_eq_true z)
     rw [if_neg c]
     refine ⟨_,rfl,.inl ⟨rfl,_,SqL.of hl⟩,_,rfl,l,_,_,rfl,rfl,hl,?_,_,rfl,zU S nl,by rw [zd,xV]⟩
     rw [yu]
     exact vi (show rows.length<=1000 by omega) (by decide)
  ·intro σ H2 h8
   refine E_1 h8 fun o n8=>A_3 n8 fun e9 S hl=>?_;clear n8 h8;subst e9
   rw [yu,kO] at hl
   exact ⟨_,rfl,q l H2 S nl hl⟩
end
noncomputable def PrAt (H:Hp) (v:V) (p:Int×Nat):Prop:=∃ a,v=.ref a/\H a=some (.tup [.int p.1,.int (p.2:Nat)])
noncomputable def yv (H:Hp):List V->List (Int×Nat)->Prop:=Paired (PrAt H)
theorem PrAt.same {H H':Hp} (S:Same H H') {v:V} {p:Int×Nat} (h:PrAt H v p):PrAt H' v p:=let ⟨a,e,z⟩:=h;⟨a,e,S _ _ z⟩
theorem yv.imp {H H':Hp} (f:∀ v p,PrAt H v p->PrAt H' v p):∀ {vs:List V} {ps:List (Int×Nat)},yv H vs ps->yv H' vs ps
 | _,_,.nil=>.nil
 | _,_,.cons h t=>.cons (f _ _ h) (yv.imp f t)
theorem yv.same {H H':Hp} (S:Same H H') {vs:List V} {ps:List (Int×Nat)} (h:yv H vs ps):yv H' vs ps:=yv.imp (fun _ _=>PrAt.same S) h
theorem yv.len {H:Hp} {vs:List V} {ps:List (Int×Nat)} (h:yv H vs ps):vs.length=ps.length:=Paired.length h
theorem PrAt.upd {H:Hp} {l:Addr} {xs:List V} {o':HO} (hl:H l=some (.lst xs)) {v:V} {p:Int×Nat} (h:PrAt H v p):PrAt (upd H l o') v p:=by
 obtain ⟨a,e,z⟩:=h
 exact ⟨a,e,by rw [zp (xy z hl (by intro q;cases q))];exact z⟩
theorem yv.upd {H:Hp} {l:Addr} {xs:List V} {o':HO} (hl:H l=some (.lst xs)) {vs:List V} {ps:List (Int×Nat)} (h:yv H vs ps):yv (upd H l o') vs ps:=yv.imp (fun _ _=>PrAt.upd hl) h
theorem yv.snoc {H:Hp} {vs:List V} {ps:List (Int×Nat)} {v:V} {p:Int×Nat} (h:yv H vs ps) (r:PrAt H v p):yv H (vs++[v]) (ps++[p]):=Paired.snoc h r
theorem XN {u:W} (h:okW u):u≠[]/\32∉u:=by
 refine ⟨fun z=>?_,fun z=>?_⟩
 ·have:=h.1
  rw [z] at this
  simp at this
 ·have:=(h.2.2 32 z).1
  omega
theorem XO {gs:List (List W)}:∀ {g:List W},g∈gs->g.length<=gs.flatten.length:=by
 induction gs with
 | nil=>intro g h;exact (kW h).elim
 | cons a r ih =>
  intro g h
  rw [vJ,ki]
  rcases kY.mp h with e | e
  ·rw [e];omega
  ·have:=ih e
   omega
theorem yZ (xs:List V) (k:Nat) (h:k<=xs.length):cutV xs (some (k:Int)) none=xs.drop k:=by
 unfold cutV
 rw [_HT.xO,_HT.wm,Nat.min_eq_left h]
 exact u6 (by rw [vq];exact kf _)
noncomputable def XQ:Sp:=fun vs H Q _=>∃ g h:List W,vs=[.str (txt (glue g)),.str (txt (glue h))]/\h≠[]/\(∀ u∈h,okW u)/\(glue g).length<=100000/\(glue h).length<=100000/\h.length<=1000/\∀ H',Same H H'->Q (.int (val g h)) H'
noncomputable def XR:Sp:=fun vs H Q _=>∃ (a:Addr) (gs:List (List W)),vs=[.ref a]/\H a=some (.lst (tx (gs.map glue)))/\(∀ g∈gs,g≠[]/\(∀ u∈g,okW u)/\(glue g).length<=100000/\g.length<=1000)/\2<=gs.length/\gs.length<=1000 /\
 ∀ M,M∈vals gs->(∀ z∈vals gs,M<=z)->∀ H',Same H H'->Q (.int M) H'
noncomputable def Zb (C:Addr):Sp:=fun vs H Q E=>∃ x:V,vs=[x]/\((∃ (a:Addr) (ws:List W),x=.ref a/\H a=some (.lst (tx ws))/\(∀ w∈ws,okW w)/\ws.length<=1000 /\
 ∀ (l:Addr) (us:List V) (H':Hp),Same H H'->H l=none->H' l=some (.lst us)->yv H' us (xL ws)->Q (.ref l) H')\/(Bad H x/\∀ H',Same H H'->E (.ref C) none H'))
section
variable {P:Program} {w:World} {K:Frag} {mg:Str->Option Value} {base:Heap}
theorem zcp:zC ["row","behind"] ["row","behind"] (zg jD):=by trivial
theorem zbf {f:Addr} {fd:FuncData} (F:Fun K "with_next_word" "with_next_word" jD f fd) (tl:mg "len" = none):FnOk P w K mg base CX0 1 f fd ["row","behind"] XQ:=by
 refine F.ok zcp (fun vs H Q E h=>?_) (fun cdv A outer s H vs Q E hr h=>?_)
 ·revert h;intro n7;refine E_2 n7 fun g h n8=>A_2 n8 fun e9 _=>?_;clear n8 n7;subst e9
  rfl
 ·revert h;intro n7;refine E_2 n7 fun g h n8=>A_7 n8 fun e9 hn hw lg lh nh q=>?_;clear n8 n7;subst e9
  refine ⟨_,(zf (zn (zj zS (zj zS (zi yf (by rfl) tl kL (za (pv 0) zb)) zh) (zi yf (by rfl) tl kL (za (zw zV (yG PySem.F.plainAttrs_str PySem.F.slot_str_split PySem.F.type_str_split Q8 (pv 1) (by exact (za zM zb))) zh (fun _ _=>rfl)) zb))))),?_⟩
  refine ⟨_,rfl,_,rfl,(by rw [yA];exact km lg (by decide)),_,_,rfl,rfl,_,rfl,rfl,h,rfl,rfl,hn,(fun u hu=>XN (hw u hu)),by omega,by omega,fun l nl=>?_⟩
  obtain ⟨u,r,rfl⟩ : ∃ u r,h=u::r:=by
   cases h with
   | nil=>exact absurd rfl hn
   | cons u r=>exact ⟨u,r,rfl⟩
  have hu:=hw u kw
  refine I_4 l _ _ (V.str (txt u)) ⟨rfl,rfl,SqL.of zd,(by exact yK (xs:=(u::r).map fun w=>V.str (txt w)) (j:=0) rfl),_,rfl,(by rw [yA];exact km hu.2.1 (by decide)),_,_,rfl,rfl,?_⟩
  have:=q _ (zc (o:=.lst ((u::r).map fun w=>V.str (txt w))) nl)
  rw [yA,yA]
  exact this
theorem zcq:zC ["rows"] ["rows"] (zg qk):=by trivial
theorem zbg {f fW:Addr} {fd fdW:FuncData} (F:Fun K "next_width" "next_width" qk f fd) (tmin:mg "min" = none) (tzip:mg "zip" = none) (Wn:Callee P w K mg base CX0 1 "with_next_word" fW fdW ["row","behind"] XQ):FnOk P w K mg base CX0 2 f fd ["rows"] XR:=by
 refine F.ok zcq (fun vs H Q E h=>?_) (fun cdv A outer s H vs Q E hr h=>?_)
 ·refine E_2 h fun a gs n8=>A_2 n8 fun e9 _=>?_;clear n8 h;subst e9
  rfl
 ·refine E_2 h fun a gs n8=>A_6 n8 fun e9 ha hg n2 n3 q=>?_;clear n8 h;subst e9
  refine ⟨_,(zf (zn (zi (Q3 rfl) (by rfl) tmin PyProof.Rows.boot_min (za (yq (Nc:=["row","behind"]) (ix:=[none,none]) rfl rfl (by exact (XD rfl tzip (za (pv 0) (za (yc yP (pv 0) (yg zh) yl) zb)))) (fun _ _ _ _ _=>(qf (K:=K) (n:=2) rfl rfl (z8 (zo (i:=0) (by show (["row","behind"]:List Str).Nodup;decide +kernel) rfl (Or.inl rfl)) (z8 (zo (i:=1) (by show (["row","behind"]:List Str).Nodup;decide +kernel) rfl (Or.inl rfl)) xh)))) (fun _ _ _ _ _=>yd) (fun _ _ _ _ _=>(zk Wn.ok hr rfl Wn.bound Wn.kp Wn.bd .nil zG (za (pv 0) (za (pv 1) zb))))) zb)))),?_⟩
  refine ⟨_,rfl,_,rfl,_,rfl,a,_,rfl,SqL.of ha,fun pc nc=>?_⟩
  have Sc:=zc (o:=.lst (cutV (tx (gs.map glue)) (some 1) none)) nc
  have lgs:(tx (gs.map glue)).length=gs.length:=by rw [yu,ke]
  have hpc:(upd H pc (.lst (cutV (tx (gs.map glue)) (some 1) none))) pc=some (.lst ((tx (gs.map glue)).drop 1)):=by
   rw [zd]
   exact congrArg (fun z=>some (HO.lst z)) (yZ _ 1 (by omega))
  have ha2:=Sc _ _ ha
  generalize upd H pc (.lst (cutV (tx (gs.map glue)) (some 1) none))=H1 at Sc hpc ha2
  have lm:min (tx (gs.map glue)).length ((tx (gs.map glue)).drop 1).length=gs.length-1:=by
   rw [vq,lgs]
   omega
  refine ⟨a,pc,rfl,⟨_,SqL.of ha2⟩,⟨_,SqL.of hpc⟩,ZV (K:=K) (a:=a) (b:=pc) (xs:=tx (gs.map glue)) (ys:=(tx (gs.map glue)).drop 1) (fun i us σ H'=>us=((vals gs).take i).map V.int/\Same H1 H'/\∃ o1 o2,σ=[o1,o2])
   ⟨rfl,Same.refl _,none,none,rfl⟩ (fun i us σ H' hi h9=>by obtain ⟨e,S,_⟩:=h9;exact (⟨by rw [e,ke,kH,qO];exact km (show _<=1000 by omega) (by decide),SqL.of (S _ _ ha2),SqL.of (S _ _ hpc)⟩)) ?_ ?_⟩
  ·rintro us σ H' ⟨e,S,_⟩ l nl
   rw [lm,<- qO gs,kO] at e
   subst e
   refine ⟨l,vals gs,rfl,SqL.of zd,by rw [qO];omega,fun M hM hle=>?_⟩
   exact q M hM hle _ (Sc.trans (S.trans (zc nl)))
  ·intro i x y us σ H' p hx hy h8 hn
   refine A_3 h8 fun e S n8=>E_2 n8 fun o1 o2 e9=>?_;clear n8 h8;subst e9
   subst e
   obtain ⟨z1,hz1,rfl⟩:=wz hx
   rw [List.getElem?_drop] at hy
   obtain ⟨z2,hz2,rfl⟩:=wz hy
   rw [va] at hz1 hz2
   obtain ⟨g,eg,rfl⟩ : ∃ g,gs[i]?=some g/\z1=glue g:=by
    cases e:gs[i]? with
    | none=>rw [e] at hz1;cases hz1
    | some g=>rw [e] at hz1;cases hz1;exact ⟨g,rfl,rfl⟩
   obtain ⟨h,eh,rfl⟩ : ∃ h,gs[i+1]?=some h/\z2=glue h:=by
    rw [Nat.add_comm 1 i] at hz2
    cases e:gs[i+1]? with
    | none=>rw [e] at hz2;cases hz2
    | some g=>rw [e] at hz2;cases hz2;exact ⟨g,rfl,rfl⟩
   have ev:=XH eg eh
   obtain ⟨hil,ev'⟩:=kg.mp ev
   have G:=hg g (kZ eg)
   have Hh:=hg h (kZ eh)
   have Sp:=zc (o:=.tup [V.str (txt (glue g)),V.str (txt (glue h))]) hn
   refine ⟨p,_,rfl,SqT.of zd,rfl,_,_,rfl,_,_,rfl,rfl,?_⟩
   dsimp only [tYes]
   refine iteT ?_
   refine ⟨_,rfl,_,rfl,g,h,rfl,Hh.1,Hh.2.1,G.2.2.1,Hh.2.2.1,Hh.2.2.2,fun H2 S2=>⟨?_,S.trans (Sp.trans S2),_,_,rfl⟩⟩
   rw [<- kz hil,kC,ev']
   rfl
theorem xG:zC ["words","wide","rows","stairs","fewer"] ["words"] (zg wv):=by trivial
theorem Jg {f fR fT fN C:Addr} {fd fdR fdT fdN:FuncData} (F:Fun K "text_stairs" "text_stairs" wv f fd) (tl:mg "len" = none) (tmax:mg "max" = none) (Re:Callee P w K mg base (CXE P w) 4 "refuse_no_words" fR fdR ["things"] (Za C))
  (Ta:Callee P w K mg base CX0 1 "taken" fT fdT ["words","wide"] ZY) (Nw:Callee P w K mg base CX0 2 "next_width" fN fdN ["rows"] XR):FnOk P w K mg base (CXE P w) 5 f fd ["words"] (Zb C):=by
 refine F.okE xG (fun vs H Q E h=>?_) (fun cdv A outer s H vs Q E hr hh h=>?_)
 ·obtain ⟨x,rfl,_⟩:=h
  rfl
 ·obtain ⟨x,rfl,h⟩:=h
  refine ⟨_,(ze (zZ (zk Re.ok hr rfl Re.bound Re.kp Re.bd .nil x6 (za (pv 0) zb)))
   (ze (zR (yW (j3 (pv 0) (fun _=>rfl)))
   (zf (zn (zE (za (zN (za zh (za zh zb))) zb))))
   zL)
   (ze (zm (i:=1) xG.nd rfl (Or.inl rfl) (zi (Q4 rfl) (by rfl) tmax uB (za (yq (Nc:=["word"]) (ix:=[none]) rfl rfl (by refine' ya ?zz;case zz=>exact (pv 0)) (fun _ _ _ _ _=>(zo (i:=0) (by show (["word"]:List Str).Nodup;decide +kernel) rfl (Or.inl rfl))) (fun _ _ _ _ _=>yd) (fun _ _ _ _ _=>(zi yf (by rfl) tl kL (za (pv 0) zb)))) zb)))
   (ze (zm (i:=2) xG.nd rfl (Or.inl rfl) (zk Ta.ok (hr.mono (show 1<=4 by decide)) rfl Ta.bound Ta.kp Ta.bd .nil zG (za (pv 0) (za (pv 1) zb))))
   (ze (zm (i:=3) xG.nd rfl (Or.inl rfl) (zE (za (zN (za (pv 1) (za (zi zy (by rfl) tl kL (za (pv 2) zb)) zb))) zb)))
   (ze (PS.nox (wC PassesOwn.never (zF jx (zi zy (by rfl) tl kL (za (pv 2) zb)) zh (zJ _))
   (ze (zm (i:=1) xG.nd rfl (Or.inl rfl) (zk Nw.ok (hr.mono (show 2<=4 by decide)) rfl Nw.bound Nw.kp Nw.bd .nil zG (za (pv 2) zb)))
    (ze (zm (i:=4) xG.nd rfl (Or.inl rfl) (zk Ta.ok (hr.mono (show 1<=4 by decide)) rfl Ta.bound Ta.kp Ta.bd .nil zG (za (pv 0) (za (pv 1) zb))))
    (ze (zR (zF xZ (zi zy (by rfl) tl kL (za (pv 4) zb)) (zi zy (by rfl) tl kL (za (pv 2) zb)) (zJ _))
    (zf (zZ (yG kN vf vg ye (pv 3) (za (zN (za (pv 1) (za (zi zy (by rfl) tl kL (za (pv 4) zb)) zb))) zb))))
    zL)
    (zf (zm (i:=2) xG.nd rfl (Or.inl rfl) (pv 4))))))))
   (zf (zn (pv 3))))))))),?_⟩
  rcases h with ⟨a,ws,rfl,ha,hw,hn,q⟩ | ⟨bad,qe⟩
  case inr=>exact ⟨_,rfl,_,rfl,.inr ⟨bad,fun H' S=>qe H' S⟩⟩
  refine ⟨_,rfl,_,rfl,.inl ⟨a,ws,rfl,ha,hw,hn,fun H1 S1=>?_⟩⟩
  have ha1:=S1 _ _ ha
  by_cases h0:ws=[]
  ·subst h0
   refine ⟨_,rfl,false,.inl ⟨[],SqL.of ha1,rfl⟩,iteT ?_⟩
   refine ⟨Zz2,fun p np=>⟨Zz1,fun l nl=>?_⟩⟩
   have Sp:=zc (o:=.tup [.int 1,.int 1]) np
   have Sl:=zc (o:=.lst [.ref p]) nl
   refine q l [.ref p] _ (S1.trans (Sp.trans Sl)) ((S1.trans Sp).free nl) zd ?_
   show yv _ _ [(1,1)]
   exact .cons ⟨p,rfl,Sl _ _ zd⟩ .nil
  have ht:(!(tx ws).isEmpty)=true:=by
   cases ws with
   | nil=>exact absurd rfl h0
   | cons a r=>rfl
  refine ⟨_,rfl,true,.inl ⟨_,SqL.of ha1,ht.symm⟩,iteF ?_⟩
  have w12:∀ u∈ws,u.length<=12:=fun u hu=>(hw u hu).2.1
  refine ⟨_,rfl,a,rfl,⟨_,SqL.of ha1⟩,yH (K:=K) (a:=a) (xs:=tx ws) (fun i ys σ H'=>ys=((ws.take i).map fun u=>(u.length:Int)).map V.int/\H'=H1/\∃ o,σ=[o]) ⟨rfl,rfl,none,rfl⟩
   (fun i ys σ H' hi h9=>by obtain ⟨e,e2,_⟩:=h9;exact (⟨by rw [e,ke,ke,kH];exact km (show _<=1000 by omega) (by decide),by rw [e2];exact SqL.of ha1⟩)) ?_ ?_⟩
  case refine_2 =>
   intro i x ys σ H' hx h8
   obtain ⟨e,rfl,o,rfl⟩:=h8
   subst e
   obtain ⟨v,hv,rfl⟩:=wz hx
   obtain ⟨hil,ev⟩:=kg.mp hv
   dsimp only [z7,tYes]
   refine iteT ?_
   refine xS (zA rfl) (km (w12 v (kZ hv)) (by decide)) _ ?_
   refine ⟨?_,rfl,_,rfl⟩
   rw [<- kz hil,ev,kC,kC]
   rfl
  intro ys σ H' h8 p2 n2
  obtain ⟨e,rfl,_⟩:=h8
  rw [yu,kO] at e
  subst e
  have S2:=zc (o:=.lst ((ws.map fun u=>(u.length:Int)).map V.int)) n2
  have hp2:(upd H' p2 (.lst ((ws.map fun u=>(u.length:Int)).map V.int))) p2=some (.lst ((ws.map fun u=>(u.length:Int)).map V.int)):=zd
  have S12:=S1.trans S2
  generalize upd H' p2 (.lst ((ws.map fun u=>(u.length:Int)).map V.int))=H2 at S2 hp2 S12
  refine ⟨p2,_,rfl,SqL.of hp2,by rw [ke];exact List.length_pos_iff.mpr h0,fun M hM1 hM=>?_⟩
  have eM:=zci hM1 hM
  subst eM
  have hwl:∀ u∈ws,(u.length:Int)<=(wid ws:Int):=fun u hu=>Int.ofNat_le.mpr (jp hu)
  refine ⟨_,rfl,_,rfl,a,ws,wid ws,rfl,S12 _ _ ha,hw,hn,fun lr H3 S3 _ hlr=>?_⟩
  have S13:=S12.trans S3
  refine ⟨_,rfl,_,rfl,_,_,rfl,.inl (SqL.of hlr),Zz2,fun p np=>⟨Zz1,fun ls nls=>?_⟩⟩
  have Sp:=zc (o:=.tup [.int (wid ws),.int ((tx (taken (wid ws) ws)).length:Nat)]) np
  have Sl:=zc (o:=.lst [.ref p]) nls
  have Spl:=Sp.trans Sl
  have fls:H ls=none:=(S13.trans Sp).free nls
  have nlr:lr≠ls:=zO (Sp _ _ hlr) nls
  have hlr4:=Spl _ _ hlr
  have S4:=S13.trans Spl
  have hls:(upd (upd H3 p (.tup [.int (wid ws),.int ((tx (taken (wid ws) ws)).length:Nat)])) ls (.lst [.ref p])) ls=some (.lst [.ref p]):=zd
  have hP:yv (upd (upd H3 p (.tup [.int (wid ws),.int ((tx (taken (wid ws) ws)).length:Nat)])) ls (.lst [.ref p])) [.ref p] (falls (cnt ws) (wid ws) ((wid ws:Int)-wid ws).toNat):=by
   rw [Int.sub_self]
   refine .cons ⟨p,rfl,?_⟩ .nil
   rw [Sl _ _ zd,yu,xm]
  generalize upd (upd H3 p (.tup [.int (wid ws),.int ((tx (taken (wid ws) ws)).length:Nat)])) ls (.lst [.ref p])=H4 at hlr4 S4 hls hP
  clear Sp Sl Spl np nls S3 hlr S13 S12 hp2 S2 n2
  have hT:=jq h0
  refine run_seq ?_
  refine ZT (fun m σ H5=>∃ (wd:Int) (lr:Addr) (us:List V) (o4:Option V),m=(total ws-wd).toNat/\(wid ws:Int)<=wd/\wd<=total ws/\σ=[some (.ref a),some (.int wd),some (.ref lr),some (.ref ls),o4]/\Same H H5/\H5 lr=some (.lst (tx (taken wd ws)))/\lr≠ls /\
    H5 ls=some (.lst us)/\yv H5 us (falls (cnt ws) (wid ws) (wd-wid ws).toNat)/\us.length<=14000) _ ⟨(wid ws:Int),lr,[.ref p],none,rfl,vU _,hT,rfl,S4,hlr4,nlr,hls,hP,by show 1<=14000;decide⟩ ?_
  clear hlr4 S4 hls hP nlr
  intro m σ H5 h8
  refine E_4 h8 fun wd lr us o4 n8=>A_10 n8 fun e9 h1 h2 n92 S5 hlr nlr hls hP ulen=>?_;clear n8 h8;subst e9;subst n92
  have ct:=xm ws wd
  refine ⟨(1:Int)<((tx (taken wd ws)).length:Nat),inferInstance,y3 (yz (xF (zA rfl) (SqL.of hlr)) yT),fun c=>?_,fun c=>?_⟩
  ·rw [yu,ct] at c
   have c1:1<cnt ws wd:=by omega
   have hwd:∀ u∈ws,(u.length:Int)<=wd:=fun u hu=>uh (hwl u hu) h1
   obtain ⟨z0,hz0,hz1⟩:=Jc h2 c1
   have bt:=wZ wd ws w12
   have gl:=qh wd ws
   have gg:=XF wd ws
   have gf:=J4 wd ws
   have gn:=(Zw wd ws).1
   have hlr':H5 lr=some (.lst (tx ((grp wd ws).map glue))):=by rw [gg];exact hlr
   refine ⟨_,rfl,lr,grp wd ws,rfl,hlr',fun g hg=>⟨gn g hg,fun u hu=>hw u ?_,?_,?_⟩,by omega,?_,fun M hM hle H6 S6=>?_⟩
   ·rw [<- gf]
    exact List.mem_flatten.mpr ⟨g,hg,hu⟩
   ·have:glue g∈taken wd ws:=by rw [<- gg];exact vC.mpr ⟨g,hg,rfl⟩
    have:=bt _ this
    omega
   ·have:=XO hg
    rw [gf] at this
    omega
   ·rw [gl]
    exact km (wK wd ws) hn
   have hMw:=Q9 wd ws M hM
   have hMT:M<=total ws:=uh (hle z0 hz0) hz1
   have jump:=Qk (ws:=ws) (lo:=wid ws) h1 hMw fun v a1 a2=>Ja (M:=M) hle a1 a2
   have S56:=S5.trans S6
   refine ⟨_,rfl,_,rfl,a,ws,M,rfl,S56 _ _ ha,hw,hn,fun lf H7 S7 nlf hlf=>?_⟩
   have S67:=S6.trans S7
   have hls7:=S67 _ _ hls
   have hlr7:=S67 _ _ hlr
   have hP7:=hP.same S67
   have S57:=S5.trans S67
   have nlf2:lf≠ls:=fun z=>by rw [z] at nlf;rw [S6 _ _ hls] at nlf;cases nlf
   have cf:=xm ws M
   try dsimp only
   refine ZU (R:=fun σ H8=>∃ us:List V,σ=[some (.ref a),some (.int M),some (.ref lr),some (.ref ls),some (.ref lf)]/\Same H H8/\H8 lf=some (.lst (tx (taken M ws)))/\H8 ls=some (.lst us)/\yv H8 us (falls (cnt ws) (wid ws) (M-wid ws).toNat)/\us.length<=14000) ?_ (fun k=>?_)
   case refine_1 =>
    intro σ H8 h8
    refine E_1 h8 fun us n8=>A_6 n8 fun e9 S8 hlf8 hls8 hP8 ul8=>?_;clear n8 h8;subst e9
    refine ⟨_,rfl,(total ws-M).toNat,by omega,M,lf,us,_,rfl,by omega,hMT,rfl,S8,hlf8,nlf2,hls8,hP8,ul8⟩
   refine x5 (p:=((tx (taken M ws)).length:Int)<((tx (taken wd ws)).length:Nat)) (y3 (yz (xF (zA rfl) (SqL.of hlf)) (xF (zA rfl) (SqL.of hlr7)))) (fun c2=>?_) (fun c2=>?_)
   ·rw [yu,yu,ct,cf] at c2
    rw [if_pos (by omega)] at jump
    refine ⟨_,rfl,.inl ⟨rfl,_,SqL.of hls7⟩,_,rfl,_,rfl,_,_,rfl,.inl (SqL.of hlf),Zz2,fun p np=>?_⟩
    have Sp:=zc (o:=.tup [.int M,.int ((tx (taken M ws)).length:Nat)]) np
    have hls8:=Sp _ _ hls7
    have ul:us.length=(falls (cnt ws) (wid ws) (wd-wid ws).toNat).length:=hP.len
    have fl:=jo (c:=cnt ws) (lo:=(wid ws:Int)) (wd-wid ws).toNat
    have tb:total ws<=13000:=by
     have e:=ZW ws
     have:(ws.map fun u=>(u.length:Int)).sum<=12*ws.length:=by
      have:∀ l:List W,(∀ u∈l,u.length<=12)->(l.map fun u=>(u.length:Int)).sum<=12*l.length:=fun l=>by
       induction l with
       | nil=>intro _;exact vU _
       | cons x r ih =>
        intro hx
        have i1:=ih fun u hu=>hx u (kq _ hu)
        have i2:=hx x kw
        rw [vj,vk,kK]
        omega
      exact this ws w12
     unfold total
     omega
    refine ⟨ls,_,_,rfl,rfl,hls8,by rw [show us.length=_ from ul];exact vi (show _<=14000 by omega) (by decide),?_⟩
    refine k _ _ ⟨us++[.ref p],rfl,zU (S57.trans Sp) fls,?_,zd,?_,?_⟩
    ·rw [zp nlf2]
     exact Sp _ _ hlf
    ·rw [jump]
     refine ((hP7.same Sp).upd hls8).snoc ⟨p,rfl,?_⟩
     rw [zp (fun z=>by rw [z,hls7] at np;cases np),zd,yu,cf]
    ·rw [ki,kU,ul]
     omega
   ·rw [yu,yu,ct,cf] at c2
    rw [if_neg (by omega)] at jump
    refine zY ?_
    exact k _ _ ⟨us,rfl,S57,hlf,hls7,by rw [jump];exact hP7,ulen⟩
  ·rw [yu,ct] at c
   refine ⟨_,rfl,q ls us H5 S5 fls hls ?_⟩
   unfold xL
   rw [if_neg h0,Jb h0 hwl h1 h2 (by omega)]
   exact hP
end
end _JF
namespace _Tre
open PySem _L2
inductive T where
 | non | bl (b:Bool) | int (i:Int) | str (x:Str) | tup (ts:List T) | lst | dic
mutual
noncomputable def sz:T->Nat
 | .tup ts=>1+szL ts
 | .non=>1
 | .bl _=>1
 | .int _=>1
 | .str _=>1
 | .lst=>1
 | .dic=>1
noncomputable def szL:List T->Nat
 | []=>0
 | t::r=>sz t+szL r
end
theorem wN:∀ t:T,0<sz t
 | .tup ts=>by unfold sz;omega
 | .non=>by unfold sz;omega
 | .bl _=>by unfold sz;omega
 | .int _=>by unfold sz;omega
 | .str _=>by unfold sz;omega
 | .lst=>by unfold sz;omega
 | .dic=>by unfold sz;omega
theorem yQ:∀ (a b:List T),szL (a++b)=szL a+szL b
 | [],b=>by show szL b=szL []+szL b;unfold szL;omega
 | t::a,b=>by
  show sz t+szL (a++b)=szL (t::a)+szL b
  rw [yQ a b,szL]
  omega
theorem yL (k:Str) (ps:List T):sz (.tup [.str k,.tup ps])=3+szL ps:=by
 simp only [sz,szL]
 omega
noncomputable def bar:Str := "|"
noncomputable def dash:Str := "-"
noncomputable def isK (k:Str):Prop:=k=bar\/k=dash
noncomputable def HasK (t:T) (k:Str):Prop:=∃ q,t=.tup [.str k,q]
mutual
inductive Good:T->List Int->Prop where
 | leaf (i:Int):Good (.int i) [i]
 | node {k:Str} {ps:List T} {nss:List (List Int)} (hk:isK k) (h2:2<=ps.length) (hn:∀ p∈ps,¬ HasK p k) (h:zI ps nss):Good (.tup [.str k,.tup ps]) nss.flatten
inductive zI:List T->List (List Int)->Prop where
 | nil:zI [] []
 | cons {t:T} {ns:List Int} {ts:List T} {nss:List (List Int)} (h:Good t ns) (r:zI ts nss):zI (t::ts) (ns::nss)
end
theorem zI.app:∀ {a b:List T} {x y:List (List Int)},zI a x->zI b y->zI (a++b) (x++y)
 | _,_,_,_,.nil,s=>s
 | _,_,_,_,.cons h r,s=>.cons h (zI.app r s)
theorem zI.split:∀ {a b:List T} {z:List (List Int)},zI (a++b) z->∃ x y,z=x++y/\zI a x/\zI b y
 | [],b,z,h=>⟨[],z,rfl,.nil,h⟩
 | t::a,b,_,.cons h r=>by
  obtain ⟨x,y,e,h1,h2⟩:=zI.split (a:=a) (b:=b) r
  exact ⟨_::x,y,by rw [e];rfl,.cons h h1,h2⟩
theorem zI.one {t:T} {z:List (List Int)} (h:zI [t] z):∃ ns,z=[ns]/\Good t ns:=by
 cases h with
 | cons h r =>
  cases r
  exact ⟨_,rfl,h⟩
theorem zI.len:∀ {a:List T} {x:List (List Int)},zI a x->x.length=a.length
 | _,_,.nil=>rfl
 | _,_,.cons _ r=>by rw [kK,kK,r.len]
mutual
theorem Good.ne:∀ {t:T} {ns:List Int},Good t ns->0<ns.length
 | _,_,.leaf i=>uH _
 | _,_,.node (ps:=ps) (nss:=nss) hk h2 hn h=>vh (by omega) (zI.le h)
theorem zI.le:∀ {ts:List T} {nss:List (List Int)},zI ts nss->ts.length<=nss.flatten.length
 | _,_,.nil=>kf _
 | _,_,.cons h r=>by
  rw [vJ,ki,kK]
  have:=h.ne
  have:=zI.le r
  omega
end
mutual
theorem Good.uniq:∀ {t:T} {a b:List Int},Good t a->Good t b->a=b
 | _,_,_,.leaf i,h'=>by cases h';rfl
 | _,_,_,.node _ _ _ h,h'=>by
  cases h' with
  | node _ _ _ h2=>rw [zI.uniq h h2]
theorem zI.uniq:∀ {t:List T} {a b:List (List Int)},zI t a->zI t b->a=b
 | _,_,_,.nil,h'=>by cases h';rfl
 | _,_,_,.cons h r,h'=>by
  cases h' with
  | cons h2 r2=>rw [Good.uniq h h2,zI.uniq r r2]
end
structure Rel (t:T) (ahead:List T) (ns:List Int):Prop where
 fw:∀ x,Good t x->∃ z,zI ahead z/\x.Perm (ns++z.flatten)
 bw:∀ z,zI ahead z->∃ x,Good t x/\x.Perm (ns++z.flatten)
theorem Rel.start (t:T):Rel t [t] [] :=
 ⟨fun x h=>⟨[x],.cons h .nil,by simp⟩,fun z h=>by
  obtain ⟨ns,rfl,h2⟩:=h.one
  exact ⟨ns,h2,by simp⟩⟩
theorem Rel.leaf {t:T} {a:List T} {ns:List Int} {i:Int} (R:Rel t (a++[.int i]) ns):Rel t a (ns++[i]):=by
 refine ⟨fun x h=>?_,fun z h=>?_⟩
 ·obtain ⟨z,hz,p⟩:=R.fw x h
  obtain ⟨u,v,rfl,h1,h2⟩:=hz.split
  obtain ⟨m,rfl,h3⟩:=h2.one
  cases h3
  refine ⟨u,h1,p.trans ?_⟩
  rw [vT,vZ]
  refine List.Perm.append_left ns ?_
  show (u.flatten++([i]++[])).Perm ([i]++u.flatten)
  rw [vW]
  exact bc
 ·obtain ⟨x,h1,p⟩:=R.bw (z++[[i]]) (h.app (.cons (.leaf i) .nil))
  refine ⟨x,h1,p.trans ?_⟩
  rw [vT,vZ]
  refine List.Perm.append_left ns ?_
  show (z.flatten++([i]++[])).Perm ([i]++z.flatten)
  rw [vW]
  exact bc
theorem Rel.node {t:T} {a ps:List T} {ns:List Int} {k:Str} (R:Rel t (a++[.tup [.str k,.tup ps]]) ns) (hk:isK k) (h2:2<=ps.length) (hn:∀ p∈ps,¬ HasK p k):Rel t (a++ps) ns:=by
 refine ⟨fun x h=>?_,fun z h=>?_⟩
 ·obtain ⟨z,hz,p⟩:=R.fw x h
  obtain ⟨u,v,rfl,h1,h3⟩:=hz.split
  obtain ⟨m,rfl,h4⟩:=h3.one
  cases h4 with
  | node _ _ _ h5=>exact ⟨_,h1.app h5,by simpa using p⟩
 ·obtain ⟨u,v,rfl,h1,h3⟩:=h.split
  obtain ⟨x,hx,p⟩:=R.bw (u++[v.flatten]) (h1.app (.cons (.node hk h2 hn h3) .nil))
  exact ⟨x,hx,by simpa using p⟩
theorem Rel.none {t p:T} {a:List T} {ns:List Int} (R:Rel t (a++[p]) ns) (hp:∀ m,¬ Good p m):∀ x,¬ Good t x:=fun x h=>by
 obtain ⟨z,hz,_⟩:=R.fw x h
 obtain ⟨u,v,rfl,h1,h3⟩:=hz.split
 obtain ⟨m,_,h4⟩:=h3.one
 exact hp m h4
theorem Rel.many {t:T} {a:List T} {ns:List Int} (R:Rel t a ns):∀ x,Good t x->ns.length+a.length<=x.length:=fun x h=>by
 obtain ⟨z,hz,p⟩:=R.fw x h
 rw [p.length_eq,ki]
 have:=hz.le
 omega
theorem Rel.done {t:T} {ns:List Int} (R:Rel t [] ns):∃ x,Good t x/\x.Perm ns:=by
 obtain ⟨x,h,p⟩:=R.bw [] .nil
 exact ⟨x,h,by simpa using p⟩
theorem jr {α:Type} (l:List α):l=[]\/∃ r a,l=r++[a]:=by
 by_cases h:l=[]
 ·exact .inl h
 ·exact .inr ⟨_,_,(vX h).symm⟩
noncomputable def up (n:Nat):List Int:=(vo n).map fun i:Nat=>(i:Int)
noncomputable def zX (t:T):Prop:=∃ x,Good t x/\x.length<=24/\x.Perm (up x.length)
theorem XS (n:Nat):(up n).length=n:=by unfold up;rw [ke,v9]
theorem YG (n:Nat):(up n).Pairwise (· <= ·):=by
 unfold up
 rw [u8]
 exact List.pairwise_lt_range.imp fun h=>by omega
theorem XT (n:Nat):(up n).Nodup:=by
 unfold up
 rw [List.nodup_iff_pairwise_ne,u8]
 exact List.pairwise_lt_range.imp fun h=>by omega
theorem Jh {a b:List Int} (p:a.Perm b) (ha:a.Pairwise (· <= ·)) (hb:b.Pairwise (· <= ·)):a=b:=p.eq_of_pairwise (fun x y _ _ h1 h2=>bu h1 h2) ha hb
noncomputable def Tells (t:T) (r:List Int):Prop:=(∃ x,Good t x/\x.length<=24/\r.Perm x)\/(r=[]/\∀ x,Good t x->24<x.length)
theorem Tells.tree {t:T} {r ms:List Int} (h:Tells t r) (p:ms.Perm r) (s:ms.Pairwise (· <= ·)):(0<r.length/\ms=up r.length)↔zX t:=by
 rcases h with ⟨x,g,l,q⟩ | ⟨e,no⟩
 ·constructor
  ·rintro ⟨_,e⟩
   refine ⟨x,g,l,?_⟩
   rw [<- q.length_eq,<- e]
   exact (p.trans q).symm
  ·rintro ⟨y,gy,ly,py⟩
   have l0:=g.ne
   refine ⟨by rw [q.length_eq];exact l0,?_⟩
   have e:y=x:=Good.uniq gy g
   subst e
   refine Jh (p.trans (q.trans ?_)) s (YG _)
   rw [q.length_eq]
   exact py
 ·subst e
  constructor
  ·rintro ⟨h,_⟩
   exact absurd h (vK _)
  ·rintro ⟨y,gy,ly,_⟩
   have:=no y gy
   omega
end _Tre
namespace PySem
open AutoSeq1
set_option maxRecDepth 100000 in
theorem js (l:Addr) (items:Array Value) (n:Nat) (b:Addr) (items2:Array Value) (n2:Nat) (dd:Option Addr) (sl:Array (Option Value)) (hs0:¬(!items.isEmpty && Builtin.List.listTooLong (items.size+items2.size))=true) (hs1:items.size<=sizeLine) (hs2:items.size+items2.size<=sizeLine+1) :
  Meets (Builtin.«list.extend» ⟨[.ref l,.ref b],[]⟩) (fun _ R s=>s.heap.get? l=some {cls:=.type "list",dict:=none,data:=.seq items n,slots:=#[]}/\s.heap.get? b=some {cls:=.type "tuple",dict:=dd,data:=.seq items2 n2,slots:=sl}/\R (.ok (.ret Value.none)) {s with heap:=s.heap.update l (Obj.mapSeq fun x=>x++items2),toks:=s.toks}) :=
 .of_wp fun prog w A R s h=>by
  obtain ⟨hp,g,d,tk,os⟩:=s;obtain ⟨hl,hb,h⟩:=h;have f1:=idx_int;have f2:=sub_tuple_tuple;have f3:=sub_list_list;have f4:=sub_tuple_list;have f5:=sub_list_tuple;
  have hz':(items++items2).size<=sizeLine+1:=by rw [Array.size_append];exact hs2
  wp_walk using (wpAny_updateSeq hl rfl (hz:=hs1) (_hz':=hz')),wpAny_loadPart' hl,wpAny_loadPart' hb;exact ⟨_,rfl,h⟩
end PySem
namespace _L2
open PySem PySem.Spec PyProof.Rows
section
variable {X:Cx}
theorem Zx:MtM X "list.extend" (fun x vs H Q=>∃ l b xs zs,x=.ref l/\vs=[.ref b]/\H l=some (.lst xs)/\SqT X.K H b zs/\xs.length+zs.length<=sizeLine/\Q .non (upd H l (.lst (xs++zs)))):=by
 intro pins s σ H x vs v us Q I rx rv h
 refine E_4 h fun l b xs zs n8=>A_6 n8 fun e9 n90 hH hB hz q=>?_;clear n8 h;subst e9;subst n90
 cases rx
 obtain ⟨u,rfl,ru⟩:=rv.one
 cases ru
 obtain ⟨z,its,n,r,hl,e⟩:=I.lstM hH
 obtain ⟨its2,r2,⟨⟨cls,dd,data,sl⟩,e2,hc,n2,hd⟩,hz2⟩:=I.tuple hB
 simp only at hc hd
 subst hc hd
 have hl2:=r2.length
 have hsz:its.toArray.size+its2.toArray.size<=sizeLine:=by rw [ku,ku];omega
 have hlong:¬ (!its.toArray.isEmpty && Builtin.List.listTooLong (its.toArray.size+its2.toArray.size))=true:=by
  rw [j6 hsz,bE]
  exact kF
 refine call_meets F.slot_list_extend ⟨_,e,rfl⟩ F.entry_list_extend (F.args_list_extend_2 _ _)
  (js l its.toArray n b its2.toArray n2 dd sl hlong (by rw [ku];omega) (by omega)) ⟨e,e2,?_⟩
 refine ⟨.non,_,I.lset (its':=its++its2) hH e (by simp) (r.append r2) ?_,rfl,q⟩
 rw [ki]
 omega
theorem ju:∀ {ns:List Int} {us:List Value},Vals (ns.map V.int) us->IntsAre us ns
 | [],_,.nil=>.nil
 | n::ns,_,.cons ⟨t,e⟩ r=>by
  subst e
  exact .cons n t (ju r)
theorem Zy:∀ {ns:List Int} {us:List Value},IntsAre us ns->Vals (ns.map V.int) us
 | _,_,.nil=>.nil
 | _,_,.cons n t r=>.cons ⟨t,rfl⟩ (Zy r)
theorem Ji:MtR X "list.count" (fun x vs H Q=>∃ (a:Addr) (ns:List Int) (k:Int),x=.ref a/\vs=[.int k]/\SqL X.K H a (ns.map V.int)/\Q (.int (ns.count k:Nat)) H):=by
 intro pins s σ H x xs v us Q I rx rxs h
 refine E_3 h fun a ns k n8=>A_4 n8 fun e9 n90 hq q=>?_;clear n8 h;subst e9;subst n90
 cases rx
 obtain ⟨u,rfl,t,rfl⟩:=vals1 rxs
 obtain ⟨its,rv,tp,hz⟩:=I.list hq
 exact count_list_ints tp.isList (ju rv) ⟨.int _,H,I.tok _,⟨_,rfl⟩,q⟩
theorem Zz:yM X (.builtin "sorted") (fun xs H Q=>∃ (a:Addr) (ns:List Int),xs=[.ref a]/\SqL X.K H a (ns.map V.int)/\ns.length<64/\∀ (l:Addr) (ms:List Int),H l=none->ms.Perm ns->ms.Pairwise (· <= ·)->Q (.ref l) (upd H l (.lst (ms.map V.int)))):=by
 intro pins s σ H xs us Q I r h
 refine E_2 h fun a ns n8=>A_4 n8 fun e9 hq h64 q=>?_;clear n8 h;subst e9
 obtain ⟨u,rfl,ru⟩:=vals1 r
 cases ru
 obtain ⟨its,rv,tp,hz⟩:=I.list hq
 have hl:=rv.length
 rw [ke] at hl
 refine sorted_ints tp.isList (ju rv) (by omega) fun out ms hI pm st=>?_
 obtain ⟨e,he⟩:=sortedAll_at s.heap its out
 have ln:(ms.map V.int).length<=sizeLine:=by rw [ke,pm.length_eq];exact km (vI h64) (by decide)
 refine ⟨.ref (s.heap.objs.size+1),_,I.laid (t':=s.toks) (o:=.lst (ms.map V.int)) (fun b u e=>sortedAll_old e) (uF _) ⟨ln,out.toList,e,Zy hI,?_⟩,rfl,q _ ms (I.hok.fresh (uF _)) pm st⟩
 rw [he]
end
noncomputable def ItR (K:Frag) (a:Addr) (n:Nat):It :=
 ⟨fun i H=>i<n/\∃ xs,SqL K H a xs/\xs.length=n,fun i H x H'=>H'=H/\∀ xs,SqL K H a xs->xs[n-1-i]?=some x,fun i H=>n<=i⟩
theorem zaa {P:Program} {w:World} {K:Frag} {tg:Expr} (a it:Addr) (n:Nat):Turn P w K tg (ItR K a n) [it] it (fun i h=>h.IsRevIter it a ((n:Int)-1-i)/\i<=n) where
 mem:=by simp
 obj:=fun i h st b hb=>by
  have e:b=it:=by simpa using hb
  subst e
  obtain ⟨⟨o,e,c,d⟩,_⟩:=st
  exact ⟨o,e,fun v z=>by rw [d] at z;cases z⟩
 keep:=fun i h h' st k=>⟨st.1.at fun o e=>k it (by simp) o e,st.2⟩
 item:=by
  intro X hP hw hK hc i pins s σ H E I hf st hg
  subst hP hw hK
  obtain ⟨hi,xs,hq,hx⟩:=hg
  obtain ⟨its,rv,p,hz⟩:=I.list hq
  have e1:xs[n-1-i]?=some (xs[n-1-i]'(by omega)):=kh (by omega)
  obtain ⟨u,hu,ru⟩:=rv.get e1
  obtain ⟨f0,f1,f2,f3,f4,f5⟩:=hf it (by simp)
  have st1:s.heap.IsRevIter it a ((n-1-i:Nat):Int):=by
   have:=st.1
   rwa [show (n:Int)-1-i=((n-1-i:Nat):Int) by omega] at this
  refine wpAny_pyNext_rev_item st1 p.isList (x:=u) (by simpa using hu) fun h' st' sb=>?_
  have I1:Inv X pins σ H {s with heap:=h'}:=I.turned (t':=s.toks) (fun b o hb e=>(sb.2 b hb).trans e) f0 f1 f3 f4 f5
  have st2:h'.IsRevIter it a ((n:Int)-1-((i+1:Nat):Int)):=by
   rwa [show ((n-1-i:Nat):Int)-1=(n:Int)-1-((i+1:Nat):Int) by omega] at st'
  obtain ⟨o,e,c,d⟩:=id st2
  exact ⟨u,rfl,Zi (s:={s with heap:=h'}) e c d (by decide) ⟨_,H,I1,ru,⟨rfl,fun ys hy=>by rw [I.list_inj hy hq];exact e1⟩,⟨st2,by omega⟩,fun b hb=>(hf b hb).1⟩⟩
 done:=by
  intro X hP hw hK hc i pins s σ H E I hf st hg
  subst hP hw hK
  have hg:n<=i:=hg
  obtain ⟨f0,f1,f2,f3,f4,f5⟩:=hf it (by simp)
  have st1:s.heap.IsRevIter it a (-1):=by
   have:=st.1
   rwa [show (n:Int)-1-i = -1 by have:=st.2;omega] at this
  exact wpAny_pyNext_rev_end (I.ok.hd hc) st1 fun h' eb=>⟨rfl,I.turned (t':=s.toks) (fun b o hb e=>eb b o hb e) f0 f1 f3 f4 f5⟩
 self:=fun _ _ _ _ _ st h=>wpAny_pyIter_revIter st.1 h
noncomputable def iRev (K:Frag) (ta:TA):TI:=fun σ H R=>ta σ H fun vs H1=>∃ a xs,vs=[.ref a]/\SqL K H1 a xs/\R (ItR K a xs.length) H1
theorem Jj {X:Cx} {tg l:Expr} {ta:TA} {p pos:Pos} (hg:Gl X "reversed") (hm:X.mg "reversed" = none) (ha:PA X [l] ta) (hs:starEach [l] X.env=[(false,eval l X.env)]:=by rfl) :
  PI X tg (.Call (.Name "reversed" p) [l] [] pos) (iRev X.K ta):=by
 intro pins s σ H R I h
 refine Call_ (xb I hg hm boot_reversed (vv (thn (ha pos pins s σ H _ I h) fun us s1 ⟨vs,H1,I1,r1,q1⟩=>?_) hs rfl))
 obtain ⟨a,xs,e,hq,q⟩:=q1
 subst e
 cases r1 with
 | cons r rr =>
  cases rr
  cases r
  obtain ⟨its,rv,tp,hz⟩:=I1.list hq
  have hl:=rv.length
  refine call_reversed_list tp.isList ?_
  have e0:((its.toArray.size:Nat):Int)-1=(xs.length:Int)-1-((0:Nat):Int):=by rw [ku];omega
  have st0:(s1.heap.push (revObj a (((its.toArray.size:Nat):Int)-1))).IsRevIter s1.heap.objs.size a ((xs.length:Int)-1-((0:Nat):Int)):=⟨_,Heap.get?_push_size _ rfl,rfl,by rw [e0];rfl⟩
  refine wpAny_pyIter_revIter st0 ?_
  refine I_5 s1.heap.objs.size [s1.heap.objs.size] _ _ H1 ⟨rfl,I1.kept (t':=s1.toks) fun b o e=>Heap.get?_push_of_some _ e,zaa a _ xs.length,⟨st0,ve _⟩,fun b hb=>?_,q⟩
  have e:b=s1.heap.objs.size:=by simpa using hb
  subst e
  exact I1.fpOk (kf _) (I1.hok.fresh (kf _))
theorem zbh {K:Frag} {a:Addr} {xs:List V} {g:TG} {tb:TS} {D:Ends} {σ:St} {H:Hp} (Pv:Nat->St->Hp->Prop) (h0:Pv 0 σ H) (hl:∀ i σ H,i<=xs.length->Pv i σ H->SqL K H a xs)
  (hs:∀ i x σ H,i<xs.length->xs[xs.length-1-i]?=some x->Pv i σ H->g x σ H fun σ2 H2=>tb {D with nx:=Pv (i+1),ct:=Pv (i+1),bk:=D.nx} σ2 H2) (hd:∀ σ H,Pv xs.length σ H->D.nx σ H) :
  ∃ W:Nat->Nat->St->Hp->Prop,(∃ m,W 0 m σ H)/\∀ i m σ H,W i m σ H ->
   ((ItR K a xs.length).stop i H/\D.nx σ H)\/((ItR K a xs.length).go i H/\∃ N:St->Hp->Prop,(∀ σ' H',N σ' H'->∃ m',m'<m/\W (i+1) m' σ' H')/\∀ x H',(ItR K a xs.length).yld i H x H'->g x σ H' fun σ2 H2=>tb {D with nx:=N,ct:=N,bk:=D.nx} σ2 H2):=by
 refine ⟨fun i m σ H=>m=xs.length-i/\i<=xs.length/\Pv i σ H,⟨xs.length,by simp,ve _,h0⟩,?_⟩
 rintro i m σ H ⟨rfl,hi,p⟩
 by_cases hlt:i<xs.length
 ·refine .inr ⟨⟨hlt,xs,hl i σ H hi p,rfl⟩,Pv (i+1),fun σ' H' p'=>⟨xs.length-(i+1),by omega,rfl,hlt,p'⟩,fun x H' y=>?_⟩
  obtain ⟨e,y⟩:=y
  subst e
  exact hs i x σ _ hlt (y xs (hl i σ _ hi p)) p
 ·have e:i=xs.length:=by omega
  subst e
  exact .inl ⟨kf _,hd σ H p⟩
section
variable {X:Cx}
noncomputable def tLR3 (ta:TA):TE:=fun σ H Q=>ta σ H fun vs H1=>∃ n:Nat,vs=[.int n]/\n<=1000000/\∀ l,H1 l=none->Q (.ref l) (upd H1 l (.lst ((vo n).map fun i:Nat=>V.int i)))
theorem Ql {n:Nat} {its:Array Value} (h:ItemsOf (fun i v=>∃ t,v=Value.int (0+(i:Int)*1) t) its n):Vals ((vo n).map fun i:Nat=>V.int i) its.toList:=by
 obtain ⟨h1,h2⟩:=h
 have:∀ (us:List Value) (k:Nat),(∀ j v,us[j]?=some v->∃ t,v=Value.int ((k+j:Nat):Int) t)->Vals ((vo us.length).map fun i:Nat=>V.int ((k+i:Nat):Int)) us:=by
  intro us
  induction us with
  | nil=>intro k _;exact .nil
  | cons u us ih =>
   intro k h
   rw [kK,List.range_succ_eq_map,vj,v7]
   refine .cons ?_ ?_
   ·obtain ⟨t,rfl⟩:=h 0 u rfl
    exact ⟨t,rfl⟩
   ·have:=ih (k+1) fun j v e=>by
     obtain ⟨t,rfl⟩:=h (j+1) v (by simpa using e)
     exact ⟨t,by rw [show k+1+j=k+(j+1) by omega]⟩
    have e:((fun i:Nat=>V.int ((k+i:Nat):Int))∘Nat.succ)=fun i:Nat=>V.int ((k+1+i:Nat):Int):=by
     funext i
     show V.int ((k+(i+1):Nat):Int)=V.int ((k+1+i:Nat):Int)
     rw [show k+(i+1)=k+1+i by omega]
    rw [e]
    exact this
 have:=this its.toList 0 fun j v e=>by
  obtain ⟨t,rfl⟩:=h2 j v (by rw [<- Array.getElem?_toList];exact e)
  exact ⟨t,by simp⟩
 rw [Array.length_toList,h1] at this
 simpa using this
theorem wO {a:Expr} {ta:TA} {p p2 pos pos2:Pos} (hc:X.calm=true) (hgl:Gl X "list") (hml:X.mg "list" = none) (hg:Gl X "range") (hm:X.mg "range" = none) (ha:PA X [a] ta) (hs:starEach [a] X.env=[(false,eval a X.env)]:=by rfl)
  (hs2:starEach [.Call (.Name "range" p2) [a] [] pos2] X.env=[(false,eval (.Call (.Name "range" p2) [a] [] pos2) X.env)]:=by rfl):PE X (.Call (.Name "list" p) [.Call (.Name "range" p2) [a] [] pos2] [] pos) (tLR3 ta):=by
 intro pins s σ H Q I h
 refine wpAny_Call_Name_kw (xb I hgl hml boot_list (vv ?_ hs2 rfl))
 rw [hs2]
 refine Calls.spliced_cons (Call_ (xb I hg hm boot_range (vv (thn (ha pos2 pins s σ H _ I h) fun us s1 ⟨vs,H1,I1,r1,q1⟩=>?_) hs rfl)))
 obtain ⟨n,e,hn,q⟩:=q1
 subst e
 obtain ⟨u,rfl,t,rfl⟩:=vals1 r1
 refine call_range_1 (Calls.spliced_nil ?_)
 refine call_list_range (n:=n) (I1.ok.hd hc) (IsRange.new ..) (small_one (by decide) (by decide) (by omega) (by omega)) (by rw [rangeSize_one];split<;>omega) (by omega) fun h' tk acc c' kp hl it=>?_
 have I2:Inv X pins σ H1 {s1 with heap:=s1.heap.push {cls:=.type "range",data:=.fields #[.int 0 s1.toks,.int n t,.int 1 (s1.toks+1)]},toks:=s1.toks+1+1}:=I1.kept fun b o e=>Heap.get?_push_of_some _ e
 refine ⟨.ref _,_,I2.laid (t':=tk) (o:=.lst ((vo n).map fun i:Nat=>V.int i)) kp (kf _) ⟨by rw [ke,v9];exact km hn (by decide),acc.toList,c',Ql it,by simpa using hl⟩,rfl,q _ (I2.hok.fresh (kf _))⟩
end
end _L2
namespace _JF
open PySem _L2 _Tre PySem.W
mutual
inductive At (H:Hp):V->T->Prop where
 | non:At H .non .non
 | bl (b:Bool):At H (.bl b) (.bl b)
 | int (i:Int):At H (.int i) (.int i)
 | str (x:Str):At H (.str x) (.str x)
 | tup {a:Addr} {vs:List V} {ts:List T} (e:H a=some (.tup vs)) (h:AtL H vs ts):At H (.ref a) (.tup ts)
 | lst {a:Addr} {vs:List V} (e:H a=some (.lst vs)):At H (.ref a) .lst
 | dic {a:Addr} {kvs:List (Key×V)} (e:H a=some (.dK kvs)):At H (.ref a) .dic
inductive AtL (H:Hp):List V->List T->Prop where
 | nil:AtL H [] []
 | cons {v:V} {t:T} {vs:List V} {ts:List T} (h:At H v t) (r:AtL H vs ts):AtL H (v::vs) (t::ts)
end
mutual
theorem At.same {H H':Hp} (S:Same H H'):∀ {v:V} {t:T},At H v t->At H' v t
 | _,_,.non=>.non
 | _,_,.bl b=>.bl b
 | _,_,.int i=>.int i
 | _,_,.str x=>.str x
 | _,_,.tup e h=>.tup (S _ _ e) (AtL.same S h)
 | _,_,.lst e=>.lst (S _ _ e)
 | _,_,.dic e=>.dic (S _ _ e)
theorem AtL.same {H H':Hp} (S:Same H H'):∀ {vs:List V} {ts:List T},AtL H vs ts->AtL H' vs ts
 | _,_,.nil=>.nil
 | _,_,.cons h r=>.cons (At.same S h) (AtL.same S r)
end
theorem AtL.len {H:Hp}:∀ {vs:List V} {ts:List T},AtL H vs ts->vs.length=ts.length
 | _,_,.nil=>rfl
 | _,_,.cons _ r=>by rw [kK,kK,r.len]
theorem AtL.get {H:Hp}:∀ {vs:List V} {ts:List T} {i:Nat} {v:V},AtL H vs ts->vs[i]?=some v->∃ t,ts[i]?=some t/\At H v t
 | _,_,_,_,.nil,e=>by simp at e
 | _,_,0,_,.cons h _,e=>by simp at e;subst e;exact ⟨_,rfl,h⟩
 | _,_,i+1,v,.cons _ r,e=>by
  obtain ⟨t,h1,h2⟩:=AtL.get (i:=i) (v:=v) r (by simpa using e)
  exact ⟨t,by simpa using h1,h2⟩
theorem AtL.get' {H:Hp}:∀ {vs:List V} {ts:List T} {i:Nat} {t:T},AtL H vs ts->ts[i]?=some t->∃ v,vs[i]?=some v/\At H v t
 | _,_,_,_,.nil,e=>by simp at e
 | _,_,0,_,.cons h _,e=>by simp at e;subst e;exact ⟨_,rfl,h⟩
 | _,_,i+1,t,.cons _ r,e=>by
  obtain ⟨v,h1,h2⟩:=AtL.get' (i:=i) (t:=t) r (by simpa using e)
  exact ⟨v,by simpa using h1,h2⟩
theorem AtL.app {H:Hp}:∀ {vs us:List V} {ts ss:List T},AtL H vs ts->AtL H us ss->AtL H (vs++us) (ts++ss)
 | _,_,_,_,.nil,s=>s
 | _,_,_,_,.cons h r,s=>.cons h (AtL.app r s)
theorem AtL.snoc {H:Hp}:∀ {ts:List T} {t:T} {vs:List V},AtL H vs (ts++[t])->∃ us v,vs=us++[v]/\AtL H us ts/\At H v t
 | [],t,_,.cons h .nil=>⟨[],_,rfl,.nil,h⟩
 | b::ts,t,_,.cons h r=>by
  obtain ⟨us,v,e,h1,h2⟩:=AtL.snoc (ts:=ts) r
  exact ⟨_::us,v,by rw [e];rfl,.cons h h1,h2⟩
noncomputable def tyT:T->Value
 | .non=>.type "NoneType"
 | .bl _=>.type "bool"
 | .int _=>.type "int"
 | .str _=>.type "str"
 | .tup _=>.type "tuple"
 | .lst=>.type "list"
 | .dic=>.type "dict"
theorem At.ty {K:Frag} {H:Hp} {v:V} {t:T} (h:At H v t):TyX K H v (tyT t):=by
 cases h with
 | non=>exact .of .non
 | bl b=>exact .of (.bl b)
 | int i=>exact .of (.int i)
 | str x=>exact .of (.str x)
 | tup e _=>exact .of (.tup e)
 | lst e=>exact .of (.lst e)
 | dic e=>exact .of (.dK e)
noncomputable def isI:T->Bool
 | .int _=>true
 | _=>false
noncomputable def isIB:T->Bool
 | .int _=>true
 | .bl _=>true
 | _=>false
noncomputable def isBl:T->Bool
 | .bl _=>true
 | _=>false
noncomputable def isS:T->Bool
 | .str _=>true
 | _=>false
noncomputable def isTp:T->Bool
 | .tup _=>true
 | _=>false
structure Nt (K:Frag) (mg:Str->Option Value) (kA:Addr):Prop where
 gKIND:GI mg "KIND" 0
 gPARTS:GI mg "PARTS" 1
 gMOST_BOXES:GI mg "MOST_BOXES" 24
 gKINDS:mg "KINDS" = some (.ref kA)
 kk:∀ H,SqT K H kA [.str bar,.str dash]
 ti:mg "isinstance" = none
 tint:mg "int" = none
 tbool:mg "bool" = none
 tstr:mg "str" = none
 ttup:mg "tuple" = none
 tlist:mg "list" = none
 tl:mg "len" = none
 tany:mg "any" = none
 ts:mg "sorted" = none
 tr:mg "range" = none
 kI:∀ t,kitOne K (tyT t) (.type "int")=some (isIB t)
 kB:∀ t,kitOne K (tyT t) (.type "bool")=some (isBl t)
 kS:∀ t,kitOne K (tyT t) (.type "str")=some (isS t)
 kT:∀ t,kitOne K (tyT t) (.type "tuple")=some (isTp t)
noncomputable def isKb (k:Str):Bool:=decide (k=bar) || decide (k=dash)
theorem wP {k:Str}:isKb k=true↔isK k:=by
 unfold isKb isK
 rw [uR,decide_eq_true_eq,decide_eq_true_eq]
noncomputable def hasK:T->Bool
 | .tup [.str k,_]=>isKb k
 | _=>false
noncomputable def xr (p:T) (k:Str):Bool:=match p with
 | .tup [.str j,_]=>isKb j && decide (j=k)
 | _=>false
noncomputable def isB:T->Bool
 | .tup [.str k,.tup ps]=>isKb k && (decide (2<=ps.length) && !(ps.any fun p=>xr p k))
 | _=>false
theorem YH {p:T} {k:Str} (hk:isK k):xr p k=true↔HasK p k:=by
 constructor
 ·intro h
  unfold xr at h
  split at h
  ·rename_i j q
   rw [vx,decide_eq_true_eq] at h
   exact ⟨q,by rw [h.2]⟩
  ·cases h
 ·intro h8
  obtain ⟨q,rfl⟩:=h8
  show (isKb k && decide (k=k))=true
  rw [wP.mpr hk,decide_eq_true rfl]
  rfl
theorem jN {t:T}:isB t=true↔∃ k ps,t=.tup [.str k,.tup ps]/\isK k/\2<=ps.length/\∀ p∈ps,¬ HasK p k:=by
 constructor
 ·intro h
  unfold isB at h
  split at h
  ·rename_i k ps
   rw [vx,vx,decide_eq_true_eq,Bool.not_eq_true',List.any_eq_false] at h
   have hk:=wP.mp h.1
   exact ⟨k,ps,rfl,hk,h.2.1,fun p hp z=>h.2.2 p hp ((YH hk).mpr z)⟩
  ·cases h
 ·intro h8
  refine E_2 h8 fun k ps n8=>A_4 n8 fun e9 hk h2 hn=>?_;clear n8 h8;subst e9
  show (isKb k && (decide (2<=ps.length) && !(ps.any fun p=>xr p k)))=true
  rw [wP.mpr hk,decide_eq_true h2,Bool.true_and,Bool.true_and,Bool.not_eq_true',List.any_eq_false]
  exact fun p hp z=>hn p hp ((YH hk).mp z)
theorem Z1 {t:T} (h1:isI t=false) (h2:isB t=false):∀ m,¬ Good t m:=fun m g=>by
 cases g with
 | leaf i=>cases h1
 | node hk h3 hn _ =>
  have:=jN.mpr ⟨_,_,rfl,hk,h3,hn⟩
  rw [h2] at this
  cases this
noncomputable def y8:Sp:=fun vs H Q _=>∃ (x:V) (t:T),vs=[x]/\At H x t/\Q (.bl (isI t)) H
noncomputable def Qm:Sp:=fun vs H Q _=>∃ (x:V) (t:T),vs=[x]/\At H x t/\Q (.bl (hasK t)) H
noncomputable def spBr:Sp:=fun vs H Q _=>∃ (x:V) (t:T),vs=[x]/\At H x t/\(∀ a ps,t=.tup [a,.tup ps]->ps.length<=100000)/\∀ H',Same H H'->Q (.bl (isB t)) H'
section
variable {P:Program} {w:World} {K:Frag} {mg:Str->Option Value} {base:Heap} {kA:Addr}
theorem zbi:zC ["thing"] ["thing"] (zg ql):=by trivial
theorem zab {f:Addr} {fd:FuncData} (F:Fun K "is_whole" "is_whole" ql f fd) (Z:Nt K mg kA):FnOk P w K mg base CX0 1 f fd ["thing"] y8:=by
 obtain ⟨gKIND,gPARTS,gMOST_BOXES,gKINDS,kk,ti,tint,tbool,tstr,ttup,tlist,tl,tany,ts,tr,kI,kB,kS,kT⟩:=Z
 refine F.ok zbi (fun vs H Q E h=>?_) (fun cdv A outer s H vs Q E hr h=>?_)
 ·refine E_2 h fun x t n8=>A_2 n8 fun e9 _=>?_;clear n8 h;subst e9
  rfl
 ·refine E_2 h fun x t n8=>A_3 n8 fun e9 hA q=>?_;clear n8 h;subst e9
  refine ⟨_,(zf (zn (xt (zi yj (by rfl) ti kM (za (pv 0) (za (yU rfl tint PyProof.Rows.boot_int) zb))) (xJ (Xh (zi yj (by rfl) ti kM (za (pv 0) (za (yU rfl tbool PyProof.Rows.boot_bool) zb)))))))),?_⟩
  refine ⟨_,rfl,_,_,_,_,rfl,rfl,hA.ty,kI t,_,rfl,?_⟩
  have e:isI t=(isIB t && !isBl t):=by cases t<;>rfl
  rw [e] at q
  cases h1:isIB t with
  | false =>
   rw [h1] at q
   exact iteF q
  | true =>
   rw [h1] at q
   exact iteT ⟨_,rfl,_,_,_,_,rfl,rfl,hA.ty,kB t,_,rfl,q⟩
theorem zde:zC ["thing"] ["thing"] (zg sHas):=by trivial
theorem XU (k:Str):inV (.str k) [.str bar,.str dash]=isKb k:=by
 unfold isKb
 show (eqV (.str bar) (.str k) || (eqV (.str dash) (.str k) || false))=_
 rw [Bool.or_false,vR,uR,uR,decide_eq_true_eq,decide_eq_true_eq]
 have e:∀ a b:Str,eqV (.str a) (.str b)=true↔b=a:=fun a b=>by
  show (a == b)=true↔b=a
  rw [beq_iff_eq]
  exact eq_comm
 rw [e,e]
theorem zcr {f:Addr} {fd:FuncData} (F:Fun K "has_kind" "has_kind" sHas f fd) (Z:Nt K mg kA):FnOk P w K mg base CX0 1 f fd ["thing"] Qm:=by
 obtain ⟨gKIND,gPARTS,gMOST_BOXES,gKINDS,kk,ti,tint,tbool,tstr,ttup,tlist,tl,tany,ts,tr,kI,kB,kS,kT⟩:=Z
 refine F.ok zde (fun vs H Q E h=>?_) (fun cdv A outer s H vs Q E hr h=>?_)
 ·refine E_2 h fun x t n8=>A_2 n8 fun e9 _=>?_;clear n8 h;subst e9
  rfl
 ·refine E_2 h fun x t n8=>A_3 n8 fun e9 hA q=>?_;clear n8 h;subst e9
  refine ⟨_,(zf (zn (xt (zi yj (by rfl) ti kM (za (pv 0) (za (yU rfl ttup vE) zb))) (xt (y0 y4 (zi zy (by rfl) tl kL (za (pv 0) zb)) zh (zJ _)) (xt (zi yj (by rfl) ti kM (za (zw zP (pv 0) (z6 rfl gKIND) (fun _ _=>rfl)) (za (yU rfl tstr u9) zb))) (xJ (y0 Yr (zw zP (pv 0) (z6 rfl gKIND) (fun _ _=>rfl)) (xD rfl gKINDS) rfl))))))),?_⟩
  refine ⟨_,rfl,_,_,_,_,rfl,rfl,hA.ty,kT t,_,rfl,?_⟩
  cases hA with
  | non=>exact iteF q
  | bl b=>exact iteF q
  | int i=>exact iteF q
  | str x=>exact iteF q
  | lst e=>exact iteF q
  | dic e=>exact iteF q
  | @tup a us ss e hL =>
   refine iteT ⟨_,rfl,_,_,rfl,.inr (SqT.of e),rfl,_,rfl,?_⟩
   have ln:=hL.len
   have d:decide (V.int ((us.length:Nat):Int)=V.int 2)=decide (us.length=2):=by
    rw [qb,vR,beq_iff_eq,decide_eq_true_eq]
    omega
   rw [d]
   by_cases h2:us.length=2
   ·rw [decide_eq_true h2]
    refine iteT ?_
    match us,ss,hL,h2,q with
    | [u0,u1],[s0,s1],.cons h0 (.cons h1 .nil),_,q =>
    refine ⟨_,rfl,_,_,_,_,rfl,rfl,SqT.of e,rfl,_,_,_,_,rfl,rfl,h0.ty,kS s0,_,rfl,?_⟩
    cases h0 with
    | str k =>
     refine iteT ⟨_,rfl,_,_,_,_,rfl,rfl,SqT.of e,rfl,kA,_,rfl,.inr (kk _),rfl,rfl,?_⟩
     rw [XU]
     exact q
    | non=>exact iteF q
    | bl b=>exact iteF q
    | int i=>exact iteF q
    | lst e=>exact iteF q
    | dic e=>exact iteF q
    | tup e h=>exact iteF q
   ·rw [decide_eq_false h2]
    have e0:hasK (.tup ss)=false:=by
     unfold hasK
     split
     ·rename_i heq
      injection heq with heq
      rw [heq] at ln
      exact absurd ln h2
     ·rfl
    rw [e0] at q
    exact iteF q
end
inductive Small:T->Prop where
 | non:Small .non
 | bl (b:Bool):Small (.bl b)
 | int (i:Int):Small (.int i)
 | str (x:Str):Small (.str x)
 | tup {ts:List T} (l:ts.length<=1000) (h:∀ t∈ts,Small t):Small (.tup ts)
 | lst:Small .lst
 | dic:Small .dic
theorem Small.parts {ts:List T} (h:Small (.tup ts)):ts.length<=1000/\∀ t∈ts,Small t:=by
 cases h with
 | tup l h=>exact ⟨l,h⟩
noncomputable def YZ:Sp:=fun vs H Q _=>∃ (x:V) (t:T),vs=[x]/\At H x t/\Small t/\∀ (r:List Int) (l:Addr) (H':Hp),Same H H'->H l=none->H' l=some (.lst (r.map V.int))->r.length<=24->Tells t r->Q (.ref l) H'
noncomputable def XV:Sp:=fun vs H Q _=>∃ (x:V) (t:T),vs=[x]/\At H x t/\Small t/\∀ (b:Bool) (H':Hp),Same H H'->(b=true↔zX t)->Q (.bl b) H'
theorem WO {K:Frag} {H:Hp} {a c:Addr} {ms ns:List Int} (ha:SqL K H a (ms.map V.int)) (hc:SqL K H c (ns.map V.int)):EqR K H 1 (.ref a) (.ref c) (decide (ms=ns)):=by
 by_cases hl:ms.length=ns.length
 ·have fl:∀ (xs:List Int) (j:Nat),j<(xs.map V.int).length->(xs.map V.int).getD j .non=.int (xs.getD j 0):=fun xs j hj=>by
   rw [ke] at hj
   rw [kP,va,kh hj,kP,kh hj]
   rfl
  have:=EqR.lsts (K:=K) (H:=H) (n:=0) (e:=fun j=>eqV (.int (ms.getD j 0)) (.int (ns.getD j 0))) ha hc (by rw [ke,ke];exact hl) fun j hj=>by
   rw [fl ms j hj,fl ns j (by rw [ke] at hj ⊢;omega)]
   exact .flat rfl rfl
  have e:(vo (ms.map V.int).length).all (fun j=>eqV (.int (ms.getD j 0)) (.int (ns.getD j 0)))=decide (ms=ns):=by
   rw [vR,decide_eq_true_eq,vD,ke]
   constructor
   ·intro h
    apply List.ext_getElem hl
    intro i h1 h2
    have:=h i (vO.mpr h1)
    have this:(ms.getD i 0 == ns.getD i 0)=true:=this
    rw [beq_iff_eq,kP,kP,kh h1,kh h2] at this
    exact this
   ·rintro rfl j _
    show (ms.getD j 0 == ms.getD j 0)=true
    rw [beq_iff_eq]
  rw [<- e]
  exact this
 ·rw [decide_eq_false (fun z=>hl (by rw [z]))]
  exact EqR.lens (n:=0) ha hc (by rw [ke,ke];exact hl)
theorem Zc {t:T}:hasK t=true↔∃ k q,t=.tup [.str k,q]/\isKb k=true:=by
 constructor
 ·intro h
  unfold hasK at h
  split at h
  ·exact ⟨_,_,rfl,h⟩
  ·cases h
 ·intro h8
  refine E_2 h8 fun k q n8=>A_2 n8 fun e9 h=>?_;clear n8 h8;subst e9
  exact h
theorem Jk {t:T} (h:hasK t=false):isB t=false:=by
 cases e:isB t with
 | false=>rfl
 | true =>
  obtain ⟨k,ps,rfl,hk,_⟩:=jN.mp e
  have:hasK (.tup [.str k,.tup ps])=true:=Zc.mpr ⟨k,_,rfl,wP.mpr hk⟩
  rw [h] at this
  cases this
theorem zac {p:T} {k:Str} (h:hasK p=false):xr p k=false:=by
 cases e:xr p k with
 | false=>rfl
 | true =>
  unfold xr at e
  split at e
  ·rename_i j q
   rw [vx] at e
   have:hasK (.tup [.str j,q])=true:=e.1
   rw [h] at this
   cases this
  ·cases e
section
variable {P:Program} {w:World} {K:Frag} {mg:Str->Option Value} {base:Heap} {kA:Addr}
theorem scBr:zC ["thing","parts"] ["thing"] (zg sBr):=by trivial
theorem zdf {f fH:Addr} {fd fdH:FuncData} (F:Fun K "is_branch" "is_branch" sBr f fd) (Z:Nt K mg kA) (Hk:Callee P w K mg base CX0 1 "has_kind" fH fdH ["thing"] Qm):FnOk P w K mg base CX0 2 f fd ["thing"] spBr:=by
 obtain ⟨gKIND,gPARTS,gMOST_BOXES,gKINDS,kk,ti,tint,tbool,tstr,ttup,tlist,tl,tany,ts,tr,kI,kB,kS,kT⟩:=Z
 refine F.ok scBr (fun vs H Q E h=>?_) (fun cdv A outer s H vs Q E hr h=>?_)
 ·refine E_2 h fun x t n8=>A_2 n8 fun e9 _=>?_;clear n8 h;subst e9
  rfl
 ·refine E_2 h fun x t n8=>A_4 n8 fun e9 hA hn q=>?_;clear n8 h;subst e9
  refine ⟨_,(ze (zR (yW (yi (zk Hk.ok hr rfl Hk.bound Hk.kp Hk.bd .nil zG (za (pv 0) zb))))
   (zf (zn yB))
   zL)
   (ze (zm (i:=1) scBr.nd rfl (Or.inl rfl) (zw zP (pv 0) (z6 rfl gPARTS) (fun _ _=>rfl)))
   (ze (zR (PW.pt (xE (yW (yi (zi yj (by rfl) ti kM (za (pv 1) (za (yU rfl ttup vE) zb))))) (xI (zF xZ (zi zy (by rfl) tl kL (za (pv 1) zb)) zh (zJ _)))))
   (zf (zn yB))
   zL)
   (zf (zn (Xh (zi (Q2 rfl) (by rfl) tany PyProof.Rows.boot_any (za (yq (Nc:=["part","thing"]) (ix:=[none,some 0]) rfl rfl (by exact (wD (pv 1))) (fun _ _ _ _ _=>(zo (i:=0) (by show (["part","thing"]:List Str).Nodup;decide +kernel) rfl (Or.inl rfl))) (fun _ _ _ _ _=>yd) (fun _ _ _ _ _=>(xt (zk Hk.ok hr rfl Hk.bound Hk.kp Hk.bd .nil zG (za (pv 0) zb)) (xJ (y0 y4 (zw (y7 (K:=K) rfl) (pv 0) (z6 rfl gKIND) (fun _ _=>rfl)) (zw (y7 (K:=K) rfl) (pv 1) (z6 rfl gKIND) (fun _ _=>rfl)) (zJ _)))))) zb)))))))),?_⟩
  refine ⟨_,rfl,x,t,rfl,hA,_,rfl,?_⟩
  cases hh:hasK t with
  | false =>
   have:=q H (Same.refl _)
   rw [Jk hh] at this
   exact iteT this
  | true =>
   obtain ⟨k,qq,rfl,hk⟩:=Zc.mp hh
   cases hA with
   | @tup a us ss e hL =>
   cases hL with
   | @cons u0 _ _ _ h0 hr =>
   cases h0
   cases hr with
   | @cons u1 _ _ _ hq hr2 =>
   cases hr2
   refine iteF ?_
   refine ⟨_,rfl,_,_,_,_,rfl,rfl,SqT.of e,rfl,?_⟩
   refine ⟨_,rfl,_,_,_,_,rfl,rfl,hq.ty,kT qq,_,rfl,?_⟩
   cases hq with
   | non=>exact iteT (iteT (q H (Same.refl _)))
   | bl b=>exact iteT (iteT (q H (Same.refl _)))
   | int i=>exact iteT (iteT (q H (Same.refl _)))
   | str x=>exact iteT (iteT (q H (Same.refl _)))
   | lst e=>exact iteT (iteT (q H (Same.refl _)))
   | dic e=>exact iteT (iteT (q H (Same.refl _)))
   | @tup b ws ps e2 hP =>
    have ln:=hP.len
    have hn:ps.length<=100000:=hn _ _ rfl
    refine iteF ⟨_,rfl,_,_,rfl,.inr (SqT.of e2),_,_,rfl,rfl,_,rfl,?_⟩
    have qB:∀ H',Same H H'->Q (.bl (isKb k && (decide (2<=ps.length) && !(ps.any fun p=>xr p k)))) H':=q
    rw [hk] at qB
    by_cases h2:2<=ps.length
    ·rw [decide_eq_true h2] at qB
     rw [decide_eq_false (by omega)]
     refine iteF ?_
     refine ⟨_,rfl,b,rfl,⟨_,SqT.of e2⟩,qd (K:=K) (a:=b) (xs:=ws) (fun i ys σ H'=>ys=((ps.take i).map fun p=>xr p k).map V.bl/\H'=H/\∃ o,σ=[o,some (.ref a)]) ⟨rfl,rfl,none,rfl⟩
      (fun i ys σ H' hi h9=>by obtain ⟨e,e3,_⟩:=h9;exact (⟨by rw [e,ke,ke,kH];exact km (show _<=1000000 by omega) (by decide),by rw [e3];exact SqT.of e2⟩)) ?_ ?_⟩
     ·intro ys σ H' h8 la nl
      obtain ⟨e3,rfl,_⟩:=h8
      rw [ln,kO] at e3
      subst e3
      refine ⟨la,ps.map fun p=>xr p k,rfl,SqL.of zd,_,rfl,?_⟩
      have z:=qB _ (zc (o:=.lst ((ps.map fun p=>xr p k).map V.bl)) nl)
      rw [List.any_map]
      exact z
     ·intro i x ys σ H' hx h8
      obtain ⟨e3,rfl,o,rfl⟩:=h8
      subst e3
      obtain ⟨p,ep,hAp⟩:=hP.get hx
      obtain ⟨hil,ev⟩:=kg.mp ep
      dsimp only [z7,tYes]
      refine iteT ?_
      refine ⟨_,rfl,x,p,rfl,hAp,_,rfl,?_⟩
      have fin:∀ b:Bool,b=xr p k->(((ps.take i).map fun p=>xr p k).map V.bl)++[V.bl b]=((ps.take (i+1)).map fun p=>xr p k).map V.bl:=fun b eb=>by
       rw [<- kz hil,ev,kC,kC,eb]
       rfl
      cases hp:hasK p with
      | false=>exact iteF ⟨fin _ (zac hp).symm,rfl,_,rfl⟩
      | true =>
       obtain ⟨j,r,rfl,hj⟩:=Zc.mp hp
       cases hAp with
       | @tup c vs2 _ e4 hL2 =>
       cases hL2 with
       | @cons v0 _ _ _ g0 gr =>
       cases g0
       cases gr with
       | @cons v1 _ _ _ g1 gr2 =>
       cases gr2
       refine iteT ⟨_,rfl,_,_,_,_,rfl,rfl,SqT.of e4,rfl,_,rfl,_,_,_,_,rfl,rfl,SqT.of e,rfl,rfl,fin _ ?_,rfl,_,rfl⟩
       show decide (V.str j=V.str k)=(isKb j && decide (j=k))
       rw [hj,Bool.true_and,ZQ,vR,beq_iff_eq,decide_eq_true_eq]
    ·rw [decide_eq_false h2] at qB
     rw [decide_eq_true (by omega)]
     exact iteT (qB H (Same.refl _))
theorem Xa:zC ["thing","numbers","ahead","part"] ["thing"] (zg sNum):=by trivial
theorem zcs {f fW fB:Addr} {fd fdW fdB:FuncData} (F:Fun K "numbers_in" "numbers_in" sNum f fd) (Z:Nt K mg kA) (Wo:Callee P w K mg base CX0 1 "is_whole" fW fdW ["thing"] y8) (Br:Callee P w K mg base CX0 2 "is_branch" fB fdB ["thing"] spBr):FnOk P w K mg base CX0 4 f fd ["thing"] YZ:=by
 obtain ⟨gKIND,gPARTS,gMOST_BOXES,gKINDS,kk,ti,tint,tbool,tstr,ttup,tlist,tl,tany,ts,tr,kI,kB,kS,kT⟩:=Z
 refine F.ok Xa (fun vs H Q E h=>?_) (fun cdv A outer s H vs Q E hr h=>?_)
 ·refine E_2 h fun x t n8=>A_2 n8 fun e9 _=>?_;clear n8 h;subst e9
  rfl
 ·refine E_2 h fun x t n8=>A_4 n8 fun e9 hA hS q=>?_;clear n8 h;subst e9
  refine ⟨_,(ze (zm (i:=1) Xa.nd rfl (Or.inl rfl) (zE zb))
   (ze (zm (i:=2) Xa.nd rfl (Or.inl rfl) (zE (za (pv 0) zb)))
   (ze (wC PassesOwn.never (j3 (pv 2) (fun _=>rfl))
   (ze (zm (i:=3) Xa.nd rfl (Or.inl rfl) (Xp kN uC uD Xq (pv 2)))
    (ze (zR (yi (zk Wo.ok (hr.mono (show 1<=3 by decide)) rfl Wo.bound Wo.kp Wo.bd .nil zG (za (pv 3) zb)))
    (zf (zZ (yG kN vf vg ye (pv 1) (za (pv 3) zb))))
    (zf (zR (yi (zk Br.ok (hr.mono (show 2<=3 by decide)) rfl Br.bound Br.kp Br.bd .nil zG (za (pv 3) zb)))
     (zf (zZ (yG kN uN uO Zx (pv 2) (za (zw zP (pv 3) (z6 rfl gPARTS) (fun _ _=>rfl)) zb))))
     (zf (zn (zE zb))))))
    (zf (zR (zF jx (zj zS (zi zy (by rfl) tl kL (za (pv 1) zb)) (zi zy (by rfl) tl kL (za (pv 2) zb))) (z6 rfl gMOST_BOXES) (zJ _))
    (zf (zn (zE zb)))
    zL)))))
   (zf (zn (pv 1)))))),?_⟩
  refine ⟨Zz0,fun ln nln=>?_⟩
  have S1:=zc (o:=.lst []) nln
  have h1:(upd H ln (.lst [])) ln=some (.lst []):=zd
  generalize upd H ln (.lst [])=H1 at S1 h1
  refine ⟨_,rfl,Zz1,fun la nla=>?_⟩
  have S2:=S1.trans (zc (o:=.lst [x]) nla)
  have h2:(upd H1 la (.lst [x])) la=some (.lst [x]):=zd
  have h1:=zc (o:=.lst [x]) nla _ _ h1
  have fla:H la=none:=S1.free nla
  have nn:ln≠la:=fun z=>by rw [z,h2] at h1;cases h1
  generalize upd H1 la (.lst [x])=H2 at S2 h1 h2
  dsimp only
  refine run_seq ?_
  refine ZT (fun m σ H3=>∃ (us:List V) (ts:List T) (ns:List Int) (o:Option V),m=szL ts/\σ=[some x,some (.ref ln),some (.ref la),o]/\Same H H3/\H3 ln=some (.lst (ns.map V.int))/\H3 la=some (.lst us)/\AtL H us ts/\(∀ t∈ts,Small t)/\Rel t ts ns/\ns.length+ts.length<=24) (szL [t])
   ⟨[x],[t],[],none,rfl,rfl,S2,h1,h2,.cons hA .nil,(fun u hu=>by rw [kD.mp hu];exact hS),.start t,by show 0+1<=24;decide⟩ ?_
  intro m σ H3 h8
  refine E_4 h8 fun us ts ns o n8=>A_9 n8 fun e9 n90 S3 hln hla hL hSm R l24=>?_;clear n8 h8;subst e9;subst n90
  have lus:=hL.len
  have te:∀ k:Bool,k=!us.isEmpty->k=decide (us≠[]):=fun k e=>by
   rw [e]
   cases us<;>simp
  refine ⟨us≠[],inferInstance,fun Q' q'=>⟨_,rfl,_,.inl ⟨us,SqL.of hla,rfl⟩,by rw [te _ rfl];exact q'⟩,fun hne=>?_,fun hne=>?_⟩
  ·obtain ⟨ts',p,rfl⟩ : ∃ ts' p,ts=ts'++[p]:=by
    have:ts≠[]:=fun z=>by rw [z] at lus;exact hne (vY.mp lus)
    exact ⟨_,_,(vX this).symm⟩
   obtain ⟨us',v,rfl,hL',hv⟩:=hL.snoc
   have hpS:=hSm p (by simp)
   refine ⟨_,rfl,.inl ⟨rfl,_,SqL.of hla⟩,la,_,v,rfl,rfl,hla,(by simp),?_⟩
   have S4:Same H (upd H3 la (.lst (us'++[v]).dropLast)):=zU S3 fla
   have hla4:(upd H3 la (.lst (us'++[v]).dropLast)) la=some (.lst us'):=by rw [zd,uj]
   have hln4:(upd H3 la (.lst (us'++[v]).dropLast)) ln=some (.lst (ns.map V.int)):=by rw [zp nn];exact hln
   generalize upd H3 la (.lst (us'++[v]).dropLast)=H4 at S4 hla4 hln4
   rw [ki,kU] at l24
   have ssz:szL (ts'++[p])=szL ts'+sz p:=by rw [yQ];show szL ts'+(sz p+szL [])=_;rw [show szL []=0 by unfold szL;rfl];omega
   have psz:=wN p
   try dsimp only
   refine ZU (R:=fun σ H5=>∃ (us5:List V) (ts5:List T) (ns5:List Int),σ=[some x,some (.ref ln),some (.ref la),some v]/\Same H H5/\H5 ln=some (.lst (ns5.map V.int))/\H5 la=some (.lst us5)/\AtL H us5 ts5/\(∀ t∈ts5,Small t)/\Rel t ts5 ns5/\szL ts5<szL (ts'++[p])/\us5.length<=2000/\ns5.length<=30) ?_ (fun k=>?_)
   case refine_1 =>
    intro σ H5 h8
    refine E_3 h8 fun us5 ts5 ns5 n8=>A_10 n8 fun e9 S5 hln5 hla5 hL5 hS5 R5 lt5 u2000 n30=>?_;clear n8 h8;subst e9
    have l5:=hL5.len
    refine x5 (p:=(24:Int)<(((ns5.map V.int).length:Nat):Int)+((us5.length:Nat):Int)) (y3 (yz (yz (xF (zA rfl) (SqL.of hln5)) (xF (zA rfl) (SqL.of hla5))) yT)) (fun c=>?_) (fun c=>?_)
    ·rw [ke] at c
     refine ⟨Zz0,fun l nl=>q [] l _ (S5.trans (zc nl)) (S5.free nl) zd (by decide) (.inr ⟨rfl,fun y gy=>?_⟩)⟩
     have:=R5.many y gy
     omega
    ·rw [ke] at c
     exact ⟨szL ts5,lt5,us5,ts5,ns5,_,rfl,rfl,S5,hln5,hla5,hL5,hS5,R5,by omega⟩
   refine ⟨_,rfl,v,p,rfl,hv.same S4,_,rfl,?_⟩
   cases hI:isI p with
   | true =>
    refine iteT ?_
    cases hv with
    | int i =>
     refine ⟨_,rfl,.inl ⟨rfl,_,SqL.of hln4⟩,_,rfl,ln,_,_,rfl,rfl,hln4,by rw [ke];exact vi (show _<=24 by omega) (by decide),?_⟩
     refine k _ _ ⟨us',ts',ns++[i],rfl,zU S4 nln,by rw [zd,kC];rfl,by rw [zp nn.symm];exact hla4,hL',fun u hu=>hSm u (vt _ hu),R.leaf,by omega,?_,by rw [ki,kU];omega⟩
     rw [hL'.len]
     omega
    | non=>cases hI
    | bl b=>cases hI
    | str x=>cases hI
    | tup e h=>cases hI
    | lst e=>cases hI
    | dic e=>cases hI
   | false =>
    refine iteF ?_
    have sb:∀ a ps,p=.tup [a,.tup ps]->ps.length<=100000:=fun a ps e=>by
     subst e
     have:=(hpS.parts.2 (.tup ps) (by simp)).parts.1
     omega
    refine ⟨_,rfl,v,p,rfl,hv.same S4,sb,fun H5 S5=>⟨_,rfl,?_⟩⟩
    have S45:=S4.trans S5
    cases hB:isB p with
    | false =>
     refine iteF ?_
     refine ⟨Zz0,fun l nl=>q [] l _ (S45.trans (zc nl)) (S45.free nl) zd (by decide) (.inr ⟨rfl,fun y gy=>?_⟩)⟩
     exact absurd gy (R.none (Z1 hI hB) y)
    | true =>
     refine iteT ?_
     obtain ⟨kd,ps,rfl,hk,h2p,hno⟩:=jN.mp hB
     cases hv with
     | @tup a _ _ e hLL =>
     cases hLL with
     | @cons u0 _ _ _ g0 gr =>
     cases g0
     cases gr with
     | @cons u1 _ _ _ g1 gr2 =>
     cases gr2
     cases g1 with
     | @tup b ws _ e2 hP =>
     have lw:=hP.len
     have pl:=(hpS.parts.2 (.tup ps) (by simp)).parts
     refine ⟨_,rfl,.inl ⟨rfl,_,SqL.of (S5 _ _ hla4)⟩,_,rfl,_,_,_,_,rfl,rfl,SqT.of (S45 _ _ e),rfl,la,b,_,_,rfl,rfl,S5 _ _ hla4,SqT.of (S45 _ _ e2),km (show us'.length+ws.length<=2000 by have:=hL'.len;omega) (by decide),?_⟩
     refine k _ _ ⟨us'++ws,ts'++ps,ns,rfl,zU S45 fla,by rw [zp nn];exact S5 _ _ hln4,zd,hL'.app hP,fun u hu=>?_,R.node hk h2p hno,?_,by rw [ki];have:=hL'.len;omega,by omega⟩
     ·rcases vc.mp hu with z | z
      ·exact hSm u (vt _ z)
      ·exact pl.2 u z
     ·rw [ssz,yQ]
      rw [yL]
      omega
  ·have e0:us=[]:=Classical.byContradiction fun z=>hne z
   subst e0
   cases hL
   obtain ⟨y,gy,py⟩:=R.done
   refine ⟨_,rfl,q ns ln H3 S3 nln hln (by omega) (.inl ⟨y,gy,?_,py.symm⟩)⟩
   rw [py.length_eq]
   omega
theorem Jl:zC ["thing","numbers"] ["thing"] (zg jE):=by trivial
theorem zbj {f fN:Addr} {fd fdN:FuncData} (F:Fun K "is_tree" "is_tree" jE f fd) (Z:Nt K mg kA) (Nu:Callee P w K mg base CX0 4 "numbers_in" fN fdN ["thing"] YZ):FnOk P w K mg base CX0 5 f fd ["thing"] XV:=by
 obtain ⟨gKIND,gPARTS,gMOST_BOXES,gKINDS,kk,ti,tint,tbool,tstr,ttup,tlist,tl,tany,ts,tr,kI,kB,kS,kT⟩:=Z
 refine F.ok Jl (fun vs H Q E h=>?_) (fun cdv A outer s H vs Q E hr h=>?_)
 ·refine E_2 h fun x t n8=>A_2 n8 fun e9 _=>?_;clear n8 h;subst e9
  rfl
 ·refine E_2 h fun x t n8=>A_4 n8 fun e9 hA hS q=>?_;clear n8 h;subst e9
  refine ⟨_,(ze (zm (i:=1) Jl.nd rfl (Or.inl rfl) (zk Nu.ok hr rfl Nu.bound Nu.kp Nu.bd .nil zG (za (pv 0) zb)))
   (zf (zn (xt (y0 jx (zi zy (by rfl) tl kL (za (pv 1) zb)) zh (zJ _)) (xJ (y0 (Zu hr.units) (zi Zz (by rfl) ts PyProof.Rows.boot_sorted (za (pv 1) zb)) (wO rfl rfl tlist rfl tr (za (zi zy (by rfl) tl kL (za (pv 1) zb)) zb)) (zJ _))))))),?_⟩
  refine ⟨_,rfl,x,t,rfl,hA,hS,fun r l H1 S1 nl hl r24 tells=>?_⟩
  refine ⟨_,rfl,_,_,rfl,.inl (SqL.of hl),_,_,rfl,rfl,_,rfl,?_⟩
  rw [ke]
  by_cases h0:0<r.length
  ·rw [decide_eq_true (by omega)]
   refine iteT ?_
   refine ⟨_,rfl,l,r,rfl,SqL.of hl,by omega,fun l2 ms nl2 pm st=>?_⟩
   have S2:=zc (o:=.lst (ms.map V.int)) nl2
   have h2:(upd H1 l2 (.lst (ms.map V.int))) l2=some (.lst (ms.map V.int)):=zd
   have hl2:=S2 _ _ hl
   generalize upd H1 l2 (.lst (ms.map V.int))=H2 at S2 h2 hl2
   refine ⟨_,rfl,_,_,rfl,.inl (SqL.of hl2),r.length,by rw [ke],by omega,fun l3 nl3=>?_⟩
   have S3:=zc (o:=.lst ((vo r.length).map fun i:Nat=>V.int i)) nl3
   have h3:(upd H2 l3 (.lst ((vo r.length).map fun i:Nat=>V.int i))) l3=some (.lst ((up r.length).map V.int)):=by
    rw [zd]
    unfold up
    rw [v7]
    rfl
   refine I_4 l2 l3 1 _ ⟨rfl,rfl,WO (SqL.of (S3 _ _ h2)) (SqL.of h3),by decide,?_⟩
   refine q _ _ (S1.trans (S2.trans S3)) ?_
   show decide (ms=up r.length)=true↔_
   rw [decide_eq_true_eq,<- tells.tree pm st]
   exact ⟨fun z=>⟨h0,z⟩,fun z=>z.2⟩
  ·rw [decide_eq_false (by omega)]
   refine iteF (q _ _ S1 ?_)
   rw [<- tells.tree (List.Perm.refl _) (by rw [vY.mp (show r.length=0 by omega)];exact List.Pairwise.nil)]
   exact ⟨fun z=>(by cases z),fun z=>absurd z.1 h0⟩
end
end _JF
namespace _Tre
open PySem
structure Rel2 (t:T) (pile:List (T×Str)) (ns:List Int):Prop where
 fw:∀ x,Good t x->(∀ q∈pile,¬ HasK q.1 q.2)/\∃ z,zI (pile.map (·.1)) z/\x.Perm (ns++z.flatten)
 bw:∀ z,zI (pile.map (·.1)) z->(∀ q∈pile,¬ HasK q.1 q.2)->∃ x,Good t x/\x.Perm (ns++z.flatten)
theorem Rel2.start (t:T):Rel2 t [(t, "")] []:=by
 refine ⟨fun x h=>⟨fun q hq=>?_,[x],.cons h .nil,by simp⟩,fun z h _=>?_⟩
 ·rw [kD.mp hq]
  rintro ⟨p,e⟩
  have e:t=.tup [.str "",p]:=e
  rw [e] at h
  cases h with
  | node hk _ _ _=>rcases hk with e | e<;>exact absurd e (by decide +kernel)
 ·obtain ⟨ns,rfl,h2⟩:=zI.one h
  exact ⟨ns,h2,by simp⟩
theorem Rel2.leaf {t:T} {a:List (T×Str)} {ns:List Int} {i:Int} {k:Str} (R:Rel2 t (a++[(.int i,k)]) ns):Rel2 t a (ns++[i]):=by
 have pm:∀ u:List (List Int),(ns++(u++[[i]]).flatten).Perm (ns++[i]++u.flatten):=fun u=>by
  rw [vT,vZ]
  refine List.Perm.append_left ns ?_
  show (u.flatten++([i]++[])).Perm ([i]++u.flatten)
  rw [vW]
  exact bc
 refine ⟨fun x h=>?_,fun z h hq=>?_⟩
 ·obtain ⟨h0,z,hz,p⟩:=R.fw x h
  rw [kC] at hz
  obtain ⟨u,v,rfl,h1,h2⟩:=hz.split
  obtain ⟨m,rfl,h3⟩:=zI.one h2
  cases h3
  exact ⟨fun q hq=>h0 q (vt _ hq),u,h1,p.trans (pm u)⟩
 ·obtain ⟨x,h1,p⟩:=R.bw (z++[[i]]) (by rw [kC];exact h.app (.cons (.leaf i) .nil)) (fun q hq'=>by
   rcases vc.mp hq' with y | y
   ·exact hq q y
   ·rw [kD.mp y]
    rintro ⟨p,e⟩
    cases e)
  exact ⟨x,h1,p.trans (pm z)⟩
theorem Rel2.node {t:T} {a:List (T×Str)} {ps:List T} {ns:List Int} {k b:Str} (R:Rel2 t (a++[(.tup [.str k,.tup ps],b)]) ns) (hk:isK k) (h2:2<=ps.length) (hb:k≠b):Rel2 t (a++ps.map (·,k)) ns:=by
 have em:(a++ps.map (·,k)).map (·.1)=a.map (·.1)++ps:=by
  rw [kC,v7]
  congr 1
  exact List.map_id ps
 refine ⟨fun x h=>?_,fun z h hq=>?_⟩
 ·obtain ⟨h0,z,hz,p⟩:=R.fw x h
  rw [kC] at hz
  obtain ⟨u,v,rfl,h1,h3⟩:=hz.split
  obtain ⟨m,rfl,h4⟩:=zI.one h3
  cases h4 with
  | node _ _ hn h5 =>
   refine ⟨fun q hq=>?_,_,by rw [em];exact h1.app h5,by simpa using p⟩
   rcases vc.mp hq with y | y
   ·exact h0 q (vt _ y)
   ·obtain ⟨r,hr,rfl⟩:=vC.mp y
    exact hn r hr
 ·rw [em] at h
  obtain ⟨u,v,rfl,h1,h3⟩:=h.split
  have hn:∀ p∈ps,¬ HasK p k:=fun p hp=>hq (p,k) (kQ _ (vC.mpr ⟨p,hp,rfl⟩))
  obtain ⟨x,hx,p⟩:=R.bw (u++[v.flatten]) (by rw [kC];exact h1.app (.cons (.node hk h2 hn h3) .nil)) (fun q hq'=>by
   rcases vc.mp hq' with y | y
   ·exact hq q (vt _ y)
   ·rw [kD.mp y]
    rintro ⟨r,e⟩
    have e:T.tup [.str k,.tup ps]=.tup [.str b,r]:=e
    injection e with e
    injection e with e1 e2
    injection e1 with e1
    exact hb e1)
  exact ⟨x,hx,by simpa using p⟩
theorem Rel2.none {t p:T} {a:List (T×Str)} {ns:List Int} {b:Str} (R:Rel2 t (a++[(p,b)]) ns) (hp:HasK p b\/∀ m,¬ Good p m):¬ zX t:=by
 rintro ⟨x,h,_⟩
 obtain ⟨h0,z,hz,_⟩:=R.fw x h
 rcases hp with hp | hp
 ·exact h0 (p,b) (by simp) hp
 ·rw [kC] at hz
  obtain ⟨u,v,rfl,h1,h3⟩:=hz.split
  obtain ⟨m,_,h4⟩:=zI.one h3
  exact hp m h4
theorem Rel2.twice {t:T} {a:List (T×Str)} {ns:List Int} (R:Rel2 t a ns) (h:24<ns.length\/∃ i,1<ns.count i):¬ zX t:=by
 rintro ⟨x,hx,l24,px⟩
 obtain ⟨_,z,hz,p⟩:=R.fw x hx
 rcases h with h | ⟨i,h⟩
 ·have:=p.length_eq
  rw [ki] at this
  omega
 ·have e1:=p.count_eq i
  rw [List.count_append] at e1
  have e2:=px.count_eq i
  have:=List.nodup_iff_count.mp (XT x.length) i
  omega
theorem Rel2.done {t:T} {ns ms:List Int} (R:Rel2 t [] ns) (l:ns.length<=24) (p:ms.Perm ns) (s:ms.Pairwise (· <= ·)):ms=up ns.length↔zX t:=by
 obtain ⟨x,h,px⟩:=R.bw [] .nil (fun q hq=>(kW hq).elim)
 have px:x.Perm ns:=by simpa using px
 have tells:Tells t ns:=.inl ⟨x,h,by rw [px.length_eq];exact l,px.symm⟩
 rw [<- tells.tree p s]
 have:=h.ne
 rw [px.length_eq] at this
 exact ⟨fun e=>⟨this,e⟩,fun e=>e.2⟩
theorem y9:∀ ts:List T,ts.length<=szL ts
 | []=>ve _
 | t::r=>by
  have:=y9 r
  have:=wN t
  show r.length+1<=sz t+szL r
  omega
end _Tre
namespace _JF
open PySem _L2 _Tre PySem.W
mutual
theorem Zd:∀ t:T,sz t<=1000->Small t
 | .non,_=>.non
 | .bl b,_=>.bl b
 | .int i,_=>.int i
 | .str x,_=>.str x
 | .lst,_=>.lst
 | .dic,_=>.dic
 | .tup ts,h=>by
  have e:sz (.tup ts)=1+szL ts:=by simp only [sz]
  have:=y9 ts
  exact .tup (by omega) (YI ts (by omega))
theorem YI:∀ ts:List T,szL ts<=1000->∀ t∈ts,Small t
 | [],_,t,ht=>(kW ht).elim
 | t::r,h,u,hu=>by
  have e:szL (t::r)=sz t+szL r:=by simp only [szL]
  rcases kY.mp hu with z | z
  ·rw [z]
   exact Zd t (by omega)
  ·exact YI r (by omega) u z
end
noncomputable def qR (K:Frag):Sp:=fun vs H Q _=>∃ (a:Addr) (ns:List Int) (k:Int),vs=[.ref a,.int k]/\SqL K H a (ns.map V.int)/\0<=k/\∀ n:Int,Q (.int n) H
noncomputable def PiAt (H H3:Hp) (u:V) (q:T×Str):Prop:=∃ a v,u=.ref a/\H3 a=some (.tup [v,.str q.2])/\At H v q.1
noncomputable def yN (H H3:Hp):List V->List (T×Str)->Prop:=Paired (PiAt H H3)
theorem yN.imp {H H3 H4:Hp} (f:∀ v p,PiAt H H3 v p->PiAt H H4 v p):∀ {vs:List V} {ps:List (T×Str)},yN H H3 vs ps->yN H H4 vs ps
 | _,_,.nil=>.nil
 | _,_,.cons h t=>.cons (f _ _ h) (yN.imp f t)
theorem yN.same {H H3 H4:Hp} (S:Same H3 H4) {vs:List V} {ps:List (T×Str)} (h:yN H H3 vs ps):yN H H4 vs ps:=yN.imp (fun _ _ h9=>by obtain ⟨a,v,e,z,w⟩:=h9;exact (⟨a,v,e,S _ _ z,w⟩)) h
theorem yN.upd {H H3:Hp} {l:Addr} {xs:List V} {o':HO} (hl:H3 l=some (.lst xs)) {vs:List V} {ps:List (T×Str)} (h:yN H H3 vs ps):yN H (upd H3 l o') vs ps:=yN.imp (fun _ _ h9=>by obtain ⟨a,v,e,z,w⟩:=h9;exact (⟨a,v,e,by rw [zp (xy z hl (by intro q;cases q))];exact z,w⟩)) h
theorem yN.len {H H3:Hp} {vs:List V} {ps:List (T×Str)} (h:yN H H3 vs ps):vs.length=ps.length:=Paired.length h
theorem yN.add {H H3:Hp} {vs:List V} {ps:List (T×Str)} {v:V} {p:T×Str} (h:yN H H3 vs ps) (r:PiAt H H3 v p):yN H H3 (vs++[v]) (ps++[p]):=Paired.snoc h r
theorem Paired.unsnoc {α β:Type} {R:α->β->Prop} {p:β} {ps:List β}:∀ {vs:List α},Paired R vs (ps++[p])->∃ us v,vs=us++[v]/\Paired R us ps/\R v p:=by
 induction ps with
 | nil =>
  intro vs h
  cases h with
  | cons r t=>cases t;exact ⟨[],_,rfl,.nil,r⟩
 | cons b ps ih =>
  intro vs h
  cases h with
  | cons r t =>
   obtain ⟨us,v,e,h1,h2⟩:=ih t
   exact ⟨_::us,v,by rw [e];rfl,.cons r h1,h2⟩
theorem yN.snoc {H H3:Hp}:∀ {ps:List (T×Str)} {p:T×Str} {vs:List V},yN H H3 vs (ps++[p])->∃ us v,vs=us++[v]/\yN H H3 us ps/\PiAt H H3 v p:=fun h=>Paired.unsnoc h
theorem Wv (k:Str):(!inV (.str k) [.str "|",.str "-"])=!isKb k:=congrArg not (XU k)
theorem eq_nil {K:Frag} {H:Hp} {a b:Addr} (ha:SqL K H a []) (hb:SqL K H b []):EqR K H 1 (.ref a) (.ref b) true :=
 EqR.lsts (n:=0) (xs:=[]) (ys:=[]) (e:=fun _=>true) ha hb rfl (fun j hj=>absurd hj (Nat.not_lt_zero _))
section
variable {P:Program} {w:World} {K:Frag} {mg:Str->Option Value} {base:Heap} {kA:Addr}
theorem zad:zC ["script","k"] ["script","k"] (zg ww):=by trivial
theorem Jm {f:Addr} {fd:FuncData} (F:Fun K "_law_cell_at" "_law_cell_at" ww f fd) (tl:mg "len" = none):FnOk P w K mg base CX0 1 f fd ["script","k"] (qR K):=by
 refine F.ok zad (fun vs H Q E h=>?_) (fun cdv A outer s H vs Q E hr h=>?_)
 ·refine E_3 h fun a ns k n8=>A_2 n8 fun e9 _=>?_;clear n8 h;subst e9
  rfl
 ·refine E_3 h fun a ns k n8=>A_4 n8 fun e9 hS k1 q=>?_;clear n8 h;subst e9
  refine ⟨_,(ze (zR (zF xZ (pv 1) (zi zy (by rfl) tl kL (za (pv 0) zb)) (zJ _))
   (zf (zn (zw zV (pv 0) (pv 1) (fun _ _=>rfl))))
   zL)
   (zf (zn zh))),?_⟩
  refine ⟨_,rfl,_,rfl,_,_,rfl,.inl hS,_,_,rfl,rfl,_,rfl,?_⟩
  rw [ke]
  refine ite2 (fun c1=>?_) (fun c1=>?_)
  ·have c1:=of_decide_eq_true c1
   exact ⟨_,rfl,_,rfl,_,_,_,_,rfl,rfl,hS,zck k1 c1,q _⟩
  ·exact q _
theorem zdg:zC ["found"] ["found"] (zg sLwh):=by trivial
theorem zct {f:Addr} {fd:FuncData} (F:Fun K "_law_whole" "_law_whole" sLwh f fd) (Z:Nt K mg kA):FnOk P w K mg base CX0 1 f fd ["found"] y8:=by
 obtain ⟨gKIND,gPARTS,gMOST_BOXES,gKINDS,kk,ti,tint,tbool,tstr,ttup,tlist,tl,tany,ts,tr,kI,kB,kS,kT⟩:=Z
 refine F.ok zdg (fun vs H Q E h=>?_) (fun cdv A outer s H vs Q E hr h=>?_)
 ·refine E_2 h fun x t n8=>A_2 n8 fun e9 _=>?_;clear n8 h;subst e9
  rfl
 ·refine E_2 h fun x t n8=>A_3 n8 fun e9 hA q=>?_;clear n8 h;subst e9
  refine ⟨_,(zf (zn (xt (zi yj (by rfl) ti kM (za (pv 0) (za (yU rfl tint PyProof.Rows.boot_int) zb))) (xJ (Xh (zi yj (by rfl) ti kM (za (pv 0) (za (yU rfl tbool PyProof.Rows.boot_bool) zb)))))))),?_⟩
  refine ⟨_,rfl,_,_,_,_,rfl,rfl,hA.ty,kI t,_,rfl,?_⟩
  have e:isI t=(isIB t && !isBl t):=by cases t<;>rfl
  rw [e] at q
  cases h1:isIB t with
  | false =>
   rw [h1] at q
   exact iteF q
  | true =>
   rw [h1] at q
   exact iteT ⟨_,rfl,_,_,_,_,rfl,rfl,hA.ty,kB t,_,rfl,q⟩
end
end _JF
namespace _Tre
open PySem
theorem Good.flat {t:T} {n:List Int} (g:Good t n) (k:Str):∃ ps nss,zI ps nss/\nss.flatten=n/\(∀ p∈ps,¬ HasK p k)/\szL ps<=sz t/\1<=ps.length/\(t=.tup [.str k,.tup ps]\/(ps=[t]/\((∃ i,t=.int i)\/∃ k' qs,t=.tup [.str k',.tup qs]/\k'≠k))):=by
 cases g with
 | leaf i =>
  refine ⟨[.int i],[[i]],.cons (.leaf i) .nil,rfl,fun p hp=>?_,by simp only [szL];omega,kf _,.inr ⟨rfl,.inl ⟨i,rfl⟩⟩⟩
  rw [kD.mp hp]
  rintro ⟨q,e⟩
  cases e
 | @node k' ps nss hk h2 hn h =>
  by_cases e:k'=k
  ·subst e
   exact ⟨ps,nss,h,rfl,hn,by rw [yL];omega,by omega,.inl rfl⟩
  ·refine ⟨[.tup [.str k',.tup ps]],[nss.flatten],.cons (.node hk h2 hn h) .nil,by simp,fun p hp=>?_,by simp only [szL];omega,kf _,.inr ⟨rfl,.inr ⟨k',ps,rfl,e⟩⟩⟩
   rw [kD.mp hp]
   rintro ⟨q,e2⟩
   injection e2 with e2
   injection e2 with e3 e4
   injection e3 with e3
   exact e e3
end _Tre
namespace _JF
open PySem _L2 _Tre PySem.W
noncomputable def XW:Sp:=fun vs H Q _=>∃ (k:Str) (a b:V) (t1 t2:T) (n1 n2:List Int),vs=[.str k,a,b]/\isK k/\At H a t1/\At H b t2/\Good t1 n1/\Good t2 n2/\sz t1+sz t2<=900 /\
 ∀ (v:V) (t:T) (H':Hp),Same H H'->At H' v t->Good t (n1++n2)->sz t<=sz t1+sz t2+3->Q v H'
theorem AtL.knot {H:Hp} {vs:List V} {k:Str} {ps:List T} (h:AtL H vs [.str k,.tup ps]):∃ b ws,vs=[.str k,.ref b]/\H b=some (.tup ws)/\AtL H ws ps:=by
 cases h with
 | cons h r =>
  cases h
  cases r with
  | cons h2 r2 =>
   cases r2
   cases h2 with
   | tup e hq=>exact ⟨_,_,rfl,e,hq⟩
theorem zbk:("|-" : Str)=txt [124,45]:=by decide +kernel
theorem Jn (i:Int):∃ c:Nat,atI [124,45] (i % 2)=some c/\isK (txt [c]):=by
 rcases (show i % 2=0\/i % 2=1 by omega) with e | e<;>rw [e]
 ·exact ⟨124,rfl,.inl (by decide +kernel)⟩
 ·exact ⟨45,rfl,.inr (by decide +kernel)⟩
section
variable {P:Program} {w:World} {K:Frag} {mg:Str->Option Value} {base:Heap} {kA:Addr}
theorem XX:zC ["kind","one","other","parts","tree"] ["kind","one","other"] (zg jF):=by trivial
theorem zbl {f:Addr} {fd:FuncData} (F:Fun K "_law_join" "_law_join" jF f fd) (Z:Nt K mg kA):FnOk P w K mg base CX0 1 f fd ["kind","one","other"] XW:=by
 obtain ⟨gKIND,gPARTS,gMOST_BOXES,gKINDS,kk,ti,tint,tbool,tstr,ttup,tlist,tl,tany,ts,tr,kI,kB,kS,kT⟩:=Z
 refine F.ok XX (fun vs H Q E h=>?_) (fun cdv A outer s H vs Q E hr h=>?_)
 ·refine E_7 h fun k a b t1 t2 n1 n2 n8=>A_2 n8 fun e9 _=>?_;clear n8 h;subst e9
  rfl
 ·refine E_7 h fun k a b t1 t2 n1 n2 n8=>A_8 n8 fun e9 hk hA1 hA2 g1 g2 hz q=>?_;clear n8 h;subst e9
  refine ⟨_,(ze (zm (i:=3) XX.nd rfl (Or.inl rfl) (zE zb))
   (ze (yr PassesOwn.never rfl (wD (zN (za (pv 1) (za (pv 2) zb)))) (zo (i:=4) XX.nd rfl (Or.inl rfl))
   (zf (zR (PW.pt (w9 (yi (zi yj (by rfl) ti kM (za (pv 4) (za (yU rfl ttup vE) zb)))) (wk (zF y4 (zw zP (pv 4) zh (fun _ _=>rfl)) (pv 0) (zJ _)))))
    (zf (zZ (yG kN uN uO Zx (pv 3) (za (zw zP (pv 4) zh (fun _ _=>rfl)) zb))))
    (zf (zZ (yG kN vf vg ye (pv 3) (za (pv 4) zb)))))))
   (zf (zn (zN (za (pv 0) (za (wT q8 rfl ttup vE (za (pv 3) zb)) zb))))))),?_⟩
  dsimp only
  refine ⟨Zz0,fun lp nlp=>?_⟩
  have S1:=zc (o:=.lst []) nlp
  have h1:(upd H lp (.lst [])) lp=some (.lst []):=zd
  generalize upd H lp (.lst [])=H1 at S1 h1
  dsimp only
  refine ⟨_,rfl,_,rfl,Zz2,fun tp ntp=>?_⟩
  have S2:=S1.trans (zc (o:=.tup [a,b]) ntp)
  have h2:(upd H1 tp (.tup [a,b])) tp=some (.tup [a,b]):=zd
  have h1:=zc (o:=.tup [a,b]) ntp _ _ h1
  generalize upd H1 tp (.tup [a,b])=H2 at S2 h2 h1
  have nt:tp≠lp:=xy h2 h1 (by intro z;cases z)
  refine ⟨tp,rfl,⟨_,SqT.of h2⟩,?_⟩
  refine Wz (K:=K) (a:=tp) (xs:=[a,b]) (fun i σ H3=>∃ (us:List V) (ts:List T) (nss:List (List Int)) (o:Option V),σ=[some (.str k),some a,some b,some (.ref lp),o]/\Same H H3/\H3 tp=some (.tup [a,b])/\H3 lp=some (.lst us)/\AtL H us ts/\zI ts nss/\nss.flatten=([n1,n2].take i).flatten/\(∀ p∈ts,¬ HasK p k)/\szL ts<=szL ([t1,t2].take i)/\i<=ts.length)
   ⟨[],[],[],none,rfl,S2,h2,h1,.nil,.nil,rfl,fun p hp=>(kW hp).elim,kf _,kf _⟩ (fun i σ H3 _ h9=>by obtain ⟨_,_,_,_,_,_,e,_⟩:=h9;exact (SqT.of e)) ?_ ?_
  ·intro i v σ H3 hi h8
   refine E_4 h8 fun us ts nss o n8=>A_10 n8 fun e9 S3 ht3 hl3 hAL hG hf hn hs hc=>?_;clear n8 h8;subst e9
   obtain ⟨t,n,eT,eN,hAv,g⟩ : ∃ t n,[t1,t2][i]?=some t/\[n1,n2][i]?=some n/\At H v t/\Good t n:=by
    match i,hi with
    | 0,hi=>exact ⟨t1,n1,rfl,rfl,by cases hi;exact hA1,g1⟩
    | 1,hi=>exact ⟨t2,n2,rfl,rfl,by cases hi;exact hA2,g2⟩
   obtain ⟨ps,mss,gp,ef,hnp,hsp,lp1,alt⟩:=g.flat k
   have eT':[t1,t2].take (i+1)=[t1,t2].take i++[t]:=by
    obtain ⟨hil,ev⟩:=kg.mp eT
    rw [<- kz hil,ev]
   have eN':[n1,n2].take (i+1)=[n1,n2].take i++[n]:=by
    obtain ⟨hil,ev⟩:=kg.mp eN
    rw [<- kz hil,ev]
   have szs:szL ([t1,t2].take i)+sz t<=sz t1+sz t2:=by
    match i,hi,eT with
    | 0,_,eT=>cases eT;simp only [List.take,szL];omega
    | 1,_,eT=>cases eT;simp only [List.take,szL];omega
   have z1:=y9 ts
   have z2:=y9 ps
   have lus:=hAL.len
   have fin:∀ (ws:List V),AtL H ws ps->∃ (us':List V) (ts:List T) (nss:List (List Int)) (o':Option V),[some (.str k),some a,some b,some (.ref lp),some v]=[some (.str k),some a,some b,some (.ref lp),o']/\Same H (upd H3 lp (.lst (us++ws)))/\(upd H3 lp (.lst (us++ws))) tp=some (.tup [a,b])/\(upd H3 lp (.lst (us++ws))) lp=some (.lst us')/\AtL H us' ts/\zI ts nss/\nss.flatten=([n1,n2].take (i+1)).flatten/\(∀ p∈ts,¬ HasK p k)/\szL ts<=szL ([t1,t2].take (i+1))/\i+1<=ts.length:=fun ws hw=>by
    refine I_4 (us++ws) (ts++ps) (nss++mss) _ ⟨rfl,zU S3 nlp,by rw [zp nt];exact ht3,zd,hAL.app hw,hG.app gp,?_,?_,?_,?_⟩
    ·rw [eN',vT,vT,hf,ef]
     simp
    ·intro p hp
     rcases vc.mp hp with z | z
     ·exact hn p z
     ·exact hnp p z
    ·rw [eT',yQ,yQ]
     simp only [szL]
     omega
    ·rw [ki]
     omega
   refine zQ ?_
   refine ⟨_,rfl,_,_,_,_,rfl,rfl,(hAv.same S3).ty,kT t,_,rfl,?_⟩
   rcases alt with rfl | ⟨rfl,⟨j,rfl⟩ | ⟨k',qs,rfl,ne⟩⟩
   ·cases hAv with
    | @tup a0 vs0 ss e hL =>
    obtain ⟨b0,ws,rfl,e2,hQ⟩:=hL.knot
    have lq:=hQ.len
    refine iteT ⟨_,rfl,_,_,_,_,rfl,rfl,SqT.of (S3 _ _ e),rfl,_,rfl,rfl,_,rfl,?_⟩
    rw [decide_eq_true rfl]
    refine iteT ⟨_,rfl,.inl ⟨rfl,_,SqL.of hl3⟩,_,rfl,_,_,_,_,rfl,rfl,SqT.of (S3 _ _ e),rfl,lp,_,_,_,rfl,rfl,hl3,SqT.of (S3 _ _ e2),km (show _<=2000 by omega) (by decide),fin _ hQ⟩
   ·cases hAv
    refine iteF (iteF ⟨_,rfl,.inl ⟨rfl,_,SqL.of hl3⟩,_,rfl,lp,_,_,rfl,rfl,hl3,vi (show _<=2000 by omega) (by decide),fin _ (.cons (.int _) .nil)⟩)
   ·cases hAv with
    | @tup a0 vs0 ss e hL =>
    obtain ⟨b0,ws,rfl,e2,hQ⟩:=hL.knot
    refine iteT ⟨_,rfl,_,_,_,_,rfl,rfl,SqT.of (S3 _ _ e),rfl,_,rfl,rfl,_,rfl,?_⟩
    rw [decide_eq_false (fun z=>ne (by injection z))]
    exact iteF ⟨_,rfl,.inl ⟨rfl,_,SqL.of hl3⟩,_,rfl,lp,_,_,rfl,rfl,hl3,vi (show _<=2000 by omega) (by decide),fin _ (.cons (.tup e hL) .nil)⟩
  ·intro σ H3 h8
   refine E_4 h8 fun us ts nss o n8=>A_10 n8 fun e9 S3 ht3 hl3 hAL hG hf hn hs hc=>?_;clear n8 h8;subst e9
   refine ⟨_,rfl,_,rfl,lp,us,rfl,.inl ⟨SqL.of hl3,fun p np=>⟨Zz2,fun r nr=>?_⟩⟩⟩
   have Sp:=zc (o:=.tup us) np
   have hp:(upd H3 p (.tup us)) p=some (.tup us):=zd
   generalize upd H3 p (.tup us)=H4 at Sp hp nr
   have Sr:=zc (o:=.tup [.str k,.ref p]) nr
   have S:=(S3.trans Sp).trans Sr
   refine q (.ref r) (.tup [.str k,.tup ts]) _ S (.tup zd (.cons (.str _) (.cons (.tup (Sr _ _ hp) (hAL.same S)) .nil))) ?_ ?_
   ·have:=Good.node hk hc hn hG
    rw [hf] at this
    simpa using this
   ·rw [yL]
    have hs:szL ts<=szL [t1,t2]:=hs
    simp only [szL] at hs
    omega
end
end _JF
namespace _Tre
open PySem
theorem zI.ints:∀ ns:List Int,zI (ns.map T.int) (ns.map fun i=>[i])
 | []=>.nil
 | n::ns=>.cons (.leaf n) (zI.ints ns)
theorem YJ:∀ ns:List Int,(ns.map fun i=>[i]).flatten=ns
 | []=>rfl
 | n::ns=>by
  show [n]++(ns.map fun i=>[i]).flatten=n::ns
  rw [YJ ns]
  rfl
theorem XY:∀ ns:List Int,szL (ns.map T.int)=ns.length
 | []=>rfl
 | n::ns=>by
  show sz (.int n)+szL (ns.map T.int)=ns.length+1
  rw [XY ns]
  simp only [sz]
  omega
end _Tre
namespace _JF
open PySem _L2 _Tre PySem.W
theorem wU (xs:List V) (k:Nat) (h:k<=xs.length):cutV xs none (some (k:Int))=xs.take k:=by
 unfold cutV
 rw [_HT.xO,_HT.wm,Nat.min_eq_left h]
 rfl
theorem zae (ns:List Int) (lo hi:Option Int):∃ ms:List Int,cutV (ns.map V.int) lo hi=ms.map V.int:=by
 unfold cutV
 exact ⟨_,by rw [<- List.map_drop,<- List.map_take]⟩
theorem YK {α β:Type} (f:α->β):∀ (l:List α) (k:Nat),(l.map f).eraseIdx k=(l.eraseIdx k).map f
 | [],_=>rfl
 | _::_,0=>rfl
 | x::l,k+1=>by
  show f x::(l.map f).eraseIdx k=f x::(l.eraseIdx k).map f
  rw [YK f l k]
theorem ZA {α:Type}:∀ {l:List α} {k:Nat} (h:k<l.length),(l[k]::l.eraseIdx k).Perm l
 | _::_,0,_=>.refl _
 | x::l,k+1,h=>by
  show (l[k]'(by simpa using h)::x::l.eraseIdx k).Perm (x::l)
  exact (List.Perm.swap _ _ _).trans ((ZA (l:=l) (k:=k) (by simpa using h)).cons x)
theorem AtL.ints {H:Hp}:∀ ns:List Int,AtL H (ns.map V.int) (ns.map T.int)
 | []=>.nil
 | n::ns=>.cons (.int n) (AtL.ints ns)
theorem AtL.split {H:Hp}:∀ {a b:List T} {vs:List V},AtL H vs (a++b)->∃ x y,vs=x++y/\AtL H x a/\AtL H y b
 | [],b,vs,h=>⟨[],vs,rfl,.nil,h⟩
 | t::a,b,_,.cons h r=>by
  obtain ⟨x,y,e,h1,h2⟩:=AtL.split (a:=a) (b:=b) r
  exact ⟨_::x,y,by rw [e];rfl,.cons h h1,h2⟩
noncomputable def Z2:Sp:=fun vs H Q _=>∃ (a:Addr) (cs:List Int),vs=[.ref a]/\H a=some (.lst (cs.map V.int))/\cs.length<=23/\∀ (v:V) (t:T) (n:List Int) (H':Hp),Same H H'->At H' v t->Good t n->n.Perm (up (cs.length+1))->sz t<=100->Q v H'
section
variable {P:Program} {w:World} {K:Frag} {mg:Str->Option Value} {base:Heap} {kA:Addr}
theorem xH:zC ["cells","left","items","cell","at","tree"] ["cells"] (zg qm):=by trivial
theorem zaf {f fJ:Addr} {fd fdJ:FuncData} (F:Fun K "_law_tree" "_law_tree" qm f fd) (Z:Nt K mg kA) (Jo:Callee P w K mg base CX0 1 "_law_join" fJ fdJ ["kind","one","other"] XW):FnOk P w K mg base CX0 2 f fd ["cells"] Z2:=by
 obtain ⟨gKIND,gPARTS,gMOST_BOXES,gKINDS,kk,ti,tint,tbool,tstr,ttup,tlist,tl,tany,ts,tr,kI,kB,kS,kT⟩:=Z
 refine F.ok xH (fun vs H Q E h=>?_) (fun cdv A outer s H vs Q E hr h=>?_)
 ·refine E_2 h fun a cs n8=>A_2 n8 fun e9 _=>?_;clear n8 h;subst e9
  rfl
 ·refine E_2 h fun a cs n8=>A_4 n8 fun e9 hA h23 q=>?_;clear n8 h;subst e9
  refine ⟨_,(ze (zm (i:=1) xH.nd rfl (Or.inl rfl) (wO rfl rfl tlist rfl tr (za (zj zS (zi zy (by rfl) tl kL (za (pv 0) zb)) zh) zb)))
   (ze (zm (i:=2) xH.nd rfl (Or.inl rfl) (zE zb))
   (ze (yr PassesOwn.never rfl (ya (zj yX (pv 0) (zE (za zh zb)))) (zo (i:=3) xH.nd rfl (Or.inl rfl))
   (zf (zZ (yG kN vf vg ye (pv 2) (za (yG kN uC uD JP (pv 1) (za (zj yt (zj xi (pv 3) zh) (zi zy (by rfl) tl kL (za (pv 1) zb))) zb)) zb)))))
   (ze (yr PassesOwn.never rfl (ya (pv 0)) (zo (i:=3) xH.nd rfl (Or.inl rfl))
   (ze (zm (i:=4) xH.nd rfl (Or.inl rfl) (zj yt (zj xi (pv 3) zh) (zj wE (zi zy (by rfl) tl kL (za (pv 2) zb)) zh)))
    (ze (zm (i:=5) xH.nd rfl (Or.inl rfl) (zk Jo.ok hr rfl Jo.bound Jo.kp Jo.bd .nil zG (za (zw WM zM (zj yt (pv 3) zh) (fun _ _=>rfl)) (za (zw zV (pv 2) (pv 4) (fun _ _=>rfl)) (za (zw zV (pv 2) (zj zS (pv 4) zh) (fun _ _=>rfl)) zb)))))
    (zf (zm (i:=2) xH.nd rfl (Or.inl rfl) (zj yX (zj yX (yc yP (pv 2) yl (yg (pv 4))) (zE (za (pv 5) zb))) (yc yP (pv 2) (yg (zj zS (pv 4) zh)) yl)))))))
   (zf (zn (zw zV (pv 2) zh (fun _ _=>rfl)))))))),?_⟩
  refine ⟨_,rfl,_,_,rfl,.inl (SqL.of hA),_,_,rfl,rfl,cs.length+1,by rw [ke];rfl,by omega,fun ll nll=>?_⟩
  have S1:=zc (o:=.lst ((vo (cs.length+1)).map fun i:Nat=>V.int i)) nll
  have h1:(upd H ll (.lst ((vo (cs.length+1)).map fun i:Nat=>V.int i))) ll=some (.lst ((up (cs.length+1)).map V.int)):=by
   rw [zd]
   unfold up
   rw [v7]
   rfl
  generalize upd H ll (.lst ((vo (cs.length+1)).map fun i:Nat=>V.int i))=H1 at S1 h1
  dsimp only
  refine ⟨Zz0,fun li nli=>?_⟩
  have fli:H li=none:=S1.free nli
  have S2:=S1.trans (zc (o:=.lst []) nli)
  have h2:(upd H1 li (.lst [])) li=some (.lst []):=zd
  have h1:=zc (o:=.lst []) nli _ _ h1
  have nn:ll≠li:=zO ‹_› nli
  generalize upd H1 li (.lst [])=H2 at S2 h2 h1
  dsimp only
  refine ⟨_,rfl,Zz1,fun pl npl=>?_⟩
  have S3:=S2.trans (zc (o:=.lst [.int 0]) npl)
  have h3:(upd H2 pl (.lst [.int 0])) pl=some (.lst [.int 0]):=zd
  have h1:=zc (o:=.lst [.int 0]) npl _ _ h1
  have h2:=zc (o:=.lst [.int 0]) npl _ _ h2
  generalize upd H2 pl (.lst [.int 0])=H3 at S3 h3 h1 h2
  refine I_4 a pl _ _ ⟨rfl,rfl,S3 _ _ hA,h3,by rw [ke];exact km (show _<=24 by simp;omega) (by decide),fun pc npc=>?_⟩
  have S4:=S3.trans (zc (o:=.lst (cs.map V.int++[.int 0])) npc)
  have h4:(upd H3 pc (.lst (cs.map V.int++[.int 0]))) pc=some (.lst ((cs++[0]).map V.int)):=by rw [zd,kC];rfl
  have n1:pc≠ll:=(zO h1 npc).symm
  have n2:pc≠li:=(zO h2 npc).symm
  have h1:=zc (o:=.lst (cs.map V.int++[.int 0])) npc _ _ h1
  have h2:=zc (o:=.lst (cs.map V.int++[.int 0])) npc _ _ h2
  generalize upd H3 pc (.lst (cs.map V.int++[.int 0]))=H4 at S4 h4 h1 h2
  refine ⟨pc,rfl,⟨_,SqL.of h4⟩,?_⟩
  refine xn (K:=K) (a:=pc) (xs:=(cs++[0]).map V.int) (fun i σ H5=>∃ (us ls:List Int) (o:Option V),σ=[some (.ref a),some (.ref ll),some (.ref li),o,none,none]/\Same H H5/\H5 pc=some (.lst ((cs++[0]).map V.int))/\H5 ll=some (.lst (ls.map V.int))/\H5 li=some (.lst (us.map V.int))/\(us++ls).Perm (up (cs.length+1))/\us.length=i)
   ⟨[],_,none,rfl,S4,h4,h1,h2,.refl _,rfl⟩ (fun i σ H5 _ h9=>by obtain ⟨_,_,_,_,_,e,_⟩:=h9;exact (SqL.of e)) ?_ ?_
  ·intro i v σ H5 hi h8
   refine E_3 h8 fun us ls o n8=>A_7 n8 fun e9 S5 hpc hll hli pm lu=>?_;clear n8 h8;subst e9
   rw [va] at hi
   obtain ⟨c,hc,rfl⟩:=vA.mp hi
   have hi2:=(kg.mp hc).1
   rw [ki,kU] at hi2
   have ln:=pm.length_eq
   rw [ki,XS] at ln
   have l0:0<ls.length:=by omega
   refine zQ ?_
   have b0:=vH (c / 64) (show (ls.length:Int)≠0 by omega)
   have b1:=vL (c / 64) (show (0:Int)<ls.length by omega)
   obtain ⟨k,hk⟩:=vN b0
   have kl:k<ls.length:=by omega
   refine ⟨_,rfl,.inl ⟨rfl,_,SqL.of hli⟩,_,rfl,.inl ⟨rfl,_,SqL.of hll⟩,_,rfl,_,_,rfl,rfl,(show CDiv c 64 from ⟨by decide,by decide⟩),_,rfl,_,_,rfl,.inl (SqL.of hll),_,_,rfl,rfl,by rw [ke];omega,?_⟩
   have hk':(c / 64) % (((ls.map V.int).length:Nat):Int)=k:=by rw [ke];exact hk
   refine ⟨ll,ls.map V.int,k,k,.int ls[k],rfl,congrArg (fun z=>[V.int z]) hk',hll,by omega,by omega,?_,by rw [va,kh kl];rfl,?_⟩
   ·rw [ke]
    have z:=PySem.StrLaws.seqIndex_nonneg (i:=(k:Int)) (n:=ls.length) (by omega) (by omega)
    exact z
   ·have S6:Same H (upd H5 ll (.lst ((ls.map V.int).eraseIdx k))):=zU S5 nll
    have k1:(upd H5 ll (.lst ((ls.map V.int).eraseIdx k))) ll=some (.lst ((ls.eraseIdx k).map V.int)):=by rw [zd,YK]
    have k2:(upd H5 ll (.lst ((ls.map V.int).eraseIdx k))) li=some (.lst (us.map V.int)):=by rw [zp nn.symm];exact hli
    have k3:(upd H5 ll (.lst ((ls.map V.int).eraseIdx k))) pc=some (.lst ((cs++[0]).map V.int)):=by rw [zp n1];exact hpc
    generalize upd H5 ll (.lst ((ls.map V.int).eraseIdx k))=H6 at S6 k1 k2 k3
    refine ⟨li,_,_,rfl,rfl,k2,by rw [ke];exact vi (show _<=24 by omega) (by decide),?_⟩
    refine ⟨us++[ls[k]],ls.eraseIdx k,_,rfl,zU S6 fli,by rw [zp n2];exact k3,by rw [zp nn];exact k1,by rw [zd,kC];rfl,?_,by rw [ki,lu];rfl⟩
    rw [vZ]
    exact ((ZA kl).append_left us).trans pm
  ·intro σ H5 h8
   refine E_3 h8 fun us ls o n8=>A_7 n8 fun e9 S5 hpc hll hli pm lu=>?_;clear n8 h8;subst e9
   rw [ke,ki,kU] at lu
   have ln:=pm.length_eq
   rw [ki,XS] at ln
   have el:ls=[]:=List.eq_nil_of_length_eq_zero (by omega)
   rw [el,vW] at pm
   dsimp only
   refine ⟨_,rfl,a,rfl,⟨_,SqL.of (S5 _ _ hA)⟩,?_⟩
   refine xn (K:=K) (a:=a) (xs:=cs.map V.int) (fun i σ H6=>∃ (lj:Addr) (us:List V) (ts:List T) (nss:List (List Int)) (o3 o4 o5:Option V),σ=[some (.ref a),some (.ref ll),some (.ref lj),o3,o4,o5]/\Same H H6/\H6 lj=some (.lst us)/\AtL H6 us ts/\zI ts nss/\nss.flatten.Perm (up (cs.length+1))/\ts.length+i=cs.length+1/\szL ts<=cs.length+1+3*i)
    ⟨li,us.map V.int,us.map T.int,us.map fun i=>[i],o,none,none,rfl,S5,hli,.ints us,.ints us,by rw [YJ];exact pm,by rw [ke,lu],by rw [XY,lu];exact kf _⟩ (fun i σ H6 _ h9=>by obtain ⟨_,_,_,_,_,_,_,_,S6,_⟩:=h9;exact (SqL.of (S6 _ _ hA))) ?_ ?_
   ·intro i v σ H6 hi h8
    refine E_7 h8 fun lj us ts nss o3 o4 o5 n8=>A_8 n8 fun e9 S6 hlj hL hG pm hlen hs=>?_;clear n8 h8;subst e9
    rw [va] at hi
    obtain ⟨c,hc,rfl⟩:=vA.mp hi
    have hi2:=(kg.mp hc).1
    have lL:=hL.len
    refine zQ ?_
    have b0:=vH (c / 2) (show ((us.length:Int)-1)≠0 by omega)
    have b1:=vL (c / 2) (show (0:Int)<(us.length:Int)-1 by omega)
    obtain ⟨k,hk⟩:=vN b0
    refine ⟨_,rfl,_,_,rfl,rfl,(show CDiv c 2 from ⟨by decide,by decide⟩),_,rfl,_,_,rfl,.inl (SqL.of hlj),_,_,rfl,rfl,_,_,rfl,rfl,by omega,?_⟩
    dsimp only
    rw [hk]
    obtain ⟨A,t1,t2,B,rfl,lA⟩ : ∃ A t1 t2 B,ts=A++(t1::t2::B)/\A.length=k:=by
     refine ⟨ts.take k,ts[k]'(by omega),ts[k+1]'(by omega),ts.drop (k+2),?_,by rw [kH];omega⟩
     rw [u4,u4,bf]
    obtain ⟨ua,ur,rfl,hua,hur⟩:=hL.split
    obtain ⟨x,nr,rfl,gA,gr⟩:=hG.split
    have la:=hua.len
    cases hur with
    | @cons v1 _ ur1 _ hv1 hur =>
    cases hur with
    | @cons v2 _ ub _ hv2 hub =>
    cases gr with
    | @cons _ m1 _ _ g1 gr =>
    cases gr with
    | @cons _ m2 _ nB g2 gB =>
    obtain ⟨cc,hcc,hkk⟩:=Jn c
    have e1:atI (ua++v1::v2::ub) (k:Int)=some v1:=yK (by rw [vP (by omega),show k-ua.length=0 by omega];rfl)
    have e2:atI (ua++v1::v2::ub) ((k:Int)+1)=some v2:=yK (j:=k+1) (by rw [vP (by omega),show k+1-ua.length=1 by omega];rfl)
    rw [yQ] at hs
    simp only [szL] at hs
    refine ⟨_,rfl,_,_,rfl,rfl,(show (0:Int)<2 by decide),[124,45],_,cc,congrArg V.str zbk,rfl,by decide,hcc,_,rfl,_,rfl,_,_,_,_,rfl,rfl,SqL.of hlj,e1,_,rfl,_,rfl,_,_,rfl,rfl,_,_,_,_,rfl,rfl,SqL.of hlj,e2,_,v1,v2,t1,t2,m1,m2,rfl,hkk,hv1,hv2,g1,g2,by omega,fun v t H7 S7 hv gt zt=>?_⟩
    dsimp only
    have c1:cutV (ua++v1::v2::ub) none (some (k:Int))=ua:=by
     rw [wU _ k (by rw [ki];omega),<- la.trans lA,List.take_left']
     rfl
    have c2:cutV (ua++v1::v2::ub) (some ((k:Int)+2)) none=ub:=by
     have z:=yZ (ua++v1::v2::ub) (k+2) (by rw [ki,kK,kK];omega)
     have d:(ua++v1::v2::ub).drop (k+2)=ub:=by
      rw [List.drop_append,List.drop_of_length_le (by omega),show k+2-ua.length=2 by omega]
      rfl
     rw [d] at z
     exact z
    refine ⟨_,rfl,_,rfl,_,rfl,lj,_,rfl,SqL.of (S7 _ _ hlj),fun p1 np1=>?_⟩
    rw [c1]
    have Sa:=zc (o:=.lst ua) np1
    have ka:(upd H7 p1 (.lst ua)) p1=some (.lst ua):=zd
    generalize upd H7 p1 (.lst ua)=H8 at Sa ka
    refine ⟨_,rfl,Zz1,fun p2 np2=>?_⟩
    have Sb:=zc (o:=.lst [v]) np2
    have kb:(upd H8 p2 (.lst [v])) p2=some (.lst [v]):=zd
    have ka:=Sb _ _ ka
    generalize upd H8 p2 (.lst [v])=H9 at Sb kb ka
    have lB:=hub.len
    rw [ki,kK,kK] at hlen
    refine I_4 p1 p2 _ _ ⟨rfl,rfl,ka,kb,km (show _<=100 by simp;omega) (by decide),fun p3 np3=>?_⟩
    have Sc:=zc (o:=.lst (ua++[v])) np3
    have kc:(upd H9 p3 (.lst (ua++[v]))) p3=some (.lst (ua++[v])):=zd
    generalize upd H9 p3 (.lst (ua++[v]))=H10 at Sc kc
    refine ⟨_,rfl,_,rfl,_,_,rfl,rfl,_,rfl,lj,_,rfl,SqL.of (Sc _ _ (Sb _ _ (Sa _ _ (S7 _ _ hlj)))),fun p4 np4=>?_⟩
    rw [c2]
    have Sd:=zc (o:=.lst ub) np4
    have kd:(upd H10 p4 (.lst ub)) p4=some (.lst ub):=zd
    have kc:=Sd _ _ kc
    generalize upd H10 p4 (.lst ub)=H11 at Sd kd kc
    refine I_4 p3 p4 _ _ ⟨rfl,rfl,kc,kd,km (show _<=100 by simp;omega) (by decide),fun p5 np5=>?_⟩
    have Se:=zc (o:=.lst (ua++[v]++ub)) np5
    have SS:=Sa.trans (Sb.trans (Sc.trans (Sd.trans Se)))
    have SS7:=S7.trans SS
    refine I_7 p5 (ua++[v]++ub) (A++[t]++B) (x++[m1++m2]++nB) _ _ _ ⟨rfl,S6.trans SS7,zd,((hua.same SS7).app (.cons (hv.same SS) .nil)).app (hub.same SS7),(gA.app (.cons gt .nil)).app gB,?_,?_,?_⟩
    ·have z:(x++[m1++m2]++nB).flatten=(x++m1::m2::nB).flatten:=by simp
     rw [z]
     exact pm
    ·rw [ki,ki,kU]
     omega
    ·rw [yQ,yQ]
     simp only [szL]
     omega
   ·intro σ H6 h8
    refine E_7 h8 fun lj us ts nss o3 o4 o5 n8=>A_8 n8 fun e9 S6 hlj hL hG pm hlen hs=>?_;clear n8 h8;subst e9
    rw [ke] at hlen hs
    obtain ⟨t,rfl⟩:=List.length_eq_one_iff.mp (show ts.length=1 by omega)
    obtain ⟨n,rfl,g⟩:=zI.one hG
    cases hL with
    | @cons v _ _ _ hv hr =>
    cases hr
    refine ⟨_,rfl,_,_,_,_,rfl,rfl,SqL.of hlj,rfl,q v t n H6 S6 hv g (by simpa using pm) ?_⟩
    simp only [szL] at hs
    omega
end
end _JF
namespace _Tre
open PySem
mutual
theorem Good.szN:∀ {t:T} {n:List Int},Good t n->sz t+3<=4*n.length
 | _,_,.leaf i=>by simp [sz]
 | _,_,.node (k:=k) (ps:=ps) (nss:=nss) hk h2 hn h=>by
  have:=zI.szN h
  have:=yL k ps
  omega
theorem zI.szN:∀ {ts:List T} {nss:List (List Int)},zI ts nss->szL ts+3*ts.length<=4*nss.flatten.length
 | _,_,.nil=>by simp [szL]
 | _,_,.cons h r=>by
  have:=h.szN
  have:=zI.szN r
  rw [vJ,ki,kK]
  simp only [szL]
  omega
end
theorem zaM:∀ (r:List T) (p:T),p∈r->sz p<=szL r
 | q::r,p,h=>by
  simp only [szL]
  rcases kY.mp h with z | z
  ·rw [z];omega
  ·have:=zaM r p z
   omega
theorem ZB {ps:List T} {p:T} (h2:2<=ps.length) (hp:p∈ps):sz p+1<=szL ps:=by
 obtain ⟨i,hi,e⟩:=ug.mp hp
 have c:ps[i]?=some p:=by rw [kh hi,e]
 match ps,h2,i,c with
 | a::b::r,_,0,c =>
  have c:a=p:=by simpa using c
  subst c
  have:=wN b
  simp only [szL]
  omega
 | a::r,_,j+1,c =>
  have:=zaM r p (kZ (i:=j) (by simpa using c))
  have:=wN a
  simp only [szL]
  omega
noncomputable def okN (n:List Int):Prop:=∀ i∈n,0<=i/\i<24
theorem zX.okN {t:T} {n:List Int} (h:zX t) (g:Good t n):okN n/\n.length<=24:=by
 obtain ⟨x,gx,l,p⟩:=h
 have e:=Good.uniq g gx
 subst e
 refine ⟨fun i hi=>?_,l⟩
 have:=p.mem_iff.mp hi
 unfold up at this
 obtain ⟨j,hj,rfl⟩:=vC.mp this
 have:=vO.mp hj
 omega
end _Tre
namespace _JF
open PySem _L2 _Tre PySem.W
noncomputable def XZ (C:Addr):Sp:=fun vs H Q E=>∃ (x:V) (t:T),vs=[x]/\At H x t/\sz t<=1000/\((zX t/\∀ H',Same H H'->Q .non H')\/(¬ zX t/\∀ H',Same H H'->E (.ref C) none H'))
noncomputable def Z3 (C:Addr):Sp:=fun vs H Q E=>∃ (x:V) (t:T),vs=[x]/\At H x t/\sz t<=1000/\((∃ n,zX t/\Good t n/\∀ H',Same H H'->Q (.int n.length) H')\/(¬ zX t/\∀ H',Same H H'->E (.ref C) none H'))
section
variable {P:Program} {w:World} {K:Frag} {mg:Str->Option Value} {base:Heap} {kA:Addr}
theorem zcu:zC ["thing"] ["thing"] (zg jG):=by trivial
theorem zbm {f fT C:Addr} {fd fdT:FuncData} (F:Fun K "refuse_no_tree" "refuse_no_tree" jG f fd) (ex:Exc K mg "NoTree" C) (Tr:Callee P w K mg base CX0 5 "is_tree" fT fdT ["thing"] XV):FnOk P w K mg base (CXE P w) 6 f fd ["thing"] (XZ C):=by
 refine F.okE zcu (fun vs H Q E h=>?_) (fun cdv A outer s H vs Q E hr hh h=>?_)
 ·refine E_2 h fun x t n8=>A_2 n8 fun e9 _=>?_;clear n8 h;subst e9
  rfl
 ·revert h;intro n7;refine E_2 n7 fun x t n8=>A_4 n8 fun e9 hA hz h=>?_;clear n8 n7;subst e9
  refine ⟨_,(zf (zR (yW (yi (zk Tr.ok hr rfl Tr.bound Tr.kp Tr.bd .nil zG (za (pv 0) zb))))
   (zf (xP ex hh rfl (za zM zb)))
   zL)),?_⟩
  refine ⟨_,rfl,x,t,rfl,hA,Zd t hz,fun b H1 S1 hb=>?_⟩
  rcases h with ⟨iT,q⟩ | ⟨nT,qe⟩
  ·have e:b=true:=hb.mpr iT
   subst e
   exact ⟨_,rfl,iteF (q H1 S1)⟩
  ·have e:b=false:=by cases b with | false=>rfl | true=>exact absurd (hb.mp rfl) nT
   subst e
   exact ⟨_,rfl,iteT ⟨Zz1,qe H1 S1⟩⟩
theorem zbn:zC ["tree"] ["tree"] (zg qt):=by trivial
theorem zag {f fR fN C:Addr} {fd fdR fdN:FuncData} (F:Fun K "boxes_of" "boxes_of" qt f fd) (tl:mg "len" = none) (Re:Callee P w K mg base (CXE P w) 6 "refuse_no_tree" fR fdR ["thing"] (XZ C)) (Nu:Callee P w K mg base CX0 4 "numbers_in" fN fdN ["thing"] YZ):FnOk P w K mg base (CXE P w) 7 f fd ["tree"] (Z3 C):=by
 refine F.okE zbn (fun vs H Q E h=>?_) (fun cdv A outer s H vs Q E hr hh h=>?_)
 ·refine E_2 h fun x t n8=>A_2 n8 fun e9 _=>?_;clear n8 h;subst e9
  rfl
 ·revert h;intro n7;refine E_2 n7 fun x t n8=>A_4 n8 fun e9 hA hz h=>?_;clear n8 n7;subst e9
  refine ⟨_,(ze (zZ (zk Re.ok hr rfl Re.bound Re.kp Re.bd .nil x6 (za (pv 0) zb)))
   (zf (zn (zi zy (by rfl) tl kL (za (zk Nu.ok (hr.mono (show 4<=6 by decide)) rfl Nu.bound Nu.kp Nu.bd .nil zG (za (pv 0) zb)) zb))))),?_⟩
  rcases h with ⟨n,iT,g,q⟩ | ⟨nT,qe⟩
  ·refine ⟨_,rfl,x,t,rfl,hA,hz,.inl ⟨iT,fun H1 S1=>?_⟩⟩
   refine ⟨_,rfl,x,t,rfl,hA.same S1,Zd t hz,fun r l H2 S2 nl hl lr tell=>⟨l,_,rfl,.inl (SqL.of hl),?_⟩⟩
   rw [ke]
   rcases tell with ⟨y,gy,_,py⟩ | ⟨_,no⟩
   ·rw [py.length_eq,Good.uniq gy g]
    exact q H2 (S1.trans S2)
   ·exact absurd (no n g) (by have:=(iT.okN g).2;omega)
  ·exact ⟨_,rfl,x,t,rfl,hA,hz,.inr ⟨nT,qe⟩⟩
end
end _JF
namespace _Sta
open _Lin
abbrev S:=List (Nat×Nat)
abbrev R:=Nat->Nat->Prop
noncomputable def Lt (p q:Nat×Nat):Prop:=p.1<q.1/\q.2<p.2
noncomputable def Ok (A:S):Prop:=A.Pairwise Lt/\∀ p∈A,1<=p.1/\1<=p.2
noncomputable def reg (A:S):R:=fun w h=>∃ p,p∈A/\p.1<=w/\p.2<=h
structure Up (P:R):Prop where
 up:∀ {w h w' h'},P w h->w<=w'->h<=h'->P w' h'
 pos:∀ {w h},P w h->1<=w/\1<=h
noncomputable def Same (P Q:R):Prop:=∀ w h,P w h↔Q w h
theorem Same.trans {P Q U:R} (h:Same P Q) (k:Same Q U):Same P U:=fun w j=>(h w j).trans (k w j)
noncomputable def bes (P Q:R):R:=fun w h=>∃ a b,a+b<=w/\P a h/\Q b h
noncomputable def dwn (P Q:R):R:=fun w h=>∃ a b,a+b<=h/\P w a/\Q w b
theorem zah {P P' Q Q':R} (h:Same P P') (k:Same Q Q'):Same (bes P Q) (bes P' Q'):=fun w j=>by
 constructor
 ·rintro ⟨a,b,e,x,y⟩
  exact ⟨a,b,e,(h _ _).mp x,(k _ _).mp y⟩
 ·rintro ⟨a,b,e,x,y⟩
  exact ⟨a,b,e,(h _ _).mpr x,(k _ _).mpr y⟩
theorem ZC {P Q:R} (h:Up P) (k:Up Q):Up (bes P Q):=⟨fun ⟨a,b,e,x,y⟩ u v=>⟨a,b,km e u,h.up x (kf _) v,k.up y (kf _) v⟩,fun ⟨a,b,e,x,y⟩=>by
 have:=h.pos x
 omega⟩
theorem X0 {P Q:R} (h:Up P) (k:Up Q):Up (dwn P Q):=⟨fun ⟨a,b,e,x,y⟩ u v=>⟨a,b,km e v,h.up x u (kf _),k.up y u (kf _)⟩,fun ⟨a,b,e,x,y⟩=>by
 have:=h.pos x
 omega⟩
noncomputable def sbs:S->S->S
 | a::as,b::bs=>(a.1+b.1,max a.2 b.2)::(if a.2=max a.2 b.2 then (if b.2=max a.2 b.2 then sbs as bs else sbs as (b::bs)) else sbs (a::as) bs)
 | [],_=>[]
 | _::_,[]=>[]
termination_by a b=>a.length+b.length
decreasing_by all_goals simp_wf<;>omega
theorem wQ (a:Nat×Nat) (as:S) (b:Nat×Nat) (bs:S):sbs (a::as) (b::bs)=(a.1+b.1,max a.2 b.2)::(if a.2=max a.2 b.2 then (if b.2=max a.2 b.2 then sbs as bs else sbs as (b::bs)) else sbs (a::as) bs):=by
 rw [sbs]
theorem jO (b:S):sbs [] b=[]:=by rw [sbs]
theorem qS (a:S):sbs a []=[]:=by cases a<;>rw [sbs]
theorem ind {C:S->S->Prop} (h1:∀ b,C [] b) (h2:∀ a as,C (a::as) []) (h3:∀ a as b bs,C as bs->C as (b::bs)->C (a::as) bs->C (a::as) (b::bs)):∀ n A B,A.length+B.length<=n->C A B
 | n,[],B,_=>h1 B
 | n,a::as,[],_=>h2 a as
 | 0,a::as,b::bs,h=>by simp at h
 | n+1,a::as,b::bs,h=>by
  simp only [kK] at h
  exact h3 a as b bs (ind h1 h2 h3 n as bs (by omega)) (ind h1 h2 h3 n as (b::bs) (by simp only [kK];omega)) (ind h1 h2 h3 n (a::as) bs (by simp only [kK];omega))
theorem ind' {C:S->S->Prop} (h1:∀ b,C [] b) (h2:∀ a as,C (a::as) []) (h3:∀ a as b bs,C as bs->C as (b::bs)->C (a::as) bs->C (a::as) (b::bs)) (A B:S):C A B:=ind h1 h2 h3 _ A B (kf _)
theorem jP (A B:S):∀ z∈sbs A B,∃ x y,x∈A/\y∈B/\z=(x.1+y.1,max x.2 y.2):=by
 refine ind' (C:=fun A B=>∀ z∈sbs A B,∃ x y,x∈A/\y∈B/\z=(x.1+y.1,max x.2 y.2)) (fun b z hz=>?_) (fun a as z hz=>?_) (fun a as b bs i1 i2 i3 z hz=>?_) A B
 ·rw [jO] at hz
  exact (kW hz).elim
 ·rw [qS] at hz
  exact (kW hz).elim
 ·rw [wQ] at hz
  rcases kY.mp hz with e | e
  ·exact ⟨a,b,kw,kw,e⟩
  ·split at e
   ·split at e
    ·obtain ⟨x,y,hx,hy,e⟩:=i1 z e
     exact ⟨x,y,kq _ hx,kq _ hy,e⟩
    ·obtain ⟨x,y,hx,hy,e⟩:=i2 z e
     exact ⟨x,y,kq _ hx,hy,e⟩
   ·obtain ⟨x,y,hx,hy,e⟩:=i3 z e
    exact ⟨x,y,hx,kq _ hy,e⟩
theorem Ok.tail {a:Nat×Nat} {as:S} (h:Ok (a::as)):Ok as:=⟨(List.pairwise_cons.mp h.1).2,fun p hp=>h.2 p (kq _ hp)⟩
theorem Ok.head {a:Nat×Nat} {as:S} (h:Ok (a::as)):∀ x∈as,a.1<x.1/\x.2<a.2:=(List.pairwise_cons.mp h.1).1
theorem Ok.all {a:Nat×Nat} {as:S} (h:Ok (a::as)):∀ x∈a::as,a.1<=x.1/\x.2<=a.2:=fun x hx=>by
 rcases kY.mp hx with e | e
 ·rw [e];exact ⟨kf _,kf _⟩
 ·have:=h.head x e
  omega
theorem zcv (A B:S):Ok A->Ok B->Ok (sbs A B):=by
 refine ind' (C:=fun A B=>Ok A->Ok B->Ok (sbs A B)) (fun b _ _=>?_) (fun a as _ _=>?_) (fun a as b bs i1 i2 i3 hA hB=>?_) A B
 ·rw [jO]
  exact ⟨List.Pairwise.nil,fun p hp=>(kW hp).elim⟩
 ·rw [qS]
  exact ⟨List.Pairwise.nil,fun p hp=>(kW hp).elim⟩
 ·rw [wQ]
  have pa:=hA.2 a kw
  have pb:=hB.2 b kw
  have fin:∀ L:S,Ok L->(∀ z∈L,a.1+b.1<z.1/\z.2<max a.2 b.2)->Ok ((a.1+b.1,max a.2 b.2)::L):=fun L o h=>⟨List.pairwise_cons.mpr ⟨h,o.1⟩,fun p hp=>by
   rcases kY.mp hp with e | e
   ·rw [e]
    exact ⟨show 1<=a.1+b.1 by omega,show 1<=max a.2 b.2 by omega⟩
   ·exact o.2 p e⟩
  split
  ·split
   ·refine fin _ (i1 hA.tail hB.tail) fun z hz=>?_
    obtain ⟨x,y,hx,hy,e⟩:=jP _ _ z hz
    have:=hA.head x hx
    have:=hB.head y hy
    rw [e]
    show a.1+b.1<x.1+y.1/\max x.2 y.2<max a.2 b.2
    omega
   ·refine fin _ (i2 hA.tail hB) fun z hz=>?_
    obtain ⟨x,y,hx,hy,e⟩:=jP _ _ z hz
    have:=hA.head x hx
    have:=hB.all y hy
    rw [e]
    show a.1+b.1<x.1+y.1/\max x.2 y.2<max a.2 b.2
    omega
  ·refine fin _ (i3 hA hB.tail) fun z hz=>?_
   obtain ⟨x,y,hx,hy,e⟩:=jP _ _ z hz
   have:=hA.all x hx
   have:=hB.head y hy
   rw [e]
   show a.1+b.1<x.1+y.1/\max x.2 y.2<max a.2 b.2
   omega
theorem zcw (A B:S):Ok A->Ok B->∀ x∈A,∀ y∈B,∀ w h,x.1+y.1<=w->x.2<=h->y.2<=h->reg (sbs A B) w h:=by
 refine ind' (C:=fun A B=>Ok A->Ok B->∀ x∈A,∀ y∈B,∀ w h,x.1+y.1<=w->x.2<=h->y.2<=h->reg (sbs A B) w h) (fun b _ _ x hx=>(kW hx).elim) (fun a as _ _ x _ y hy=>(kW hy).elim) (fun a as b bs i1 i2 i3 hA hB x hx y hy w h e1 e2 e3=>?_) A B
 rw [wQ]
 have ax:=hA.all x hx
 have by':=hB.all y hy
 by_cases c:max a.2 b.2<=h
 ·exact ⟨_,kw,show a.1+b.1<=w by omega,c⟩
 ·have up:∀ L:S,reg L w h->reg ((a.1+b.1,max a.2 b.2)::L) w h:=fun L ⟨p,m,z⟩=>⟨p,kq _ m,z⟩
  refine up _ ?_
  have xa:a.2=max a.2 b.2->x∈as:=fun z=>by
   rcases kY.mp hx with e | e
   ·rw [e] at e2;omega
   ·exact e
  have yb:b.2=max a.2 b.2->y∈bs:=fun z=>by
   rcases kY.mp hy with e | e
   ·rw [e] at e3;omega
   ·exact e
  split
  ·rename_i c1
   split
   ·rename_i c2
    exact i1 hA.tail hB.tail x (xa c1) y (yb c2) w h e1 e2 e3
   ·exact i2 hA.tail hB x (xa c1) y hy w h e1 e2 e3
  ·exact i3 hA hB.tail x hx y (yb (by omega)) w h e1 e2 e3
theorem zbo {A B:S} (hA:Ok A) (hB:Ok B):Same (reg (sbs A B)) (bes (reg A) (reg B)):=fun w h=>by
 constructor
 ·rintro ⟨z,m,e1,e2⟩
  obtain ⟨x,y,hx,hy,rfl⟩:=jP A B z m
  have e1:x.1+y.1<=w:=e1
  have e2:max x.2 y.2<=h:=e2
  exact ⟨x.1,y.1,e1,⟨x,hx,kf _,by omega⟩,⟨y,hy,kf _,by omega⟩⟩
 ·rintro ⟨a,b,e,⟨x,hx,x1,x2⟩,⟨y,hy,y1,y2⟩⟩
  exact zcw A B hA hB x hx y hy w h (by omega) x2 y2
noncomputable def exch (A:S):S:=A.reverse.map fun p=>(p.2,p.1)
theorem Ze {A:S} {z:Nat×Nat}:z∈exch A↔(z.2,z.1)∈A:=by
 unfold exch
 rw [vC]
 constructor
 ·intro h8
  obtain ⟨p,hp,rfl⟩:=h8
  exact List.mem_reverse.mp hp
 ·intro h
  exact ⟨_,List.mem_reverse.mpr h,rfl⟩
theorem zbp {A:S} (h:Ok A):Ok (exch A):=by
 refine ⟨?_,fun p hp=>?_⟩
 ·unfold exch
  rw [u8,List.pairwise_reverse]
  exact h.1.imp fun ⟨a,b⟩=>⟨b,a⟩
 ·have:=h.2 _ (Ze.mp hp)
  exact ⟨this.2,this.1⟩
theorem zai (A:S):∀ w h,reg (exch A) w h↔reg A h w:=fun w h=>by
 constructor
 ·rintro ⟨p,m,a,b⟩
  exact ⟨_,Ze.mp m,b,a⟩
 ·rintro ⟨p,m,a,b⟩
  exact ⟨(p.2,p.1),Ze.mpr m,b,a⟩
noncomputable def Low (P:R) (w:Nat):Option Nat->Prop
 | none=>∀ h,¬ P w h
 | some v=>P w v/\∀ h,P w h->v<=h
theorem Low.of {P Q:R} (s:Same P Q) {w:Nat}:∀ {o:Option Nat},Low P w o->Low Q w o
 | none,l=>fun h z=>l h ((s _ _).mpr z)
 | some v,l=>⟨(s _ _).mp l.1,fun h z=>l.2 h ((s _ _).mpr z)⟩
theorem Low.uniq {P:R} {w:Nat}:∀ {a b:Option Nat},Low P w a->Low P w b->a=b
 | none,none,_,_=>rfl
 | none,some v,h,k=>(h v k.1).elim
 | some v,none,h,k=>(k v h.1).elim
 | some v,some u,h,k=>by rw [Nat.le_antisymm (h.2 u k.1) (k.2 v h.1)]
noncomputable def addO:Option Nat->Option Nat->Option Nat
 | some a,some b=>some (a+b)
 | _,_=>none
theorem zbq {P Q:R} {w:Nat}:∀ {a b:Option Nat},Low P w a->Low Q w b->Low (dwn P Q) w (addO a b)
 | none,b,h,k=>by
  have:addO none b=none:=by cases b<;>rfl
  rw [this]
  rintro x ⟨c,d,_,z,_⟩
  exact h c z
 | some a,none,h,k=>fun x ⟨c,d,_,_,z⟩=>k d z
 | some a,some b,h,k=>⟨⟨a,b,kf _,h.1,k.1⟩,fun x ⟨c,d,e,y,z⟩=>by
  have:=h.2 c y
  have:=k.2 d z
  omega⟩
noncomputable def Best (f g:Nat->Option Nat) (w k:Nat):Option Nat->Prop
 | none=>∀ l,1<=l->l<w->l<=k->f l=none\/g (w-l)=none
 | some v=>(∃ l a b,1<=l/\l<w/\l<=k/\f l=some a/\g (w-l)=some b/\v=max a b)/\∀ l a b,1<=l->l<w->l<=k->f l=some a->g (w-l)=some b->v<=max a b
theorem zaj {P Q:R} (hP:Up P) (hQ:Up Q) {f g:Nat->Option Nat} {w:Nat} (hf:∀ l,l<w->Low P l (f l)) (hg:∀ l,l<w->Low Q l (g l)) {k:Nat} (hk:w<=k+1):∀ {o:Option Nat},Best f g w k o->Low (bes P Q) w o
 | none,h=>by
  rintro x ⟨a,b,e,y,z⟩
  have pa:=hP.pos y
  have pb:=hQ.pos z
  rcases h a pa.1 (by omega) (by omega) with c | c
  ·have:=hf a (by omega)
   rw [c] at this
   exact this x y
  ·have:=hg (w-a) (by omega)
   rw [c] at this
   exact this x (hQ.up z (by omega) (kf _))
 | some v,h=>by
  obtain ⟨⟨l,a,b,l1,l2,l3,e1,e2,rfl⟩,h2⟩:=h
  have ha:=hf l l2
  have hb:=hg (w-l) (by omega)
  rw [e1] at ha
  rw [e2] at hb
  refine ⟨⟨l,w-l,by omega,hP.up ha.1 (kf _) (Nat.le_max_left _ _),hQ.up hb.1 (kf _) (Nat.le_max_right _ _)⟩,?_⟩
  rintro x ⟨c,d,e,y,z⟩
  have pa:=hP.pos y
  have pb:=hQ.pos z
  have z':Q (w-c) x:=hQ.up z (by omega) (kf _)
  have k1:=hf c (by omega)
  have k2:=hg (w-c) (by omega)
  cases e3:f c with
  | none=>rw [e3] at k1;exact (k1 x y).elim
  | some a' =>
   cases e4:g (w-c) with
   | none=>rw [e4] at k2;exact (k2 x z').elim
   | some b' =>
    rw [e3] at k1
    rw [e4] at k2
    have:=h2 c a' b' pa.1 (by omega) (by omega) e3 e4
    have:=k1.2 x y
    have:=k2.2 x z'
    omega
theorem Jp {f g:Nat->Option Nat} {w:Nat}:Best f g w 0 none:=fun l h1 _ h2=>by omega
theorem Jq {f g:Nat->Option Nat} {w k:Nat} (h:f (k+1)=none\/g (w-(k+1))=none):∀ {o:Option Nat},Best f g w k o->Best f g w (k+1) o
 | none,b=>fun l h1 h2 h3=>by
  rcases vQ h3 with c | c
  ·exact b l h1 h2 (by omega)
  ·rw [c];exact h
 | some v,⟨⟨l,a,b,z1,z2,z3,z4⟩,k2⟩=>⟨⟨l,a,b,z1,z2,by omega,z4⟩,fun l a b h1 h2 h3 e1 e2=>by
  rcases vQ h3 with c | c
  ·exact k2 l a b h1 h2 (by omega) e1 e2
  ·subst c
   rcases h with h | h
   ·rw [h] at e1;cases e1
   ·rw [h] at e2;cases e2⟩
theorem Jr {f g:Nat->Option Nat} {w k a b:Nat} (hw:k+1<w) (e1:f (k+1)=some a) (e2:g (w-(k+1))=some b):∀ {o:Option Nat},Best f g w k o->Best f g w (k+1) (some (match o with | none=>max a b | some v=>if max a b<v then max a b else v))
 | none,h=>⟨⟨k+1,a,b,by omega,hw,kf _,e1,e2,rfl⟩,fun l c d h1 h2 h3 k1 k2=>by
  rcases vQ h3 with z | z
  ·rcases h l h1 h2 (by omega) with y | y
   ·rw [y] at k1;cases k1
   ·rw [y] at k2;cases k2
  ·subst z
   rw [e1] at k1
   rw [e2] at k2
   cases k1
   cases k2
   exact kf _⟩
 | some v,⟨⟨l,c,d,z1,z2,z3,z4⟩,h⟩=>by
  show Best f g w (k+1) (some (if max a b<v then max a b else v))
  have all:∀ u,u<=v->u<=max a b->∀ l c d,1<=l->l<w->l<=k+1->f l=some c->g (w-l)=some d->u<=max c d:=fun u u1 u2 l c d h1 h2 h3 k1 k2=>by
   rcases vQ h3 with z | z
   ·exact km u1 (h l c d h1 h2 (by omega) k1 k2)
   ·subst z
    rw [e1] at k1
    rw [e2] at k2
    cases k1
    cases k2
    exact u2
  split
  ·exact ⟨⟨k+1,a,b,by omega,hw,kf _,e1,e2,rfl⟩,all _ (by omega) (kf _)⟩
  ·exact ⟨⟨l,c,d,z1,z2,by omega,z4⟩,all _ (kf _) (by omega)⟩
noncomputable def Bd (P:R) (M:Nat):Prop:=∀ w h,P w h->∃ v,v<=w/\v<=M/\P v h
theorem Bd.mono {P:R} {M N:Nat} (h:Bd P M) (k:M<=N):Bd P N:=fun w j z=>by
 obtain ⟨v,a,b,c⟩:=h w j z
 exact ⟨v,a,by omega,c⟩
theorem zcx {P Q:R} {M N:Nat} (h:Bd P M) (k:Bd Q N):Bd (bes P Q) (M+N):=by
 rintro w j ⟨a,b,e,x,y⟩
 obtain ⟨u,u1,u2,u3⟩:=h a j x
 obtain ⟨v,v1,v2,v3⟩:=k b j y
 exact ⟨u+v,by omega,by omega,u,v,kf _,u3,v3⟩
theorem zcy {P Q:R} (hP:Up P) (hQ:Up Q) {M N:Nat} (h:Bd P M) (k:Bd Q N):Bd (dwn P Q) (M+N):=by
 rintro w j ⟨a,b,e,x,y⟩
 obtain ⟨u,u1,u2,u3⟩:=h w a x
 obtain ⟨v,v1,v2,v3⟩:=k w b y
 exact ⟨max u v,by omega,by omega,a,b,e,hP.up u3 (Nat.le_max_left _ _) (kf _),hQ.up v3 (Nat.le_max_right _ _) (kf _)⟩
theorem Bd.iff {P:R} (hP:Up P) {M:Nat} (h:Bd P M) (w j:Nat):P (min w M) j↔P w j:=by
 constructor
 ·intro z
  exact hP.up z (Nat.min_le_left _ _) (kf _)
 ·intro z
  obtain ⟨v,a,b,c⟩:=h w j z
  exact hP.up c (by omega) (kf _)
noncomputable def wc (ws:List W):R:=fun w h=>1<=w/\(∀ u∈ws,u.length<=w)/\max 1 (cnt ws (w:Int))<=h
theorem WP (ws:List W):Up (wc ws):=⟨fun ⟨a,b,c⟩ x y=>⟨by omega,fun u hu=>km (b u hu) x,by
 have:=wM (ws:=ws) (v:=(_:Nat)) (v':=(_:Nat)) (Int.ofNat_le.mpr x) fun u hu=>Int.ofNat_le.mpr (b u hu)
 omega⟩,fun ⟨a,b,c⟩=>by omega⟩
noncomputable def stN (ws:List W):S:=(xL ws).map fun p=>(p.1.toNat,p.2)
theorem X1 {c:Int->Nat} {lo:Int} (h0:1<=lo):∀ k:Nat,(∀ j:Nat,j<k->c (lo+(j+1:Nat))<=c (lo+j))->(∀ j:Nat,j<=k->1<=c (lo+j)) ->
  Ok ((falls c lo k).map fun p=>(p.1.toNat,p.2))/\(∀ p∈falls c lo k,lo<=p.1/\p.1<=lo+k/\c (lo+k)<=p.2)/\∀ w h:Nat,reg ((falls c lo k).map fun p=>(p.1.toNat,p.2)) w h↔∃ j:Nat,j<=k/\lo+j<=w/\c (lo+j)<=h
 | 0,_,hp=>by
  have e0:lo+((0:Nat):Int)=lo:=Int.add_zero _
  have p0:=hp 0 (kf _)
  rw [e0] at p0
  refine ⟨⟨uW _ _,fun p hp=>?_⟩,fun p hp=>?_,fun w h=>?_⟩
  ·have hp:p=(lo.toNat,c lo):=kD.mp hp
   rw [hp]
   exact ⟨show 1<=lo.toNat by omega,p0⟩
  ·have hp:p=(lo,c lo):=kD.mp hp
   rw [hp,e0]
   exact ⟨vU _,vU _,kf _⟩
  ·constructor
   ·rintro ⟨p,hp,a,b⟩
    have hp:p=(lo.toNat,c lo):=kD.mp hp
    rw [hp] at a b
    have a:lo.toNat<=w:=a
    exact ⟨0,kf _,by omega,by rw [e0];exact b⟩
   ·rintro ⟨j,hj,a,b⟩
    have:j=0:=by omega
    subst this
    rw [e0] at a b
    exact ⟨(lo.toNat,c lo),kD.mpr rfl,show lo.toNat<=w by omega,b⟩
 | k+1,ha,hp=>by
  obtain ⟨i1,i2,i3⟩:=X1 (c:=c) (lo:=lo) h0 k (fun j hj=>ha j (by omega)) (fun j hj=>hp j (by omega))
  have hs:=ha k (uo _)
  show Ok ((if c (lo+(k+1:Nat))<c (lo+k) then falls c lo k++[(lo+(k+1:Nat),c (lo+(k+1:Nat)))] else falls c lo k).map fun p=>(p.1.toNat,p.2))/\(∀ p∈(if c (lo+(k+1:Nat))<c (lo+k) then falls c lo k++[(lo+(k+1:Nat),c (lo+(k+1:Nat)))] else falls c lo k),lo<=p.1/\p.1<=lo+(k+1:Nat)/\c (lo+(k+1:Nat))<=p.2)/\∀ w h:Nat,reg ((if c (lo+(k+1:Nat))<c (lo+k) then falls c lo k++[(lo+(k+1:Nat),c (lo+(k+1:Nat)))] else falls c lo k).map fun p=>(p.1.toNat,p.2)) w h↔∃ j:Nat,j<=k+1/\lo+j<=w/\c (lo+j)<=h
  by_cases d:c (lo+(k+1:Nat))<c (lo+k)
  ·rw [if_pos d]
   refine ⟨⟨?_,fun p hp'=>?_⟩,fun p hp'=>?_,fun w h=>?_⟩
   ·rw [kC,List.pairwise_append]
    refine ⟨i1.1,uW _ _,fun a ha' b hb=>?_⟩
    have hb:b=((lo+(k+1:Nat)).toNat,c (lo+(k+1:Nat))):=kD.mp hb
    obtain ⟨p,hp',rfl⟩:=vC.mp ha'
    have:=i2 p hp'
    rw [hb]
    exact ⟨show p.1.toNat<(lo+(k+1:Nat)).toNat by omega,show c (lo+(k+1:Nat))<p.2 by omega⟩
   ·rw [kC] at hp'
    rcases vc.mp hp' with e | e
    ·exact i1.2 p e
    ·have e:p=((lo+(k+1:Nat)).toNat,c (lo+(k+1:Nat))):=kD.mp e
     rw [e]
     exact ⟨show 1<=(lo+(k+1:Nat)).toNat by omega,hp (k+1) (kf _)⟩
   ·rcases vc.mp hp' with e | e
    ·have:=i2 p e
     exact ⟨this.1,by omega,by omega⟩
    ·rw [kD.mp e]
     exact ⟨show lo<=lo+(k+1:Nat) by omega,vU _,kf _⟩
   ·rw [kC]
    constructor
    ·rintro ⟨p,hp',a,b⟩
     rcases vc.mp hp' with e | e
     ·obtain ⟨j,x,y⟩:=(i3 w h).mp ⟨p,e,a,b⟩
      exact ⟨j,by omega,y⟩
     ·have e:p=((lo+(k+1:Nat)).toNat,c (lo+(k+1:Nat))):=kD.mp e
      rw [e] at a b
      have a:(lo+(k+1:Nat)).toNat<=w:=a
      exact ⟨k+1,kf _,by omega,b⟩
    ·rintro ⟨j,x,y,z⟩
     rcases vQ x with e | e
     ·obtain ⟨p,q1,q2⟩:=(i3 w h).mpr ⟨j,by omega,y,z⟩
      exact ⟨p,vt _ q1,q2⟩
     ·subst e
      exact ⟨((lo+(k+1:Nat)).toNat,c (lo+(k+1:Nat))),kQ _ (kD.mpr rfl),show (lo+(k+1:Nat)).toNat<=w by omega,z⟩
  ·rw [if_neg d]
   refine ⟨i1,fun p hp'=>?_,fun w h=>?_⟩
   ·have:=i2 p hp'
    exact ⟨this.1,by omega,by omega⟩
   ·rw [i3]
    constructor
    ·rintro ⟨j,x,y⟩
     exact ⟨j,by omega,y⟩
    ·rintro ⟨j,x,y,z⟩
     rcases vQ x with e | e
     ·exact ⟨j,by omega,y,z⟩
     ·subst e
      exact ⟨k,kf _,by omega,by omega⟩
theorem qT {ws:List W} {w:Nat}:(∀ u∈ws,u.length<=w)↔wid ws<=w:=by
 constructor
 ·intro h
  by_cases e:ws=[]
  ·subst e
   exact ve _
  ·obtain ⟨u,hu,e⟩:=qi e
   have:=h u hu
   omega
 ·intro h u hu
  exact km (jp hu) h
theorem zdh {ws:List W} (h1:∀ u∈ws,1<=u.length):Ok (stN ws)/\Same (reg (stN ws)) (wc ws):=by
 unfold stN xL
 by_cases e:ws=[]
 ·subst e
  rw [if_pos rfl]
  refine ⟨⟨uW _ _,fun p hp=>?_⟩,fun w h=>?_⟩
  ·have hp:p=(1,1):=kD.mp hp
   rw [hp]
   exact ⟨kf _,kf _⟩
  ·have c0:cnt [] (w:Int)=0:=uV.mp (zch [] _)
   constructor
   ·rintro ⟨p,hp,a,b⟩
    have hp:p=(1,1):=kD.mp hp
    rw [hp] at a b
    exact ⟨a,fun u hu=>(kW hu).elim,by rw [c0];exact b⟩
   ·rintro ⟨a,_,b⟩
    rw [c0] at b
    exact ⟨(1,1),kD.mpr rfl,a,b⟩
 ·rw [if_neg e]
  obtain ⟨u,hu,eu⟩:=qi e
  have w1:1<=wid ws:=by rw [<- eu];exact h1 u hu
  have wt:=jq e
  have fit:∀ v:Int,(wid ws:Int)<=v->∀ u∈ws,(u.length:Int)<=v:=fun v hv u hu=>uh (Int.ofNat_le.mpr (jp hu)) hv
  obtain ⟨k1,k2,k3⟩:=X1 (c:=cnt ws) (lo:=(wid ws:Int)) (by omega) (total ws-wid ws).toNat (fun j _=>wM (by omega) (fit _ (by omega))) (fun j _=>jA e _)
  refine ⟨k1,fun w h=>?_⟩
  rw [k3]
  constructor
  ·rintro ⟨j,x,y,z⟩
   refine ⟨by omega,qT.mpr (by omega),?_⟩
   have a:=wM (ws:=ws) (v:=(wid ws:Int)+j) (v':=(w:Int)) y (fit _ (by omega))
   have b:=jA e ((wid ws:Int)+j)
   omega
  ·rintro ⟨a,b,c⟩
   have b:=qT.mp b
   by_cases t:(w:Int)<=total ws
   ·refine ⟨w-wid ws,by omega,by omega,?_⟩
    rw [show (wid ws:Int)+((w-wid ws:Nat):Int)=(w:Int) by omega]
    omega
   ·refine ⟨(total ws-wid ws).toNat,kf _,by omega,?_⟩
    have:=jm (ws:=ws) ((wid ws:Int)+((total ws-wid ws).toNat:Int)) (by omega)
    omega
noncomputable def yp (ws:List W):Nat:=1+(ws.map fun u=>u.length+1).sum
theorem X2:∀ ws:List W,(((ws.map fun u=>u.length+1).sum:Nat):Int)=pos ws ws.length:=fun ws=>by
 rw [<- ZW]
 induction ws with
 | nil=>rfl
 | cons a r ih =>
  rw [vj,vk,vj,vk,kK]
  omega
theorem zbr (ws:List W):Bd (wc ws) (yp ws):=by
 rintro w h ⟨a,b,c⟩
 have mp:=X2 ws
 by_cases e:w<=yp ws
 ·exact ⟨w,kf _,e,a,b,c⟩
 ·have b':=qT.mp b
  refine ⟨yp ws,by omega,kf _,?_,qT.mpr ?_,?_⟩
  ·unfold yp;omega
  ·by_cases z:ws=[]
   ·subst z
    exact ve _
   ·have:=jq z
    unfold yp
    unfold total at this
    omega
  ·have:=jm (ws:=ws) ((yp ws:Nat):Int) (by unfold total yp;omega)
   omega
open _Tre
mutual
inductive HasR (Ls:List R):T->R->Prop where
 | leaf {i:Int} {P:R} (h0:0<=i) (h:Ls[i.toNat]?=some P):HasR Ls (.int i) P
 | bar {ps:List T} {P:R} {Ps:List R} (h:zT Ls ps (P::Ps)):HasR Ls (.tup [.str bar,.tup ps]) (Ps.foldl bes P)
 | dash {ps:List T} {P:R} {Ps:List R} (h:zT Ls ps (P::Ps)):HasR Ls (.tup [.str dash,.tup ps]) (Ps.foldl dwn P)
inductive zT (Ls:List R):List T->List R->Prop where
 | nil:zT Ls [] []
 | cons {t:T} {P:R} {ts:List T} {Ps:List R} (h:HasR Ls t P) (r:zT Ls ts Ps):zT Ls (t::ts) (P::Ps)
end
theorem zT.len {Ls:List R}:∀ {ts:List T} {Ps:List R},zT Ls ts Ps->ts.length=Ps.length
 | _,_,.nil=>rfl
 | _,_,.cons _ r=>by rw [kK,kK,r.len]
theorem zT.get {Ls:List R}:∀ {ts:List T} {Ps:List R} {i:Nat} {t:T},zT Ls ts Ps->ts[i]?=some t->∃ P,Ps[i]?=some P/\HasR Ls t P
 | _,_,_,_,.nil,e=>by simp at e
 | _,_,0,_,.cons h _,e=>by simp at e;subst e;exact ⟨_,rfl,h⟩
 | _,_,i+1,t,.cons _ r,e=>by
  obtain ⟨P,h1,h2⟩:=zT.get (i:=i) (t:=t) r (by simpa using e)
  exact ⟨P,by simpa using h1,h2⟩
mutual
theorem Z4 {Ls:List R}:∀ {t:T} {n:List Int},Good t n->(∀ i∈n,0<=i/\i<(Ls.length:Int))->∃ P,HasR Ls t P
 | _,_,.leaf i,h=>by
  have:=h i kw
  exact ⟨_,.leaf this.1 (kh (by omega))⟩
 | _,_,.node (k:=k) (ps:=ps) hk h2 hn hl,h=>by
  obtain ⟨Ps,hP⟩:=X3 hl h
  have ln:=hP.len
  cases Ps with
  | nil=>rw [List.length_nil] at ln;omega
  | cons P Ps =>
   rcases hk with e | e
   ·rw [e]
    exact ⟨_,.bar hP⟩
   ·rw [e]
    exact ⟨_,.dash hP⟩
theorem X3 {Ls:List R}:∀ {ts:List T} {nss:List (List Int)},zI ts nss->(∀ i∈nss.flatten,0<=i/\i<(Ls.length:Int))->∃ Ps,zT Ls ts Ps
 | _,_,.nil,_=>⟨[],.nil⟩
 | _,_,.cons h r,hn=>by
  obtain ⟨P,hP⟩:=Z4 h fun i hi=>hn i (by rw [vJ];exact vt _ hi)
  obtain ⟨Ps,hPs⟩:=X3 r fun i hi=>hn i (by rw [vJ];exact kQ _ hi)
  exact ⟨P::Ps,.cons hP hPs⟩
end
theorem qA {f:R->R->R} (hf:∀ P Q,Up P->Up Q->Up (f P Q)):∀ (Ps:List R) (P:R),Up P->(∀ Q∈Ps,Up Q)->Up (Ps.foldl f P)
 | [],P,h,_=>h
 | Q::Ps,P,h,k=>qA hf Ps (f P Q) (hf P Q h (k Q kw)) fun U hU=>k U (kq _ hU)
mutual
theorem HasR.up {Ls:List R} (hL:∀ L∈Ls,Up L):∀ {t:T} {P:R},HasR Ls t P->Up P
 | _,_,.leaf _ h=>hL _ (kZ h)
 | _,_,.bar h=>qA (fun _ _ a b=>ZC a b) _ _ (zT.up hL h _ kw) fun Q hQ=>zT.up hL h Q (kq _ hQ)
 | _,_,.dash h=>qA (fun _ _ a b=>X0 a b) _ _ (zT.up hL h _ kw) fun Q hQ=>zT.up hL h Q (kq _ hQ)
theorem zT.up {Ls:List R} (hL:∀ L∈Ls,Up L):∀ {ts:List T} {Ps:List R},zT Ls ts Ps->∀ P∈Ps,Up P
 | _,_,.nil,P,hP=>(kW hP).elim
 | _,_,.cons h r,P,hP=>by
  rcases kY.mp hP with e | e
  ·rw [e];exact HasR.up hL h
  ·exact zT.up hL r P e
end
noncomputable def Bds:List R->List Nat->Prop
 | [],[]=>True
 | P::Ps,M::Ms=>Bd P M/\Bds Ps Ms
 | _,_=>False
theorem Z5 {f:R->R->R} (hf:∀ P Q,Up P->Up Q->Up (f P Q)) (hb:∀ P Q M N,Up P->Up Q->Bd P M->Bd Q N->Bd (f P Q) (M+N)):∀ (Ps:List R) (Ms:List Nat) (P:R) (M:Nat),Up P->(∀ Q∈Ps,Up Q)->Bd P M->Bds Ps Ms->Bd (Ps.foldl f P) (M+Ms.sum)
 | [],[],P,M,_,_,b,_=>b
 | Q::Ps,N::Ms,P,M,u,us,b,⟨bq,bs⟩=>by
  have:=Z5 hf hb Ps Ms (f P Q) (M+N) (hf P Q u (us Q kw)) (fun U hU=>us U (kq _ hU)) (hb P Q M N u (us Q kw) b bq) bs
  rw [vk,<- Nat.add_assoc]
  exact this
 | [],_::_,_,_,_,_,_,z=>z.elim
 | _::_,[],_,_,_,_,_,z=>z.elim
noncomputable def many (Ms:Nat->Nat) (n:List Int):Nat:=(n.map fun i=>Ms i.toNat).sum
theorem jv (Ms:Nat->Nat):∀ nss:List (List Int),many Ms nss.flatten=(nss.map (many Ms)).sum
 | []=>rfl
 | n::nss=>by
  have:=jv Ms nss
  unfold many at *
  rw [vJ,kC,uQ,this,vj,vk]
theorem YL {i:Int} {n:List Int} (g:Good (.int i) n):n=[i]:=by
 cases g
 rfl
theorem wV {k:PySem.Str} {ps:List T} {n:List Int} (g:Good (.tup [.str k,.tup ps]) n):∃ nss,n=nss.flatten/\zI ps nss:=by
 cases g with
 | node _ _ _ h=>exact ⟨_,rfl,h⟩
theorem YM {n:List (List Int)} (g:zI [] n):n=[]:=by
 cases g
 rfl
theorem ZD {t:T} {ts:List T} {n:List (List Int)} (g:zI (t::ts) n):∃ a r,n=a::r/\Good t a/\zI ts r:=by
 cases g with
 | cons h r=>exact ⟨_,_,rfl,h,r⟩
mutual
theorem HasR.bd0 {Ls:List R} (hL:∀ L∈Ls,Up L) {Ms:Nat->Nat} (hM:∀ (i:Nat) (P:R),Ls[i]?=some P->Bd P (Ms i)):∀ {t:T} {P:R},HasR Ls t P->∀ {n:List Int},Good t n->Bd P (many Ms n)
 | _,_,.leaf (i:=i) h0 h,n,g=>by
  rw [YL g]
  show Bd _ (Ms i.toNat+0)
  exact hM _ _ h
 | _,_,.bar (P:=P) (Ps:=Ps) h,n,g=>by
  obtain ⟨nss,e,g⟩:=wV g
  have b:=zT.bd0 hL hM h g
  have u:=zT.up hL h
  rw [e,jv]
  cases nss with
  | nil=>exact b.elim
  | cons m nss =>
   rw [vj,vk]
   exact Z5 (fun _ _ a b=>ZC a b) (fun _ _ _ _ _ _ a b=>zcx a b) Ps _ P _ (u P kw) (fun Q hQ=>u Q (kq _ hQ)) b.1 b.2
 | _,_,.dash (P:=P) (Ps:=Ps) h,n,g=>by
  obtain ⟨nss,e,g⟩:=wV g
  have b:=zT.bd0 hL hM h g
  have u:=zT.up hL h
  rw [e,jv]
  cases nss with
  | nil=>exact b.elim
  | cons m nss =>
   rw [vj,vk]
   exact Z5 (fun _ _ a b=>X0 a b) (fun _ _ _ _ u v a b=>zcy u v a b) Ps _ P _ (u P kw) (fun Q hQ=>u Q (kq _ hQ)) b.1 b.2
theorem zT.bd0 {Ls:List R} (hL:∀ L∈Ls,Up L) {Ms:Nat->Nat} (hM:∀ (i:Nat) (P:R),Ls[i]?=some P->Bd P (Ms i)):∀ {ts:List T} {Ps:List R},zT Ls ts Ps->∀ {nss:List (List Int)},zI ts nss->Bds Ps (nss.map (many Ms))
 | _,_,.nil,nss,g=>by rw [YM g];exact trivial
 | _,_,.cons h r,nss,g=>by
  obtain ⟨a,b,e,g,gs⟩:=ZD g
  rw [e]
  exact ⟨HasR.bd0 hL hM h g,zT.bd0 hL hM r gs⟩
end
theorem HasR.bd {Ls:List R} (hL:∀ L∈Ls,Up L) {Ms:Nat->Nat} (hM:∀ (i:Nat) (P:R),Ls[i]?=some P->Bd P (Ms i)) {t:T} {n:List Int} {P:R} (g:Good t n) (h:HasR Ls t P):Bd P (many Ms n):=HasR.bd0 hL hM h g
noncomputable def OkS (A:S) (P:R):Prop:=Ok A/\Same (reg A) P
inductive OkSs:List S->List R->Prop where
 | nil:OkSs [] []
 | cons {A:S} {P:R} {As:List S} {Ps:List R} (h:OkS A P) (r:OkSs As Ps):OkSs (A::As) (P::Ps)
theorem OkSs.snoc:∀ {As:List S} {Ps:List R} {A:S} {P:R},OkSs As Ps->OkS A P->OkSs (As++[A]) (Ps++[P])
 | _,_,_,_,.nil,h=>.cons h .nil
 | _,_,_,_,.cons k r,h=>.cons k (OkSs.snoc r h)
theorem OkSs.get:∀ {As:List S} {Ps:List R} {i:Nat} {P:R},OkSs As Ps->Ps[i]?=some P->∃ A,As[i]?=some A/\OkS A P
 | _,_,_,_,.nil,e=>by simp at e
 | _,_,0,_,.cons h _,e=>by simp at e;subst e;exact ⟨_,rfl,h⟩
 | _,_,i+1,P,.cons _ r,e=>by
  obtain ⟨A,h1,h2⟩:=OkSs.get (i:=i) (P:=P) r (by simpa using e)
  exact ⟨A,by simpa using h1,h2⟩
theorem Zf:∀ {As:List S} {Ps:List R} {A:S} {P:R},OkSs As Ps->OkS A P->OkS (As.foldl sbs A) (Ps.foldl bes P)
 | _,_,_,_,.nil,h=>h
 | _,_,A,P,.cons (A:=B) (P:=Q) k r,h=>by
  rw [uP,uP]
  exact Zf (A:=sbs A B) (P:=bes P Q) r ⟨zcv _ _ h.1 k.1,(zbo h.1 k.1).trans (zah h.2 k.2)⟩
noncomputable def tr (P:R):R:=fun w h=>P h w
theorem OkS.exch {A:S} {P:R} (h:OkS A P):OkS (exch A) (tr P):=⟨zbp h.1,fun w k=>(zai A w k).trans (h.2 k w)⟩
theorem OkSs.exch:∀ {As:List S} {Ps:List R},OkSs As Ps->OkSs (As.map _Sta.exch) (Ps.map tr)
 | _,_,.nil=>.nil
 | _,_,.cons h r=>.cons h.exch (OkSs.exch r)
theorem WQ:∀ (Ps:List R) (P:R),tr ((Ps.map tr).foldl bes (tr P))=Ps.foldl dwn P
 | [],P=>rfl
 | Q::Ps,P=>WQ Ps (dwn P Q)
theorem zbs (A B:S):(sbs A B).length<=A.length+B.length:=by
 refine ind' (C:=fun A B=>(sbs A B).length<=A.length+B.length) (fun b=>?_) (fun a as=>?_) (fun a as b bs i1 i2 i3=>?_) A B
 ·rw [jO];exact ve _
 ·rw [qS];exact ve _
 ·rw [wQ,kK,kK,kK]
  rw [kK] at i2 i3
  split
  ·split<;>omega
  ·omega
theorem qU:∀ (As:List S) (A:S),(As.foldl sbs A).length<=A.length+(As.map List.length).sum
 | [],A=>kf _
 | B::As,A=>by
  have:=qU As (sbs A B)
  have:=zbs A B
  rw [uP,vj,vk]
  omega
theorem Zg (A:S):(exch A).length=A.length:=by
 unfold exch
 rw [ke,bz]
theorem Js (As:List S):(As.map exch).map List.length=As.map List.length:=by
 rw [v7]
 exact bx fun A _=>Zg A
end _Sta
namespace _L2
open PySem PySem.Spec PyProof.Rows
section
variable {g:TG} {tc:TT} {te:TE} {σ0:St} {H0:Hp} {R:List V->Hp->Prop} {K:Frag} {a:Addr} {xs:List V}
theorem zbt (Pv:Nat->List V->St->Hp->Prop) (h0:Pv 0 [] σ0 H0) (hz:∀ i ys σ H,i<=xs.length->Pv i ys σ H->ys.length<=sizeLine/\SqL K H a xs) (hst:∀ ys σ H,Pv xs.length ys σ H->R ys H)
  (hgo:∀ i x ys σ H,i<xs.length->xs[xs.length-1-i]?=some x->Pv i ys σ H->g x σ H fun σ2 H3=>tc σ2 H3 fun b H4=>if b=true then te σ2 H4 fun y H5=>Pv (i+1) (ys++[y]) σ2 H5 else Pv (i+1) ys σ2 H4) :
  ∃ W:Nat->Nat->List V->St->Hp->Prop,(∃ m,W 0 m [] σ0 H0)/\∀ i m ys σ' H',W i m ys σ' H' ->
   ((ItR K a xs.length).stop i H'/\ys.length<=sizeLine/\R ys H') \/
   ((ItR K a xs.length).go i H'/\ys.length<=sizeLine/\∃ N:List V->St->Hp->Prop,(∀ ys' σ2 H2,N ys' σ2 H2->∃ m',m'<m/\W (i+1) m' ys' σ2 H2) /\
     ∀ x H2,(ItR K a xs.length).yld i H' x H2->g x σ' H2 fun σ2 H3=>tc σ2 H3 fun b H4=>if b=true then te σ2 H4 fun y H5=>N (ys++[y]) σ2 H5 else N ys σ2 H4) :=
 wp (n:=xs.length) Pv h0 (fun i ys σ H hi p=>(hz i ys σ H hi p).1) (fun ys σ H p=>⟨kf _,hst ys σ H p⟩)
  fun i ys σ H hi p=>⟨⟨hi,xs,(hz i ys σ H (vI hi) p).2,rfl⟩,fun x H2 y=>by
   obtain ⟨e,y⟩:=y
   subst e
   exact hgo i x ys σ _ hi (y xs (hz i ys σ _ (vI hi) p).2) p⟩
end
noncomputable def GT (mg:Str->Option Value) (x:Str) (v:Str):Prop:=∃ t,mg x=some (.str v t)
theorem zaN {X:Cx} {x v:Str} {pos:Pos} (hg:Gl X x) (h:GT X.mg x v) (hd:(x == ("__debug__" : Str))=false:=by decide):PE X (.Name x pos) (tC (.str v)):=by
 obtain ⟨t,h⟩:=h
 exact ZP hg h ⟨t,rfl⟩ hd
end _L2
namespace _L2
open PySem
section
variable {X:Cx} {K:Frag} {tg:Expr}
theorem zak {l:Expr} {tl:TE} (hK:X.K=K) (hl:PE X l tl):PI X tg l (W7 K tl):=by
 subst hK
 exact ya hl
end
theorem Qn {X:Cx} {K:Frag} (hK:X.K=K):OpR X (compareOp .In) (rIn K false):=by
 subst hK
 exact Yr
theorem YV {X:Cx} {K:Frag} (hK:X.K=K):yM X (.type "list") (fun xs H Q=>∃ p ys,xs=[.ref p]/\(SqL K H p ys\/SqT K H p ys)/\∀ l,H l=none->Q (.ref l) (upd H l (.lst ys))):=by
 subst hK
 exact jd
end _L2
namespace _JF
open PySem _L2 _Lin _Tre PySem.W
open _Sta (R Ok sbs exch reg OkS OkSs stN)
abbrev Stc:=_Sta.S
noncomputable def JT (H:Hp) (x:V) (b:Bool):Prop:=(∃ (a:Addr) (xs:List V) (bs:List Bool),x=.ref a/\H a=some (.lst xs)/\JWs H xs bs/\xs.length<=1000/\b=(bs.all id && decide (xs.length<=40)))\/(b=false/\NoL H x)
theorem JT.same {H H':Hp} (S:Same H H') {x:V} {b:Bool} (h:JT H x b):JT H' x b:=by
 rcases h with ⟨a,xs,bs,e,h1,h2,h3,h4⟩ | ⟨e,h⟩
 ·exact .inl ⟨a,xs,bs,e,S _ _ h1,h2.same S,h3,h4⟩
 ·exact .inr ⟨e,h.same S⟩
noncomputable def JTs (H:Hp):List V->List Bool->Prop:=Paired (JT H)
theorem JTs.same {H H':Hp} (S:Same H H'):∀ {vs:List V} {bs:List Bool},JTs H vs bs->JTs H' vs bs
 | _,_,.nil=>.nil
 | _,_,.cons h t=>.cons (h.same S) (JTs.same S t)
theorem JTs.len {H:Hp} {vs:List V} {bs:List Bool} (h:JTs H vs bs):vs.length=bs.length:=Paired.length h
theorem JTs.get {H:Hp}:∀ {vs:List V} {bs:List Bool} {i:Nat} {v:V},JTs H vs bs->vs[i]?=some v->∃ b,bs[i]?=some b/\JT H v b
 | _,_,_,_,.nil,e=>by simp at e
 | _,_,0,_,.cons r _,e=>by simp at e;subst e;exact ⟨_,rfl,r⟩
 | _,_,i+1,v,.cons _ t,e=>by
  obtain ⟨p,h1,h2⟩:=JTs.get (i:=i) (v:=v) t (by simpa using e)
  exact ⟨p,by simpa using h1,h2⟩
noncomputable def Tx (H:Hp) (v:V) (ws:List W):Prop:=∃ a,v=.ref a/\H a=some (.lst (tx ws))/\(∀ u∈ws,okW u)/\ws.length<=40
theorem Tx.same {H H':Hp} (S:Same H H') {v:V} {ws:List W} (h:Tx H v ws):Tx H' v ws:=let ⟨a,e,z,r⟩:=h;⟨a,e,S _ _ z,r⟩
noncomputable def Txs (H:Hp):List V->List (List W)->Prop:=Paired (Tx H)
theorem Txs.same {H H':Hp} (S:Same H H'):∀ {vs:List V} {ts:List (List W)},Txs H vs ts->Txs H' vs ts
 | _,_,.nil=>.nil
 | _,_,.cons h t=>.cons (h.same S) (Txs.same S t)
theorem Txs.len {H:Hp} {vs:List V} {ts:List (List W)} (h:Txs H vs ts):vs.length=ts.length:=Paired.length h
theorem Txs.get {H:Hp}:∀ {vs:List V} {ts:List (List W)} {i:Nat} {v:V},Txs H vs ts->vs[i]?=some v->∃ t,ts[i]?=some t/\Tx H v t
 | _,_,_,_,.nil,e=>by simp at e
 | _,_,0,_,.cons r _,e=>by simp at e;subst e;exact ⟨_,rfl,r⟩
 | _,_,i+1,v,.cons _ t,e=>by
  obtain ⟨p,h1,h2⟩:=Txs.get (i:=i) (v:=v) t (by simpa using e)
  exact ⟨p,by simpa using h1,h2⟩
theorem Txs.snoc {H:Hp} {vs:List V} {ts:List (List W)} {v:V} {t:List W} (h:Txs H vs ts) (r:Tx H v t):Txs H (vs++[v]) (ts++[t]):=Paired.snoc h r
theorem Tx.jt {H:Hp} {v:V} {ws:List W} (h:Tx H v ws):JT H v true:=by
 obtain ⟨a,e,z,hw,l⟩:=h
 refine .inl ⟨a,_,_,e,z,j9 hw,by rw [yu];omega,?_⟩
 rw [yu,decide_eq_true l]
 simp
theorem Txs.jts {H:Hp}:∀ {vs:List V} {ts:List (List W)},Txs H vs ts->JTs H vs (vp vs.length true)
 | _,_,.nil=>.nil
 | _,_,.cons h t=>.cons h.jt (Txs.jts t)
noncomputable def StAt (H:Hp) (v:V) (p:Nat×Nat):Prop:=∃ a,v=.ref a/\H a=some (.tup [.int (p.1:Int),.int (p.2:Int)])
noncomputable def z9 (H:Hp):List V->Stc->Prop:=Paired (StAt H)
theorem StAt.same {H H':Hp} (S:Same H H') {v:V} {p:Nat×Nat} (h:StAt H v p):StAt H' v p:=let ⟨a,e,z⟩:=h;⟨a,e,S _ _ z⟩
theorem z9.same {H H':Hp} (S:Same H H'):∀ {vs:List V} {ps:Stc},z9 H vs ps->z9 H' vs ps
 | _,_,.nil=>.nil
 | _,_,.cons h t=>.cons (h.same S) (z9.same S t)
theorem z9.len {H:Hp} {vs:List V} {ps:Stc} (h:z9 H vs ps):vs.length=ps.length:=Paired.length h
theorem z9.get {H:Hp}:∀ {vs:List V} {ps:Stc} {i:Nat} {p:Nat×Nat},z9 H vs ps->ps[i]?=some p->∃ v,vs[i]?=some v/\StAt H v p
 | _,_,_,_,.nil,e=>by simp at e
 | _,_,0,_,.cons r _,e=>by simp at e;subst e;exact ⟨_,rfl,r⟩
 | _,_,i+1,p,.cons _ t,e=>by
  obtain ⟨v,h1,h2⟩:=z9.get (i:=i) (p:=p) t (by simpa using e)
  exact ⟨v,by simpa using h1,h2⟩
theorem z9.get' {H:Hp}:∀ {vs:List V} {ps:Stc} {i:Nat} {v:V},z9 H vs ps->vs[i]?=some v->∃ p,ps[i]?=some p/\StAt H v p
 | _,_,_,_,.nil,e=>by simp at e
 | _,_,0,_,.cons r _,e=>by simp at e;subst e;exact ⟨_,rfl,r⟩
 | _,_,i+1,v,.cons _ t,e=>by
  obtain ⟨p,h1,h2⟩:=z9.get' (i:=i) (v:=v) t (by simpa using e)
  exact ⟨p,by simpa using h1,h2⟩
theorem z9.snoc {H:Hp} {vs:List V} {ps:Stc} {v:V} {p:Nat×Nat} (h:z9 H vs ps) (r:StAt H v p):z9 H (vs++[v]) (ps++[p]):=Paired.snoc h r
theorem z9.upd {H:Hp} {l:Addr} {xs:List V} {o':HO} (hl:H l=some (.lst xs)):∀ {vs:List V} {ps:Stc},z9 H vs ps->z9 (upd H l o') vs ps
 | _,_,.nil=>.nil
 | _,_,.cons ⟨a,e,z⟩ t=>.cons ⟨a,e,by rw [zp (xy z hl (by intro y;cases y))];exact z⟩ (z9.upd hl t)
theorem yv.sts {H:Hp}:∀ {vs:List V} {ps:List (Int×Nat)},yv H vs ps->(∀ p∈ps,0<=p.1)->z9 H vs (ps.map fun p=>(p.1.toNat,p.2))
 | _,_,.nil,_=>.nil
 | _,_,.cons (b:=p) ⟨a,e,z⟩ t,h=>by
  refine .cons ⟨a,e,?_⟩ (yv.sts t fun p hp=>h p (kq _ hp))
  have:=h p kw
  rw [z]
  show some (HO.tup [V.int p.1,V.int (p.2:Int)])=some (HO.tup [V.int ((p.1.toNat:Nat):Int),V.int (p.2:Int)])
  rw [bA this]
noncomputable def BsAt (H0 H:Hp) (v:V) (A:Stc):Prop:=∃ l us,v=.ref l/\H0 l=none/\H l=some (.lst us)/\z9 H us A
noncomputable def yw (H0 H:Hp):List V->List Stc->Prop:=Paired (BsAt H0 H)
theorem BsAt.same {H0 H H':Hp} (S:Same H H') {v:V} {A:Stc} (h:BsAt H0 H v A):BsAt H0 H' v A:=let ⟨l,us,e,n,z,s⟩:=h;⟨l,us,e,n,S _ _ z,s.same S⟩
theorem yw.same {H0 H H':Hp} (S:Same H H'):∀ {vs:List V} {As:List Stc},yw H0 H vs As->yw H0 H' vs As
 | _,_,.nil=>.nil
 | _,_,.cons h t=>.cons (h.same S) (yw.same S t)
theorem yw.len {H0 H:Hp} {vs:List V} {As:List Stc} (h:yw H0 H vs As):vs.length=As.length:=Paired.length h
theorem yw.get {H0 H:Hp}:∀ {vs:List V} {As:List Stc} {i:Nat} {A:Stc},yw H0 H vs As->As[i]?=some A->∃ v,vs[i]?=some v/\BsAt H0 H v A
 | _,_,_,_,.nil,e=>by simp at e
 | _,_,0,_,.cons r _,e=>by simp at e;subst e;exact ⟨_,rfl,r⟩
 | _,_,i+1,p,.cons _ t,e=>by
  obtain ⟨v,h1,h2⟩:=yw.get (i:=i) (A:=p) t (by simpa using e)
  exact ⟨v,by simpa using h1,h2⟩
theorem yw.get' {H0 H:Hp}:∀ {vs:List V} {As:List Stc} {i:Nat} {v:V},yw H0 H vs As->vs[i]?=some v->∃ A,As[i]?=some A/\BsAt H0 H v A
 | _,_,_,_,.nil,e=>by simp at e
 | _,_,0,_,.cons r _,e=>by simp at e;subst e;exact ⟨_,rfl,r⟩
 | _,_,i+1,v,.cons _ t,e=>by
  obtain ⟨p,h1,h2⟩:=yw.get' (i:=i) (v:=v) t (by simpa using e)
  exact ⟨p,by simpa using h1,h2⟩
theorem yw.snoc {H0 H:Hp} {vs:List V} {As:List Stc} {v:V} {A:Stc} (h:yw H0 H vs As) (r:BsAt H0 H v A):yw H0 H (vs++[v]) (As++[A]):=Paired.snoc h r
noncomputable def X4:Sp:=fun vs H Q _=>∃ (x:V) (b:Bool),vs=[x]/\JT H x b/\∀ H',Same H H'->Q (.bl b) H'
noncomputable def Qo (C4 C6:Addr):Sp:=fun vs H Q E=>∃ (x y:V) (t:T),vs=[x,y]/\At H x t/\sz t<=1000 /\
 ((∃ (n:List Int) (a:Addr) (xs:List V) (bs:List Bool),zX t/\Good t n/\y=.ref a/\H a=some (.lst xs)/\JTs H xs bs/\xs.length<=1000/\((xs.length=n.length/\bs.all id=true/\∀ H',Same H H'->Q .non H')\/((xs.length≠n.length\/bs.all id=false)/\∀ H',Same H H'->E (.ref C6) none H'))) \/
  (zX t/\NoL H y/\∀ H',Same H H'->E (.ref C6) none H')\/(¬ zX t/\∀ H',Same H H'->E (.ref C4) none H'))
noncomputable def Qp:Sp:=fun vs H Q _=>∃ (a b:Addr) (us ws:List V) (A B:Stc),vs=[.ref a,.ref b]/\H a=some (.lst us)/\H b=some (.lst ws)/\z9 H us A/\z9 H ws B/\A.length+B.length<=1000000 /\
 ∀ (l:Addr) (rs:List V) (H':Hp),Same H H'->H l=none->H' l=some (.lst rs)->z9 H' rs (sbs A B)->Q (.ref l) H'
noncomputable def Xb:Sp:=fun vs H Q _=>∃ (a:Addr) (us:List V) (A:Stc) (As:List Stc) (H0:Hp),vs=[.ref a]/\H a=some (.lst us)/\yw H0 H us (A::As)/\Same H0 H/\A.length+(As.map List.length).sum<=1000000/\As.length<=1000 /\
 ∀ (l:Addr) (rs:List V) (H':Hp),Same H H'->H0 l=none->H' l=some (.lst rs)->z9 H' rs (As.foldl sbs A)->Q (.ref l) H'
noncomputable def ZE:Sp:=fun vs H Q _=>∃ (a:Addr) (us:List V) (A:Stc),vs=[.ref a]/\H a=some (.lst us)/\z9 H us A/\A.length<=1000000 /\
 ∀ (l:Addr) (rs:List V) (H':Hp),Same H H'->H l=none->H' l=some (.lst rs)->z9 H' rs (exch A)->Q (.ref l) H'
noncomputable def Xc:Sp:=fun vs H Q _=>∃ (a:Addr) (us:List V) (wss:List (List W)),vs=[.ref a]/\H a=some (.lst us)/\Txs H us wss/\wss.length<=1000 /\
 ∀ (l:Addr) (rs:List V) (H':Hp),Same H H'->H l=none->H' l=some (.lst rs)->yw H H' rs (wss.map stN)->Q (.ref l) H'
structure Ns (K:Frag) (mg:Str->Option Value):Prop where
 gWIDE:GI mg "WIDE" 0
 gHIGH:GI mg "HIGH" 1
 gMOST_WORDS:GI mg "MOST_WORDS" 40
 gACROSS:GT mg "ACROSS" "|"
 tl:mg "len" = none
 ti:mg "isinstance" = none
 tlist:mg "list" = none
 tall:mg "all" = none
 tmax:mg "max" = none
 trev:mg "reversed" = none
 kNl:ky K (.type "NoneType") (.type "list")=some false
 kSl:ky K (.type "str") (.type "list")=some false
 kIl:ky K (.type "int") (.type "list")=some false
 kTl:ky K (.type "tuple") (.type "list")=some false
 kDl:ky K (.type "dict") (.type "list")=some false
 kBl:ky K (.type "bool") (.type "list")=some false
theorem NoL.tyS {K:Frag} {mg:Str->Option Value} (Z:Ns K mg) {H:Hp} {x:V} (h:NoL H x):∃ t,TyX K H x t/\ky K t (.type "list")=some false:=by
 cases h with
 | non=>exact ⟨_,.of .non,Z.kNl⟩
 | bl b=>exact ⟨_,.of (.bl b),Z.kBl⟩
 | int i=>exact ⟨_,.of (.int i),Z.kIl⟩
 | str x=>exact ⟨_,.of (.str x),Z.kSl⟩
 | tup e=>exact ⟨_,.of (.tup e),Z.kTl⟩
 | dK e=>exact ⟨_,.of (.dK e),Z.kDl⟩
section
variable {P:Program} {w:World} {K:Frag} {mg:Str->Option Value} {base:Heap} {kA:Addr}
theorem zcz:zC ["thing"] ["thing"] (zg jH):=by trivial
theorem zbu {f fA:Addr} {fd dA:FuncData} (F:Fun K "is_text" "is_text" jH f fd) (Z:Ns K mg) (Ar:Callee P w K mg base CX0 3 "are_words" fA dA ["things"] YY):FnOk P w K mg base CX0 4 f fd ["thing"] X4:=by
 obtain ⟨gWIDE,gHIGH,gMOST_WORDS,gACROSS,tl,ti,tlist,tall,tmax,trev,_,_,_,_,_,_⟩:=Z
 refine F.ok zcz (fun vs H Q E h=>?_) (fun cdv A outer s H vs Q E hr h=>?_)
 ·refine E_2 h fun x b n8=>A_2 n8 fun e9 _=>?_;clear n8 h;subst e9
  rfl
 ·refine E_2 h fun x b n8=>A_3 n8 fun e9 hJ q=>?_;clear n8 h;subst e9
  refine ⟨_,(zf (zn (xt (zk Ar.ok hr rfl Ar.bound Ar.kp Ar.bd .nil zG (za (pv 0) zb)) (xJ (y0 qG (zi zy (by rfl) tl kL (za (pv 0) zb)) (z6 rfl gMOST_WORDS) (zJ _)))))),?_⟩
  rcases hJ with ⟨a,xs,bs,rfl,ha,hw,hl,rfl⟩ | ⟨rfl,hn⟩
  ·refine ⟨_,rfl,_,rfl,.inl ⟨a,xs,bs,rfl,ha,hw,hl,fun H1 S1=>⟨_,rfl,?_⟩⟩⟩
   have qq:=q H1 S1
   cases e:bs.all id with
   | false =>
    rw [e] at qq
    exact iteF qq
   | true =>
    rw [e] at qq
    refine iteT ⟨_,rfl,a,xs,rfl,.inl (SqL.of (S1 _ _ ha)),_,_,rfl,rfl,?_⟩
    have e2:decide ((xs.length:Int)<=40)=decide (xs.length<=40):=by rw [decide_eq_decide];omega
    show Q (.bl (decide ((xs.length:Int)<=40))) H1
    rw [e2]
    exact qq
  ·exact ⟨_,rfl,_,rfl,.inr ⟨hn,_,rfl,iteF (q H (Same.refl _))⟩⟩
theorem zaO:zC ["tree","texts","many"] ["tree","texts"] (zg sRTx):=by trivial
theorem zcA {f fB fI C4 C6:Addr} {fd dB dI:FuncData} (F:Fun K "refuse_no_texts" "refuse_no_texts" sRTx f fd) (Z:Ns K mg) (ex:Exc K mg "NoTexts" C6) (Bo:Callee P w K mg base (CXE P w) 7 "boxes_of" fB dB ["tree"] (Z3 C4)) (It:Callee P w K mg base CX0 4 "is_text" fI dI ["thing"] X4) :
  FnOk P w K mg base (CXE P w) 8 f fd ["tree","texts"] (Qo C4 C6):=by
 have Z0:=Z
 obtain ⟨gWIDE,gHIGH,gMOST_WORDS,gACROSS,tl,ti,tlist,tall,tmax,trev,_,_,_,_,_,_⟩:=Z
 refine F.okE zaO (fun vs H Q E h=>?_) (fun cdv A outer s H vs Q E hr hh h=>?_)
 ·refine E_3 h fun x y t n8=>A_2 n8 fun e9 _=>?_;clear n8 h;subst e9
  rfl
 ·revert h;intro n7;refine E_3 n7 fun x y t n8=>A_4 n8 fun e9 hA hz h=>?_;clear n8 n7;subst e9
  refine ⟨_,(ze (zm (i:=2) zaO.nd rfl (Or.inl rfl) (zk Bo.ok hr rfl Bo.bound Bo.kp Bo.bd .nil x6 (za (pv 0) zb)))
   (ze (zR (PW.pt (xE (yW (yi (zi yj (by rfl) ti kM (za (pv 1) (za (yU rfl tlist uw) zb))))) (xI (zF W8 (zi zy (by rfl) tl kL (za (pv 1) zb)) (pv 2) (zJ _)))))
   (zf (xP ex hh rfl (za zM zb)))
   zL)
   (zf (zR (yW (yi (zi (jg rfl) (by rfl) tall ba (za (yq (Nc:=["text"]) (ix:=[none]) rfl rfl (by refine' ya ?zz;case zz=>exact (pv 1)) (fun _ _ _ _ _=>(zo (i:=0) (by show (["text"]:List Str).Nodup;decide +kernel) rfl (Or.inl rfl))) (fun _ _ _ _ _=>yd) (fun _ _ _ _ _=>(zk It.ok (hr.mono (show 4<=7 by decide)) rfl It.bound It.kp It.bd .nil zG (za (pv 0) zb)))) zb))))
   (zf (xP ex hh rfl (za zM zb)))
   zL)))),?_⟩
  rcases h with ⟨n,a,xs,bs,iT,g,rfl,ha,hJ,hl,h⟩ | ⟨iT,hn,qe⟩ | ⟨nT,qe⟩
  ·refine ⟨_,rfl,x,t,rfl,hA,hz,.inl ⟨n,iT,g,fun H1 S1=>?_⟩⟩
   refine ⟨_,rfl,_,_,_,_,rfl,rfl,.of (.lst (S1 _ _ ha)),rfl,_,rfl,iteF ?_⟩
   refine ⟨_,rfl,a,xs,rfl,.inl (SqL.of (S1 _ _ ha)),_,rfl,rfl,_,rfl,?_⟩
   have el:(!decide (V.int (xs.length:Int)=V.int (n.length:Int)))=decide (xs.length≠n.length):=by
    by_cases e:xs.length=n.length
    ·rw [e];simp
    ·rw [decide_eq_true e,decide_eq_false fun z=>e (by injection z with z;omega)]
     rfl
   rw [el]
   by_cases en:xs.length=n.length
   ·rw [decide_eq_false (fun z=>z en)]
    refine iteF ?_
    refine zY ?_
    dsimp only
    have hJ1:=hJ.same S1
    have lb:=hJ.len
    refine ⟨_,rfl,a,rfl,⟨_,SqL.of (S1 _ _ ha)⟩,yH (K:=K) (a:=a) (xs:=xs) (fun i ys σ H'=>ys=(bs.take i).map V.bl/\Same H H'/\∃ o,σ=[o]) ⟨rfl,S1,none,rfl⟩
     (fun i ys σ H' hi h9=>by obtain ⟨e,S,_⟩:=h9;exact (⟨by rw [e,ke,kH];exact km (show _<=1000 by omega) (by decide),SqL.of (S _ _ ha)⟩)) ?_ ?_⟩
    case refine_2 =>
     rintro i v ys σ H' hx ⟨rfl,S,o,rfl⟩
     obtain ⟨b,hb,hj⟩:=hJ.get hx
     obtain ⟨hil,ev⟩:=kg.mp hb
     dsimp only [z7,tYes]
     refine iteT ?_
     refine ⟨_,rfl,v,b,rfl,hj.same S,fun H2 S2=>⟨?_,S.trans S2,_,rfl⟩⟩
     rw [<- kz hil,ev,kC]
     rfl
    rintro ys σ H2 ⟨rfl,S2,_⟩ pl npl
    rw [lb,kO]
    have S3:=S2.trans (zc (o:=.lst (bs.map V.bl)) npl)
    refine ⟨pl,bs,rfl,SqL.of zd,_,rfl,?_⟩
    rcases h with ⟨_,eb,q⟩ | ⟨eb,qe⟩
    ·rw [eb]
     exact iteF (q _ S3)
    ·rw [eb.resolve_left (fun z=>z en)]
     exact iteT ⟨Zz1,qe _ S3⟩
   ·rw [decide_eq_true en]
    rcases h with ⟨z,_⟩ | ⟨_,qe⟩
    ·exact absurd z en
    ·exact iteT ⟨Zz1,qe H1 S1⟩
  ·obtain ⟨m,gm,_⟩:=iT
   refine ⟨_,rfl,x,t,rfl,hA,hz,.inl ⟨m,⟨m,gm,‹_›⟩,gm,fun H1 S1=>?_⟩⟩
   obtain ⟨ty,h1,h2⟩:=(hn.same S1).tyS Z0
   exact ⟨_,rfl,_,_,_,_,rfl,rfl,h1,h2,_,rfl,iteT (iteT ⟨Zz1,qe H1 S1⟩)⟩
  ·exact ⟨_,rfl,x,t,rfl,hA,hz,.inr ⟨nT,qe⟩⟩
end
end _JF
namespace _JF
open PySem _L2 _Lin _Tre PySem.W
open _Sta (R Ok sbs exch reg OkS OkSs stN)
theorem YN {ws:List W} (h:∀ u∈ws,okW u):pos ws ws.length<=13*(ws.length:Int):=by
 rw [<- ZW]
 have:∀ l:List W,(∀ u∈l,okW u)->(l.map fun u=>(u.length:Int)).sum<=12*(l.length:Int):=by
  intro l
  induction l with
  | nil=>intro _;decide
  | cons a r ih =>
   intro h
   have:=ih fun u hu=>h u (kq _ hu)
   have:=(h a kw).2.1
   rw [vj,vk,kK]
   omega
 have:=this ws h
 omega
theorem WR {ws:List W} (h:∀ u∈ws,okW u) (h40:ws.length<=40):(stN ws).length<=600:=by
 unfold stN xL
 rw [ke]
 split
 ·show 1<=600
  decide
 ·have:=jo (c:=cnt ws) (lo:=(wid ws:Int)) (total ws-wid ws).toNat
  have:=YN h
  unfold total at *
  omega
theorem Xd {us:List V} {i:Nat} {v:V} (h:us[i]?=some v):atI us (i:Int)=some v:=yK h
section
variable {P:Program} {w:World} {K:Frag} {mg:Str->Option Value} {base:Heap} {kA:Addr}
theorem wW:zC ["one","other","stairs","first","second","wide","high"] ["one","other"] (zg sSbs):=by trivial
theorem zcB {f:Addr} {fd:FuncData} (F:Fun K "side_by_side" "side_by_side" sSbs f fd) (Z:Ns K mg):FnOk P w K mg base CX0 1 f fd ["one","other"] Qp:=by
 obtain ⟨gWIDE,gHIGH,gMOST_WORDS,gACROSS,tl,ti,tlist,tall,tmax,trev,_,_,_,_,_,_⟩:=Z
 refine F.ok wW (fun vs H Q E h=>?_) (fun cdv A outer s H vs Q E hr h=>?_)
 ·refine E_6 h fun a b us ws A B n8=>A_2 n8 fun e9 _=>?_;clear n8 h;subst e9
  rfl
 ·refine E_6 h fun a b us ws A1 B1 n8=>A_7 n8 fun e9 ha hb hA hB hn q=>?_;clear n8 h;subst e9
  refine ⟨_,(ze (zm (i:=2) wW.nd rfl (Or.inl rfl) (zE zb))
   (ze (zm (i:=3) wW.nd rfl (Or.inl rfl) zh)
   (ze (zm (i:=4) wW.nd rfl (Or.inl rfl) zh)
   (ze (wC PassesOwn.never (PW.pt (w9 (zF xZ (pv 3) (zi zy (by rfl) tl kL (za (pv 0) zb)) (zJ _)) (wk (zF xZ (pv 4) (zi zy (by rfl) tl kL (za (pv 1) zb)) (zJ _)))))
   (ze (zm (i:=5) wW.nd rfl (Or.inl rfl) (zj zS (zw zP (zw zV (pv 0) (pv 3) (fun _ _=>rfl)) (z6 rfl gWIDE) (fun _ _=>rfl)) (zw zP (zw zV (pv 1) (pv 4) (fun _ _=>rfl)) (z6 rfl gWIDE) (fun _ _=>rfl))))
    (ze (zm (i:=6) wW.nd rfl (Or.inl rfl) (zi (ja rfl) (by rfl) tmax uB (za (zw zP (zw zV (pv 0) (pv 3) (fun _ _=>rfl)) (z6 rfl gHIGH) (fun _ _=>rfl)) (za (zw zP (zw zV (pv 1) (pv 4) (fun _ _=>rfl)) (z6 rfl gHIGH) (fun _ _=>rfl)) zb))))
    (ze (zZ (yG kN vf vg ye (pv 2) (za (zN (za (pv 5) (za (pv 6) zb))) zb)))
    (ze (zR (zF y4 (zw zP (zw zV (pv 0) (pv 3) (fun _ _=>rfl)) (z6 rfl gHIGH) (fun _ _=>rfl)) (pv 6) (zJ _))
    (zf (QH (i:=3) wW.nd rfl (Or.inl rfl) zh QI))
    zL)
    (zf (zR (zF y4 (zw zP (zw zV (pv 1) (pv 4) (fun _ _=>rfl)) (z6 rfl gHIGH) (fun _ _=>rfl)) (pv 6) (zJ _))
    (zf (QH (i:=4) wW.nd rfl (Or.inl rfl) zh QI))
    zL)))))))
   (zf (zn (pv 2))))))),?_⟩
  have la:=hA.len
  have lb:=hB.len
  refine wq ⟨Zz0,fun l nl=>?_⟩
  have S1:=zc (o:=.lst []) nl
  have hl1:(upd H l (.lst [])) l=some (.lst []):=zd
  generalize upd H l (.lst [])=H1 at S1 hl1
  dsimp only
  refine run_seq (ZT (fun m σ H2=>∃ (i j:Nat) (out:Stc) (rs:List V) (o5 o6:Option V),m=A1.length+B1.length-(i+j)/\i<=A1.length/\j<=B1.length/\out.length<=i+j/\out++sbs (A1.drop i) (B1.drop j)=sbs A1 B1 /\
   σ=[some (.ref a),some (.ref b),some (.ref l),some (.int (i:Int)),some (.int (j:Int)),o5,o6]/\Same H H2/\H2 l=some (.lst rs)/\z9 H2 rs out) _
   ⟨0,0,[],[],none,none,rfl,ve _,ve _,kf _,rfl,rfl,S1,hl1,.nil⟩ ?_)
  intro m σ H2 h8
  refine E_6 h8 fun i j out rs o5 o6 n8=>A_9 n8 fun e9 hi hj ho eo n94 S2 hl2 hR=>?_;clear n8 h8;subst e9;subst n94
  refine ⟨(i:Int)<(us.length:Int)/\(j:Int)<(ws.length:Int),inferInstance,WI (y3 (yz (zA rfl) (xF (zA rfl) (SqL.of (S2 _ _ ha))))) (y3 (yz (zA rfl) (xF (zA rfl) (SqL.of (S2 _ _ hb))))),fun c=>?_,fun c=>?_⟩
  ·have hi':i<A1.length:=by omega
   have hj':j<B1.length:=by omega
   obtain ⟨p,ep⟩ : ∃ p,A1[i]?=some p:=⟨_,kh hi'⟩
   obtain ⟨r,er⟩ : ∃ r,B1[j]?=some r:=⟨_,kh hj'⟩
   obtain ⟨v,ev,pv,rfl,hpv⟩:=hA.get ep
   obtain ⟨u,eu,pu,rfl,hpu⟩:=hB.get er
   have dA:A1.drop i=p::A1.drop (i+1):=by rw [ud hi',(kg.mp ep).2]
   have dB:B1.drop j=r::B1.drop (j+1):=by rw [ud hj',(kg.mp er).2]
   have lr:=hR.len
   have I1:∀ {H3:Hp} {σ:St},Same H H3->σ[0]?=some (some (.ref a))->σ[3]?=some (some (.int (i:Int)))->Evl (tOp (rIxT K) (tOp (rIxL K) (tVar 0) (tVar 3)) (tC (.int 1))) σ H3 (.int (p.2:Int)):=fun S e1 e2=>yV (xq (zA e1) (zA e2) (SqL.of (S _ _ ha)) (Xd ev)) yT (SqT.of (S _ _ hpv)) rfl
   have I2:∀ {H3:Hp} {σ:St},Same H H3->σ[1]?=some (some (.ref b))->σ[4]?=some (some (.int (j:Int)))->Evl (tOp (rIxT K) (tOp (rIxL K) (tVar 1) (tVar 4)) (tC (.int 1))) σ H3 (.int (r.2:Int)):=fun S e1 e2=>yV (xq (zA e1) (zA e2) (SqL.of (S _ _ hb)) (Xd eu)) yT (SqT.of (S _ _ hpu)) rfl
   refine wo (v:=.int ((p.1:Int)+(r.1:Int))) (yz (yV (xq (zA rfl) (zA rfl) (SqL.of (S2 _ _ ha)) (Xd ev)) yT (SqT.of (S2 _ _ hpv)) rfl) (yV (xq (zA rfl) (zA rfl) (SqL.of (S2 _ _ hb)) (Xd eu)) yT (SqT.of (S2 _ _ hpu)) rfl)) ?_
   have em:(if (r.2:Int)>(p.2:Int) then (r.2:Int) else (p.2:Int))=((max p.2 r.2:Nat):Int):=by
    split<;>omega
   refine wo (v:=.int ((max p.2 r.2:Nat):Int)) (by rw [<- em];exact Yw (g:=fun i j=>.int (if j>i then j else i)) (I1 S2 rfl rfl) (I2 S2 rfl rfl)) ?_
   refine ⟨_,rfl,.inl ⟨rfl,_,SqL.of hl2⟩,_,rfl,_,rfl,Zz2,fun tp ntp=>?_⟩
   have S3:=S2.trans (zc (o:=.tup [.int ((p.1:Int)+(r.1:Int)),.int ((max p.2 r.2:Nat):Int)]) ntp)
   have htp:(upd H2 tp (.tup [.int ((p.1:Int)+(r.1:Int)),.int ((max p.2 r.2:Nat):Int)])) tp=some (.tup [.int ((p.1:Int)+(r.1:Int)),.int ((max p.2 r.2:Nat):Int)]):=zd
   have hl3:=zc (o:=.tup [.int ((p.1:Int)+(r.1:Int)),.int ((max p.2 r.2:Nat):Int)]) ntp _ _ hl2
   have hR3:=hR.same (zc (o:=.tup [.int ((p.1:Int)+(r.1:Int)),.int ((max p.2 r.2:Nat):Int)]) ntp)
   generalize upd H2 tp (.tup [.int ((p.1:Int)+(r.1:Int)),.int ((max p.2 r.2:Nat):Int)])=H3 at S3 htp hl3 hR3
   refine ⟨l,_,_,rfl,rfl,hl3,vi (show rs.length<=1000000 by omega) (by decide),?_⟩
   have S4:Same H (upd H3 l (.lst (rs++[.ref tp]))):=zU S3 nl
   have hl4:(upd H3 l (.lst (rs++[.ref tp]))) l=some (.lst (rs++[.ref tp])):=zd
   have ex:StAt H3 (.ref tp) (p.1+r.1,max p.2 r.2):=⟨tp,rfl,by rw [htp];rfl⟩
   have hR4:=(hR3.snoc ex).upd (o':=.lst (rs++[.ref tp])) hl3
   generalize upd H3 l (.lst (rs++[.ref tp]))=H4 at S4 hl4 hR4
   have lo:(out++[(p.1+r.1,max p.2 r.2)]).length=out.length+1:=by rw [ki];rfl
   have es:out++[(p.1+r.1,max p.2 r.2)]++(if p.2=max p.2 r.2 then (if r.2=max p.2 r.2 then sbs (A1.drop (i+1)) (B1.drop (j+1)) else sbs (A1.drop (i+1)) (B1.drop j)) else sbs (A1.drop i) (B1.drop (j+1)))=sbs A1 B1:=by
    rw [<- eo,dA,dB,_Sta.wQ,vZ]
    rfl
   have T1:∀ {σ:St},σ[0]?=some (some (.ref a))->σ[3]?=some (some (.int (i:Int)))->σ[6]?=some (some (.int ((max p.2 r.2:Nat):Int)))->Tst (qH (tOp rEq (tOp (rIxT K) (tOp (rIxL K) (tVar 0) (tVar 3)) (tC (.int 1))) (tVar 6))) σ H4 ((p.2:Int)=((max p.2 r.2:Nat):Int)):=fun e1 e2 e3=>y3 (WH (I1 S4 e1 e2) (zA e3))
   have T2:∀ {σ:St},σ[1]?=some (some (.ref b))->σ[4]?=some (some (.int (j:Int)))->σ[6]?=some (some (.int ((max p.2 r.2:Nat):Int)))->Tst (qH (tOp rEq (tOp (rIxT K) (tOp (rIxL K) (tVar 1) (tVar 4)) (tC (.int 1))) (tVar 6))) σ H4 ((r.2:Int)=((max p.2 r.2:Nat):Int)):=fun e1 e2 e3=>y3 (WH (I2 S4 e1 e2) (zA e3))
   refine QZ (T1 rfl rfl rfl) (fun c1=>?_) (fun c1=>?_)
   ·have c1:p.2=max p.2 r.2:=by omega
    rw [if_pos c1] at es
    refine ⟨_,rfl,_,_,rfl,rfl,?_⟩
    refine x5 (T2 rfl rfl rfl) (fun c2=>?_) (fun c2=>?_)
    ·have c2:r.2=max p.2 r.2:=by omega
     rw [if_pos c2] at es
     refine ⟨_,rfl,_,_,rfl,rfl,?_⟩
     exact ⟨_,by omega,i+1,j+1,_,_,_,_,rfl,by omega,by omega,by omega,es,rfl,S4,hl4,hR4⟩
    ·rw [if_neg (by omega)] at es
     exact ⟨_,by omega,i+1,j,_,_,_,_,rfl,by omega,by omega,by omega,es,rfl,S4,hl4,hR4⟩
   ·have c1:¬ p.2=max p.2 r.2:=by omega
    rw [if_neg c1] at es
    refine zY ?_
    dsimp only
    refine x5 (T2 rfl rfl rfl) (fun c2=>?_) (fun c2=>?_)
    ·refine ⟨_,rfl,_,_,rfl,rfl,?_⟩
     exact ⟨_,by omega,i,j+1,_,_,_,_,rfl,by omega,by omega,by omega,es,rfl,S4,hl4,hR4⟩
    ·omega
  ·have e0:sbs (A1.drop i) (B1.drop j)=[]:=by
    by_cases z:i<A1.length
    ·have:B1.drop j=[]:=List.drop_eq_nil_iff.mpr (by omega)
     rw [this,_Sta.qS]
    ·have:A1.drop i=[]:=List.drop_eq_nil_iff.mpr (by omega)
     rw [this,_Sta.jO]
   rw [e0,vW] at eo
   subst eo
   exact ⟨_,rfl,q l rs H2 S2 nl hl2 hR⟩
theorem Xe:zC ["parts","stairs","part"] ["parts"] (zg sAll):=by trivial
theorem zcC {f fS:Addr} {fd dS:FuncData} (F:Fun K "all_side_by_side" "all_side_by_side" sAll f fd) (Sb:Callee P w K mg base CX0 1 "side_by_side" fS dS ["one","other"] Qp):FnOk P w K mg base CX0 2 f fd ["parts"] Xb:=by
 refine F.ok Xe (fun vs H Q E h=>?_) (fun cdv A outer s H vs Q E hr h=>?_)
 ·refine E_5 h fun a us A As H0 n8=>A_2 n8 fun e9 _=>?_;clear n8 h;subst e9
  rfl
 ·refine E_5 h fun a us A1 As H0 n8=>A_7 n8 fun e9 ha hB S0 hn h1000 q=>?_;clear n8 h;subst e9
  refine ⟨_,(ze (zm (i:=1) Xe.nd rfl (Or.inl rfl) (zw zV (pv 0) zh (fun _ _=>rfl)))
   (ze (yr PassesOwn.never rfl (ya (yc yP (pv 0) (yg zh) yl)) (zo (i:=2) Xe.nd rfl (Or.inl rfl))
   (zf (zm (i:=1) Xe.nd rfl (Or.inl rfl) (zk Sb.ok hr rfl Sb.bound Sb.kp Sb.bd .nil zG (za (pv 1) (za (pv 2) zb))))))
   (zf (zn (pv 1))))),?_⟩
  cases hB with
  | @cons v0 _ vs _ h0 hr =>
  refine E_2 h0 fun l0 us0 n8=>A_4 n8 fun e9 n0 hl0 hs0=>?_;clear n8 h0;subst e9
  refine ⟨_,rfl,a,_,0,.ref l0,rfl,rfl,SqL.of ha,yK (j:=0) rfl,?_⟩
  have lv:=Paired.length hr
  refine run_seq ⟨_,rfl,_,rfl,a,_,rfl,SqL.of ha,fun pc nc=>?_⟩
  have ec:cutV (V.ref l0::vs) (some 1) none=vs:=yZ (V.ref l0::vs) 1 (by simp)
  rw [ec]
  have S1:=zc (o:=.lst vs) nc
  have hpc:(upd H pc (.lst vs)) pc=some (.lst vs):=zd
  generalize upd H pc (.lst vs)=H1 at S1 hpc
  refine ⟨pc,rfl,⟨_,SqL.of hpc⟩,?_⟩
  have hr:yw H0 H vs As:=hr
  refine xn (K:=K) (a:=pc) (xs:=vs) (fun i σ H2=>∃ (l:Addr) (rs:List V) (o:Option V),σ=[some (.ref a),some (.ref l),o]/\Same H1 H2/\H0 l=none/\H2 l=some (.lst rs)/\z9 H2 rs ((As.take i).foldl sbs A1))
   ⟨l0,us0,none,rfl,Same.refl _,n0,S1 _ _ hl0,hs0.same S1⟩ (fun i σ H2 _ h9=>by obtain ⟨_,_,_,_,S,_⟩:=h9;exact (SqL.of (S _ _ hpc))) ?_ ?_
  ·intro i x σ H2 hi h8
   refine E_3 h8 fun l rs o n8=>A_5 n8 fun e9 S2 nl hl hR=>?_;clear n8 h8;subst e9
   obtain ⟨B,eB,lb,bs,rfl,nb,hb,hsb⟩:=hr.get' hi
   obtain ⟨hil,ev⟩:=kg.mp eB
   refine zQ ?_
   have S12:=S1.trans S2
   have fl:=_Sta.qU (As.take i) A1
   have sum_le:((As.take i).map List.length).sum+B.length<=(As.map List.length).sum:=by
    have e:As=As.take i++B::As.drop (i+1):=by
     have:=bf i As
     rw [ud hil,ev] at this
     exact this.symm
    conv=>rhs;rw [e]
    rw [kC,uQ,vj,vk]
    omega
   refine ⟨_,rfl,_,rfl,l,lb,rs,bs,_,B,rfl,hl,S12 _ _ hb,hR,hsb.same S12,by omega,fun l3 rs3 H3 S3 nl3 hl3 hR3=>?_⟩
   refine ⟨l3,rs3,_,rfl,S2.trans S3,(S0.trans S12).free nl3,hl3,?_⟩
   rw [<- kz hil,ev,u5]
   exact hR3
  ·intro σ H2 h8
   refine E_3 h8 fun l rs o n8=>A_5 n8 fun e9 S2 nl hl hR=>?_;clear n8 h8;subst e9
   rw [lv,kO] at hR
   exact ⟨_,rfl,q l rs H2 (S1.trans S2) nl hl hR⟩
theorem zcD:zC ["stairs"] ["stairs"] (zg jI):=by trivial
theorem zbv {f:Addr} {fd:FuncData} (F:Fun K "exchanged" "exchanged" jI f fd) (Z:Ns K mg):FnOk P w K mg base CX0 1 f fd ["stairs"] ZE:=by
 obtain ⟨gWIDE,gHIGH,gMOST_WORDS,gACROSS,tl,ti,tlist,tall,tmax,trev,_,_,_,_,_,_⟩:=Z
 refine F.ok zcD (fun vs H Q E h=>?_) (fun cdv A outer s H vs Q E hr h=>?_)
 ·refine E_3 h fun a us A n8=>A_2 n8 fun e9 _=>?_;clear n8 h;subst e9
  rfl
 ·refine E_3 h fun a us A1 n8=>A_5 n8 fun e9 ha hA hn q=>?_;clear n8 h;subst e9
  refine ⟨_,(zf (zn (yq (Nc:=["wide","high"]) (ix:=[none,none]) rfl rfl (by exact (Jj rfl trev (za (pv 0) zb))) (fun _ _ _ _ _=>(qf (K:=K) (n:=2) rfl rfl (z8 (zo (i:=0) (by show (["wide","high"]:List Str).Nodup;decide +kernel) rfl (Or.inl rfl)) (z8 (zo (i:=1) (by show (["wide","high"]:List Str).Nodup;decide +kernel) rfl (Or.inl rfl)) xh)))) (fun _ _ _ _ _=>yd) (fun _ _ _ _ _=>(zN (za (pv 1) (za (pv 0) zb))))))),?_⟩
  have la:=hA.len
  refine ⟨_,rfl,a,us,rfl,SqL.of ha,zbt (K:=K) (a:=a) (xs:=us) (fun i ys σ H2=>Same H H2/\z9 H2 ys ((A1.reverse.take i).map fun p=>(p.2,p.1))/\∃ o o2,σ=[o,o2]) ⟨Same.refl _,.nil,none,none,rfl⟩
   (fun i ys σ H2 hi h9=>by obtain ⟨S,h,_⟩:=h9;exact (⟨by rw [h.len,ke,kH];exact km (show _<=1000000 by omega) (by decide),SqL.of (S _ _ ha)⟩)) ?_ ?_⟩
  case refine_2 =>
   intro i x ys σ H2 hi hx h8
   refine A_3 h8 fun S2 hY n8=>E_2 n8 fun o o2 e9=>?_;clear n8 h8;subst e9
   obtain ⟨p,ep,pa,rfl,hpa⟩:=hA.get' hx
   refine ⟨pa,_,rfl,SqT.of (S2 _ _ hpa),rfl,_,_,rfl,_,_,rfl,rfl,?_⟩
   dsimp only [z7,tYes]
   refine iteT ⟨_,rfl,_,rfl,Zz2,fun tp ntp=>?_⟩
   have S3:=zc (o:=.tup [.int (p.2:Int),.int (p.1:Int)]) ntp
   have hir:i<A1.reverse.length:=by rw [bz];omega
   have er:A1.reverse[i]=p:=by
    rw [List.getElem_reverse]
    have e2:A1[A1.length-1-i]?=some p:=by rw [<- la];exact ep
    rw [kh (by omega)] at e2
    exact Option.some.inj e2
   refine ⟨S2.trans S3,?_,_,_,rfl⟩
   rw [<- kz hir,er,kC]
   exact (hY.same S3).snoc ⟨tp,rfl,zd⟩
  rintro ys σ H2 ⟨S2,hY,_⟩ l nl
  rw [la,<- bz,kO] at hY
  exact q l ys _ (S2.trans (zc nl)) (S2.free nl) zd (hY.same (zc nl))
theorem zdi:zC ["texts"] ["texts"] (zg sBst):=by trivial
theorem zcE {f fT C:Addr} {fd dT:FuncData} (F:Fun K "box_stairs" "box_stairs" sBst f fd) (Ts:Callee P w K mg base (CXE P w) 5 "text_stairs" fT dT ["words"] (Zb C)):FnOk P w K mg base CX0 6 f fd ["texts"] Xc:=by
 refine F.ok zdi (fun vs H Q E h=>?_) (fun cdv A outer s H vs Q E hr h=>?_)
 ·refine E_3 h fun a us wss n8=>A_2 n8 fun e9 _=>?_;clear n8 h;subst e9
  rfl
 ·refine E_3 h fun a us wss n8=>A_5 n8 fun e9 ha hT hn q=>?_;clear n8 h;subst e9
  refine ⟨_,(zf (zn (yq (Nc:=["words"]) (ix:=[none]) rfl rfl (by refine' ya ?zz;case zz=>exact (pv 0)) (fun _ _ _ _ _=>(zo (i:=0) (by show (["words"]:List Str).Nodup;decide +kernel) rfl (Or.inl rfl))) (fun _ _ _ _ _=>yd) (fun _ _ _ _ _=>(zk Ts.ok hr rfl Ts.bound Ts.kp Ts.bd .nil zca (za (pv 0) zb)))))),?_⟩
  have lt:=hT.len
  refine ⟨_,rfl,a,rfl,⟨_,SqL.of ha⟩,yH (K:=K) (a:=a) (xs:=us) (fun i ys σ H2=>Same H H2/\yw H H2 ys ((wss.take i).map stN)/\∃ o,σ=[o]) ⟨Same.refl _,.nil,none,rfl⟩
   (fun i ys σ H2 hi h9=>by obtain ⟨S,h,_⟩:=h9;exact (⟨by rw [h.len,ke,kH];exact km (show _<=1000 by omega) (by decide),SqL.of (S _ _ ha)⟩)) ?_ ?_⟩
  case refine_2 =>
   intro i x ys σ H2 hx h8
   refine A_3 h8 fun S2 hY n8=>E_1 n8 fun o e9=>?_;clear n8 h8;subst e9
   obtain ⟨ws,ew,pa,rfl,hpa,hw,h40⟩:=hT.get hx
   obtain ⟨hil,ev⟩:=kg.mp ew
   dsimp only [z7,tYes]
   refine iteT ⟨_,rfl,.ref pa,rfl,.inl ⟨pa,ws,rfl,S2 _ _ hpa,hw,by omega,fun l3 us3 H3 S3 nl3 hl3 hP=>?_⟩⟩
   refine ⟨S2.trans S3,?_,_,rfl⟩
   rw [<- kz hil,ev,kC]
   refine (hY.same S3).snoc ⟨l3,us3,rfl,S2.free nl3,hl3,?_⟩
   refine hP.sts fun p hp=>?_
   unfold xL at hp
   split at hp
   ·rw [kD.mp hp]
    decide
   ·rcases jn hp with e | ⟨j,_,e,_⟩
    ·rw [e]
     exact Int.natCast_nonneg _
    ·rw [e]
     show 0<=(wid ws:Int)+((j+1:Nat):Int)
     omega
  rintro ys σ H2 ⟨S2,hY,_⟩ l nl
  rw [lt,kO] at hY
  exact q l ys _ (S2.trans (zc nl)) (S2.free nl) zd (hY.same (zc nl))
end
end _JF
namespace _Tre
theorem zI.get:∀ {ts:List T} {nss:List (List Int)} {i:Nat} {t:T},zI ts nss->ts[i]?=some t->∃ n,nss[i]?=some n/\Good t n
 | _,_,_,_,.nil,e=>by simp at e
 | _,_,0,_,.cons h _,e=>by simp at e;subst e;exact ⟨_,rfl,h⟩
 | _,_,i+1,t,.cons _ r,e=>by
  obtain ⟨n,h1,h2⟩:=zI.get (i:=i) (t:=t) r (by simpa using e)
  exact ⟨n,by simpa using h1,h2⟩
end _Tre
namespace _JF
open PySem _L2 _Lin _Tre PySem.W
open _Sta (R Ok sbs exch reg OkS OkSs stN HasR zT)
noncomputable def spSo (d:Nat):Sp:=fun vs H Q _=>∃ (x:V) (t:T) (n:List Int) (b:Addr) (bvs:List V) (As:List Stc) (Ls:List R) (P:R) (H0:Hp),vs=[x,.ref b]/\At H x t/\Good t n/\HasR Ls t P/\H b=some (.lst bvs)/\yw H0 H bvs As/\OkSs As Ls/\(∀ A∈As,A.length<=600) /\
 n.length<=24/\sz t+3<=4*d/\d<=24/\Same H0 H/\∀ (l:Addr) (us:List V) (A:Stc) (H':Hp),Same H H'->H0 l=none->H' l=some (.lst us)->z9 H' us A->OkS A P->A.length<=600*n.length->Q (.ref l) H'
noncomputable def Lvs (wss:List (List W)):List R:=wss.map _Sta.wc
noncomputable def ZF (C4 C6:Addr):Sp:=fun vs H Q E=>∃ (x y:V) (t:T),vs=[x,y]/\At H x t/\sz t<=1000 /\
 ((∃ (n:List Int) (a:Addr) (xs:List V) (wss:List (List W)),zX t/\Good t n/\y=.ref a/\H a=some (.lst xs)/\Txs H xs wss/\xs.length=n.length /\
   ∀ (P:R) (l:Addr) (us:List V) (A:Stc) (H':Hp),HasR (Lvs wss) t P->Same H H'->H l=none->H' l=some (.lst us)->z9 H' us A->OkS A P->A.length<=15000->Q (.ref l) H') \/
 (∃ (n:List Int) (a:Addr) (xs:List V) (bs:List Bool),zX t/\Good t n/\y=.ref a/\H a=some (.lst xs)/\JTs H xs bs/\xs.length<=1000/\(xs.length≠n.length\/bs.all id=false)/\∀ H',Same H H'->E (.ref C6) none H') \/
 (zX t/\NoL H y/\∀ H',Same H H'->E (.ref C6) none H')\/(¬ zX t/\∀ H',Same H H'->E (.ref C4) none H'))
theorem YO {wss:List (List W)} (h:∀ ws∈wss,∀ u∈ws,okW u):OkSs (wss.map stN) (Lvs wss):=by
 unfold Lvs
 induction wss with
 | nil=>exact .nil
 | cons a r ih=>exact .cons (_Sta.zdh fun u hu=>(h a kw u hu).1) (ih fun ws hw=>h ws (kq _ hw))
theorem wX (wss:List (List W)):∀ L∈Lvs wss,_Sta.Up L:=fun L hL=>by
 obtain ⟨ws,_,rfl⟩:=vC.mp hL
 exact _Sta.WP ws
theorem qC:∀ {nss:List (List Int)} {n:List Int},n∈nss->n.length<=nss.flatten.length
 | a::r,n,h=>by
  rw [vJ,ki]
  rcases kY.mp h with e | e
  ·rw [e];omega
  ·have:=qC e
   omega
theorem Jt:∀ {L:List Stc} {B:Stc},B∈L->B.length<=(L.map List.length).sum
 | a::r,B,h=>by
  rw [vj,vk]
  rcases kY.mp h with e | e
  ·rw [e];omega
  ·have:=Jt e
   omega
theorem Txs.okw {H:Hp}:∀ {vs:List V} {ts:List (List W)},Txs H vs ts->∀ ws∈ts,∀ u∈ws,okW u
 | _,_,.nil,ws,h=>(kW h).elim
 | _,_,.cons h t,ws,hw=>by
  rcases kY.mp hw with e | e
  ·rw [e]
   obtain ⟨_,_,_,z,_⟩:=h
   exact z
  ·exact Txs.okw t ws e
theorem Txs.ok40 {H:Hp}:∀ {vs:List V} {ts:List (List W)},Txs H vs ts->∀ ws∈ts,ws.length<=40
 | _,_,.nil,ws,h=>(kW h).elim
 | _,_,.cons h t,ws,hw=>by
  rcases kY.mp hw with e | e
  ·rw [e]
   obtain ⟨_,_,_,_,z⟩:=h
   exact z
  ·exact Txs.ok40 t ws e
theorem wR:(dash:Str)≠bar:=by decide +kernel
section
variable {P:Program} {w:World} {K:Frag} {mg:Str->Option Value} {base:Heap} {kA:Addr}
theorem scSo:zC ["tree","boxes","parts"] ["tree","boxes"] (zg sSo):=by trivial
theorem zcF {f:Addr} {fd:FuncData} (F:Fun K "stairs_of" "stairs_of" sSo f fd):FnOk P w K mg base CX0 3 f fd ["tree","boxes"] (spSo 0):=by
 refine F.ok scSo (fun vs H Q E h=>?_) (fun cdv A outer s H vs Q E hr h=>?_)
 ·refine E_9 h fun x t n b bvs As Ls P H0 n8=>A_2 n8 fun e9 _=>?_;clear n8 h;subst e9
  rfl
 ·refine E_9 h fun x t n b bvs As Ls P H0 n8=>A_11 n8 fun e9 _ _ _ _ _ _ _ _ hz _=>?_;clear n8 h;subst e9
  omega
theorem zcG {f fW fA fX:Addr} {fd dW dA dX:FuncData} {d:Nat} (F:Fun K "stairs_of" "stairs_of" sSo f fd) (gKIND:GI mg "KIND" 0) (gPARTS:GI mg "PARTS" 1) (Z:Ns K mg) (Wo:Callee P w K mg base CX0 1 "is_whole" fW dW ["thing"] y8)
  (Al:Callee P w K mg base CX0 2 "all_side_by_side" fA dA ["parts"] Xb) (Ex:Callee P w K mg base CX0 1 "exchanged" fX dX ["stairs"] ZE) (So:Callee P w K mg base CX0 (d+3) "stairs_of" f fd ["tree","boxes"] (spSo d)):FnOk P w K mg base CX0 (d+4) f fd ["tree","boxes"] (spSo (d+1)):=by
 obtain ⟨gWIDE,gHIGH,gMOST_WORDS,gACROSS,tl,ti,tlist,tall,tmax,trev,_,_,_,_,_,_⟩:=Z
 refine F.ok scSo (fun vs H Q E h=>?_) (fun cdv A outer s H vs Q E hr h=>?_)
 ·refine E_9 h fun x t n b bvs As Ls P H0 n8=>A_2 n8 fun e9 _=>?_;clear n8 h;subst e9
  rfl
 ·refine E_9 h fun x t n b bvs As Ls P1 H0 n8=>A_13 n8 fun e9 hA g hR hb hB hO h600 n24 hz hd S0 q=>?_;clear n8 h;subst e9
  refine ⟨_,(ze (zR (yi (zk Wo.ok (hr.mono (by omega)) rfl Wo.bound Wo.kp Wo.bd .nil zG (za (pv 0) zb)))
   (zf (zn (zw zV (pv 1) (pv 0) (fun _ _=>rfl))))
   zL)
   (ze (xR (i:=2) (Nc:=["part","boxes"]) (ix:=[none,some 1]) scSo.nd rfl (Or.inl rfl) rfl rfl (by exact (wD (zw zP (pv 0) (z6 rfl gPARTS) (fun _ _=>rfl)))) (fun _ _ _ _ _=>(zo (i:=0) (by show (["part","boxes"]:List Str).Nodup;decide +kernel) rfl (Or.inl rfl))) (fun _ _ _ _ _=>yd) (fun _ _ _ _ _=>(zk So.ok hr rfl So.bound So.kp So.bd .nil zG (za (pv 0) (za (pv 1) zb)))))
   (ze (zR (zF y4 (zw zP (pv 0) (z6 rfl gKIND) (fun _ _=>rfl)) (zaN rfl gACROSS) (zJ _))
   (zf (zn (zk Al.ok (hr.mono (by omega)) rfl Al.bound Al.kp Al.bd .nil zG (za (pv 2) zb))))
   zL)
   (zf (zn (zk Ex.ok (hr.mono (by omega)) rfl Ex.bound Ex.kp Ex.bd .nil zG (za (zk Al.ok (hr.mono (by omega)) rfl Al.bound Al.kp Al.bd .nil zG (za (yq (Nc:=["part"]) (ix:=[none]) rfl rfl (by refine' ya ?zz;case zz=>exact (pv 2)) (fun _ _ _ _ _=>(zo (i:=0) (by show (["part"]:List Str).Nodup;decide +kernel) rfl (Or.inl rfl))) (fun _ _ _ _ _=>yd) (fun _ _ _ _ _=>(zk Ex.ok (hr.mono (by omega)) rfl Ex.bound Ex.kp Ex.bd .nil zG (za (pv 0) zb)))) zb)) zb))))))),?_⟩
  refine ⟨_,rfl,x,t,rfl,hA,_,rfl,?_⟩
  cases g with
  | leaf i =>
   cases hA
   cases hR with
   | leaf h0 hL =>
   obtain ⟨A1,eA,oA⟩:=hO.get hL
   obtain ⟨v,ev,l,us,rfl,nl,hl,hs⟩:=hB.get eA
   have ati:atI bvs i=some (.ref l):=by
    have:=yK ev
    rwa [bA h0] at this
   refine iteT ⟨_,rfl,_,rfl,b,_,_,_,rfl,rfl,SqL.of hb,ati,q l us A1 H (Same.refl _) nl hl hs oA ?_⟩
   have:=h600 A1 (kZ eA)
   show A1.length<=600*1
   omega
  | @node k ps nss hk h2 hn hG =>
   cases hA with
   | @tup a0 vs0 ss e hL =>
   obtain ⟨b0,ws,rfl,e2,hQ⟩:=hL.knot
   have lq:=hQ.len
   have nsz:=yL k ps
   have lps:=y9 ps
   refine iteF ?_
   refine zY ?_
   dsimp only
   obtain ⟨P0,Ps,hRL,eP⟩ : ∃ P0 Ps,zT Ls ps (P0::Ps)/\((k=bar/\P1=Ps.foldl _Sta.bes P0)\/(k=dash/\P1=Ps.foldl _Sta.dwn P0)):=by
    cases hR with
    | bar h=>exact ⟨_,_,h,.inl ⟨rfl,rfl⟩⟩
    | dash h=>exact ⟨_,_,h,.inr ⟨rfl,rfl⟩⟩
   have lP:=hRL.len
   have lG:=hG.len
   refine ⟨_,rfl,a0,_,_,_,rfl,rfl,SqT.of e,rfl,b0,rfl,⟨_,SqT.of e2⟩,qd (K:=K) (a:=b0) (xs:=ws) (fun i ys σ H'=>∃ Bs:List Stc,yw H0 H' ys Bs/\OkSs Bs ((P0::Ps).take i)/\Bs.length=i/\(Bs.map List.length).sum<=600*(nss.take i).flatten.length/\Same H H'/\∃ o,σ=[o,some (.ref b)]) ⟨[],.nil,.nil,rfl,kf _,Same.refl _,none,rfl⟩
    (fun i ys σ H' hi h9=>by obtain ⟨Bs,h1,_,l1,_,S3,_⟩:=h9;exact (⟨by rw [h1.len,l1];exact km (show i<=1000000 by omega) (by decide),SqT.of (S3 _ _ e2)⟩)) ?_ ?_⟩
   case refine_2 =>
    intro i y ys σ H1 hy h8
    obtain ⟨Bs,hBs,oBs,lB,sB,S1,o,rfl⟩:=h8
    obtain ⟨p,ep,hAp⟩:=hQ.get hy
    obtain ⟨hil,ev⟩:=kg.mp ep
    have pm:p∈ps:=kZ ep
    obtain ⟨np,enp,gp⟩:=hG.get ep
    obtain ⟨hin,evn⟩:=kg.mp enp
    obtain ⟨Pp,ePp,hPp⟩:=hRL.get ep
    obtain ⟨hip,evp⟩:=kg.mp ePp
    have two:=ZB h2 pm
    have ln:=qC (kZ enp)
    dsimp only [z7,tYes]
    refine iteT ?_
    refine ⟨_,rfl,_,rfl,y,p,np,b,bvs,As,Ls,Pp,H0,rfl,hAp.same S1,gp,hPp,S1 _ _ hb,hB.same S1,hO,h600,by omega,by omega,by omega,S0.trans S1,fun l us A1 H2 S2 nl hl hs oA lA=>?_⟩
    refine ⟨Bs++[A1],(hBs.same S2).snoc ⟨l,us,rfl,nl,hl,hs⟩,?_,by rw [ki,lB];rfl,?_,S1.trans S2,_,rfl⟩
    ·rw [<- kz hip,evp]
     exact oBs.snoc oA
    ·rw [<- kz hin,evn,vT,ki,kC,uQ]
     simp only [vJ,List.flatten_nil,vW,vj,List.map_nil,vk,List.sum_nil]
     omega
   rintro ys σ H1 ⟨Bs,hBs,oBs,lB,sB,S1,_⟩ pl npl
   rw [lq,lP,kO] at oBs
   rw [lq,<- lG,kO] at sB
   have S2:=S1.trans (zc (o:=.lst ys) npl)
   have hpl:(upd H1 pl (.lst ys)) pl=some (.lst ys):=zd
   have hBs2:=hBs.same (zc (o:=.lst ys) npl)
   generalize upd H1 pl (.lst ys)=H2 at S2 hpl hBs2
   clear hBs
   cases oBs with
   | @cons B0 _ Br _ o0 oR =>
   rw [vj,vk] at sB
   rw [kK] at lB
   try dsimp only
   refine ⟨_,rfl,a0,_,_,_,rfl,rfl,SqT.of (S2 _ _ e),rfl,rfl,_,rfl,?_⟩
   have ek:decide (V.str k=V.str "|")=decide (k=bar):=by
    rw [decide_eq_decide]
    exact ⟨fun z=>by injection z,fun z=>by rw [z];rfl⟩
   rw [ek]
   rcases eP with ⟨rfl,rfl⟩ | ⟨rfl,rfl⟩
   ·rw [decide_eq_true rfl]
    refine iteT ⟨_,rfl,pl,ys,B0,Br,H0,rfl,hpl,hBs2,S0.trans S2,by omega,by omega,fun l rs H3 S3 nl hl hs=>?_⟩
    have fl:=_Sta.qU Br B0
    exact q l rs _ H3 (S2.trans S3) nl hl hs (_Sta.Zf oR o0) (by omega)
   ·rw [decide_eq_false wR]
    refine iteF ?_
    refine zY ?_
    dsimp only
    refine ⟨_,rfl,pl,rfl,⟨_,SqL.of hpl⟩,yH (K:=K) (a:=pl) (xs:=ys) (fun i zs σ H'=>yw H0 H' zs (((B0::Br).take i).map exch)/\Same H2 H'/\∃ o,σ=[o]) ⟨.nil,Same.refl _,none,rfl⟩
     (fun i zs σ H' hi h9=>by obtain ⟨h1,S3,_⟩:=h9;exact (⟨by rw [h1.len,ke,kH,kK];exact km (show _<=1000000 by omega) (by decide),SqL.of (S3 _ _ hpl)⟩)) ?_ ?_⟩
    case refine_2 =>
     intro i y zs σ H3 hy h8
     refine A_3 h8 fun hZ S3 n8=>E_1 n8 fun o e9=>?_;clear n8 h8;subst e9
     obtain ⟨B,eB,lb,us,rfl,nb,hlb,hsb⟩:=hBs2.get' hy
     obtain ⟨hil,ev⟩:=kg.mp eB
     have lB':B.length<=1000000:=by
      have m:B∈B0::Br:=kZ eB
      have:=Jt m
      rw [vj,vk] at this
      omega
     dsimp only [z7,tYes]
     refine iteT ⟨_,rfl,lb,us,B,rfl,S3 _ _ hlb,hsb.same S3,lB',fun l rs H4 S4 nl hl hs=>⟨?_,S3.trans S4,_,rfl⟩⟩
     rw [<- kz hil,ev,kC]
     exact (hZ.same S4).snoc ⟨l,rs,rfl,(S0.trans (S2.trans S3)).free nl,hl,hs⟩
    rintro zs σ H3 ⟨hZ,S3,_⟩ pz npz
    have ly:=hBs2.len
    rw [ly,kO,vj] at hZ
    have S4:=S3.trans (zc (o:=.lst zs) npz)
    have hpz:(upd H3 pz (.lst zs)) pz=some (.lst zs):=zd
    have hZ4:=hZ.same (zc (o:=.lst zs) npz)
    generalize upd H3 pz (.lst zs)=H4 at S4 hpz hZ4
    have el:(exch B0).length+((Br.map exch).map List.length).sum=B0.length+(Br.map List.length).sum:=by rw [_Sta.Zg,_Sta.Js]
    refine I_5 pz zs (exch B0) (Br.map exch) H0 ⟨rfl,hpz,hZ4,S0.trans (S2.trans S4),by omega,by rw [ke];omega,fun l rs H5 S5 nl hl hs=>?_⟩
    have fl:=_Sta.qU (Br.map exch) (exch B0)
    refine ⟨l,rs,_,rfl,hl,hs,by omega,fun l2 rs2 H6 S6 nl2 hl2 hs2=>?_⟩
    have o1:=(_Sta.Zf oR.exch o0.exch).exch
    rw [_Sta.WQ] at o1
    exact q l2 rs2 _ H6 (S2.trans (S4.trans (S5.trans S6))) ((S0.trans (S2.trans (S4.trans S5))).free nl2) hl2 hs2 o1 (by rw [_Sta.Zg];omega)
theorem zaP {f fW fA fX:Addr} {fd dW dA dX:FuncData} (F:Fun K "stairs_of" "stairs_of" sSo f fd) (gKIND:GI mg "KIND" 0) (gPARTS:GI mg "PARTS" 1) (Z:Ns K mg) (Wo:Callee P w K mg base CX0 1 "is_whole" fW dW ["thing"] y8)
  (Al:Callee P w K mg base CX0 2 "all_side_by_side" fA dA ["parts"] Xb) (Ex:Callee P w K mg base CX0 1 "exchanged" fX dX ["stairs"] ZE) (bo:mg "stairs_of" = some (.ref f)) (kp:kE K (.ref f)=true) (bd:Binds K fd ["tree","boxes"] []):∀ d,FnOk P w K mg base CX0 (d+3) f fd ["tree","boxes"] (spSo d)
 | 0=>zcF F
 | d+1=>zcG F gKIND gPARTS Z Wo Al Ex ⟨zaP F gKIND gPARTS Z Wo Al Ex bo kp bd d,bo,kp,bd⟩
theorem zdj:zC ["tree","texts"] ["tree","texts"] (zg sTst):=by trivial
theorem zcH {f fR fS fB C4 C6:Addr} {fd dR dS dB:FuncData} (F:Fun K "tree_stairs" "tree_stairs" sTst f fd) (Rt:Callee P w K mg base (CXE P w) 8 "refuse_no_texts" fR dR ["tree","texts"] (Qo C4 C6)) (So:Callee P w K mg base CX0 27 "stairs_of" fS dS ["tree","boxes"] (spSo 24))
  (Bs:Callee P w K mg base CX0 6 "box_stairs" fB dB ["texts"] Xc):FnOk P w K mg base (CXE P w) 28 f fd ["tree","texts"] (ZF C4 C6):=by
 refine F.okE zdj (fun vs H Q E h=>?_) (fun cdv A outer s H vs Q E hr hh h=>?_)
 ·refine E_3 h fun x y t n8=>A_2 n8 fun e9 _=>?_;clear n8 h;subst e9
  rfl
 ·revert h;intro n7;refine E_3 n7 fun x y t n8=>A_4 n8 fun e9 hA hz h=>?_;clear n8 n7;subst e9
  refine ⟨_,(ze (zZ (zk Rt.ok (hr.mono (by decide)) rfl Rt.bound Rt.kp Rt.bd .nil x6 (za (pv 0) (za (pv 1) zb))))
   (zf (zn (zk So.ok hr rfl So.bound So.kp So.bd .nil zG (za (pv 0) (za (zk Bs.ok (hr.mono (by decide)) rfl Bs.bound Bs.kp Bs.bd .nil zG (za (pv 1) zb)) zb)))))),?_⟩
  rcases h with ⟨n,a,xs,wss,iT,g,rfl,ha,hT,hl,q⟩ | ⟨n,a,xs,bs,iT,g,rfl,ha,hJ,hl,hb,qe⟩ | ⟨iT,hn,qe⟩ | ⟨nT,qe⟩
  ·have n24:=(iT.okN g).2
   have okn:=(iT.okN g).1
   refine ⟨_,rfl,_,rfl,x,.ref a,t,rfl,hA,hz,.inl ⟨n,a,xs,_,iT,g,rfl,ha,hT.jts,by omega,.inl ⟨hl,by simp,fun H1 S1=>?_⟩⟩⟩
   have lw:=hT.len
   have okw:=hT.okw
   have ok40:=hT.ok40
   refine ⟨_,rfl,_,rfl,a,xs,wss,rfl,S1 _ _ ha,hT.same S1,by omega,fun lb rs H2 S2 nlb hlb hBs=>?_⟩
   have rng:∀ i∈n,0<=i/\i<((Lvs wss).length:Int):=fun i hi=>by
    obtain ⟨y,gy,l24,py⟩:=iT
    have e:=Good.uniq g gy
    subst e
    have:=py.mem_iff.mp hi
    unfold up at this
    obtain ⟨j,hj,rfl⟩:=vC.mp this
    have:=vO.mp hj
    unfold Lvs
    rw [ke]
    omega
   obtain ⟨P1,hP⟩:=_Sta.Z4 g rng
   have hsz:=g.szN
   refine I_9 x t n lb rs (wss.map stN) (Lvs wss) P1 H1 ⟨rfl,hA.same (S1.trans S2),g,hP,hlb,hBs,YO okw,fun A hA=>?_,n24,by omega,by decide,S2,fun l us A1 H3 S3 nl hl hs oA lA=>?_⟩
   ·obtain ⟨ws,hw,rfl⟩:=vC.mp hA
    exact WR (okw ws hw) (ok40 ws hw)
   ·exact q P1 l us A1 H3 hP (S1.trans (S2.trans S3)) (S1.free nl) hl hs oA (by omega)
  ·exact ⟨_,rfl,_,rfl,x,.ref a,t,rfl,hA,hz,.inl ⟨n,a,xs,bs,iT,g,rfl,ha,hJ,hl,.inr ⟨hb,qe⟩⟩⟩
  ·exact ⟨_,rfl,_,rfl,x,y,t,rfl,hA,hz,.inr (.inl ⟨iT,hn,qe⟩)⟩
  ·exact ⟨_,rfl,_,rfl,x,y,t,rfl,hA,hz,.inr (.inr ⟨nT,qe⟩)⟩
end
end _JF
namespace _L2
open PySem PySem.Spec PyProof.Rows
abbrev xx (h:Heap) (z TI TO T:Addr) (f:Bool):Prop :=
 h.get? z=some {cls:=.type "zip",dict:=none,data:=.fields #[rawInt T,.bool f,.bool false,.ref TI,.ref TO],slots:=#[]}
section
variable {prog:Program} {w:World} {A:Around} {E:Value->Shared->Prop} {s:Shared}
theorem zal {a:Addr} {o:Obj} {Q:Option Obj->Shared->Prop} (ho:s.heap.get? a=some o) (h:Q (some o) s):wpAny (model prog w) A (loadIfAlive a) Q E s:=by
 have h':Q (s.heap.get? a) s:=by rw [ho];exact h
 exact fun _ _ _=>h'
theorem X5 {z TI TO T:Addr} {f:Bool} {oT:Obj} {Q:Bool->Shared->Prop} (hz:xx s.heap z TI TO T f) (hT:s.heap.get? T=some oT)
  (hQ:∀ h',xx h' z TI TO T true->Heap.SameBut z s.heap h'->Q false {s with heap:=h'}):wpAny (model prog w) A (Builtin.SmallTypes.ownedTupleIsFree (.ref z)) Q E s:=by
 unfold Builtin.SmallTypes.ownedTupleIsFree
 refine wpAny_bind (wpAny_field hz rfl (x:=rawInt T) rfl ?_)
 show wpAny _ _ (loadIfAlive ((T:Int).toNat) >>= _) _ _ _
 rw [uY]
 refine wpAny_bind (zal hT ?_)
 show wpAny _ _ (if (some oT).isNone=true then _ else _) _ _ _
 rw [if_neg (by simp)]
 refine wpAny_bind (wpAny_field hz rfl (x:=.bool f) rfl ?_)
 dsimp only
 cases f with
 | true =>
  rw [if_neg (by decide)]
  exact wpAny_pure (hQ s.heap hz ⟨rfl,fun _ _=>rfl⟩)
 | false =>
  rw [if_pos (by decide)]
  refine wpAny_bind (wpAny_setField_rec hz (by simp) fun h₁ hz₁ hs₁=>wpAny_pure ?_)
  exact hQ h₁ hz₁ hs₁
theorem YW {z TI TO T i1 i2 l1 l2:Addr} {f:Bool} {oT:Obj} {k1 k2:Nat} {xs ys:Array Value} {x y a b:Value} {Q:Value->Shared->Prop} (D:ZipApart z TI TO i1 i2 l1 l2)
  (hz:xx s.heap z TI TO T f) (hT:s.heap.get? T=some oT) (hTI:IsPair s.heap TI (.ref i1) (.ref i2))
  (h1:s.heap.IsListIter i1 l1 k1) (h2:s.heap.IsListIter i2 l2 k2) (hl1:s.heap.IsList l1 xs) (hl2:s.heap.IsList l2 ys) (hx:xs[k1]?=some x) (hy:ys[k2]?=some y)
  (hQ:∀ h',xx h' z TI TO T true->h'.IsListIter i1 l1 (k1+1)->h'.IsListIter i2 l2 (k2+1)->IsPair h' s.heap.objs.size x y->h'.objs.size=s.heap.objs.size+1 ->
   (∀ c o,c≠z->c≠i1->c≠i2->s.heap.get? c=some o->h'.get? c=some o)->Q (.ref s.heap.objs.size) {s with heap:=h'}) :
  wpAny (model prog w) A (Builtin.«zip.__next__» ⟨[.ref z],[]⟩) (fun fin s'=>∃ v,fin=.done (.ret v)/\Q v s') E s:=by
 show wpAny _ _ (field (.ref z) 2 >>= _) _ _ _
 refine wpAny_bind (wpAny_field hz rfl (x:=.bool false) rfl ?_)
 show wpAny _ _ (field (.ref z) 3 >>= _) _ _ _
 refine wpAny_bind (wpAny_field hz rfl (x:=.ref TI) rfl ?_)
 refine wpAny_bind (wpAny_seqItems hTI rfl ?_)
 show wpAny _ _ (Builtin.SmallTypes.ownedTupleIsFree (.ref z) >>= _) _ _ _
 refine wpAny_bind (X5 hz hT fun h₁ hz₁ hs₁=>?_)
 simp only [uv,if_false]
 refine wpAny_bind ?_
 simp only [List.forIn_toArray,uz,bF]
 refine wpAny_bind (wpAny_bind (wpAny_holding ?_))
 show wpAny _ _ (Builtin.SmallTypes.nextOf (.ref i1) >>= _) _ _ _
 refine wpAny_bind (wpAny_nextOf_list_item (h1.extBut hs₁.extBut D.i1z) (hl1.extBut hs₁.extBut D.l1z) hx fun h₂ h1₂ hs₂=>wpAny_pure ?_)
 refine wpAny_pure ?_
 refine wpAny_bind (wpAny_bind (wpAny_holding ?_))
 show wpAny _ _ (Builtin.SmallTypes.nextOf (.ref i2) >>= _) _ _ _
 refine wpAny_bind (wpAny_nextOf_list_item ((h2.extBut hs₁.extBut D.i2z).extBut hs₂.extBut D.i12.symm)
  ((hl2.extBut hs₁.extBut D.l2z).extBut hs₂.extBut D.l2i1) hy fun h₃ h2₃ hs₃=>wpAny_pure ?_)
 refine wpAny_pure (wpAny_pure ?_)
 refine wpAny_bind (wpAny_newTuple ?_ (hsz:=Zz2))
 have hsz:h₃.objs.size=s.heap.objs.size:=by rw [hs₃.1,hs₂.1,hs₁.1]
 have hz₃:xx h₃ z TI TO T true:=hs₃.extBut _ _ D.i2z.symm (hs₂.extBut _ _ D.i1z.symm hz₁)
 refine wpAny_pure ⟨_,rfl,?_⟩
 show Q (.ref h₃.objs.size) _
 rw [hsz]
 refine hQ _ (Heap.get?_push_of_some _ hz₃) ((h1₂.extBut hs₃.extBut D.i12).at fun o e=>Heap.get?_push_of_some _ e) (h2₃.at fun o e=>Heap.get?_push_of_some _ e) ?_ (by rw [Heap.size_push,hsz]) fun c o c1 c3 c4 e=>Heap.get?_push_of_some _ (hs₃.extBut _ _ c4 (hs₂.extBut _ _ c3 (hs₁.extBut _ _ c1 e)))
 rw [<- hsz]
 exact Heap.get?_push_size _ rfl
theorem X6 {z TI TO T i1 i2 l1 l2:Addr} {f:Bool} {oT:Obj} {k1 k2:Nat} {xs ys:Array Value} {Q:Fin->Shared->Prop} (hh:A.handled=none) (D:ZipApart z TI TO i1 i2 l1 l2)
  (hz:xx s.heap z TI TO T f) (hT:s.heap.get? T=some oT) (hTI:IsPair s.heap TI (.ref i1) (.ref i2))
  (h1:s.heap.IsListIter i1 l1 k1) (hl1:s.heap.IsList l1 xs) (hend:xs[k1]?=none)
  (hE:∀ h' e,(∀ c o,c≠z->c≠i1->s.heap.get? c=some o->h'.get? c=some o)->(∃ o,h'.get? e=some o/\o.cls=.type "StopIteration")->E (.ref e) {s with heap:=h'}) :
  wpAny (model prog w) A (Builtin.«zip.__next__» ⟨[.ref z],[]⟩) Q E s:=by
 show wpAny _ _ (field (.ref z) 2 >>= _) _ _ _
 refine wpAny_bind (wpAny_field hz rfl (x:=.bool false) rfl ?_)
 show wpAny _ _ (field (.ref z) 3 >>= _) _ _ _
 refine wpAny_bind (wpAny_field hz rfl (x:=.ref TI) rfl ?_)
 refine wpAny_bind (wpAny_seqItems hTI rfl ?_)
 show wpAny _ _ (Builtin.SmallTypes.ownedTupleIsFree (.ref z) >>= _) _ _ _
 refine wpAny_bind (X5 hz hT fun h₁ hz₁ hs₁=>?_)
 simp only [uv,if_false]
 refine wpAny_bind ?_
 simp only [List.forIn_toArray,uz,bF]
 refine wpAny_bind (wpAny_bind (wpAny_holding ?_))
 show wpAny _ _ (Builtin.SmallTypes.nextOf (.ref i1) >>= _) _ _ _
 refine wpAny_bind (wpAny_nextOf_list_end hh (h1.extBut hs₁.extBut D.i1z) (hl1.extBut hs₁.extBut D.l1z) hend fun h₂ e hs₂ he=>?_)
 exact hE h₂ e (fun c o c1 c3 x=>hs₂ _ _ c3 (hs₁.extBut _ _ c1 x)) he
theorem Ww {z TI TO T i1 i2 l1 l2:Addr} {f:Bool} {oT:Obj} {k1 k2:Nat} {xs ys:Array Value} {x y:Value} {Q:Option Value->Shared->Prop} (D:ZipApart z TI TO i1 i2 l1 l2)
  (hz:xx s.heap z TI TO T f) (hT:s.heap.get? T=some oT) (hTI:IsPair s.heap TI (.ref i1) (.ref i2))
  (h1:s.heap.IsListIter i1 l1 k1) (h2:s.heap.IsListIter i2 l2 k2) (hl1:s.heap.IsList l1 xs) (hl2:s.heap.IsList l2 ys) (hx:xs[k1]?=some x) (hy:ys[k2]?=some y)
  (hQ:∀ h',xx h' z TI TO T true->h'.IsListIter i1 l1 (k1+1)->h'.IsListIter i2 l2 (k2+1)->IsPair h' s.heap.objs.size x y->h'.objs.size=s.heap.objs.size+1 ->
   (∀ c o,c≠z->c≠i1->c≠i2->s.heap.get? c=some o->h'.get? c=some o)->Q (some (.ref s.heap.objs.size)) {s with heap:=h'}) :
  wpAny (model prog w) A (pyNext (.ref z)) Q E s:=by
 have hTy:s.TypeIs (.ref z) "zip" := ⟨_,hz,rfl⟩
 unfold pyNext
 exact wpAny_bind (wpAny_attempt (wpAny_callSpecial?_slot (name:=Str.ofString "__next__") hTy F.slot_zip_next
  (wpAny_call_entry F.slot_zip_next hTy F.entry_zip_next
   (YW (a:=.none) (b:=.none) D hz hT hTI h1 h2 hl1 hl2 hx hy fun h' a1 a3 a4 a5 a6 a7=>wpAny_pure (hQ h' a1 a3 a4 a5 a6 a7)) (F.args_zip_next_1 _))))
theorem ZG {z TI TO T i1 i2 l1 l2:Addr} {f:Bool} {oT:Obj} {k1 k2:Nat} {xs ys:Array Value} {Q:Option Value->Shared->Prop} (hh:A.handled=none) (D:ZipApart z TI TO i1 i2 l1 l2)
  (hz:xx s.heap z TI TO T f) (hT:s.heap.get? T=some oT) (hTI:IsPair s.heap TI (.ref i1) (.ref i2))
  (h1:s.heap.IsListIter i1 l1 k1) (hl1:s.heap.IsList l1 xs) (hend:xs[k1]?=none)
  (hQ:∀ h',(∀ c o,c≠z->c≠i1->s.heap.get? c=some o->h'.get? c=some o)->Q none {s with heap:=h'}):wpAny (model prog w) A (pyNext (.ref z)) Q E s:=by
 have hTy:s.TypeIs (.ref z) "zip" := ⟨_,hz,rfl⟩
 unfold pyNext
 refine wpAny_bind (wpAny_attempt (wpAny_callSpecial?_slot (name:=Str.ofString "__next__") hTy F.slot_zip_next
  (wpAny_call_entry F.slot_zip_next hTy F.entry_zip_next (X6 (k2:=k2) (ys:=ys) hh D hz hT hTI h1 hl1 hend fun h' e hk he=>?_) (F.args_zip_next_1 _))))
 obtain ⟨o,ho,hc⟩:=he
 refine wpAny_bind (wpAny_isInstance (T := "StopIteration") (b:=true) ⟨o,ho,hc⟩ isSubtype_stop ?_)
 exact wpAny_pure (hQ _ hk)
structure ZSt (z TI TO i1 i2 l1 l2 S b0:Addr) (xs ys:Array Value) (i:Nat) (h:Heap) (acc:Array Value):Prop where
 ti:IsPair h TI (.ref i1) (.ref i2)
 zz:(i=0/\IsZip h z TI TO .none/\∃ a b,IsPair h TO a b)\/(∃ (T:Addr) (f:Bool) (oT:Obj),xx h z TI TO T f/\h.get? T=some oT/\T≠z/\T≠i1/\T≠i2/\T≠S)
 a1:h.IsListIter i1 l1 i
 a2:h.IsListIter i2 l2 i
 la:h.IsList l1 xs
 lb:h.IsList l2 ys
 li:∃ c,h.get? S=some {cls:=.type "list",dict:=none,data:=.seq acc c,slots:=#[]}
 sz:acc.size=i
 bb:b0<=h.objs.size
 to:∃ o,h.get? TO=some o
 it:∀ j,j<i->∃ (T:Addr) (x y:Value),acc[j]?=some (.ref T)/\xs[j]?=some x/\ys[j]?=some y/\IsPair h T x y/\b0<=T/\T≠S/\T≠z/\T≠TO/\T≠i1/\T≠i2
 nd:acc.toList.Nodup
theorem zam {R:Result->Shared->Prop} {z TI TO i1 i2 l1 l2 S b0:Addr} {xs ys:Array Value} (hh:A.in1.handled=none) (D:ZipApart z TI TO i1 i2 l1 l2) (hl:xs.size=ys.size) (hn:xs.size<=sizeLine) (D2:S≠z/\S≠TI/\S≠TO/\S≠i1/\S≠i2/\S≠l1/\S≠l2) (res:Value) :
  ∀ (k i:Nat) (s:Shared) (acc:Array Value),xs.size-i=k->i<=xs.size->ZSt z TI TO i1 i2 l1 l2 S b0 xs ys i s.heap acc ->
  (∀ h' acc' c',(∀ b o,b≠z->b≠TO->b≠i1->b≠i2->b≠S->s.heap.get? b=some o->h'.get? b=some o)->(h'.get? S=some {cls:=.type "list",dict:=none,data:=.seq acc' c',slots:=#[]}/\acc'.size=xs.size/\acc'.toList.Nodup/\∀ j,j<xs.size->∃ (T:Addr) (x y:Value),acc'[j]?=some (.ref T)/\xs[j]?=some x/\ys[j]?=some y/\IsPair h' T x y/\b0<=T/\T≠S)->R (.ok (.ret res)) {s with heap:=h'}) ->
  codeAny (model prog w) A (.builtin "list.extend.loop" ⟨[.ref S,.ref z,res],[]⟩) R s:=by
 obtain ⟨d1,d2,d3,d4,d5,d6,d7⟩:=D2
 intro k
 induction k with
 | zero =>
  intro i s acc hk hi hst hR
  obtain ⟨c,hli⟩:=hst.li
  have hin:i=xs.size:=by omega
  subst hin
  refine codeAny_builtin F.entry_extend_loop ?_
  rw [Around.under_plainId F.plain_extend_loop _]
  show wpAny _ A.in1 (pyNext (.ref z) >>= _) _ _ s
  have fin:∀ h',(∀ b o,b≠z->b≠TO->b≠i1->b≠i2->s.heap.get? b=some o->h'.get? b=some o)->R (.ok (.ret res)) {s with heap:=h'}:=fun h' hk'=>hR h' acc c (fun b o c1 c2 c3 c4 _ e=>hk' b o c1 c2 c3 c4 e) ⟨hk' _ _ d1 d3 d4 d5 hli,hst.sz,hst.nd,fun j hj=>by
   obtain ⟨T,x,y,e1,e2,e3,e4,e5,e6,e7,e8,e9,e10⟩:=hst.it j hj
   exact ⟨T,x,y,e1,e2,e3,hk' _ _ e7 e8 e9 e10 e4,e5,e6⟩⟩
  rcases hst.zz with ⟨e0,hz,a,b,hTO⟩ | ⟨T,f,oT,hz,hT,t1,t2,t3,t4⟩
  ·refine wpAny_bind (wpAny_pyNext_zip_end hh D hz hst.ti hTO hst.a1 hst.a2 hst.la hst.lb (.inl (Array.getElem?_eq_none (kf _))) fun h' hk'=>?_)
   exact wpAny_pure (fin h' hk')
  ·refine wpAny_bind (ZG (k2:=xs.size) (ys:=ys) (l2:=l2) (i2:=i2) hh D hz hT hst.ti hst.a1 hst.la (Array.getElem?_eq_none (kf _)) fun h' hk'=>?_)
   exact wpAny_pure (fin h' fun b o c1 _ c3 _ e=>hk' b o c1 c3 e)
 | succ k ih =>
  intro i s acc hk hi hst hR
  obtain ⟨c,hli⟩:=hst.li
  have hlt:i<xs.size:=by omega
  refine codeAny_builtin F.entry_extend_loop ?_
  rw [Around.under_plainId F.plain_extend_loop _]
  show wpAny _ A.in1 (pyNext (.ref z) >>= _) _ _ s
  have hx:xs[i]?=some xs[i]:=Array.getElem?_eq_getElem hlt
  have hy:ys[i]?=some (ys[i]'(by omega)):=Array.getElem?_eq_getElem (by omega)
  have lt:∀ {c o},s.heap.get? c=some o->s.heap.objs.size≠c:=fun e=>ue (Heap.lt_size e)
  have go:∀ (h':Heap) (T:Addr) (f:Bool) (oT:Obj),xx h' z TI TO T f->h'.get? T=some oT->T≠z->T≠i1->T≠i2->T≠S->h'.IsListIter i1 l1 (i+1)->h'.IsListIter i2 l2 (i+1)->IsPair h' s.heap.objs.size xs[i] (ys[i]'(by omega))->h'.objs.size=s.heap.objs.size+1 ->
    (∀ c o,c≠z->c≠TO->c≠i1->c≠i2->s.heap.get? c=some o->h'.get? c=some o)->s.heap.objs.size≠z->s.heap.objs.size≠TO->s.heap.objs.size≠i1->s.heap.objs.size≠i2->(∃ o,h'.get? TO=some o) ->
    wpAny (model prog w) A.in1 (updateSeq S (·.push (.ref s.heap.objs.size)) >>= fun _=>again (.builtin "list.extend.loop" ⟨[.ref S,.ref z,res],[]⟩)) (fun fin s'=>match fin with | .done f=>R (.ok f) s' | .again c'=>c'.quiet=true/\codeAny (model prog w) A c' R s') (fun e s'=>R (.error e) s') {s with heap:=h'}:=by
   intro h' T f oT hz' hT' t1 t2 t3 t4 a1' a2' hP hsz hk' n1 n2 n3 n4 tO
   have hS':=hk' _ _ d1 d3 d4 d5 hli
   have nS:s.heap.objs.size≠S:=lt hli
   refine wpAny_bind ?_
   refine wpAny_updateSeq hS' rfl (wpAny_pure ⟨plainId_quiet F.plain_extend_loop _,ih (i+1) _ (acc.push (.ref s.heap.objs.size)) (by omega) hlt ?_ fun h'' acc' c' hk'' z''=>?_⟩)
    (by rw [hst.sz];omega) (by show (acc.push (.ref s.heap.objs.size)).size<=sizeLine+1;rw [Array.size_push,hst.sz];omega)
   ·have oth:∀ b o,b≠S->h'.get? b=some o->(h'.update S (Obj.mapSeq (·.push (Value.ref s.heap.objs.size)))).get? b=some o:=fun b o hb e=>(Heap.get?_update_other _ _ (Ne.symm hb)).trans e
    refine ⟨oth _ _ d2.symm (hk' _ _ D.TIz D.TITO D.TIi1 D.TIi2 hst.ti),.inr ⟨T,f,oT,oth _ _ d1.symm hz',oth _ _ t4 hT',t1,t2,t3,t4⟩,a1'.at fun o e=>oth _ o d4.symm e,a2'.at fun o e=>oth _ o d5.symm e,
     hst.la.at fun o e=>oth _ o d6.symm (hk' _ o D.l1z D.l1TO D.l1i1 D.l1i2 e),hst.lb.at fun o e=>oth _ o d7.symm (hk' _ o D.l2z D.l2TO D.l2i1 D.l2i2 e),⟨_,Heap.get?_update_self _ hS' rfl⟩,by rw [Array.size_push,hst.sz],?_,?_,fun j hj=>?_,?_⟩
    ·show b0<=(h'.update S _).objs.size
     rw [Heap.size_update,hsz]
     exact Nat.le_succ_of_le hst.bb
    ·obtain ⟨oO,hO⟩:=tO
     exact ⟨oO,oth _ _ d3.symm hO⟩
    ·rcases vQ (v5 hj) with cc | cc
     ·obtain ⟨T',x,y,e1,e2,e3,e4,e5,e6,e7,e8,e9,e10⟩:=hst.it j cc
      refine ⟨T',x,y,?_,e2,e3,oth _ _ e6 (hk' _ _ e7 e8 e9 e10 e4),e5,e6,e7,e8,e9,e10⟩
      rw [Array.getElem?_push,if_neg (by rw [hst.sz];omega)]
      exact e1
     ·subst cc
      refine ⟨s.heap.objs.size,xs[j],ys[j]'(by omega),?_,hx,hy,oth _ _ nS hP,hst.bb,nS,n1,n2,n3,n4⟩
      rw [Array.getElem?_push,if_pos hst.sz.symm]
    ·rw [Array.toList_push,List.nodup_append]
     refine ⟨hst.nd,uy.mpr ⟨kW,List.nodup_nil⟩,fun a ha b hb e=>?_⟩
     rw [kD.mp hb] at e
     rw [e] at ha
     obtain ⟨j,hj,ej⟩:=bB ha
     have hj':j<i:=by rw [<- hst.sz];simpa using hj
     obtain ⟨T',x,y,e1,e2,e3,e4,_⟩:=hst.it j hj'
     have e1':acc.toList[j]?=some (.ref T'):=by rw [Array.getElem?_toList];exact e1
     rw [kh hj,ej] at e1'
     cases e1'
     exact lt e4 rfl
   ·refine hR h'' acc' c' (fun b o c1 c2 c3 c4 c5 e=>hk'' b o c1 c2 c3 c4 c5 ?_) z''
    exact (Heap.get?_update_other _ _ (Ne.symm c5)).trans (hk' b o c1 c2 c3 c4 e)
  have li1:s.heap.objs.size≠i1:=by obtain ⟨o,g,_⟩:=hst.a1;exact lt g
  have li2:s.heap.objs.size≠i2:=by obtain ⟨o,g,_⟩:=hst.a2;exact lt g
  rcases hst.zz with ⟨e0,hz,a,b,hTO⟩ | ⟨T,f,oT,hz,hT,t1,t2,t3,t4⟩
  ·refine wpAny_bind (wpAny_pyNext_zip_item D hz hst.ti hTO hst.a1 hst.a2 hst.la hst.lb hx hy fun h' a1 a2 a3 a4 a5 a6 hk'=>?_)
   exact go h' s.heap.objs.size false _ a1 a5 (lt hz) li1 li2 (lt hli) a3 a4 a5 a6 hk' (lt hz) (lt hTO) li1 li2 ⟨_,a2⟩
  ·refine wpAny_bind (Ww D hz hT hst.ti hst.a1 hst.a2 hst.la hst.lb hx hy fun h' a1 a3 a4 a5 a6 hk'=>?_)
   obtain ⟨oO,hTO⟩:=hst.to
   exact go h' T true _ a1 (hk' T oT t1 t2 t3 hT) t1 t2 t3 t4 a3 a4 a5 a6 (fun c o c1 _ c3 c4 e=>hk' c o c1 c3 c4 e) (lt hz) (lt hTO) li1 li2 ⟨oO,hk' _ _ D.TOz D.TOi1 D.TOi2 hTO⟩
theorem Qq:typeLookup (.type "zip") "__len__" = pure none:=by rw [typeLookup_type,builtinLookup_eq_fast];kernel_rfl
theorem Wx:typeLookup (.type "zip") "__length_hint__" = pure none:=by rw [typeLookup_type,builtinLookup_eq_fast];kernel_rfl
noncomputable def WS (xs ys:Array Value) (S b0:Addr) (h':Heap):Prop:=∃ (acc':Array Value) (c':Nat),h'.get? S=some {cls:=.type "list",dict:=none,data:=.seq acc' c',slots:=#[]}/\acc'.size=xs.size/\acc'.toList.Nodup/\∀ j,j<xs.size->∃ (T:Addr) (x y:Value),acc'[j]?=some (.ref T)/\xs[j]?=some x/\ys[j]?=some y/\IsPair h' T x y/\b0<=T/\T≠S
theorem Qr {R:Result->Shared->Prop} {z TI TO i1 i2 l1 l2 S b0:Addr} {xs ys:Array Value} {a b:Value} {c₀:Nat} (hh:A.in1.handled=none) (D:ZipApart z TI TO i1 i2 l1 l2) (hl:xs.size=ys.size) (hn:xs.size<=sizeLine) (D2:S≠z/\S≠TI/\S≠TO/\S≠i1/\S≠i2/\S≠l1/\S≠l2) (res:Value)
  (hz:IsZip s.heap z TI TO .none) (hTI:IsPair s.heap TI (.ref i1) (.ref i2)) (hTO:IsPair s.heap TO a b) (h1:s.heap.IsListIter i1 l1 0) (h2:s.heap.IsListIter i2 l2 0) (hl1:s.heap.IsList l1 xs) (hl2:s.heap.IsList l2 ys)
  (hS:s.heap.get? S=some {cls:=.type "list",data:=.seq #[] c₀}) (hb:b0<=s.heap.objs.size)
  (hR:∀ h',(∀ b o,b≠z->b≠TO->b≠i1->b≠i2->b≠S->s.heap.get? b=some o->h'.get? b=some o)->WS xs ys S b0 h'->R (.ok (.ret res)) {s with heap:=h'}) :
  wpAny (model prog w) A.in1 (Builtin.List.listExtendWith (.ref S) (.ref z) res)
   (fun fin s'=>match fin with | .done f=>R (.ok f) s' | .again c'=>c'.quiet=true/\codeAny (model prog w) A c' R s') (fun e s'=>R (.error e) s') s:=by
 have hTy:s.TypeIs (.ref z) "zip" := ⟨_,hz,rfl⟩
 unfold Builtin.List.listExtendWith
 refine wpAny_bind (wpAny_typeOf hTy ?_)
 have e1:Builtin.List.listSameRef (.ref S) (.ref z)=false:=by simp [Builtin.List.listSameRef,D2.1]
 have e2:(Value.type "zip" == Value.type "list")=false:=by decide
 have e3:(Value.type "zip" == Value.type "tuple")=false:=by decide
 simp only [e1,e2,e3,Bool.or_false,uv,if_false]
 refine wpAny_bind (wpAny_pyIter_zip hz ?_)
 refine wpAny_bind (wpAny_holding ?_)
 unfold Builtin.List.listLengthHint
 refine wpAny_bind (wpAny_specialOf hTy Qq ?_)
 show wpAny _ A.in1 (specialOf (Value.ref z) (Str.ofString "__length_hint__") >>= _) _ _ _
 refine wpAny_bind (wpAny_specialOf hTy Wx ?_)
 refine wpAny_pure ?_
 show wpAny _ A.in1 (rule "list.extend.makes-room" >>= fun _=>Builtin.List.listTouch (.ref S) >>= fun _ =>
  again (.builtin "list.extend.loop" ⟨[.ref S,.ref z,res],[]⟩)) _ _ _
 refine wpAny_bind (wpAny_rule ?_)
 refine wpAny_bind ?_
 show wpAny _ A.in1 (updateSeq S (·.push .none) >>= fun _=>updateSeq S (·.pop)) _ _ _
 refine wpAny_bind (wpAny_updateSeq hS rfl ?_)
 have hS₂:=Heap.get?_update_self (Obj.mapSeq (·.push Value.none)) hS rfl
 refine wpAny_updateSeq (hz:=by seq_fits) hS₂ rfl ?_
 have hS₃:=Heap.get?_update_self (Obj.mapSeq (·.pop)) hS₂ rfl
 have oth:∀ b o,b≠S->s.heap.get? b=some o->((s.heap.update S (Obj.mapSeq (·.push Value.none))).update S (Obj.mapSeq (·.pop))).get? b=some o :=
  fun b o hb e=>(Heap.get?_update_other _ _ (Ne.symm hb)).trans ((Heap.get?_update_other _ _ (Ne.symm hb)).trans e)
 obtain ⟨d1,d2,d3,d4,d5,d6,d7⟩:=D2
 refine wpAny_pure ⟨plainId_quiet F.plain_extend_loop _,zam (b0:=b0) (xs:=xs) (ys:=ys) hh D hl hn ⟨d1,d2,d3,d4,d5,d6,d7⟩ res xs.size 0 _ #[] (by omega) (ve _) ?_ fun h' acc' c' hk z'=>?_⟩
 ·refine ⟨oth _ _ d2.symm hTI,.inl ⟨rfl,oth _ _ d1.symm hz,a,b,oth _ _ d3.symm hTO⟩,h1.at fun o e=>oth _ o d4.symm e,h2.at fun o e=>oth _ o d5.symm e,hl1.at fun o e=>oth _ o d6.symm e,hl2.at fun o e=>oth _ o d7.symm e,⟨_,hS₃⟩,rfl,?_,⟨_,oth _ _ d3.symm hTO⟩,fun j hj=>absurd hj (Nat.not_lt_zero _),List.nodup_nil⟩
  show b0<=((s.heap.update S _).update S _).objs.size
  rw [Heap.size_update,Heap.size_update]
  exact hb
 ·exact hR h' (fun b o c1 c2 c3 c4 c5 e=>hk b o c1 c2 c3 c4 c5 (oth b o c5 e)) ⟨acc',c',z'⟩
theorem YX {Q:Value->Shared->Prop} {z TI TO i1 i2 l1 l2:Addr} {xs ys:Array Value} {a b:Value} (hh:A.handled=none) (D:ZipApart z TI TO i1 i2 l1 l2) (hl:xs.size=ys.size) (hn:xs.size<=sizeLine)
  (hz:IsZip s.heap z TI TO .none) (hTI:IsPair s.heap TI (.ref i1) (.ref i2)) (hTO:IsPair s.heap TO a b) (h1:s.heap.IsListIter i1 l1 0) (h2:s.heap.IsListIter i2 l2 0) (hl1:s.heap.IsList l1 xs) (hl2:s.heap.IsList l2 ys)
  (hQ:∀ h',(∀ b o,b≠z->b≠TO->b≠i1->b≠i2->s.heap.get? b=some o->h'.get? b=some o)->WS xs ys s.heap.objs.size s.heap.objs.size h'->Q (.ref s.heap.objs.size) {s with heap:=h'}) :
  wpAny (model prog w) A (call (.type "list") [.ref z]) Q E s:=by
 have lt:∀ {c o},s.heap.get? c=some o->s.heap.objs.size≠c:=fun e=>ue (Heap.lt_size e)
 have D2:s.heap.objs.size≠z/\s.heap.objs.size≠TI/\s.heap.objs.size≠TO/\s.heap.objs.size≠i1/\s.heap.objs.size≠i2/\s.heap.objs.size≠l1/\s.heap.objs.size≠l2 :=
  ⟨lt hz,lt hTI,lt hTO,by obtain ⟨o,g,_⟩:=h1;exact lt g,by obtain ⟨o,g,_⟩:=h2;exact lt g,by obtain ⟨o,g,_⟩:=hl1;exact lt g,by obtain ⟨o,g,_⟩:=hl2;exact lt g⟩
 refine callType_codes (Q₁:=fun obj s₁=>obj=.ref s.heap.objs.size/\s₁={s with heap:=s.heap.push {cls:=.type "list",data:=.seq #[]}}) F.called_list (F.typeCall_list_1 _) F.entry_list_init
  (code_list_new _ ⟨rfl,rfl⟩) fun obj s₁ h₁=>?_
 obtain ⟨rfl,rfl⟩:=h₁
 have hS:(s.heap.push {cls:=.type "list",data:=.seq #[]}).get? s.heap.objs.size=some {cls:=.type "list",data:=.seq #[]}:=Heap.get?_push_size _ rfl
 refine ⟨⟨_,hS,rfl⟩,F.args_list_init_2 _ _,?_⟩
 generalize hSz:s.heap.objs.size=S at hS D2 hQ lt
 show wpAny _ A.in1.in1 (do let old <- Builtin.List.listItems (.ref S);Builtin.List.listUpdate (.ref S) (fun _=>#[]);letGo old.toList.reverse;Builtin.List.listExtendWith (.ref S) (.ref z) .none) _ _ _
 refine wpAny_bind ?_
 unfold Builtin.List.listItems
 refine wpAny_bind (wpAny_seqItems hS rfl (wpAny_pure ?_))
 show wpAny _ A.in1.in1 (updateSeq S (fun _=>#[]) >>= fun _=>letGo (#[]:Array Value).toList.reverse >>= fun _=>Builtin.List.listExtendWith (.ref S) (.ref z) .none) _ _ _
 refine wpAny_bind (wpAny_updateSeq hS rfl ?_)
 have hS₂:=Heap.get?_update_self (Obj.mapSeq (fun _=>(#[]:Array Value))) hS rfl
 have oth:∀ b o,b≠S->s.heap.get? b=some o->((s.heap.push {cls:=.type "list",data:=.seq #[]}).update S (Obj.mapSeq (fun _=>(#[]:Array Value)))).get? b=some o :=
  fun b o hb e=>(Heap.get?_update_other _ _ (Ne.symm hb)).trans (Heap.get?_push_of_some _ e)
 refine wpAny_bind (wpAny_letGo ?_)
 obtain ⟨d1,d2,d3,d4,d5,d6,d7⟩:=D2
 refine Qr (A:=A.in1) (b0:=S) (xs:=xs) (ys:=ys) hh D hl hn ⟨d1,d2,d3,d4,d5,d6,d7⟩ .none (oth _ _ d1.symm hz) (oth _ _ d2.symm hTI) (oth _ _ d3.symm hTO) (h1.at fun o e=>oth _ o d4.symm e) (h2.at fun o e=>oth _ o d5.symm e) (hl1.at fun o e=>oth _ o d6.symm e) (hl2.at fun o e=>oth _ o d7.symm e) hS₂ ?_ fun h' hk z'=>?_
 ·show S<=((s.heap.push _).update S _).objs.size
  rw [Heap.size_update,Heap.size_push,hSz]
  exact uF _
 ·exact ⟨rfl,hQ h' (fun b o c1 c2 c3 c4 e=>hk b o c1 c2 c3 c4 (lt e).symm (oth b o (lt e).symm e)) z'⟩
end
section
variable {X:Cx}
noncomputable def PrV (H:Hp) (v:V) (p:V×V):Prop:=∃ a,v=.ref a/\H a=some (.tup [p.1,p.2])
noncomputable def PrVs (H:Hp):List V->List (V×V)->Prop:=Paired (PrV H)
theorem PrV.same {H H':Hp} (S:∀ b u,H b=some u->H' b=some u) {v:V} {p:V×V} (h:PrV H v p):PrV H' v p:=let ⟨a,e,z⟩:=h;⟨a,e,S _ _ z⟩
theorem PrVs.same {H H':Hp} (S:∀ b u,H b=some u->H' b=some u):∀ {vs:List V} {ps:List (V×V)},PrVs H vs ps->PrVs H' vs ps
 | _,_,.nil=>.nil
 | _,_,.cons h t=>.cons (h.same S) (PrVs.same S t)
theorem PrVs.len {H:Hp} {vs:List V} {ps:List (V×V)} (h:PrVs H vs ps):vs.length=ps.length:=Paired.length h
theorem PrVs.get {H:Hp}:∀ {vs:List V} {ps:List (V×V)} {i:Nat} {v:V},PrVs H vs ps->vs[i]?=some v->∃ p,ps[i]?=some p/\PrV H v p
 | _,_,_,_,.nil,e=>by simp at e
 | _,_,0,_,.cons r _,e=>by simp at e;subst e;exact ⟨_,rfl,r⟩
 | _,_,i+1,v,.cons _ t,e=>by
  obtain ⟨p,h1,h2⟩:=PrVs.get (i:=i) (v:=v) t (by simpa using e)
  exact ⟨p,by simpa using h1,h2⟩
theorem Inv.pairs {pins:List (Addr×Obj)} {σ:St} {b0:Addr} (fr:∀ b,b0<=b->X.s₀.heap.get? b=none/\b≠X.env.locals/\(∀ x c,X.env.cells.lookup x=some c->c≠b)/\∀ q∈X.pn++pins,q.1≠b) {s:Shared} :
  ∀ (Ts:List Addr) (us vs:List Value) (xs ys:List V) (H:Hp),Inv X pins σ H s->(∀ T∈Ts,b0<=T/\H T=none)->Ts.Nodup->Vals xs us->Vals ys vs->us.length=Ts.length->vs.length=Ts.length ->
  (∀ (j:Nat) (T:Addr) (x y:Value),Ts[j]?=some T->us[j]?=some x->vs[j]?=some y->IsPair s.heap T x y) ->
  ∃ H',Inv X pins σ H' s/\(∀ b u,H b=some u->H' b=some u)/\(∀ b,b∉Ts->H' b=H b)/\PrVs H' (Ts.map V.ref) (xs.zip ys)
 | [],us,vs,xs,ys,H,I,_,_,rx,ry,l1,l2,_=>by
  have e:us=[]:=vY.mp l1
  subst e
  cases rx
  exact ⟨H,I,fun _ _ e=>e,fun _ _=>rfl,.nil⟩
 | T::Ts,us,vs,xs,ys,H,I,hT,nd,rx,ry,l1,l2,hP=>by
  obtain ⟨n1,n2⟩:=uy.mp nd
  cases rx with
  | nil=>simp at l1
  | @cons x u xs us r1 rx =>
  cases ry with
  | nil=>simp at l2
  | @cons y v ys vs r2 ry =>
  obtain ⟨c1,c2⟩:=hT T kw
  obtain ⟨f2,f3,f4,f5⟩:=fr T c1
  have I2:=I.track (p:=T) (o:=.tup [x,y]) c2 f2 f3 f4 f5 ⟨Zz2,[u,v],.cons r1 (.cons r2 .nil),⟨_,hP 0 T u v rfl rfl rfl,rfl,_,rfl⟩⟩
  obtain ⟨H',I',k1,k2,k3⟩:=Inv.pairs fr Ts us vs xs ys (upd H T (.tup [x,y])) I2 (fun T' h'=>⟨(hT T' (kq _ h')).1,by rw [zp (fun z=>n1 (by rw [<- z];exact h'))];exact (hT T' (kq _ h')).2⟩) n2 rx ry (by simpa using l1) (by simpa using l2)
   (fun j T' x' y' e1 e2 e3=>hP (j+1) T' x' y' (by simpa using e1) (by simpa using e2) (by simpa using e3))
  refine ⟨H',I',fun b u' e=>k1 b u' (by rw [zp (zO e c2)];exact e),fun b hb=>?_,?_⟩
  ·rw [k2 b (fun z=>hb (kq _ z)),zp (fun z=>hb (by rw [z];exact kw))]
  ·exact .cons ⟨T,rfl,k1 _ _ zd⟩ k3
noncomputable def tLZ (K:Frag) (ta:TA):TE:=fun σ H Q=>ta σ H fun vs H1=>∃ (a b:Addr) (xs ys:List V),vs=[.ref a,.ref b]/\SqL K H1 a xs/\SqL K H1 b ys/\xs.length=ys.length /\
 ∀ (l:Addr) (us:List V) (H2:Hp),(∀ c u,H1 c=some u->H2 c=some u)->H1 l=none->H2 l=some (.lst us)->PrVs H2 us (xs.zip ys)->Q (.ref l) H2
theorem WT:∀ {acc:List Value} {n:Nat},(∀ j,j<n->∃ T:Addr,acc[j]?=some (.ref T))->acc.length=n->∃ Ts:List Addr,acc=Ts.map Value.ref
 | [],_,_,_=>⟨[],rfl⟩
 | v::acc,0,_,l=>by simp at l
 | v::acc,n+1,h,l=>by
  obtain ⟨T,e⟩:=h 0 (uH _)
  obtain ⟨Ts,e2⟩:=WT (acc:=acc) (n:=n) (fun j hj=>by
   obtain ⟨T,e⟩:=h (j+1) (by omega)
   exact ⟨T,by simpa using e⟩) (by simpa using l)
  exact ⟨T::Ts,by rw [e2];simp at e;rw [e];rfl⟩
theorem YQ:∀ Ts:List Addr,Vals (Ts.map V.ref) (Ts.map Value.ref)
 | []=>.nil
 | _::Ts=>.cons rfl (YQ Ts)
theorem Qt {l r:Expr} {ta:TA} {p p2 pos pos2:Pos} (hc:X.calm=true) (hgl:Gl X "list") (hml:X.mg "list" = none) (hg:Gl X "zip") (hm:X.mg "zip" = none) (ha:PA X [l,r] ta) (hs:starEach [l,r] X.env=[(false,eval l X.env),(false,eval r X.env)]:=by rfl) (hs2:starEach [r] X.env=[(false,eval r X.env)]:=by rfl)
  (hs3:starEach [.Call (.Name "zip" p2) [l,r] [] pos2] X.env=[(false,eval (.Call (.Name "zip" p2) [l,r] [] pos2) X.env)]:=by rfl):PE X (.Call (.Name "list" p) [.Call (.Name "zip" p2) [l,r] [] pos2] [] pos) (tLZ X.K ta):=by
 intro pins s σ H Q I h
 refine wpAny_Call_Name_kw (xb I hgl hml boot_list (vv ?_ hs3 rfl))
 rw [hs3]
 refine Calls.spliced_cons (Call_ (xb I hg hm boot_zip (vv (thn (ha pos2 pins s σ H _ I h) fun us s1 ⟨vs,H1,I1,r1,q1⟩=>?_) (by rw [hs,hs2]) (by rw [hs2];rfl))))
 obtain ⟨a,b,xs,ys,e,hq1,hq2,hlen,q⟩:=q1
 subst e
 cases r1 with
 | cons r rr =>
  cases rr with
  | cons r' rr =>
   cases rr
   cases r
   cases r'
   obtain ⟨its,rv,tp,hz1⟩:=I1.list hq1
   obtain ⟨jts,rw',tq,hz2⟩:=I1.list hq2
   have l1:=rv.length
   have l2:=rw'.length
   refine call_zip_2 tp.isList tq.isList fun h' a1 a2 a3 a4 a5 a6 hk=>?_
   refine Calls.spliced_nil ?_
   have la:=tp.isList.at fun o e=>hk _ o e
   have lb:=tq.isList.at fun o e=>hk _ o e
   refine YX (I1.ok.hd hc) (ji (XC _) a1 a3 a4 a5 la lb) (by simp;omega) (by simp;omega) a1 a2 a3 a4 a5 la lb fun h'' hk2 zl=>?_
   obtain ⟨acc,c',hS,hsz,nd,hit⟩:=zl
   have bn:s1.heap.objs.size<=h'.objs.size:=by rw [a6];exact bh _ _
   have kp:∀ b o,s1.heap.get? b=some o->h''.get? b=some o:=fun b o e=>by
    have lt:=Heap.lt_size e
    have ne:∀ k:Nat,b≠s1.heap.objs.size+k:=fun k z=>by rw [z] at lt;exact absurd lt (uT.mpr (bh _ _))
    exact hk2 b o (ne 4) (ne 3) (ne 0) (ne 1) (hk b o e)
   have I2:Inv X pins σ H1 {s1 with heap:=h'',toks:=s1.toks}:=I1.kept (t':=s1.toks) kp
   have hit':∀ j,j<xs.length->∃ T:Addr,acc.toList[j]?=some (.ref T):=fun j hj=>by
    obtain ⟨T,x,y,e1,_⟩:=hit j (by simp;omega)
    exact ⟨T,by rw [Array.getElem?_toList];exact e1⟩
   have lacc:acc.toList.length=xs.length:=by rw [Array.length_toList,hsz];simp;omega
   obtain ⟨Ts,eT⟩:=WT hit' lacc
   have lT:Ts.length=xs.length:=by rw [<- lacc,eT,ke]
   have getT:∀ (j:Nat) (T:Addr),Ts[j]?=some T->∃ x y,its[j]?=some x/\jts[j]?=some y/\IsPair h'' T x y/\h'.objs.size<=T/\T≠h'.objs.size:=fun j T e=>by
    obtain ⟨hj,_⟩:=kg.mp e
    obtain ⟨T',x,y,e1,e2,e3,e4,e5,e6⟩:=hit j (by simp;omega)
    have e1:acc.toList[j]?=some (.ref T'):=by rw [Array.getElem?_toList];exact e1
    rw [eT,va,e] at e1
    cases e1
    exact ⟨x,y,by simpa using e2,by simpa using e3,e4,e5,e6⟩
   have fp:=fun b (hb:h'.objs.size<=b)=>I1.fpOk (b:=b) (km bn hb) (I1.hok.fresh (km bn hb))
   obtain ⟨H',I3,k1,k2,k3⟩:=Inv.pairs (X:=X) (b0:=h'.objs.size) (fun b hb=>⟨Heap.get?_none_of_le (km I1.sz (km bn hb)),(fp b hb).2.1,(fp b hb).2.2.2.2.1,(fp b hb).2.2.2.2.2⟩) Ts its jts xs ys H1 I2
    (fun T hT=>by
     obtain ⟨j,hj,ej⟩:=bB hT
     obtain ⟨x,y,_,_,_,e5,_⟩:=getT j T (by rw [kh hj,ej])
     exact ⟨e5,(fp T e5).1⟩)
    (by
     rw [eT] at nd
     exact (u8.mp nd).imp fun h e=>h (by rw [e]))
    rv rw' (by omega) (by omega)
    (fun j T x y e1 e2 e3=>by
     obtain ⟨x',y',f1,f2,f3,_⟩:=getT j T e1
     rw [e2] at f1
     rw [e3] at f2
     cases f1
     cases f2
     exact f3)
   have nS:h'.objs.size∉Ts:=fun z=>by
    obtain ⟨j,hj,ej⟩:=bB z
    obtain ⟨_,_,_,_,_,_,e6⟩:=getT j _ (by rw [kh hj,ej])
    exact e6 rfl
   have f0:=fp h'.objs.size (kf _)
   have hn':H' h'.objs.size=none:=by rw [k2 _ nS];exact f0.1
   have I4:=I3.track (p:=h'.objs.size) (o:=.lst (Ts.map V.ref)) hn' (Heap.get?_none_of_le (km I1.sz bn)) f0.2.1 f0.2.2.2.2.1 f0.2.2.2.2.2
    ⟨by rw [ke,lT];exact hz1,acc.toList,c',by rw [eT];exact YQ Ts,by simpa using hS⟩
   have up:∀ b u,H' b=some u->(upd H' h'.objs.size (.lst (Ts.map V.ref))) b=some u:=fun b u e=>by rw [zp (zO e hn')];exact e
   exact ⟨.ref _,_,I4,rfl,q _ (Ts.map V.ref) _ (fun c u e=>up c u (k1 c u e)) f0.1 zd (k3.same up)⟩
end
end _L2
namespace _JF
open PySem _L2 _Lin _Tre PySem.W
open _Sta (R Ok sbs exch reg OkS OkSs stN HasR zT)
noncomputable def letters:List Nat:=[97,98,99,100,101,102,103,104,105,106,107,108,109,110,111,112,113,114,115,116,117,118,119,120,121,122,48,49,50,51,52,53,54,55,56,57,33,34,35,36,38,39,40,41,42,43,44,45,46,47,58,59,60,61,62,63,64,91,93,94,95,123,124,125,126]
theorem w5:letters.length=65:=rfl
theorem X7:∀ c∈letters,good c:=by
 have:letters.all isG=true:=by decide +kernel
 intro c hc
 exact ZX.mp (vD.mp this c hc)
theorem Zh {K:Frag} {H:Hp} {n:Nat} {x y:V} {b:Bool} (h:EqR K H n x y b) (e:b=true):EqR K H n x y true:=e ▸ h
theorem all_true (n:Nat):((vo n).all fun _=>true)=true:=vD.mpr fun _ _=>rfl
theorem zdk {K:Frag} {H:Hp} {n:Nat} {a b:Addr} {ws:List W} (ha:SqL K H a (tx ws)) (hb:SqL K H b (tx ws)):EqR K H (n+1) (.ref a) (.ref b) true:=by
 have fl:∀ j,j<(tx ws).length->y6 ((tx ws).getD j .non)=true:=fun j hj=>by
  rw [yu] at hj
  rw [kP,zcl (kh hj)]
  rfl
 exact Zh (EqR.lsts (n:=n) (e:=fun _=>true) ha hb rfl fun j hj=>Zh (.flat (fl j hj) (fl j hj)) (qL (fl j hj))) (all_true _)
theorem eq_empty {K:Frag} {H:Hp} {a b:Addr} {xs:List V} (ha:H a=some (.lst xs)) (hb:H b=some (.lst [])):EqR K H 1 (.ref a) (.ref b) (decide (xs=[])):=by
 by_cases h:xs=[]
 ·subst h
  rw [decide_eq_true rfl]
  exact zdk (ws:=[]) (SqL.of ha) (SqL.of hb)
 ·rw [decide_eq_false h]
  exact EqR.lens (n:=0) (SqL.of ha) (SqL.of hb) fun z=>h (vY.mp z)
noncomputable def fits (ws:List W) (wide:Nat):Bool:=ws.all fun u=>decide (u.length<=wide)
theorem qV {ws:List W} {wide:Nat}:fits ws wide=true↔∀ u∈ws,u.length<=wide:=by
 unfold fits
 rw [vD]
 exact ⟨fun h u hu=>of_decide_eq_true (h u hu),fun h u hu=>decide_eq_true (h u hu)⟩
noncomputable def Qu:Sp:=fun vs H Q _=>∃ cell most:Int,vs=[.int cell,.int most]/\1<=most/\most<=12/\∀ u:W,okW u->Q (.str (txt u)) H
noncomputable def jQ:Sp:=fun vs H Q _=>∃ (a:Addr) (ws:List W) (wide:Nat),vs=[.ref a,.int wide]/\H a=some (.lst (tx ws))/\(∀ u∈ws,okW u)/\ws.length<=1000 /\
 ((fits ws wide=true->∀ (l:Addr) (H':Hp),Same H H'->H' l=some (.lst (tx (taken wide ws)))->Q (.ref l) H')/\(fits ws wide=false->∀ H',Same H H'->Q .non H'))
noncomputable def Z6 (K:Frag):Sp:=fun vs H Q _=>∃ (a:Addr) (ns:List Int) (N:Nat),vs=[.ref a,.int N]/\SqL K H a (ns.map V.int)/\N<=24/\∀ (l:Addr) (us:List V) (wss:List (List W)) (H':Hp),Same H H'->H' l=some (.lst us)->Txs H' us wss->wss.length=N->Q (.ref l) H'
noncomputable def Z7:Sp:=fun vs H Q _=>∃ (a:Addr) (us:List V) (wss:List (List W)),vs=[.ref a]/\H a=some (.lst us)/\Txs H us wss/\wss.length<=1000/\∀ H',Same H H'->Q (.int ((2+(wss.map _Sta.yp).sum:Nat):Int)) H'
section
variable {P:Program} {w:World} {K:Frag} {mg:Str->Option Value} {base:Heap} {kA:Addr}
theorem qW:zC ["cell","most","letters","word","left","k"] ["cell","most"] (zg sLw):=by trivial
theorem zcI {f:Addr} {fd:FuncData} (F:Fun K "_law_word" "_law_word" sLw f fd) (tl:mg "len" = none) (tr:mg "range" = none):FnOk P w K mg base CX0 1 f fd ["cell","most"] Qu:=by
 refine F.ok qW (fun vs H Q E h=>?_) (fun cdv A outer s H vs Q E hr h=>?_)
 ·refine E_2 h fun cell most n8=>A_2 n8 fun e9 _=>?_;clear n8 h;subst e9
  rfl
 ·refine E_2 h fun cell most n8=>A_4 n8 fun e9 m1 m2 q=>?_;clear n8 h;subst e9
  refine ⟨_,(ze (zm (i:=2) qW.nd rfl (Or.inl rfl) zM)
   (ze (zm (i:=3) qW.nd rfl (Or.inl rfl) zM)
   (ze (zm (i:=4) qW.nd rfl (Or.inl rfl) (zj xi (pv 0) (pv 1)))
   (ze (yr PassesOwn.never rfl (xu rfl tr (za (zj zS zh (zj yt (pv 0) (pv 1))) zb)) (zo (i:=5) qW.nd rfl (Or.inl rfl))
   (ze (zm (i:=3) qW.nd rfl (Or.inl rfl) (zj xK (pv 3) (zw WM (pv 2) (zj yt (pv 4) (zi yf (by rfl) tl kL (za (pv 2) zb))) (fun _ _=>rfl))))
    (zf (zm (i:=4) qW.nd rfl (Or.inl rfl) (zj xi (pv 4) (zi yf (by rfl) tl kL (za (pv 2) zb)))))))
   (zf (zn (pv 3))))))),?_⟩
  have es:("abcdefghijklmnopqrstuvwxyz0123456789!\"#$&'()*+,-./:;<=>?\x40[]^_{|}~" : Str)=txt letters:=by decide +kernel
  have e0:("" : Str)=txt []:=by decide +kernel
  have k0:=vH cell (show most≠0 by omega)
  have k1:=vL cell (show 0<most by omega)
  obtain ⟨N,hN⟩ : ∃ N:Nat,(1:Int)+cell % most=N:=⟨(1+cell % most).toNat,by omega⟩
  refine ⟨_,rfl,_,rfl,_,_,rfl,rfl,⟨by omega,by omega⟩,?_⟩
  refine ⟨_,rfl,_,rfl,_,_,rfl,rfl,(by show 0<most;omega),_,_,rfl,rfl,_,rfl,by omega,by omega,?_⟩
  rw [hN]
  have ll65:(txt letters).length=65:=by rw [yA,w5]
  refine xl (lo:=0) (n:=N) (fun i σ H5=>∃ (l:W) (o:Option V) (n:Int),σ=[some (.int cell),some (.int most),some (.str (txt letters)),some (.str (txt l)),some (.int n),o]/\H5=H/\l.length=i/\∀ c∈l,good c)
   ⟨[],none,_,by rw [<- es,<- e0];rfl,rfl,rfl,fun c hc=>(kW hc).elim⟩ ?_ ?_
  ·intro i σ H5 hi h8
   refine E_3 h8 fun l o n n8=>A_4 n8 fun e9 n90 ll lg=>?_;clear n8 h8;subst e9;subst n90
   refine zQ ?_
   have m0:=vH n (show (65:Int)≠0 by decide)
   have m1':=vL n (show (0:Int)<65 by decide)
   have hn:(n % 65).toNat<letters.length:=by rw [w5];omega
   have en:atI letters (n % 65)=some letters[(n % 65).toNat]:=by
    have z:atI letters (((n % 65).toNat:Nat):Int)=some letters[(n % 65).toNat]:=yK (kh hn)
    rwa [show (((n % 65).toNat:Nat):Int)=n % 65 by omega] at z
   refine ⟨_,rfl,_,rfl,_,rfl,_,rfl,_,rfl,by rw [ll65];decide,?_⟩
   rw [ll65]
   refine ⟨_,_,rfl,rfl,(by show (0:Int)<65;decide),letters,_,letters[(n % 65).toNat],rfl,rfl,by rw [w5];decide,en,?_⟩
   refine ⟨_,_,rfl,rfl,?_,?_⟩
   ·rw [yA,yA]
    exact km (show l.length+1<=100 by omega) (by decide)
   ·rw [jz]
    refine ⟨_,rfl,_,rfl,_,rfl,by rw [ll65];decide,?_⟩
    rw [ll65]
    refine ⟨_,_,rfl,rfl,⟨by decide,by decide⟩,?_⟩
    refine ⟨l++[letters[(n % 65).toNat]],_,_,rfl,rfl,by rw [ki,ll];rfl,fun c hc=>?_⟩
    rcases vc.mp hc with z | z
    ·exact lg c z
    ·rw [kD.mp z]
     exact X7 _ (vF hn)
  ·intro σ H5 h8
   refine E_3 h8 fun l o n n8=>A_4 n8 fun e9 n90 ll lg=>?_;clear n8 h8;subst e9;subst n90
   exact ⟨_,rfl,q l ⟨by omega,by omega,lg⟩⟩
theorem Z8:zC ["words","wide","rows","word"] ["words","wide"] (zg qv):=by trivial
theorem zan {f:Addr} {fd:FuncData} (F:Fun K "_law_rows" "_law_rows" qv f fd) (tl:mg "len" = none):FnOk P w K mg base CX0 1 f fd ["words","wide"] jQ:=by
 refine F.ok Z8 (fun vs H Q E h=>?_) (fun cdv A outer s H vs Q E hr h=>?_)
 ·refine E_3 h fun a ws wide n8=>A_2 n8 fun e9 _=>?_;clear n8 h;subst e9
  rfl
 ·refine E_3 h fun a ws wide n8=>A_6 n8 fun e9 ha hw hn q1 q2=>?_;clear n8 h;subst e9
  refine ⟨_,(ze (zm (i:=2) Z8.nd rfl (Or.inl rfl) (zE zb))
   (ze (yr PassesOwn.never rfl (ya (pv 0)) (zo (i:=3) Z8.nd rfl (Or.inl rfl))
   (ze (zR (zF jx (zi yf (by rfl) tl kL (za (pv 3) zb)) (pv 1) (zJ _))
    (zf (zn yO))
    zL)
    (zf (zR (PW.pt (w9 (zF (Zv hr.units) (pv 2) (zE zb) (zJ _)) (wk (zF qG (zj zS (zj zS (zi yf (by rfl) tl kL (za (zw zV (pv 2) (xY xB zh) (fun _ _=>rfl)) zb)) zh) (zi yf (by rfl) tl kL (za (pv 3) zb))) (pv 1) (zJ _)))))
    (zf (qa (zj xK (zj xK (zw zV (pv 2) (xY xB zh) (fun _ _=>rfl)) zM) (pv 3)) (QG (pv 2) (xY xB zh) set_list)))
    (zf (zZ (yG kN vf vg ye (pv 2) (za (pv 3) zb))))))))
   (zf (zn (pv 2))))),?_⟩
  refine wq ⟨Zz0,fun l nl=>?_⟩
  have S1:=zc (o:=.lst []) nl
  have h1:(upd H l (.lst [])) l=some (.lst []):=zd
  generalize upd H l (.lst [])=H1 at S1 h1
  refine run_seq ⟨_,rfl,a,rfl,⟨_,SqL.of (S1 _ _ ha)⟩,?_⟩
  refine xn (K:=K) (a:=a) (xs:=tx ws) (fun i σ H2=>∃ o:Option V,σ=[some (.ref a),some (.int wide),some (.ref l),o]/\Same H H2/\H2 l=some (.lst (tx (taken wide (ws.take i))))/\∀ u∈ws.take i,u.length<=wide)
   ⟨none,rfl,S1,h1,fun u hu=>(kW hu).elim⟩ (fun i σ H2 _ h9=>by obtain ⟨_,_,S,_⟩:=h9;exact (SqL.of (S _ _ ha))) ?_ ?_
  ·intro i x σ H2 hi h8
   refine E_1 h8 fun o n8=>A_4 n8 fun e9 S hl hf=>?_;clear n8 h8;subst e9
   obtain ⟨v,hv,rfl⟩:=wz hi
   obtain ⟨hil,ev⟩:=kg.mp hv
   have et:taken wide (ws.take (i+1))=put wide (taken wide (ws.take i)) v:=by rw [<- kz hil,ev,xz]
   have bd:=wZ wide (ws.take i) fun u hu=>(hw u (v8 hu)).2.1
   have lb:=wK wide (ws.take i)
   rw [kH] at bd lb
   have vm:v∈ws:=kZ hv
   have vb:=(hw v vm).2.1
   have hf':v.length<=wide->∀ u∈ws.take (i+1),u.length<=wide:=fun hv u hu=>by
    rw [<- kz hil,ev] at hu
    rcases vc.mp hu with z | z
    ·exact hf u z
    ·rw [kD.mp z];exact hv
   rw [et]
   generalize taken wide (ws.take i)=rows at hl bd lb ⊢
   refine zQ ?_
   refine QZ (p:=(wide:Int)<(v.length:Int)) (y3 (yz (xS (zA rfl) (by omega)) (zA rfl))) (fun c=>?_) (fun c=>?_)
   ·refine q2 ?_ H2 S
    cases e:fits ws wide with
    | false=>rfl
    | true =>
     have:=qV.mp e v vm
     omega
   have vw:v.length<=wide:=by omega
   refine zY ?_
   dsimp only
   refine ⟨_,rfl,Zz0,fun p9 n9=>?_⟩
   have S9:=S.trans (zc (o:=.lst []) n9)
   have hp9:(upd H2 p9 (.lst [])) p9=some (.lst []):=zd
   have hl9:=zc (o:=.lst []) n9 _ _ hl
   generalize upd H2 p9 (.lst [])=H9 at S9 hp9 hl9
   refine I_4 l p9 1 _ ⟨rfl,rfl,eq_empty hl9 hp9,by decide,_,rfl,?_⟩
   unfold put
   cases el:rows.getLast? with
   | none =>
    have e':rows=[]:=List.getLast?_eq_none_iff.mp el
    subst e'
    rw [decide_eq_true (show tx []=[] from rfl)]
    refine iteF ?_
    exact iteF ⟨_,rfl,.inl ⟨rfl,_,SqL.of hl9⟩,_,rfl,l,_,_,rfl,rfl,hl9,by show 0<sizeLine;decide,_,rfl,zU S9 nl,by rw [zd];rfl,hf' vw⟩
   | some r =>
    have sp:=wb el
    have rb:=bd r (bp el)
    have ers:tx rows=tx rows.dropLast++[V.str (txt r)]:=by
     conv=>lhs;rw [sp]
     rw [xV]
    have hl2:H9 l=some (.lst (tx rows.dropLast++[V.str (txt r)])):=by rw [<- ers];exact hl9
    have ea:atI (tx rows.dropLast++[V.str (txt r)]) (-1)=some (V.str (txt r)):=j5 _ _
    have rs:r.length<=100000:=by omega
    rw [decide_eq_false (show tx rows≠[] by rw [ers];simp)]
    refine iteT ?_
    refine y3 (p:=(r.length:Int)+1+v.length<=wide) (yz (yz (yz (xS (xq (zA rfl) qQ (SqL.of hl2) ea) (by omega)) yT) (xS (zA rfl) (by omega))) (zA rfl)) _ ?_
    dsimp only
    refine ite2 (fun c=>?_) (fun c=>?_)
    ·have c:=of_decide_eq_true c
     rw [if_pos c]
     have sl:=XM (tx rows.dropLast) (V.str (txt r)) (V.str (txt (r++32::v)))
     refine qN (w:=v) (qN (w:=[32]) (xq (zA rfl) qQ (SqL.of hl2) ea) yT (by simp;omega)) (zA rfl) (by simp;omega) _ ?_
     refine ⟨_,rfl,_,rfl,l,_,_,_,rfl,rfl,hl2,sl.1,?_⟩
     refine ⟨_,rfl,zU S9 nl,?_,hf' vw⟩
     rw [zd]
     have e2:r++[32]++v=r++32::v:=by simp
     rw [e2,sl.2,xV]
    ·have c:¬ (r.length:Int)+1+v.length<=wide:=fun z=>c (decide_eq_true z)
     rw [if_neg c]
     refine ⟨_,rfl,.inl ⟨rfl,_,SqL.of hl9⟩,_,rfl,l,_,_,rfl,rfl,hl9,?_,_,rfl,zU S9 nl,by rw [zd,xV],hf' vw⟩
     rw [yu]
     exact vi (show rows.length<=1000 by omega) (by decide)
  ·intro σ H2 h8
   refine E_1 h8 fun o n8=>A_4 n8 fun e9 S hl hf=>?_;clear n8 h8;subst e9
   rw [yu,kO] at hl hf
   exact ⟨_,rfl,q1 (qV.mpr hf) l H2 S hl⟩
theorem xW:zC ["script","many","texts","k","cell","words","j","one"] ["script","many"] (zg qw):=by trivial
theorem zao {f fC fL:Addr} {fd dC dL:FuncData} (F:Fun K "_law_short_texts" "_law_short_texts" qw f fd) (tr:mg "range" = none) (Ce:Callee P w K mg base CX0 1 "_law_cell_at" fC dC ["script","k"] (qR K)) (Lw:Callee P w K mg base CX0 1 "_law_word" fL dL ["cell","most"] Qu) :
  FnOk P w K mg base CX0 2 f fd ["script","many"] (Z6 K):=by
 refine F.ok xW (fun vs H Q E h=>?_) (fun cdv A outer s H vs Q E hr h=>?_)
 ·refine E_3 h fun a ns N n8=>A_2 n8 fun e9 _=>?_;clear n8 h;subst e9
  rfl
 ·refine E_3 h fun a ns N n8=>A_4 n8 fun e9 hS hN q=>?_;clear n8 h;subst e9
  refine ⟨_,(ze (zm (i:=2) xW.nd rfl (Or.inl rfl) (zE zb))
   (ze (yr PassesOwn.never rfl (xu rfl tr (za (pv 1) zb)) (zo (i:=3) xW.nd rfl (Or.inl rfl))
   (ze (zm (i:=4) xW.nd rfl (Or.inl rfl) (zk Ce.ok (hr.mono (show 1<=1 by decide)) rfl Ce.bound Ce.kp Ce.bd .nil zG (za (pv 0) (za (zj zS zh (zj Xk zh (pv 3))) zb))))
    (ze (zm (i:=5) xW.nd rfl (Or.inl rfl) (zE zb))
    (ze (yr PassesOwn.never rfl (xu rfl tr (za (zj yt (pv 4) zh) zb)) (zo (i:=6) xW.nd rfl (Or.inl rfl))
    (ze (zm (i:=7) xW.nd rfl (Or.inl rfl) (zk Ce.ok (hr.mono (show 1<=1 by decide)) rfl Ce.bound Ce.kp Ce.bd .nil zG (za (pv 0) (za (zj zS (zj zS zh (zj Xk zh (pv 3))) (pv 6)) zb))))
     (zf (zZ (yG kN vf vg ye (pv 5) (za (zk Lw.ok (hr.mono (show 1<=1 by decide)) rfl Lw.bound Lw.kp Lw.bd .nil zG (za (pv 7) (za zh zb))) zb))))))
    (zf (zZ (yG kN vf vg ye (pv 2) (za (pv 5) zb))))))))
   (zf (zn (pv 2))))),?_⟩
  refine wq ⟨Zz0,fun lt nlt=>?_⟩
  have S1:=zc (o:=.lst []) nlt
  have h1:(upd H lt (.lst [])) lt=some (.lst []):=zd
  generalize upd H lt (.lst [])=H1 at S1 h1
  refine run_seq ⟨_,rfl,_,rfl,by omega,by omega,?_⟩
  refine xl (lo:=0) (n:=N) (fun i σ H2=>∃ (us:List V) (wss:List (List W)) (o3 o4 o5 o6 o7:Option V),σ=[some (.ref a),some (.int N),some (.ref lt),o3,o4,o5,o6,o7]/\Same H H2/\H2 lt=some (.lst us)/\Txs H2 us wss/\wss.length=i/\V.ref lt∉us)
   ⟨[],[],none,none,none,none,none,rfl,S1,h1,.nil,rfl,kW⟩ ?_ ?_
  ·intro i σ H2 hi h8
   refine E_7 h8 fun us wss o3 o4 o5 o6 o7 n8=>A_6 n8 fun e9 S2 hlt hT lw nin=>?_;clear n8 h8;subst e9
   refine zQ ?_
   rw [show (0:Int)+(i:Int)=(i:Int) from uI _]
   refine ⟨_,rfl,_,rfl,_,_,rfl,rfl,.inl ⟨by decide,by decide⟩,_,_,rfl,rfl,a,ns,_,rfl,S2.seq hS,by omega,fun cell=>?_⟩
   refine ⟨Zz0,fun lo nlo=>?_⟩
   have S3:=zc (o:=.lst []) nlo
   have h3:(upd H2 lo (.lst [])) lo=some (.lst []):=zd
   have flo:H lo=none:=S2.free nlo
   have lne:lt≠lo:=zO hlt nlo
   generalize upd H2 lo (.lst [])=H3 at S3 h3
   have k0:=vH cell (show (4:Int)≠0 by decide)
   have k1:=vL cell (show (0:Int)<4 by decide)
   obtain ⟨M,hM⟩ : ∃ M:Nat,cell % 4=(M:Int):=⟨(cell % 4).toNat,by omega⟩
   try dsimp only
   refine run_seq (t:=_) ?_
   refine ⟨_,rfl,_,_,rfl,rfl,(by show (0:Int)<4;decide),_,rfl,by omega,by omega,?_⟩
   rw [hM]
   refine xl (lo:=0) (n:=M) (fun j σ H4=>∃ (ws:List W) (o6 o7:Option V),σ=[some (.ref a),some (.int N),some (.ref lt),some (.int (i:Int)),some (.int cell),some (.ref lo),o6,o7]/\Same H2 H4/\H4 lo=some (.lst (tx ws))/\(∀ u∈ws,okW u)/\ws.length=j)
    ⟨[],o6,o7,rfl,S3,h3,fun u hu=>(kW hu).elim,rfl⟩ ?_ ?_
   ·intro j σ H4 hj h8
    refine E_3 h8 fun ws o6 o7 n8=>A_5 n8 fun e9 S4 hlo hw lws=>?_;clear n8 h8;subst e9
    refine zQ ?_
    rw [show (0:Int)+(j:Int)=(j:Int) from uI _]
    refine ⟨_,rfl,_,rfl,_,_,rfl,rfl,.inl ⟨by decide,by decide⟩,_,_,rfl,rfl,_,rfl,_,_,rfl,rfl,a,ns,_,rfl,(S2.trans S4).seq hS,by omega,fun one=>?_⟩
    refine ⟨_,rfl,.inl ⟨rfl,_,SqL.of hlo⟩,_,rfl,one,4,rfl,by decide,by decide,fun u hu=>?_⟩
    refine ⟨lo,_,_,rfl,rfl,hlo,?_,?_⟩
    ·rw [yu]
     exact vi (show ws.length<=100 by omega) (by decide)
    ·refine ⟨ws++[u],_,_,rfl,zU S4 nlo,by rw [zd,xV],fun z hz=>?_,by rw [ki,lws];rfl⟩
     rcases vc.mp hz with y | y
     ·exact hw z y
     ·rw [kD.mp y];exact hu
   ·intro σ H4 h8
    refine E_3 h8 fun ws o6 o7 n8=>A_5 n8 fun e9 S4 hlo hw lws=>?_;clear n8 h8;subst e9
    have hlt4:=S4 _ _ hlt
    have lu:=hT.len
    refine ⟨_,rfl,.inl ⟨rfl,_,SqL.of hlt4⟩,_,rfl,lt,_,_,rfl,rfl,hlt4,vi (show us.length<=100 by omega) (by decide),?_⟩
    have S5:Same H (upd H4 lt (.lst (us++[.ref lo]))):=zU (S2.trans S4) nlt
    refine I_7 (us++[.ref lo]) (wss++[ws]) _ _ _ _ _ ⟨rfl,S5,zd,?_,by rw [ki,lw];rfl,fun z=>?_⟩
    ·have up:∀ {vs:List V} {ts:List (List W)},Txs H4 vs ts->V.ref lt∉vs->Txs (upd H4 lt (.lst (us++[.ref lo]))) vs ts:=by
      intro vs ts h
      induction h with
      | nil=>intro _;exact .nil
      | cons h t ih =>
       intro z
       obtain ⟨p,e,hp,r⟩:=h
       exact .cons ⟨p,e,by rw [zp (fun y=>z (by rw [<- y,e];exact kw))];exact hp,r⟩ (ih fun y=>z (kq _ y))
     exact (up (hT.same S4) nin).snoc ⟨lo,rfl,by rw [zp lne.symm];exact hlo,hw,by omega⟩
    ·rcases vc.mp z with y | y
     ·exact nin y
     ·have:=kD.mp y
      injection this with this
      exact lne this
  ·intro σ H2 h8
   refine E_7 h8 fun us wss o3 o4 o5 o6 o7 n8=>A_6 n8 fun e9 S2 hlt hT lw nin=>?_;clear n8 h8;subst e9
   exact ⟨_,rfl,q lt us wss H2 S2 hlt hT lw⟩
theorem zbw:zC ["texts"] ["texts"] (zg qx):=by trivial
theorem zap {f:Addr} {fd:FuncData} (F:Fun K "_law_most" "_law_most" qx f fd) (tl:mg "len" = none) (tsum:mg "sum" = none):FnOk P w K mg base CX0 1 f fd ["texts"] Z7:=by
 refine F.ok zbw (fun vs H Q E h=>?_) (fun cdv A outer s H vs Q E hr h=>?_)
 ·refine E_3 h fun a us wss n8=>A_2 n8 fun e9 _=>?_;clear n8 h;subst e9
  rfl
 ·refine E_3 h fun a us wss n8=>A_5 n8 fun e9 ha hT hn q=>?_;clear n8 h;subst e9
  refine ⟨_,(zf (zn (zj zS zh (zi (YE rfl) (by rfl) tsum PyProof.Rows.boot_sum (za (yq (Nc:=["words"]) (ix:=[none]) rfl rfl (by refine' ya ?zz;case zz=>exact (pv 0)) (fun _ _ _ _ _=>(zo (i:=0) (by show (["words"]:List Str).Nodup;decide +kernel) rfl (Or.inl rfl))) (fun _ _ _ _ _=>yd) (fun _ _ _ _ _=>(zj zS zh (zi (Qj (K:=K) rfl rfl) (by rfl) tsum PyProof.Rows.boot_sum (za (yq (Nc:=["word"]) (ix:=[none]) rfl rfl (by refine' zak (K:=K) rfl ?zz;case zz=>exact (pv 0)) (fun _ _ _ _ _=>(zo (i:=0) (by show (["word"]:List Str).Nodup;decide +kernel) rfl (Or.inl rfl))) (fun _ _ _ _ _=>yd) (fun _ _ _ _ _=>(zj zS (zi yf (by rfl) tl kL (za (pv 0) zb)) zh))) zb))))) zb))))),?_⟩
  have lt:=hT.len
  refine ⟨_,rfl,a,rfl,⟨_,SqL.of ha⟩,yH (K:=K) (a:=a) (xs:=us) (fun i ys σ H2=>ys=((wss.take i).map fun ws=>((_Sta.yp ws:Nat):Int)).map V.int/\Same H H2/\∃ o,σ=[o]) ⟨rfl,Same.refl _,none,rfl⟩
   (fun i ys σ H2 hi h9=>by obtain ⟨e,S,_⟩:=h9;exact (⟨by rw [e,ke,ke,kH];exact km (show _<=1000 by omega) (by decide),SqL.of (S _ _ ha)⟩)) ?_ ?_⟩
  case refine_2 =>
   rintro i x ys σ H2 hx ⟨rfl,S2,o,rfl⟩
   obtain ⟨ws,ew,pa,rfl,hpa,hw,h40⟩:=hT.get hx
   obtain ⟨hil,ev⟩:=kg.mp ew
   dsimp only [z7,tYes]
   refine iteT ?_
   have hpa2:=S2 _ _ hpa
   refine ⟨_,rfl,pa,rfl,⟨_,SqL.of hpa2⟩,yH (K:=K) (a:=pa) (xs:=tx ws) (fun i ys σ H3=>ys=((ws.take i).map fun u=>((u.length+1:Nat):Int)).map V.int/\H3=H2/\∃ o,σ=[o]) ⟨rfl,rfl,none,rfl⟩
    (fun i ys σ H3 hi h9=>by obtain ⟨e,e2,_⟩:=h9;exact (⟨by rw [e,ke,ke,kH];exact km (show _<=1000 by omega) (by decide),by rw [e2];exact SqL.of hpa2⟩)) ?_ ?_⟩
   case refine_2 =>
    rintro j y zs σ H3 hy ⟨rfl,rfl,o3,rfl⟩
    obtain ⟨v,hv,rfl⟩:=wz hy
    obtain ⟨hjl,evj⟩:=kg.mp hv
    have vb:=(hw v (kZ hv)).2.1
    dsimp only [z7,tYes]
    refine iteT ?_
    refine ⟨_,rfl,_,rfl,by rw [yA];exact km (show v.length<=100 by omega) (by decide),_,_,rfl,rfl,?_,rfl,_,rfl⟩
    rw [yA,<- kz hjl,evj,kC,kC]
    rfl
   rintro zs σ H3 ⟨rfl,rfl,_⟩ p2 np2
   rw [yu,kO]
   refine ⟨p2,_,rfl,SqL.of zd,_,_,rfl,rfl,?_,S2.trans (zc np2),_,rfl⟩
   rw [<- kz hil,ev,kC,kC]
   have es:1+(ws.map fun u=>((u.length+1:Nat):Int)).sum=((_Sta.yp ws:Nat):Int):=by
    unfold _Sta.yp
    have:∀ l:List W,(l.map fun u=>((u.length+1:Nat):Int)).sum=(((l.map fun u=>u.length+1).sum:Nat):Int):=by
     intro l
     induction l with
     | nil=>rfl
     | cons a r ih=>rw [vj,vk,ih,vj,vk];omega
    rw [this]
    omega
   dsimp only
   rw [es]
   rfl
  rintro ys σ H2 ⟨rfl,S2,_⟩ p2 np2
  rw [lt,kO]
  refine ⟨p2,_,rfl,SqL.of zd,_,_,rfl,rfl,?_⟩
  have es:2+(wss.map fun ws=>((_Sta.yp ws:Nat):Int)).sum=((2+(wss.map _Sta.yp).sum:Nat):Int):=by
   have:∀ l:List (List W),(l.map fun ws=>((_Sta.yp ws:Nat):Int)).sum=(((l.map _Sta.yp).sum:Nat):Int):=by
    intro l
    induction l with
    | nil=>rfl
    | cons a r ih=>rw [vj,vk,ih,vj,vk];omega
   rw [this]
   omega
  show Q (.int (2+(wss.map fun ws=>((_Sta.yp ws:Nat):Int)).sum)) _
  rw [es]
  exact q _ (S2.trans (zc np2))
end
end _JF
namespace _JF
open PySem _L2 _Lin _Tre PySem.W
open _Sta (R Ok sbs exch reg OkS OkSs stN HasR zT Low Best)
noncomputable def oV:Option Nat->V
 | none=>.non
 | some n=>.int (n:Int)
noncomputable def tb (f:List (Option Nat)):List V:=f.map oV
theorem xM (f:List (Option Nat)):(tb f).length=f.length:=ke _
theorem Qv {f:List (Option Nat)} {i:Nat} (h:i<f.length):atI (tb f) (i:Int)=some (oV (f.getD i none)):=by
 refine yK ?_
 unfold tb
 rw [va,kh h]
 simp [List.getD,h]
theorem Z9 (f:List (Option Nat)) (o:Option Nat):tb f++[oV o]=tb (f++[o]):=by
 unfold tb
 rw [kC]
 rfl
theorem getD_snoc {f:List (Option Nat)} {o:Option Nat} {w:Nat} (h:w<f.length):(f++[o]).getD w none=f.getD w none:=by
 rw [kP,vS h,<- kP]
theorem getD_last {f:List (Option Nat)} {o:Option Nat}:(f++[o]).getD f.length none=o:=by
 rw [kP,vP (kf _),bD]
 rfl
theorem zaq {ta:TE} {σ:St} {H:Hp} {x:V} (a:Evl ta σ H x):Evl (tOp (fun x y H Q=>y=.non/\Q (.bl (!decide (x=.non))) H) ta (tC .non)) σ H (.bl (!decide (x=.non))):=fun Q q=>a _ ⟨rfl,q⟩
theorem zbx {ta:TE} {σ:St} {H:Hp} {x:V} (a:Evl ta σ H x):Evl (tOp (fun x y H Q=>y=.non/\Q (.bl (decide (x=.non))) H) ta (tC .non)) σ H (.bl (decide (x=.non))):=fun Q q=>a _ ⟨rfl,q⟩
theorem X8 {ta:TE} {σ:St} {H:Hp} {x:V} (a:Evl ta σ H x):Tst (qH (tOp (fun x y H Q=>y=.non/\Q (.bl (!decide (x=.non))) H) ta (tC .non))) σ H (x≠.non):=y3 (by rw [decide_not];exact zaq a)
theorem WU {ta:TE} {σ:St} {H:Hp} {x:V} (a:Evl ta σ H x):Tst (qH (tOp (fun x y H Q=>y=.non/\Q (.bl (decide (x=.non))) H) ta (tC .non))) σ H (x=.non):=y3 (zbx a)
theorem WV {t u:TT} {p q:Prop} {σ:St} {H:Hp} [Decidable p] [Decidable q] (a:Tst t σ H p) (b:¬ p->Tst u σ H q):Tst (tOr t u) σ H (p\/q):=fun Q z=>a _ (by
 by_cases h:p
 ·rw [decide_eq_true h,if_pos rfl]
  have e:decide (p\/q)=true:=decide_eq_true (.inl h)
  rw [<- e];exact z
 ·rw [decide_eq_false h,if_neg kF]
  refine b h _ ?_
  have e:decide (p\/q)=decide q:=by rw [decide_eq_decide];exact ⟨fun z=>z.resolve_left h,.inr⟩
  rw [<- e];exact z)
theorem Xf {o:Option Nat}:oV o≠V.non↔∃ v,o=some v:=by
 cases o with
 | none=>exact ⟨fun h=>absurd rfl h,fun ⟨v,e⟩=>by cases e⟩
 | some v=>exact ⟨fun _=>⟨v,rfl⟩,fun _ z=>by cases z⟩
theorem WW (a b:Nat):(if (b:Int)>(a:Int) then (b:Int) else (a:Int))=((max a b:Nat):Int):=by split<;>omega
noncomputable def TabOf (P:R) (most:Nat) (f:List (Option Nat)):Prop:=f.length=most+1/\∀ w,w<=most->Low P w (f.getD w none)
noncomputable def gd (f:List (Option Nat)):Nat->Option Nat:=fun i=>f.getD i none
noncomputable def ZH:Sp:=fun vs H Q _=>∃ (a b:Addr) (f g:List (Option Nat)) (most:Nat),vs=[.ref a,.ref b,.int most]/\H a=some (.lst (tb f))/\H b=some (.lst (tb g))/\f.length=most+1/\g.length=most+1/\most<=1000000 /\
 ∀ (l:Addr) (h:List (Option Nat)) (H':Hp),Same H H'->H' l=some (.lst (tb h))->h.length=most+1->h.getD 0 none=none->(∀ w,1<=w->w<=most->Best (gd f) (gd g) w (w-1) (h.getD w none))->Q (.ref l) H'
noncomputable def jR (d:Nat):Sp:=fun vs H Q _=>∃ (x:V) (t:T) (n:List Int) (a:Addr) (us:List V) (wss:List (List W)) (P:R) (most:Nat),vs=[x,.ref a,.int most]/\At H x t/\Good t n/\HasR (Lvs wss) t P/\H a=some (.lst us)/\Txs H us wss/\most<=1000000/\sz t+3<=4*d/\d<=24 /\
 ∀ (l:Addr) (f:List (Option Nat)) (H':Hp),Same H H'->H' l=some (.lst (tb f))->TabOf P most f->Q (.ref l) H'
section
variable {P:Program} {w:World} {K:Frag} {mg:Str->Option Value} {base:Heap} {kA:Addr}
theorem wS:zC ["one","other","most","found","wide","best","left","high"] ["one","other","most"] (zg jK):=by trivial
theorem zby {f:Addr} {fd:FuncData} (F:Fun K "_law_beside" "_law_beside" jK f fd) (tr:mg "range" = none) (tmax:mg "max" = none):FnOk P w K mg base CX0 1 f fd ["one","other","most"] ZH:=by
 refine F.ok wS (fun vs H Q E h=>?_) (fun cdv A outer s H vs Q E hr h=>?_)
 ·refine E_5 h fun a b f g most n8=>A_2 n8 fun e9 _=>?_;clear n8 h;subst e9
  rfl
 ·refine E_5 h fun a b f g most n8=>A_7 n8 fun e9 ha hb lf lg hm q=>?_;clear n8 h;subst e9
  refine ⟨_,(ze (zm (i:=3) wS.nd rfl (Or.inl rfl) (zE (za yO zb)))
   (ze (yr PassesOwn.never rfl (Yl rfl tr (za zh (za (zj zS (pv 2) zh) zb))) (zo (i:=4) wS.nd rfl (Or.inl rfl))
   (ze (zm (i:=5) wS.nd rfl (Or.inl rfl) yO)
    (ze (yr PassesOwn.never rfl (Yl rfl tr (za zh (za (pv 4) zb))) (zo (i:=6) wS.nd rfl (Or.inl rfl))
    (zf (zR (PW.pt (w9 (zF WB (zw zV (pv 0) (pv 6) (fun _ _=>rfl)) yO rfl) (wk (zF WB (zw zV (pv 1) (zj wE (pv 4) (pv 6)) (fun _ _=>rfl)) yO rfl))))
     (ze (zm (i:=7) wS.nd rfl (Or.inl rfl) (zi (ja rfl) (by rfl) tmax uB (za (zw zV (pv 0) (pv 6) (fun _ _=>rfl)) (za (zw zV (pv 1) (zj wE (pv 4) (pv 6)) (fun _ _=>rfl)) zb))))
      (zf (zR (PW.pt (xE (zF Zj (pv 5) yO rfl) (xI (zF xZ (pv 7) (pv 5) (zJ _)))))
      (zf (zm (i:=5) wS.nd rfl (Or.inl rfl) (pv 7)))
      zL)))
     zL)))
    (zf (zZ (yG kN vf vg ye (pv 3) (za (pv 5) zb)))))))
   (zf (zn (pv 3))))),?_⟩
  refine wq ⟨Zz1,fun l nl=>?_⟩
  have S1:=zc (o:=.lst [V.non]) nl
  have h1:(upd H l (.lst [V.non])) l=some (.lst (tb [none])):=zd
  generalize upd H l (.lst [V.non])=H1 at S1 h1
  refine run_seq ⟨_,rfl,_,_,rfl,rfl,1,(most:Int)+1,rfl,⟨by decide,by decide,by omega,by omega⟩,?_⟩
  rw [show ((most:Int)+1-1).toNat=most by omega]
  refine xl (lo:=1) (n:=most) (fun i σ H2=>∃ (h:List (Option Nat)) (o4 o5 o6 o7:Option V),σ=[some (.ref a),some (.ref b),some (.int most),some (.ref l),o4,o5,o6,o7]/\Same H H2/\H2 l=some (.lst (tb h))/\h.length=i+1/\h.getD 0 none=none/\∀ w,1<=w->w<=i->Best (gd f) (gd g) w (w-1) (h.getD w none))
   ⟨[none],none,none,none,none,rfl,S1,h1,rfl,rfl,fun w h1 h2=>by omega⟩ ?_ ?_
  ·intro i σ H2 hi h8
   refine E_5 h8 fun h o4 o5 o6 o7 n8=>A_6 n8 fun e9 S2 hl lh h0 hB=>?_;clear n8 h8;subst e9
   refine zQ ?_
   refine wo (v:=.non) yT ?_
   rw [show (1:Int)+(i:Int)=((i+1:Nat):Int) by omega]
   refine run_seq ?_
   refine ⟨_,rfl,1,((i+1:Nat):Int),rfl,⟨by decide,by decide,by omega,by omega⟩,?_⟩
   rw [show (((i+1:Nat):Int)-1).toNat=i by omega]
   refine xl (lo:=1) (n:=i) (fun k σ H3=>∃ (o:Option Nat) (o6 o7:Option V),σ=[some (.ref a),some (.ref b),some (.int most),some (.ref l),some (.int ((i+1:Nat):Int)),some (oV o),o6,o7]/\H3=H2/\Best (gd f) (gd g) (i+1) k o)
    ⟨none,o6,o7,rfl,rfl,_Sta.Jp⟩ ?_ ?_
   ·intro k σ H3 hk h8
    refine E_3 h8 fun o o6 o7 n8=>A_3 n8 fun e9 n90 hb1=>?_;clear n8 h8;subst e9;subst n90
    refine zQ ?_
    rw [show (1:Int)+(k:Int)=((k+1:Nat):Int) by omega]
    have e1:∀ {σ:St},σ[0]?=some (some (.ref a))->σ[6]?=some (some (.int ((k+1:Nat):Int)))->Evl (tOp (rIxL K) (tVar 0) (tVar 6)) σ H3 (oV (gd f (k+1))):=fun z1 z2=>xq (zA z1) (zA z2) (SqL.of (S2 _ _ ha)) (Qv (by omega))
    have e2:∀ {σ:St},σ[1]?=some (some (.ref b))->σ[4]?=some (some (.int ((i+1:Nat):Int)))->σ[6]?=some (some (.int ((k+1:Nat):Int)))->Evl (tOp (rIxL K) (tVar 1) (tOp (rI0 fun i j=>.int (i-j)) (tVar 4) (tVar 6))) σ H3 (oV (gd g (i+1-(k+1)))):=fun z1 z2 z3=>xq (zA z1) (yz (zA z2) (zA z3)) (SqL.of (S2 _ _ hb)) (by
     rw [show ((i+1:Nat):Int)-((k+1:Nat):Int)=((i+1-(k+1):Nat):Int) by omega]
     exact Qv (by omega))
    refine x5 (WI (X8 (e1 rfl rfl)) (X8 (e2 rfl rfl rfl))) (fun c=>?_) (fun c=>?_)
    ·obtain ⟨v1,h1'⟩:=Xf.mp c.1
     obtain ⟨v2,h2'⟩:=Xf.mp c.2
     have hm1:=_Sta.Jr (f:=gd f) (g:=gd g) (show k+1<i+1 by omega) h1' h2' hb1
     have e1':=fun {σ:St} z1 z2=>e1 (σ:=σ) z1 z2
     have e2':=fun {σ:St} z1 z2 z3=>e2 (σ:=σ) z1 z2 z3
     rw [h1'] at e1'
     rw [h2'] at e2'
     refine wo (v:=.int ((max v1 v2:Nat):Int)) (by rw [<- WW];exact Yw (g:=fun i j=>.int (if j>i then j else i)) (e1' rfl rfl) (e2' rfl rfl rfl)) ?_
     cases o with
     | none =>
      refine x5 (p:=V.non=V.non\/False) (WV (WU (zA rfl)) (fun z=>absurd rfl z)) (fun c=>?_) (fun c=>absurd (Or.inl rfl) c)
      exact WJ (zA rfl) ⟨some (max v1 v2),_,_,rfl,rfl,hm1⟩
     | some v =>
      refine x5 (p:=V.int (v:Int)=V.non\/((max v1 v2:Nat):Int)<(v:Int)) (WV (WU (zA rfl)) (fun _=>y3 (yz (zA rfl) (zA rfl)))) (fun c=>?_) (fun c=>?_)
      ·have c:max v1 v2<v:=by
        rcases c with z | z
        ·cases z
        ·omega
       have hm1:Best (gd f) (gd g) (i+1) (k+1) (some (if max v1 v2<v then max v1 v2 else v)):=hm1
       rw [if_pos c] at hm1
       exact WJ (zA rfl) ⟨some (max v1 v2),_,_,rfl,rfl,hm1⟩
      ·have c:¬ max v1 v2<v:=fun z=>c (.inr (by omega))
       have hm1:Best (gd f) (gd g) (i+1) (k+1) (some (if max v1 v2<v then max v1 v2 else v)):=hm1
       rw [if_neg c] at hm1
       exact ⟨some v,_,_,rfl,rfl,hm1⟩
    ·refine ⟨o,_,_,rfl,rfl,_Sta.Jq ?_ hb1⟩
     cases z1:gd f (k+1) with
     | none=>exact .inl rfl
     | some v1 =>
      cases z2:gd g (i+1-(k+1)) with
      | none=>exact .inr rfl
      | some v2=>exact absurd ⟨Xf.mpr ⟨v1,z1⟩,Xf.mpr ⟨v2,z2⟩⟩ c
   ·intro σ H3 h8
    refine E_3 h8 fun o o6 o7 n8=>A_3 n8 fun e9 n90 hb1=>?_;clear n8 h8;subst e9;subst n90
    refine ⟨_,rfl,.inl ⟨rfl,_,SqL.of hl⟩,_,rfl,l,_,_,rfl,rfl,hl,?_,?_⟩
    ·rw [xM]
     exact vi (show h.length<=1000001 by omega) (by decide)
    ·refine I_5 (h++[o]) _ _ _ _ ⟨rfl,zU S2 nl,by rw [zd,Z9],by rw [ki,lh];rfl,by rw [getD_snoc (by omega)];exact h0,fun w w1 w2=>?_⟩
     rcases vQ w2 with c | c
     ·rw [getD_snoc (by omega)]
      exact hB w w1 (by omega)
     ·subst c
      rw [<- lh,getD_last,lh]
      exact hb1
  ·intro σ H2 h8
   refine E_5 h8 fun h o4 o5 o6 o7 n8=>A_6 n8 fun e9 S2 hl lh h0 hB=>?_;clear n8 h8;subst e9
   exact ⟨_,rfl,q l h H2 S2 hl lh h0 hB⟩
end
end _JF
namespace _JF
open PySem _L2 _Lin _Tre PySem.W
open _Sta (R Ok sbs exch reg OkS OkSs stN HasR zT Low Best)
noncomputable def lfT (ws:List W) (wide:Nat):Option Nat:=if 1<=wide/\fits ws wide=true then some (max 1 (cnt ws (wide:Int))) else none
theorem zbz (ws:List W) (wide:Nat):Low (_Sta.wc ws) wide (lfT ws wide):=by
 unfold lfT
 split
 ·rename_i c
  exact ⟨⟨c.1,qV.mp c.2,kf _⟩,fun h z=>z.2.2⟩
 ·rename_i c
  exact fun h z=>c ⟨z.1,qV.mpr z.2.1⟩
theorem Ya {f:Nat->Option Nat} {n w:Nat} (h:w<n):((vo n).map f).getD w none=f w:=by
 rw [kP,va,List.getElem?_range h]
 rfl
theorem zar (ws:List W) (most:Nat):TabOf (_Sta.wc ws) most ((vo (most+1)).map (lfT ws)):=⟨by rw [ke,v9],fun w hw=>by
 rw [Ya (by omega)]
 exact zbz ws w⟩
theorem zip_get {f g:List (Option Nat)} {w:Nat} (h1:w<f.length) (h2:w<g.length):((f.zip g).map fun p=>_Sta.addO p.1 p.2).getD w none=_Sta.addO (f.getD w none) (g.getD w none):=by
 rw [kP,va,(uJ (z:=(f[w],g[w]))).mpr ⟨kh h1,kh h2⟩,kP,kh h1,kP,kh h2]
 rfl
theorem zbA {P Q:R} {most:Nat} {f g:List (Option Nat)} (hf:TabOf P most f) (hg:TabOf Q most g):TabOf (_Sta.dwn P Q) most ((f.zip g).map fun p=>_Sta.addO p.1 p.2):=by
 have l1:=hf.1
 have l2:=hg.1
 refine ⟨by rw [ke,uA];omega,fun w hw=>?_⟩
 rw [zip_get (by omega) (by omega)]
 exact _Sta.zbq (hf.2 w hw) (hg.2 w hw)
theorem zbB {P Q:R} (hP:_Sta.Up P) (hQ:_Sta.Up Q) {most:Nat} {f g h:List (Option Nat)} (hf:TabOf P most f) (hg:TabOf Q most g) (lh:h.length=most+1) (h0:h.getD 0 none=none) (hB:∀ w,1<=w->w<=most->Best (gd f) (gd g) w (w-1) (h.getD w none)):TabOf (_Sta.bes P Q) most h:=by
 refine ⟨lh,fun w hw=>?_⟩
 by_cases c:w=0
 ·subst c
  rw [h0]
  intro k z
  have:=(_Sta.ZC hP hQ).pos z
  omega
 ·exact _Sta.zaj hP hQ (fun l hl=>hf.2 l (by omega)) (fun l hl=>hg.2 l (by omega)) (by omega) (hB w (by omega) hw)
theorem zcJ (f g:List (Option Nat)):(tb f).zip (tb g)=(f.zip g).map fun p=>(oV p.1,oV p.2):=by
 unfold tb
 rw [List.zip_map]
 rfl
theorem zbC (a b:Option Nat):inV .non [oV a,oV b]=(a.isNone || b.isNone):=by cases a<;>cases b<;>rfl
theorem zbD (o:Option Nat):y6 (oV o)=true:=by cases o<;>rfl
noncomputable def TbAt (H:Hp) (most:Nat) (v:V) (P:R):Prop:=∃ l f,v=.ref l/\H l=some (.lst (tb f))/\TabOf P most f
inductive xc (H:Hp) (most:Nat):List V->List R->Prop where
 | nil:xc H most [] []
 | cons {v:V} {P:R} {vs:List V} {Ps:List R} (h:TbAt H most v P) (r:xc H most vs Ps):xc H most (v::vs) (P::Ps)
theorem TbAt.same {H H':Hp} (S:Same H H') {most:Nat} {v:V} {P:R} (h:TbAt H most v P):TbAt H' most v P:=let ⟨l,f,e,z,t⟩:=h;⟨l,f,e,S _ _ z,t⟩
theorem xc.same {H H':Hp} (S:Same H H') {most:Nat}:∀ {vs:List V} {Ps:List R},xc H most vs Ps->xc H' most vs Ps
 | _,_,.nil=>.nil
 | _,_,.cons h t=>.cons (h.same S) (xc.same S t)
theorem xc.len {H:Hp} {most:Nat}:∀ {vs:List V} {Ps:List R},xc H most vs Ps->vs.length=Ps.length
 | _,_,.nil=>rfl
 | _,_,.cons _ r=>by rw [kK,kK,r.len]
theorem xc.snoc {H:Hp} {most:Nat}:∀ {vs:List V} {Ps:List R} {v:V} {P:R},xc H most vs Ps->TbAt H most v P->xc H most (vs++[v]) (Ps++[P])
 | _,_,_,_,.nil,h=>.cons h .nil
 | _,_,_,_,.cons k r,h=>.cons k (xc.snoc r h)
theorem xc.get {H:Hp} {most:Nat}:∀ {vs:List V} {Ps:List R} {i:Nat} {v:V},xc H most vs Ps->vs[i]?=some v->∃ P,Ps[i]?=some P/\TbAt H most v P
 | _,_,_,_,.nil,e=>by simp at e
 | _,_,0,_,.cons r _,e=>by simp at e;subst e;exact ⟨_,rfl,r⟩
 | _,_,i+1,v,.cons _ t,e=>by
  obtain ⟨p,h1,h2⟩:=xc.get (i:=i) (v:=v) t (by simpa using e)
  exact ⟨p,by simpa using h1,h2⟩
section
variable {P:Program} {w:World} {K:Frag} {mg:Str->Option Value} {base:Heap} {kA:Addr}
theorem we:zC ["tree","texts","most","rows","parts","part","found","both"] ["tree","texts","most"] (zg sHts):=by trivial
theorem zbE {f:Addr} {fd:FuncData} (F:Fun K "_law_heights" "_law_heights" sHts f fd):FnOk P w K mg base CX0 2 f fd ["tree","texts","most"] (jR 0):=by
 refine F.ok we (fun vs H Q E h=>?_) (fun cdv A outer s H vs Q E hr h=>?_)
 ·refine E_8 h fun x t n a us wss P most n8=>A_2 n8 fun e9 _=>?_;clear n8 h;subst e9
  rfl
 ·refine E_8 h fun x t n a us wss P most n8=>A_9 n8 fun e9 _ _ _ _ _ _ hz _=>?_;clear n8 h;subst e9
  omega
theorem zbF {f fW fR fB:Addr} {fd dW dR dB:FuncData} {d:Nat} (F:Fun K "_law_heights" "_law_heights" sHts f fd) (tr:mg "range" = none) (tl:mg "len" = none) (tmax:mg "max" = none) (tlist:mg "list" = none) (tzip:mg "zip" = none) (Wh:Callee P w K mg base CX0 1 "_law_whole" fW dW ["found"] y8)
  (Rw:Callee P w K mg base CX0 1 "_law_rows" fR dR ["words","wide"] jQ) (Be:Callee P w K mg base CX0 1 "_law_beside" fB dB ["one","other","most"] ZH) (Ht:Callee P w K mg base CX0 (d+2) "_law_heights" f fd ["tree","texts","most"] (jR d)) :
  FnOk P w K mg base CX0 (d+3) f fd ["tree","texts","most"] (jR (d+1)):=by
 refine F.ok we (fun vs H Q E h=>?_) (fun cdv A outer s H vs Q E hr h=>?_)
 ·refine E_8 h fun x t n a us wss P most n8=>A_2 n8 fun e9 _=>?_;clear n8 h;subst e9
  rfl
 ·refine E_8 h fun x t n a us wss P1 most n8=>A_10 n8 fun e9 hA g hR ha hT hm hz hd q=>?_;clear n8 h;subst e9
  refine ⟨_,(ze (zR (yi (zk Wh.ok (hr.mono (by omega)) rfl Wh.bound Wh.kp Wh.bd .nil zG (za (pv 0) zb)))
   (ze (xR (i:=3) (Nc:=["wide","texts","tree"]) (ix:=[none,some 1,some 0]) we.nd rfl (Or.inl rfl) rfl rfl (by exact (xu rfl tr (za (zj zS (pv 2) zh) zb))) (fun _ _ _ _ _=>(zo (i:=0) (by show (["wide","texts","tree"]:List Str).Nodup;decide +kernel) rfl (Or.inl rfl))) (fun _ _ _ _ _=>yd) (fun _ _ _ _ _=>(zk Rw.ok (hr.mono (by omega)) rfl Rw.bound Rw.kp Rw.bd .nil zG (za (zw (JZ (K:=K) rfl) (pv 1) (pv 2) (fun _ _=>rfl)) (za (pv 0) zb)))))
    (zf (zn (zj yX (zE (za yO zb)) (yq (Nc:=["row"]) (ix:=[none]) rfl rfl (by refine' ya ?zz;case zz=>exact (yc yP (pv 3) (yg zh) yl)) (fun _ _ _ _ _=>(zo (i:=0) (by show (["row"]:List Str).Nodup;decide +kernel) rfl (Or.inl rfl))) (fun _ _ _ _ _=>yd) (fun _ _ _ _ _=>(Xi (zF Zj (pv 0) yO rfl) (pv 0) (zi (ja rfl) (by rfl) tmax uB (za zh (za (zi (Q6 (K:=K) rfl) (by rfl) tl kL (za (pv 0) zb)) zb))))))))))
   zL)
   (ze (xR (i:=4) (Nc:=["part","texts","most"]) (ix:=[none,some 1,some 2]) we.nd rfl (Or.inl rfl) rfl rfl (by exact (wD (zw zP (pv 0) zh (fun _ _=>rfl)))) (fun _ _ _ _ _=>(zo (i:=0) (by show (["part","texts","most"]:List Str).Nodup;decide +kernel) rfl (Or.inl rfl))) (fun _ _ _ _ _=>yd) (fun _ _ _ _ _=>(zk Ht.ok hr rfl Ht.bound Ht.kp Ht.bd .nil zG (za (pv 0) (za (pv 1) (za (pv 2) zb))))))
   (ze (zm (i:=6) we.nd rfl (Or.inl rfl) (zw zV (pv 4) zh (fun _ _=>rfl)))
   (ze (yr PassesOwn.never rfl (ya (yc yP (pv 4) (yg zh) yl)) (zo (i:=5) we.nd rfl (Or.inl rfl))
   (zf (zR (zF y4 (zw zP (pv 0) zh (fun _ _=>rfl)) zM (zJ _))
    (ze (zm (i:=7) we.nd rfl (Or.inl rfl) (Qt rfl rfl tlist rfl tzip (za (pv 6) (za (pv 5) zb))))
     (zf (xR (i:=6) (Nc:=["pair"]) (ix:=[none]) we.nd rfl (Or.inl rfl) rfl rfl (by refine' ya ?zz;case zz=>exact (pv 7)) (fun _ _ _ _ _=>(zo (i:=0) (by show (["pair"]:List Str).Nodup;decide +kernel) rfl (Or.inl rfl))) (fun _ _ _ _ _=>yd) (fun _ _ _ _ _=>(Xi (zF (Qn (K:=K) rfl) yO (pv 0) rfl) yO (zj zS (zw (y7 (K:=K) rfl) (pv 0) zh (fun _ _=>rfl)) (zw (y7 (K:=K) rfl) (pv 0) zh (fun _ _=>rfl))))))))
    (zf (zm (i:=6) we.nd rfl (Or.inl rfl) (zk Be.ok (hr.mono (by omega)) rfl Be.bound Be.kp Be.bd .nil zG (za (pv 6) (za (pv 5) (za (pv 2) zb)))))))))
   (zf (zn (pv 6))))))),?_⟩
  refine ⟨_,rfl,x,t,rfl,hA,_,rfl,?_⟩
  cases g with
  | leaf i =>
   cases hA
   cases hR with
   | leaf h0 hL =>
   refine iteT ?_
   obtain ⟨ws,ews,rfl⟩ : ∃ ws,wss[i.toNat]?=some ws/\P1=_Sta.wc ws:=by
    unfold Lvs at hL
    rw [va] at hL
    cases e:wss[i.toNat]? with
    | none=>rw [e] at hL;cases hL
    | some ws=>rw [e] at hL;cases hL;exact ⟨ws,rfl,rfl⟩
   obtain ⟨v,ev,pa,rfl,hpa,hw,h40⟩ : ∃ v,us[i.toNat]?=some v/\Tx H v ws:=by
    have lt:=hT.len
    have hi:i.toNat<us.length:=by rw [lt];exact (kg.mp ews).1
    obtain ⟨t',e1,e2⟩:=hT.get (kh hi)
    rw [ews] at e1
    cases e1
    exact ⟨_,kh hi,e2⟩
   have ati:atI us i=some (.ref pa):=by
    have:=yK ev
    rwa [bA h0] at this
   refine ⟨_,rfl,_,_,rfl,rfl,(most:Int)+1,rfl,by omega,by omega,?_⟩
   rw [show ((most:Int)+1).toNat=most+1 by omega]
   refine Q5 (lo:=0) (n:=most+1) (fun j ys σ H2=>Same H H2/\ys.length=j/\(∀ (k:Nat) (v:V),ys[k]?=some v->(fits ws k=true/\∃ l,v=.ref l/\H2 l=some (.lst (tx (taken k ws))))\/(fits ws k=false/\v=.non))/\∃ o,σ=[o,some (.ref a),some (.int i)])
    ⟨Same.refl _,rfl,fun k v e=>by simp at e,none,rfl⟩ (fun j ys σ H2 hj h9=>by obtain ⟨_,l,_⟩:=h9;exact (by rw [l];exact km (show j<=1000001 by omega) (by decide))) ?_ ?_
   case refine_2 =>
    intro j ys σ H2 hj h8
    refine A_4 h8 fun S2 ly hY n8=>E_1 n8 fun o e9=>?_;clear n8 h8;subst e9
    rw [show (0:Int)+(j:Int)=(j:Int) from uI _]
    dsimp only [z7,tYes]
    refine iteT ?_
    refine ⟨_,rfl,_,rfl,a,_,_,_,rfl,rfl,SqL.of (S2 _ _ ha),ati,_,rfl,pa,ws,j,rfl,S2 _ _ hpa,hw,by omega,fun hf l H3 S3 hl=>?_,fun hf H3 S3=>?_⟩
    ·refine ⟨S2.trans S3,by rw [ki,ly];rfl,fun k v e=>?_,_,rfl⟩
     rcases u7 k ys.length with c | c
     ·rw [vS c] at e
      rcases hY k v e with ⟨f1,l',e',z⟩ | z
      ·exact .inl ⟨f1,l',e',S3 _ _ z⟩
      ·exact .inr z
     ·rw [vP c] at e
      have:k=j:=by
       rcases u7 (k-ys.length) 1 with z | z
       ·omega
       ·rw [List.getElem?_eq_none (by simpa using z)] at e
        cases e
      subst this
      rw [ly,bD] at e
      cases e
      exact .inl ⟨hf,l,rfl,hl⟩
    ·refine ⟨S2.trans S3,by rw [ki,ly];rfl,fun k v e=>?_,_,rfl⟩
     rcases u7 k ys.length with c | c
     ·rw [vS c] at e
      rcases hY k v e with ⟨f1,l',e',z⟩ | z
      ·exact .inl ⟨f1,l',e',S3 _ _ z⟩
      ·exact .inr z
     ·rw [vP c] at e
      have:k=j:=by
       rcases u7 (k-ys.length) 1 with z | z
       ·omega
       ·rw [List.getElem?_eq_none (by simpa using z)] at e
        cases e
      subst this
      rw [ly,bD] at e
      cases e
      exact .inr ⟨hf,rfl⟩
   rintro ys σ H2 ⟨S2,ly,hY,_⟩ pr npr
   have S3:=S2.trans (zc (o:=.lst ys) npr)
   have hpr:(upd H2 pr (.lst ys)) pr=some (.lst ys):=zd
   have hY3:∀ (k:Nat) (v:V),ys[k]?=some v->(fits ws k=true/\∃ l,v=.ref l/\(upd H2 pr (.lst ys)) l=some (.lst (tx (taken k ws))))\/(fits ws k=false/\v=.non):=fun k v e=>by
    rcases hY k v e with ⟨f1,l',e',z⟩ | z
    ·exact .inl ⟨f1,l',e',zc npr _ _ z⟩
    ·exact .inr z
   generalize upd H2 pr (.lst ys)=H3 at S3 hpr hY3
   clear hY
   try dsimp only
   refine ⟨Zz1,fun p1 np1=>?_⟩
   have S4:=zc (o:=.lst [V.non]) np1
   have hp1:(upd H3 p1 (.lst [V.non])) p1=some (.lst [V.non]):=zd
   have hpr4:=S4 _ _ hpr
   generalize upd H3 p1 (.lst [V.non])=H4 at S4 hp1 hpr4
   refine ⟨_,rfl,_,rfl,pr,_,rfl,SqL.of hpr4,fun p2 np2=>?_⟩
   have ec:cutV ys (some 1) none=ys.drop 1:=yZ ys 1 (by omega)
   rw [ec]
   have S5:=zc (o:=.lst (ys.drop 1)) np2
   have hp2:(upd H4 p2 (.lst (ys.drop 1))) p2=some (.lst (ys.drop 1)):=zd
   have hp15:=S5 _ _ hp1
   have S35:=S4.trans S5
   generalize upd H4 p2 (.lst (ys.drop 1))=H5 at S5 hp2 hp15 S35
   refine ⟨p2,rfl,⟨_,SqL.of hp2⟩,yH (K:=K) (a:=p2) (xs:=ys.drop 1) (fun j zs σ H6=>H6=H5/\zs=tb ((vo j).map fun k=>lfT ws (k+1))/\∃ o,σ=[o]) ⟨rfl,rfl,none,rfl⟩
    (fun j zs σ H6 hj h9=>by obtain ⟨e,e2,_⟩:=h9;exact (⟨by rw [e2,xM,ke,v9];rw [vq] at hj;exact km (show j<=1000001 by omega) (by decide),by rw [e];exact SqL.of hp2⟩)) ?_ ?_⟩
   case refine_2 =>
    rintro j v zs σ H6 hv ⟨rfl,rfl,o,rfl⟩
    rw [List.getElem?_drop] at hv
    have hj:=(kg.mp hv).1
    dsimp only [z7,tYes]
    refine iteT ?_
    have nx:∀ o:Option Nat,o=lfT ws (j+1)->tb ((vo j).map fun k=>lfT ws (k+1))++[oV o]=tb ((vo (j+1)).map fun k=>lfT ws (k+1)):=fun o eo=>by
     rw [Z9,List.range_succ,kC,eo]
     rfl
    have ee:1+j=j+1:=by omega
    rw [ee] at hv
    rcases hY3 (j+1) v hv with ⟨hf,l,rfl,hl⟩ | ⟨hf,rfl⟩
    ·refine ⟨_,rfl,rfl,_,rfl,?_⟩
     refine iteF ?_
     have hl6:=S35 _ _ hl
     refine ⟨_,rfl,l,_,rfl,.inl (SqL.of hl6),_,_,rfl,?_⟩
     refine ⟨rfl,?_,_,rfl⟩
     have ev:(if (((tx (taken ((j+1:Nat):Int) ws)).length:Nat):Int)>((1:Nat):Int) then (((tx (taken ((j+1:Nat):Int) ws)).length:Nat):Int) else ((1:Nat):Int))=((max 1 (cnt ws ((j+1:Nat):Int)):Nat):Int):=by
      rw [WW,yu,xm]
     have:=nx (some (max 1 (cnt ws ((j+1:Nat):Int)))) (by unfold lfT;rw [if_pos ⟨by omega,hf⟩])
     show _++[V.int (if (((tx (taken ((j+1:Nat):Int) ws)).length:Nat):Int)>((1:Nat):Int) then (((tx (taken ((j+1:Nat):Int) ws)).length:Nat):Int) else ((1:Nat):Int))]=_
     rw [ev]
     exact this
    ·refine ⟨_,rfl,rfl,_,rfl,?_⟩
     refine iteT ⟨_,rfl,rfl,?_,_,rfl⟩
     exact nx none (by unfold lfT;rw [if_neg (by rw [hf];intro z;cases z.2)])
   rintro zs σ H6 ⟨rfl,rfl,_⟩ p3 np3
   have S6:=zc (o:=.lst (tb ((vo (ys.drop 1).length).map fun k=>lfT ws (k+1)))) np3
   have hp3:(upd H6 p3 (.lst (tb ((vo (ys.drop 1).length).map fun k=>lfT ws (k+1))))) p3=some (.lst (tb ((vo (ys.drop 1).length).map fun k=>lfT ws (k+1)))):=zd
   have hp16:=S6 _ _ hp15
   generalize upd H6 p3 (.lst (tb ((vo (ys.drop 1).length).map fun k=>lfT ws (k+1))))=H7 at S6 hp3 hp16
   refine I_4 p1 p3 _ _ ⟨rfl,rfl,hp16,hp3,?_,fun p4 np4=>?_⟩
   ·rw [xM,ke,v9,vq,kU]
    exact km (show _<=1000002 by omega) (by decide)
   have e4:[V.non]++tb ((vo (ys.drop 1).length).map fun k=>lfT ws (k+1))=tb ((vo (most+1)).map (lfT ws)):=by
    rw [vq,ly,show most+1-1=most by omega,List.range_succ_eq_map,vj,v7]
    have:lfT ws 0=none:=by unfold lfT;rw [if_neg (by omega)]
    unfold tb
    rw [vj,this]
    rfl
   rw [e4]
   exact q p4 _ _ (S3.trans (S35.trans (S6.trans (zc np4)))) zd (zar ws most)
  | @node k ps nss hk h2 hn hG =>
   cases hA with
   | @tup a0 vs0 ss e hL =>
   obtain ⟨b0,ws,rfl,e2,hQ⟩:=hL.knot
   have lq:=hQ.len
   have nsz:=yL k ps
   have lps:=y9 ps
   refine iteF ?_
   refine zY ?_
   dsimp only
   obtain ⟨P0,Ps,hRL,eP⟩ : ∃ P0 Ps,zT (Lvs wss) ps (P0::Ps)/\((k=bar/\P1=Ps.foldl _Sta.bes P0)\/(k=dash/\P1=Ps.foldl _Sta.dwn P0)):=by
    cases hR with
    | bar h=>exact ⟨_,_,h,.inl ⟨rfl,rfl⟩⟩
    | dash h=>exact ⟨_,_,h,.inr ⟨rfl,rfl⟩⟩
   have lP:=hRL.len
   have hup:=zT.up (wX wss) hRL
   refine ⟨_,rfl,a0,_,_,_,rfl,rfl,SqT.of e,rfl,b0,rfl,⟨_,SqT.of e2⟩,qd (K:=K) (a:=b0) (xs:=ws) (fun i ys σ H'=>xc H' most ys ((P0::Ps).take i)/\Same H H'/\∃ o,σ=[o,some (.ref a),some (.int (most:Int))]) ⟨.nil,Same.refl _,none,rfl⟩
    (fun i ys σ H' hi h9=>by obtain ⟨h1,S3,_⟩:=h9;exact (⟨by rw [h1.len,kH];exact km (show _<=1000000 by omega) (by decide),SqT.of (S3 _ _ e2)⟩)) ?_ ?_⟩
   case refine_2 =>
    intro i y ys σ H1 hy h8
    refine A_3 h8 fun hY S1 n8=>E_1 n8 fun o e9=>?_;clear n8 h8;subst e9
    obtain ⟨p,ep,hAp⟩:=hQ.get hy
    have pm:p∈ps:=kZ ep
    obtain ⟨np,enp,gp⟩:=hG.get ep
    obtain ⟨Pp,ePp,hPp⟩:=hRL.get ep
    obtain ⟨hip,evp⟩:=kg.mp ePp
    have two:=ZB h2 pm
    dsimp only [z7,tYes]
    refine iteT ?_
    refine ⟨_,rfl,_,rfl,_,rfl,y,p,np,a,us,wss,Pp,most,rfl,hAp.same S1,gp,hPp,S1 _ _ ha,hT.same S1,hm,by omega,by omega,fun l f H2 S2 hl hf=>?_⟩
    refine ⟨?_,S1.trans S2,_,rfl⟩
    rw [<- kz hip,evp]
    exact (hY.same S2).snoc ⟨l,f,rfl,hl,hf⟩
   rintro ys σ H1 ⟨hY,S1,_⟩ pl npl
   rw [lq,lP,kO] at hY
   have S2:=S1.trans (zc (o:=.lst ys) npl)
   have hpl:(upd H1 pl (.lst ys)) pl=some (.lst ys):=zd
   have hY2:=hY.same (zc (o:=.lst ys) npl)
   generalize upd H1 pl (.lst ys)=H2 at S2 hpl hY2
   clear hY
   cases hY2 with
   | @cons v0 _ vs _ h0 hr2 =>
   refine E_2 h0 fun l0 f0 n8=>A_3 n8 fun e9 hl0 ht0=>?_;clear n8 h0;subst e9
   have lv:=hr2.len
   try dsimp only
   refine ⟨_,rfl,pl,_,0,.ref l0,rfl,rfl,SqL.of hpl,yK (j:=0) rfl,?_⟩
   refine ⟨_,rfl,_,rfl,pl,_,rfl,SqL.of hpl,fun pc nc=>?_⟩
   have ec:cutV (V.ref l0::vs) (some 1) none=vs:=yZ (V.ref l0::vs) 1 (by simp)
   rw [ec]
   have S3:=zc (o:=.lst vs) nc
   have hpc:(upd H2 pc (.lst vs)) pc=some (.lst vs):=zd
   generalize upd H2 pc (.lst vs)=H3 at S3 hpc
   have S23:=S2.trans S3
   have hr3:=hr2.same S3
   refine ⟨pc,rfl,⟨_,SqL.of hpc⟩,?_⟩
   obtain ⟨op,eop⟩ : ∃ op:R->R->R,op=(if k=bar then _Sta.bes else _Sta.dwn):=⟨_,rfl⟩
   have hup0:=hup P0 kw
   have fop:∀ (Qs:List R),(∀ Q∈Qs,_Sta.Up Q)->_Sta.Up (Qs.foldl op P0):=fun Qs hQs=>by
    rw [eop]
    split
    ·exact _Sta.qA (fun _ _ a b=>_Sta.ZC a b) Qs P0 hup0 hQs
    ·exact _Sta.qA (fun _ _ a b=>_Sta.X0 a b) Qs P0 hup0 hQs
   have eP1:P1=Ps.foldl op P0:=by
    rw [eop]
    rcases eP with ⟨rfl,z⟩ | ⟨rfl,z⟩
    ·rw [if_pos rfl];exact z
    ·rw [if_neg wR];exact z
   refine xn (K:=K) (a:=pc) (xs:=vs) (fun i σ H4=>∃ (l:Addr) (f:List (Option Nat)) (o5 o7:Option V),σ=[some (.ref a0),some (.ref a),some (.int (most:Int)),none,some (.ref pl),o5,some (.ref l),o7]/\Same H3 H4/\H4 l=some (.lst (tb f))/\TabOf ((Ps.take i).foldl op P0) most f)
    ⟨l0,f0,none,none,rfl,Same.refl _,S3 _ _ hl0,ht0⟩ (fun i σ H4 _ h9=>by obtain ⟨_,_,_,_,_,S,_⟩:=h9;exact (SqL.of (S _ _ hpc))) ?_ ?_
   ·intro i x σ H4 hi h8
    refine E_4 h8 fun l f o5 o7 n8=>A_4 n8 fun e9 S4 hl ht=>?_;clear n8 h8;subst e9
    obtain ⟨Pp,ePp,lp,g,rfl,hlp,hg⟩:=hr3.get hi
    obtain ⟨hip,evp⟩:=kg.mp ePp
    have upP:=hup Pp (kq _ (kZ ePp))
    have upF:=fop (Ps.take i) fun Q hQ=>hup Q (kq _ (v8 hQ))
    have nxt:(Ps.take (i+1)).foldl op P0=op ((Ps.take i).foldl op P0) Pp:=by
     rw [<- kz hip,evp,u5]
     rfl
    rw [nxt]
    generalize (Ps.take i).foldl op P0=Pi at ht upF
    refine zQ ?_
    have S34:=S23.trans S4
    refine ⟨_,rfl,a0,_,_,_,rfl,rfl,SqT.of (S34 _ _ e),rfl,rfl,_,rfl,?_⟩
    have ek:decide (V.str k=V.str "-")=decide (k=dash):=by
     rw [decide_eq_decide]
     exact ⟨fun z=>by injection z,fun z=>by rw [z];rfl⟩
    rw [ek]
    have hlp4:=S4 _ _ hlp
    rcases eP with ⟨rfl,_⟩ | ⟨rfl,_⟩
    ·rw [decide_eq_false wR.symm]
     rw [if_pos rfl] at eop
     subst eop
     refine iteF ⟨_,rfl,_,rfl,_,rfl,l,lp,f,g,most,rfl,hl,hlp4,ht.1,hg.1,hm,fun l5 h5 H5 S5 hl5 lh5 h05 hB5=>?_⟩
     exact I_4 l5 h5 _ _ ⟨rfl,S4.trans S5,hl5,zbB upF upP ht hg lh5 h05 hB5⟩
    ·rw [decide_eq_true rfl]
     rw [if_neg wR] at eop
     subst eop
     refine iteT ⟨_,rfl,_,rfl,l,lp,_,_,rfl,SqL.of hl,SqL.of hlp4,by rw [xM,xM,ht.1,hg.1],fun lb us5 H5 S5 nb hlb hPr=>?_⟩
     rw [zcJ] at hPr
     have lz:=hPr.len
     rw [ke,uA,ht.1,hg.1] at lz
     refine ⟨_,rfl,lb,rfl,⟨_,SqL.of hlb⟩,yH (K:=K) (a:=lb) (xs:=us5) (fun j zs σ H6=>H6=H5/\zs=tb (((f.zip g).take j).map fun p=>_Sta.addO p.1 p.2)/\∃ o,σ=[o]) ⟨rfl,rfl,none,rfl⟩
      (fun j zs σ H6 hj h9=>by obtain ⟨e,e2,_⟩:=h9;exact (⟨by rw [e2,xM,ke,kH,uA,ht.1,hg.1];exact km (show _<=1000001 by omega) (by decide),by rw [e];exact SqL.of hlb⟩)) ?_ ?_⟩
     case refine_2 =>
      rintro j v zs σ H6 hv ⟨rfl,rfl,o,rfl⟩
      obtain ⟨pp,epp,ap,rfl,hap⟩:=hPr.get hv
      rw [va] at epp
      obtain ⟨pq,epq,rfl⟩:=vA.mp epp
      obtain ⟨hjl,evj⟩:=kg.mp epq
      dsimp only [z7,tYes]
      refine iteT ?_
      have nx:∀ o:Option Nat,o=_Sta.addO pq.1 pq.2->tb (((f.zip g).take j).map fun p=>_Sta.addO p.1 p.2)++[oV o]=tb (((f.zip g).take (j+1)).map fun p=>_Sta.addO p.1 p.2):=fun o eo=>by
       rw [Z9,<- kz hjl,evj,kC,eo]
       rfl
      refine ⟨_,rfl,ap,_,rfl,.inr (SqT.of hap),rfl,by simp [zbD],_,rfl,?_⟩
      show if (inV .non [oV pq.1,oV pq.2])=true then _ else _
      rw [zbC]
      obtain ⟨a1,a2⟩:=pq
      cases a1 with
      | none=>exact iteT ⟨rfl,nx none rfl,_,rfl⟩
      | some x1 =>
       cases a2 with
       | none=>exact iteT ⟨rfl,nx none rfl,_,rfl⟩
       | some x2 =>
        refine iteF ⟨_,rfl,ap,_,_,_,rfl,rfl,SqT.of hap,rfl,_,rfl,ap,_,_,_,rfl,rfl,SqT.of hap,rfl,_,_,rfl,rfl,rfl,?_,_,rfl⟩
        exact nx (some (x1+x2)) rfl
     rintro zs σ H6 ⟨rfl,rfl,_⟩ p3 np3
     rw [lz,<- (show (f.zip g).length=min (most+1) (most+1) by rw [uA,ht.1,hg.1]),kO]
     have S6:Same H4 (upd H6 p3 (.lst (tb ((f.zip g).map fun p=>_Sta.addO p.1 p.2)))):=fun b u z=>zc np3 _ _ (S5 b u z)
     exact I_4 p3 _ _ _ ⟨rfl,S4.trans S6,zd,zbA ht hg⟩
   ·intro σ H4 h8
    refine E_4 h8 fun l f o5 o7 n8=>A_4 n8 fun e9 S4 hl ht=>?_;clear n8 h8;subst e9
    rw [lv,kO,<- eP1] at ht
    exact ⟨_,rfl,q l f H4 (S23.trans S4) hl ht⟩
theorem Ju {f fW fR fB:Addr} {fd dW dR dB:FuncData} (F:Fun K "_law_heights" "_law_heights" sHts f fd) (tr:mg "range" = none) (tl:mg "len" = none) (tmax:mg "max" = none) (tlist:mg "list" = none) (tzip:mg "zip" = none) (Wh:Callee P w K mg base CX0 1 "_law_whole" fW dW ["found"] y8)
  (Rw:Callee P w K mg base CX0 1 "_law_rows" fR dR ["words","wide"] jQ) (Be:Callee P w K mg base CX0 1 "_law_beside" fB dB ["one","other","most"] ZH) (bo:mg "_law_heights" = some (.ref f)) (kp:kE K (.ref f)=true) (bd:Binds K fd ["tree","texts","most"] []):∀ d,FnOk P w K mg base CX0 (d+2) f fd ["tree","texts","most"] (jR d)
 | 0=>zbE F
 | d+1=>zbF F tr tl tmax tlist tzip Wh Rw Be ⟨Ju F tr tl tmax tlist tzip Wh Rw Be bo kp bd d,bo,kp,bd⟩
end
end _JF
namespace _Sta
open _Tre _Lin
mutual
theorem jw {Ls:List R}:∀ {t:T} {P Q:R},HasR Ls t P->HasR Ls t Q->P=Q
 | _,_,_,.leaf _ h,h'=>by
  cases h' with
  | leaf _ k=>rw [h] at k;exact Option.some.inj k
 | _,_,_,.bar h,h'=>by
  generalize e:(T.tup [.str bar,.tup _]:T)=t' at h'
  cases h' with
  | leaf _ _=>cases e
  | bar k =>
   injection e with e
   injection e with _ e
   injection e with e _
   injection e with e
   subst e
   have:=qX h k
   injection this with a b
   subst a b
   rfl
  | dash k =>
   injection e with e
   injection e with e _
   injection e with e
   exact absurd e.symm (by decide +kernel)
 | _,_,_,.dash h,h'=>by
  generalize e:(T.tup [.str dash,.tup _]:T)=t' at h'
  cases h' with
  | leaf _ _=>cases e
  | dash k =>
   injection e with e
   injection e with _ e
   injection e with e _
   injection e with e
   subst e
   have:=qX h k
   injection this with a b
   subst a b
   rfl
  | bar k =>
   injection e with e
   injection e with e _
   injection e with e
   exact absurd e (by decide +kernel)
theorem qX {Ls:List R}:∀ {ts:List T} {Ps Qs:List R},zT Ls ts Ps->zT Ls ts Qs->Ps=Qs
 | _,_,_,.nil,h'=>by cases h';rfl
 | _,_,_,.cons h r,h'=>by
  cases h' with
  | cons k s=>rw [jw h k,qX r s]
end
theorem zas {f:Int->Nat} {a b:List Int} (h:a.Perm b):(a.map f).sum=(b.map f).sum:=by
 induction h with
 | nil=>rfl
 | cons x _ ih=>rw [vj,vk,vj,vk,ih]
 | swap x y l=>simp only [vj,vk];omega
 | trans _ _ i1 i2=>rw [i1,i2]
theorem zbG {wss:List (List W)} {t:T} {n:List Int} {P:R} (g:Good t n) (pm:n.Perm (up wss.length)) (h:HasR (wss.map wc) t P):Bd P (wss.map yp).sum:=by
 have:=HasR.bd (Ls:=wss.map wc) (Ms:=fun i=>yp (wss.getD i [])) (fun L hL=>by
  obtain ⟨ws,_,rfl⟩:=vC.mp hL
  exact WP ws) (fun i Q hQ=>by
  rw [va] at hQ
  cases e:wss[i]? with
  | none=>rw [e] at hQ;cases hQ
  | some ws =>
   rw [e] at hQ
   cases hQ
   rw [kP,e]
   exact zbr ws) g h
 refine this.mono (uf ?_)
 unfold many
 rw [zas pm]
 unfold up
 rw [v7]
 have e:((fun i:Int=>yp (wss.getD i.toNat []))∘fun i:Nat=>(i:Int))=fun i:Nat=>yp (wss.getD i []):=by
  funext i
  simp
 rw [e]
 have:(vo wss.length).map (fun i=>yp (wss.getD i []))=wss.map yp:=by
  apply List.ext_getElem
  ·simp
  ·intro i h1 h2
   simp at h1 h2
   simp [h1]
 rw [this]
theorem zcK {P:R} (hP:Up P) {M:Nat} (hB:Bd P M) {w:Nat}:∀ {o:Option Nat},Low P (min w M) o->Low P w o
 | none,l=>fun h z=>l h ((hB.iff hP w h).mpr z)
 | some v,l=>⟨(hB.iff hP w v).mp l.1,fun h z=>l.2 h ((hB.iff hP w h).mpr z)⟩
theorem zbH {A:S} {w:Nat} {ns:List Nat} (h:∀ n,n∈ns↔∃ p,p∈A/\p.1<=w/\p.2=n):(ns=[]->Low (reg A) w none)/\∀ M,M∈ns->(∀ z∈ns,M<=z)->Low (reg A) w (some M):=by
 refine ⟨fun e k ⟨p,hp,a,b⟩=>?_,fun M hM hl=>⟨?_,fun k ⟨p,hp,a,b⟩=>?_⟩⟩
 ·have:=(h p.2).mpr ⟨p,hp,a,rfl⟩
  rw [e] at this
  exact kW this
 ·obtain ⟨p,hp,a,b⟩:=(h M).mp hM
  exact ⟨p,hp,a,uf b⟩
 ·have:=hl p.2 ((h p.2).mpr ⟨p,hp,a,rfl⟩)
  omega
theorem zbI {A:S} {k:Nat} {ns:List Nat} (h:∀ n,n∈ns↔∃ p,p∈A/\p.2<=k/\p.1=n):(ns=[]->Low (tr (reg A)) k none)/\∀ M,M∈ns->(∀ z∈ns,M<=z)->Low (tr (reg A)) k (some M):=by
 refine ⟨fun e w ⟨p,hp,a,b⟩=>?_,fun M hM hl=>⟨?_,fun w ⟨p,hp,a,b⟩=>?_⟩⟩
 ·have:=(h p.1).mpr ⟨p,hp,b,rfl⟩
  rw [e] at this
  exact kW this
 ·obtain ⟨p,hp,a,b⟩:=(h M).mp hM
  exact ⟨p,hp,uf b,a⟩
 ·have:=hl p.1 ((h p.1).mpr ⟨p,hp,b,rfl⟩)
  omega
end _Sta
namespace _L2
open PySem PySem.Spec PyProof.Rows
section
variable {prog:Program} {w:World} {A:Around} {R:Result->Shared->Prop} {I:Addr} {fp wr:List Addr} {n:Nat} {P:Nat->Value->Prop} {St:Nat->Heap->Prop}
noncomputable def Kept (bt:Nat->Nat->Bool) (P:Nat->Value->Prop) (i:Nat) (acc:Array Value):Prop:=(i=0/\acc=#[])\/∃ v,0<i/\acc=#[v,v]/\P (argBest bt (i-1)) v
theorem YR (W:Walks prog w A.in1 I fp wr n P St) (bt:Nat->Nat->Bool) (hcmp:CmpOf prog w A.in1 .Lt P bt) (S:Addr) (hSf:S∉fp) (x:Str) (d:Value) :
  ∀ (k i:Nat) (s:Shared) (acc:Array Value) (c:Nat),i+k=n->St i s.heap->Kept bt P i acc->s.heap.get? S=some {cls:=.type "list",dict:=none,data:=.seq acc c,slots:=#[]} ->
  (∀ v h' tk,((0<n/\P (argBest bt (n-1)) v)\/(n=0/\v=d))->(∀ b o,b∉wr->b≠S->s.heap.get? b=some o->h'.get? b=some o)->R (.ok (.ret v)) {s with heap:=h',toks:=tk}) ->
  codeAny (model prog w) A (.builtin "min.loop" ⟨[.ref I,.none,.ref S],[(x,d)]⟩) R s
 | 0,i,s,acc,c,hk,hst,hK,hS,hR=>by
  have hSw:S∉wr:=fun h=>hSf (W.sub _ h)
  have e:i=n:=by omega
  subst e
  refine codeAny_builtin F.entry_min_loop ?_
  rw [Around.under_plainId F.plain_min_loop _]
  show wpAny _ A.in1 (seqItems? (.ref S) >>= _) _ _ s
  refine wpAny_bind (wpAny_seqItems hS rfl ?_)
  refine wpAny_bind (wpAny_tryCatch (W.done s _ _ hst fun h' tk hk'=>?_))
  rcases hK with ⟨i0,rfl⟩ | ⟨v,i0,rfl,hv⟩
  ·show wpAny _ A.in1 (rule _ >>= fun _=>ret d) _ _ _
   refine wpAny_bind (wpAny_rule (wpAny_pure ?_))
   exact hR d h' tk (.inr ⟨i0,rfl⟩) fun b o hb _ q=>hk' b o hb q
  ·have hS':=hk' S _ hSw hS
   show wpAny _ A.in1 (updateSeq S (fun _=>#[]) >>= _) _ _ _
   refine wpAny_bind (wpAny_updateSeq hS' rfl ?_)
   refine wpAny_bind (wpAny_letGo (wpAny_pure ?_))
   exact hR v _ tk (.inl ⟨i0,hv⟩) fun b o hb bS q=>(Heap.get?_update_other _ _ (Ne.symm bS)).trans (hk' b o hb q)
 | k+1,i,s,acc,c,hk,hst,hK,hS,hR=>by
  have hSw:S∉wr:=fun h=>hSf (W.sub _ h)
  have hname:(toString "min" ++ toString ".loop" : String) = "min.loop" := by decide
  refine codeAny_builtin F.entry_min_loop ?_
  rw [Around.under_plainId F.plain_min_loop _]
  show wpAny _ A.in1 (seqItems? (.ref S) >>= _) _ _ s
  refine wpAny_bind (wpAny_seqItems hS rfl ?_)
  refine wpAny_bind (wpAny_tryCatch (W.item i s _ _ (by omega) hst fun v h' tk hP hst' hk'=>?_))
  have hS':=hk' S _ hSw hS
  have oth:∀ (acc':Array Value) b o,b≠S->h'.get? b=some o->(h'.update S (Obj.mapSeq fun _=>acc')).get? b=some o:=fun _ b o bS q=>(Heap.get?_update_other _ _ (Ne.symm bS)).trans q
  have nx:∀ (acc':Array Value) (c':Nat) (h'':Heap),Kept bt P (i+1) acc'->h''.get? S=some {cls:=.type "list",dict:=none,data:=.seq acc' c',slots:=#[]}->(∀ b o,b≠S->h'.get? b=some o->h''.get? b=some o) ->
    codeAny (model prog w) A (.builtin "min.loop" ⟨[.ref I,.none,.ref S],[(x,d)]⟩) R {s with heap:=h'',toks:=tk}:=fun acc' c' h'' hK' hS'' o'' =>
   YR W bt hcmp S hSf x d k (i+1) _ acc' c' (by omega) (W.frame _ _ _ hst' fun b hb o q=>o'' b o (fun z=>hSf (by rw [<- z];exact hb)) q) hK' hS'' fun u h3 t3 hu k3=>hR u h3 t3 hu fun b o hb bS q=>k3 b o hb bS (o'' b o bS (hk' b o hb q))
  rcases hK with ⟨i0,rfl⟩ | ⟨u,i0,rfl,hu⟩
  ·show wpAny _ A.in1 (updateSeq S (fun _=>#[v,v]) >>= _) _ _ _
   refine wpAny_bind (wpAny_updateSeq hS' rfl ?_)
   rw [hname]
   exact wpAny_pure ⟨plainId_quiet F.plain_min_loop _,nx #[v,v] _ _ (.inr ⟨v,uH _,rfl,by subst i0;exact hP⟩) (Heap.get?_update_self _ hS' rfl) (oth _)⟩
  ·obtain ⟨j,rfl⟩ : ∃ j,i=j+1:=⟨i-1,by omega⟩
   have hu:P (argBest bt j) u:=hu
   show wpAny _ A.in1 (tryCatch (holding [v,v] (richCompare .Lt v u >>= _)) _ >>= _) _ _ _
   refine wpAny_bind (wpAny_tryCatch (wpAny_holding (wpAny_bind (hcmp (j+1) (argBest bt j) v u _ _ _ hP hu ?_))))
   refine wpAny_bind (wpAny_holding (wpAny_truthy_bool ?_))
   refine wpAny_bind (wpAny_letGo (wpAny_pure ?_))
   cases hb:bt (j+1) (argBest bt j) with
   | true =>
    rw [if_pos rfl]
    refine wpAny_bind (wpAny_updateSeq hS' rfl (wpAny_bind (wpAny_letGo ?_)))
    rw [hname]
    exact wpAny_pure ⟨plainId_quiet F.plain_min_loop _,nx #[v,v] _ _ (.inr ⟨v,uH _,rfl,by show P (if bt (j+1) (argBest bt j)=true then j+1 else argBest bt j) v;rw [if_pos hb];exact hP⟩) (Heap.get?_update_self _ hS' rfl) (oth _)⟩
   | false =>
    rw [if_neg kF]
    refine wpAny_bind (wpAny_letGo ?_)
    rw [hname]
    exact wpAny_pure ⟨plainId_quiet F.plain_min_loop _,nx #[u,u] _ _ (.inr ⟨u,uH _,rfl,by show P (if bt (j+1) (argBest bt j)=true then j+1 else argBest bt j) u;rw [if_neg (by rw [hb];exact kF)];exact hu⟩) hS' fun _ _ _ q=>q⟩
end
section
variable {prog:Program} {w:World} {A:Around} {E:Value->Shared->Prop} {s:Shared}
theorem Jv (a d:Value):argsOk "min" ⟨[a],[("default",d)]⟩:=by unfold argsOk;kernel_rfl
theorem Jw {x d:Value} {Q:Value->Shared->Prop}
  (h:wpAny (model prog w) A.in1 (pyIter x) (fun it s₂=>∃ I fp wr n P St bt,it=.ref I/\Walks prog w A.in1 I fp wr n P St/\St 0 s₂.heap/\(∀ b∈fp,b<s₂.heap.objs.size)/\CmpOf prog w A.in1 .Lt P bt /\
   ∀ v h' tk,((0<n/\P (argBest bt (n-1)) v)\/(n=0/\v=d))->(∀ b o,b∉wr->s₂.heap.get? b=some o->h'.get? b=some o)->Q v {s₂ with heap:=h',toks:=tk}) E s) :
  wpAny (model prog w) A (call (.builtin "min") [x] [("default",d)]) Q E s:=by
 have hname:(toString "min" ++ toString ".loop" : String) = "min.loop" := by decide
 refine wpAny_call (codeAny_call_builtin F.plain_min F.entry_min ?_)
 simp only [checkBuiltinCall,F.kind_min]
 have body:wpAny (model prog w) A.in1 (Builtin.«min» ⟨[x],[("default",d)]⟩) (fun fin s'=>match fin with
   | .done f=>(match (Except.ok f:Result) with | .ok (.ret v)=>Q v s' | .ok _=>False | .error e=>E e s')
   | .again c'=>c'.quiet=true/\codeAny (model prog w) A c' (fun r s'=>match r with | .ok (.ret v)=>Q v s' | .ok _=>False | .error e=>E e s') s') E s:=by
  show wpAny _ A.in1 (Builtin.Builtins.bindParams "min" ["key","default"] 0 ⟨[],[("default",d)]⟩ >>= _) _ _ s
  refine wpAny_bind (wpAny_of_eq (show Builtin.Builtins.bindParams "min" ["key","default"] 0 ⟨[],[("default",d)]⟩=pure [none,some d] from rfl) ?_)
  refine wpAny_bind (wpAny_pure ?_)
  refine wpAny_bind (wpAny_mono h (fun it s₂ h₂=>?_) fun _ _ e=>e)
  refine E_7 h₂ fun I fp wr n P St bt n8=>A_6 n8 fun e9 W hst hfp hcmp hQ=>?_;clear n8 h₂;subst e9
  refine wpAny_bind (wpAny_newObj_type ?_)
  have hSf:s₂.heap.objs.size∉fp:=fun hm=>vK _ (hfp _ hm)
  rw [hname]
  refine wpAny_pure ⟨plainId_quiet F.plain_min_loop _,YR W bt hcmp s₂.heap.objs.size hSf "default" d n 0 _ #[] _ (Nat.zero_add _) (W.frame _ _ _ hst fun b _ o e=>Heap.get?_push_of_some _ e) (.inl ⟨rfl,rfl⟩) (Heap.get?_push_size _ rfl) fun v h' tk hP hk=>?_⟩
  exact hQ v h' tk hP fun b o hbw e=>hk b o hbw (vz (Heap.lt_size e)) (Heap.get?_push_of_some _ e)
 cases hsig:Manifest.signature? "min" with
 | none=>exact wpAny_pure body
 | some sig =>
  have ha:=Jv x d
  simp only [argsOk,hsig] at ha
  have h2:Bind.checkArgs "min" sig ⟨[x],[("default",d)]⟩=pure ():=ha
  show wpAny _ A.in1 (Bind.checkArgs "min" sig ⟨[x],[("default",d)]⟩) _ _ s
  rw [h2]
  exact wpAny_pure body
end
section
variable {X:Cx}
noncomputable def zdl (K:Frag) (tl:TE):TE:=fun σ H Q=>tl σ H fun x H1=>∃ (a:Addr) (ns:List Int),x=.ref a/\SqL K H1 a (ns.map V.int)/\(ns=[]->Q .non H1)/\(∀ M,M∈ns->(∀ z∈ns,M<=z)->Q (.int M) H1)
theorem WX {l:Expr} {tl:TE} {cc:Nat} {np kpos p pos:Pos} (hc:X.calm=true) (hg:Gl X "min") (hm:X.mg "min" = none) (hl:PE X l tl) (hs:starEach [l] X.env=[(false,eval l X.env)]:=by rfl) :
  PE X (.Call (.Name "min" p) [l] [⟨some "default",.Constant .none cc np,kpos⟩] pos) (zdl X.K tl):=by
 intro pins s σ H Q I h
 refine wpAny_Call_Name_kw (xb I hg hm boot_min ?_ (by decide) (by decide))
 refine PyProof.Rows.callWith_kw (thn ((za hl zb hs) pos pins s σ H (fun vs H1=>match vs with
  | [x]=>∃ (a:Addr) (ns:List Int),x=.ref a/\SqL X.K H1 a (ns.map V.int)/\(ns=[]->Q .non H1)/\(∀ M,M∈ns->(∀ z∈ns,M<=z)->Q (.int M) H1)
  | _=>False) I h) fun us s1 ⟨vs,H1,I1,r1,q1⟩=>?_) (by rw [hs];rfl) (by rw [hs];rfl) rfl rfl
 match vs,q1 with
 | [x],q1 =>
 obtain ⟨u,rfl,ru⟩:=vals1 r1
 refine thn ((zaX (nm:=some "default") yO zb6) pos pins s1 σ H1 (fun ws H2=>ws=[.non]/\H2=H1) I1 ⟨rfl,rfl⟩) fun us2 s2 h9=>?_
 obtain ⟨ws,H2,I2,r2,e1,e2⟩:=h9
 subst e1 e2
 obtain ⟨u2,rfl,ru2⟩:=vals1 r2
 refine E_2 q1 fun a ns n8=>A_4 n8 fun e9 hq q0 q=>?_;clear n8 q1;subst e9
 cases (show u=Value.ref a from ru)
 cases (show u2=Value.none from ru2)
 show wpAny _ _ (call (.builtin "min") [.ref a] [(Str.ofString "default",.none)]) _ _ _
 obtain ⟨its,rv,tp,hz⟩:=I2.list hq
 have hll:=rv.length
 rw [ke] at hll
 refine Jw (wJ I2 tp.isList hc fun s3 e W st hfp=>?_)
 subst e
 refine I_7 _ _ _ _ _ _ _ ⟨rfl,W,st,hfp,CmpOf.ints_lt (fun i=>ns.getD i 0) (xQ rv),fun v h' tk hP hk=>?_⟩
 have keep:Inv X pins σ H2 _:=I2.kept (t':=tk) fun b o e=>hk b o (fun m=>by
  have:=Heap.lt_size e
  rw [kD.mp m] at this
  exact vK _ this) (Heap.get?_push_of_some _ e)
 rw [ku] at hP
 rcases hP with ⟨h0,hP⟩ | ⟨h0,rfl⟩
 ·obtain ⟨t,rfl⟩:=xQ rv _ _ hP
  obtain ⟨b1,b2⟩:=argBest_lt (fun i=>ns.getD i 0) (its.length-1)
  refine ⟨.int _,H2,keep,⟨t,rfl⟩,q _ (j7 (by omega)) fun z hz=>?_⟩
  obtain ⟨j,hj,e⟩:=Xr hz
  rw [<- e]
  exact b2 j (by omega)
 ·exact ⟨.non,H2,keep,rfl,q0 (vY.mp (by omega))⟩
end
end _L2
namespace _JF
open PySem _L2 _Lin _Tre PySem.W
open _Sta (R Ok sbs exch reg OkS OkSs stN HasR zT Low Best tr)
theorem zat {ws:List W} (h:∀ u∈ws,okW u) (h40:ws.length<=40):_Sta.yp ws<=600:=by
 have:=_Sta.X2 ws
 have:=YN h
 unfold _Sta.yp
 omega
theorem zau {wss:List (List W)} (h:∀ ws∈wss,∀ u∈ws,okW u) (h40:∀ ws∈wss,ws.length<=40):(wss.map _Sta.yp).sum<=600*wss.length:=by
 induction wss with
 | nil=>exact kf _
 | cons a r ih =>
  have:=ih (fun ws hw=>h ws (kq _ hw)) fun ws hw=>h40 ws (kq _ hw)
  have:=zat (h a kw) (h40 a kw)
  rw [vj,vk,kK]
  omega
noncomputable def wf (wss:List (List W)):Nat:=2+(wss.map _Sta.yp).sum
structure Gd (H:Hp) (x:V) (a:Addr) (t:T) (n:List Int) (wss:List (List W)):Prop where
 at_:At H x t
 sz1:sz t<=1000
 tree:zX t
 good:Good t n
 pm:n.Perm (up wss.length)
 len:wss.length<=24
 txs:∃ us,H a=some (.lst us)/\Txs H us wss
theorem Yb (n:Nat):(up n).length=n:=by
 unfold up
 rw [ke,v9]
theorem Gd.nlen {H:Hp} {x:V} {a:Addr} {t:T} {n:List Int} {wss:List (List W)} (h:Gd H x a t n wss):n.length=wss.length:=by
 rw [h.pm.length_eq,Yb]
theorem zcL (xs:List V) (j:Nat):(cutV xs (some 2) (some ((j:Nat):Int))).length<=j:=by
 unfold cutV
 rw [kH,_HT.wm]
 omega
noncomputable def Xg:Sp:=fun vs H Q _=>∃ (a:Addr) (us:List V) (A:Stc) (wide:Nat),vs=[.ref a,.int wide]/\H a=some (.lst us)/\z9 H us A/\A.length<=1000000/\∀ (o:Option Nat) (H':Hp),Same H H'->Low (reg A) wide o->Q (oV o) H'
noncomputable def ZI:Sp:=fun vs H Q _=>∃ (a:Addr) (us:List V) (A:Stc) (high:Nat),vs=[.ref a,.int high]/\H a=some (.lst us)/\z9 H us A/\A.length<=1000000/\∀ (o:Option Nat) (H':Hp),Same H H'->Low (tr (reg A)) high o->Q (oV o) H'
noncomputable def Refd (C4 C6:Addr) (H:Hp) (y:V) (t:T) (E:XK):Prop:=(∃ (n:List Int) (a:Addr) (xs:List V) (bs:List Bool),zX t/\Good t n/\y=.ref a/\H a=some (.lst xs)/\JTs H xs bs/\xs.length<=1000/\(xs.length≠n.length\/bs.all id=false)/\∀ H',Same H H'->E (.ref C6) none H') \/
 (zX t/\NoL H y/\∀ H',Same H H'->E (.ref C6) none H')\/(¬ zX t/\∀ H',Same H H'->E (.ref C4) none H')
noncomputable def spLh (C4 C6:Addr):Sp:=fun vs H Q E=>∃ (x y:V) (t:T) (wide:Nat),vs=[x,y,.int wide]/\At H x t/\sz t<=1000 /\
 ((∃ (n:List Int) (a:Addr) (xs:List V) (wss:List (List W)),zX t/\Good t n/\y=.ref a/\H a=some (.lst xs)/\Txs H xs wss/\xs.length=n.length/\∀ (P:R) (o:Option Nat) (H':Hp),HasR (Lvs wss) t P->Same H H'->Low P wide o->Q (oV o) H')\/Refd C4 C6 H y t E)
noncomputable def Yc (C4 C6:Addr):Sp:=fun vs H Q E=>∃ (x y:V) (t:T) (high:Nat),vs=[x,y,.int high]/\At H x t/\sz t<=1000 /\
 ((∃ (n:List Int) (a:Addr) (xs:List V) (wss:List (List W)),zX t/\Good t n/\y=.ref a/\H a=some (.lst xs)/\Txs H xs wss/\xs.length=n.length/\∀ (P:R) (o:Option Nat) (H':Hp),HasR (Lvs wss) t P->Same H H'->Low (tr P) high o->Q (oV o) H')\/Refd C4 C6 H y t E)
theorem X9 {ns:List Nat} {M:Int} (hM:M∈ns.map fun n:Nat=>(n:Int)) (hl:∀ z∈ns.map (fun n:Nat=>(n:Int)),M<=z):∃ m:Nat,M=(m:Int)/\m∈ns/\∀ z∈ns,m<=z:=by
 obtain ⟨m,hm,rfl⟩:=vC.mp hM
 refine ⟨m,rfl,hm,fun z hz=>?_⟩
 have:=hl (z:Int) (vC.mpr ⟨z,hz,rfl⟩)
 omega
section
variable {P:Program} {w:World} {K:Frag} {mg:Str->Option Value} {base:Heap} {kA:Addr}
theorem zdm:zC ["stairs","wide"] ["stairs","wide"] (zg sLow):=by trivial
theorem zcM {f:Addr} {fd:FuncData} (F:Fun K "lowest" "lowest" sLow f fd) (gWIDE:GI mg "WIDE" 0) (gHIGH:GI mg "HIGH" 1) (tmin:mg "min" = none):FnOk P w K mg base CX0 1 f fd ["stairs","wide"] Xg:=by
 refine F.ok zdm (fun vs H Q E h=>?_) (fun cdv A outer s H vs Q E hr h=>?_)
 ·refine E_4 h fun a us A wide n8=>A_2 n8 fun e9 _=>?_;clear n8 h;subst e9
  rfl
 ·refine E_4 h fun a us A1 wide n8=>A_5 n8 fun e9 ha hA hn q=>?_;clear n8 h;subst e9
  refine ⟨_,(zf (zn (WX rfl rfl tmin (yq (Nc:=["stair","wide"]) (ix:=[none,some 1]) rfl rfl (by refine' ya ?zz;case zz=>exact (pv 0)) (fun _ _ _ _ _=>(zo (i:=0) (by show (["stair","wide"]:List Str).Nodup;decide +kernel) rfl (Or.inl rfl))) (fun _ _ _ _ _=>(WL (zF qG (zw (y7 (K:=K) rfl) (pv 0) (z6 rfl gWIDE) (fun _ _=>rfl)) (pv 1) (zJ _)))) (fun _ _ _ _ _=>(zw (y7 (K:=K) rfl) (pv 0) (z6 rfl gHIGH) (fun _ _=>rfl))))))),?_⟩
  have la:=hA.len
  refine ⟨_,rfl,a,rfl,⟨_,SqL.of ha⟩,yH (K:=K) (a:=a) (xs:=us) (fun i ys σ H2=>H2=H/\ys=((((A1.take i).filter fun p=>decide (p.1<=wide)).map fun p=>p.2).map fun n:Nat=>(n:Int)).map V.int/\∃ o,σ=[o,some (.int (wide:Int))]) ⟨rfl,rfl,none,rfl⟩
   (fun i ys σ H2 hi h9=>by obtain ⟨e,e2,_⟩:=h9;exact (⟨by rw [e2,ke,ke,ke];exact km (List.length_filter_le _ _) (by rw [kH];exact km (show _<=1000000 by omega) (by decide)),by rw [e];exact SqL.of ha⟩)) ?_ ?_⟩
  case refine_2 =>
   rintro i x ys σ H2 hx ⟨rfl,rfl,o,rfl⟩
   obtain ⟨p,ep,pa,rfl,hpa⟩:=hA.get' hx
   obtain ⟨hil,ev⟩:=kg.mp ep
   dsimp only [z7]
   refine y3 (p:=(p.1:Int)<=(wide:Int)) (yz (yV (zA rfl) yT (SqT.of hpa) rfl) (zA rfl)) _ ?_
   rw [<- kz hil,ev,List.filter_append]
   by_cases c:p.1<=wide
   ·rw [decide_eq_true (show (p.1:Int)<=(wide:Int) by omega)]
    refine iteT ⟨_,rfl,pa,_,_,_,rfl,rfl,SqT.of hpa,rfl,rfl,?_,_,rfl⟩
    rw [bi,decide_eq_true c,if_pos rfl,kC,kC,kC]
    rfl
   ·rw [decide_eq_false (show ¬ (p.1:Int)<=(wide:Int) by omega)]
    refine iteF ⟨rfl,?_,_,rfl⟩
    rw [bi,decide_eq_false c]
    show _=((((A1.take i).filter _++[]).map _).map _).map _
    rw [vW]
  rintro ys σ H2 ⟨rfl,rfl,_⟩ l nl
  rw [la,kO]
  have S:=zc (o:=.lst (((((A1.filter fun p=>decide (p.1<=wide)).map fun p=>p.2).map fun n:Nat=>(n:Int)).map V.int))) nl
  obtain ⟨m1,m2⟩:=_Sta.zbH (A:=A1) (w:=wide) (ns:=(A1.filter fun p=>decide (p.1<=wide)).map fun p=>p.2) (fun n=>by
   rw [vC]
   constructor
   ·intro h8
    obtain ⟨p,hp,rfl⟩:=h8
    obtain ⟨h1,h2⟩:=ux.mp hp
    exact ⟨p,h1,of_decide_eq_true h2,rfl⟩
   ·intro h8
    obtain ⟨p,h1,h2,rfl⟩:=h8
    exact ⟨p,ux.mpr ⟨h1,decide_eq_true h2⟩,rfl⟩)
  refine ⟨l,_,rfl,SqL.of zd,fun e=>q none _ S (m1 (List.map_eq_nil_iff.mp e)),fun M hM hl=>?_⟩
  obtain ⟨m,rfl,hm,hl'⟩:=X9 hM hl
  exact q (some m) _ S (m2 m hm hl')
theorem zcN:zC ["stairs","high"] ["stairs","high"] (zg jJ):=by trivial
theorem zbJ {f:Addr} {fd:FuncData} (F:Fun K "narrowest" "narrowest" jJ f fd) (gWIDE:GI mg "WIDE" 0) (gHIGH:GI mg "HIGH" 1) (tmin:mg "min" = none):FnOk P w K mg base CX0 1 f fd ["stairs","high"] ZI:=by
 refine F.ok zcN (fun vs H Q E h=>?_) (fun cdv A outer s H vs Q E hr h=>?_)
 ·refine E_4 h fun a us A high n8=>A_2 n8 fun e9 _=>?_;clear n8 h;subst e9
  rfl
 ·refine E_4 h fun a us A1 high n8=>A_5 n8 fun e9 ha hA hn q=>?_;clear n8 h;subst e9
  refine ⟨_,(zf (zn (WX rfl rfl tmin (yq (Nc:=["stair","high"]) (ix:=[none,some 1]) rfl rfl (by refine' ya ?zz;case zz=>exact (pv 0)) (fun _ _ _ _ _=>(zo (i:=0) (by show (["stair","high"]:List Str).Nodup;decide +kernel) rfl (Or.inl rfl))) (fun _ _ _ _ _=>(WL (zF qG (zw (y7 (K:=K) rfl) (pv 0) (z6 rfl gHIGH) (fun _ _=>rfl)) (pv 1) (zJ _)))) (fun _ _ _ _ _=>(zw (y7 (K:=K) rfl) (pv 0) (z6 rfl gWIDE) (fun _ _=>rfl))))))),?_⟩
  have la:=hA.len
  refine ⟨_,rfl,a,rfl,⟨_,SqL.of ha⟩,yH (K:=K) (a:=a) (xs:=us) (fun i ys σ H2=>H2=H/\ys=((((A1.take i).filter fun p=>decide (p.2<=high)).map fun p=>p.1).map fun n:Nat=>(n:Int)).map V.int/\∃ o,σ=[o,some (.int (high:Int))]) ⟨rfl,rfl,none,rfl⟩
   (fun i ys σ H2 hi h9=>by obtain ⟨e,e2,_⟩:=h9;exact (⟨by rw [e2,ke,ke,ke];exact km (List.length_filter_le _ _) (by rw [kH];exact km (show _<=1000000 by omega) (by decide)),by rw [e];exact SqL.of ha⟩)) ?_ ?_⟩
  case refine_2 =>
   rintro i x ys σ H2 hx ⟨rfl,rfl,o,rfl⟩
   obtain ⟨p,ep,pa,rfl,hpa⟩:=hA.get' hx
   obtain ⟨hil,ev⟩:=kg.mp ep
   dsimp only [z7]
   refine y3 (p:=(p.2:Int)<=(high:Int)) (yz (yV (zA rfl) yT (SqT.of hpa) rfl) (zA rfl)) _ ?_
   rw [<- kz hil,ev,List.filter_append]
   by_cases c:p.2<=high
   ·rw [decide_eq_true (show (p.2:Int)<=(high:Int) by omega)]
    refine iteT ⟨_,rfl,pa,_,_,_,rfl,rfl,SqT.of hpa,rfl,rfl,?_,_,rfl⟩
    rw [bi,decide_eq_true c,if_pos rfl,kC,kC,kC]
    rfl
   ·rw [decide_eq_false (show ¬ (p.2:Int)<=(high:Int) by omega)]
    refine iteF ⟨rfl,?_,_,rfl⟩
    rw [bi,decide_eq_false c]
    show _=((((A1.take i).filter _++[]).map _).map _).map _
    rw [vW]
  rintro ys σ H2 ⟨rfl,rfl,_⟩ l nl
  rw [la,kO]
  have S:=zc (o:=.lst (((((A1.filter fun p=>decide (p.2<=high)).map fun p=>p.1).map fun n:Nat=>(n:Int)).map V.int))) nl
  obtain ⟨m1,m2⟩:=_Sta.zbI (A:=A1) (k:=high) (ns:=(A1.filter fun p=>decide (p.2<=high)).map fun p=>p.1) (fun n=>by
   rw [vC]
   constructor
   ·intro h8
    obtain ⟨p,hp,rfl⟩:=h8
    obtain ⟨h1,h2⟩:=ux.mp hp
    exact ⟨p,h1,of_decide_eq_true h2,rfl⟩
   ·intro h8
    obtain ⟨p,h1,h2,rfl⟩:=h8
    exact ⟨p,ux.mpr ⟨h1,decide_eq_true h2⟩,rfl⟩)
  refine ⟨l,_,rfl,SqL.of zd,fun e=>q none _ S (m1 (List.map_eq_nil_iff.mp e)),fun M hM hl=>?_⟩
  obtain ⟨m,rfl,hm,hl'⟩:=X9 hM hl
  exact q (some m) _ S (m2 m hm hl')
theorem scLh:zC ["tree","texts","wide"] ["tree","texts","wide"] (zg sLh):=by trivial
theorem zdn {f fT fL C4 C6:Addr} {fd dT dL:FuncData} (F:Fun K "least_high" "least_high" sLh f fd) (Ts:Callee P w K mg base (CXE P w) 28 "tree_stairs" fT dT ["tree","texts"] (ZF C4 C6)) (Lo:Callee P w K mg base CX0 1 "lowest" fL dL ["stairs","wide"] Xg) :
  FnOk P w K mg base (CXE P w) 29 f fd ["tree","texts","wide"] (spLh C4 C6):=by
 refine F.okE scLh (fun vs H Q E h=>?_) (fun cdv A outer s H vs Q E hr hh h=>?_)
 ·refine E_4 h fun x y t wide n8=>A_2 n8 fun e9 _=>?_;clear n8 h;subst e9
  rfl
 ·revert h;intro n7;refine E_4 n7 fun x y t wide n8=>A_4 n8 fun e9 hA hz h=>?_;clear n8 n7;subst e9
  refine ⟨_,(zf (zn (zk Lo.ok (hr.mono (by decide)) rfl Lo.bound Lo.kp Lo.bd .nil zG (za (zk Ts.ok hr rfl Ts.bound Ts.kp Ts.bd .nil x6 (za (pv 0) (za (pv 1) zb))) (za (pv 2) zb))))),?_⟩
  rcases h with ⟨n,a,xs,wss,iT,g,rfl,ha,hT,hl,q⟩ | h
  ·refine ⟨_,rfl,_,rfl,x,.ref a,t,rfl,hA,hz,.inl ⟨n,a,xs,wss,iT,g,rfl,ha,hT,hl,fun P1 l us A1 H1 hR S1 nl hl1 hs oA lA=>?_⟩⟩
   refine ⟨_,rfl,l,us,A1,wide,rfl,hl1,hs,by omega,fun o H2 S2 low=>?_⟩
   exact q P1 o H2 hR (S1.trans S2) (low.of oA.2)
  ·exact ⟨_,rfl,_,rfl,x,y,t,rfl,hA,hz,.inr h⟩
end
end _JF
namespace _Sta
open _Tre _Lin
structure Pc where
 l:Nat
 t:Nat
 r:Nat
 b:Nat
inductive PcsA (Ls:List R) (top below right:Nat):List T->Nat->List Pc->Prop where
 | one {t:T} {left:Nat} {P:R} (h:HasR Ls t P) (rm:P (right-left) (below-top)):PcsA Ls top below right [t] left [⟨left,top,right,below⟩]
 | cons {t t2:T} {ts:List T} {left w:Nat} {P:R} {pcs:List Pc} (h:HasR Ls t P) (lw:Low (tr P) (below-top) (some w)) (r:PcsA Ls top below right (t2::ts) (left+w) pcs):PcsA Ls top below right (t::t2::ts) left (⟨left,top,left+w,below⟩::pcs)
inductive PcsD (Ls:List R) (left right below:Nat):List T->Nat->List Pc->Prop where
 | one {t:T} {top:Nat} {P:R} (h:HasR Ls t P) (rm:P (right-left) (below-top)):PcsD Ls left right below [t] top [⟨left,top,right,below⟩]
 | cons {t t2:T} {ts:List T} {top k:Nat} {P:R} {pcs:List Pc} (h:HasR Ls t P) (lw:Low P (right-left) (some k)) (r:PcsD Ls left right below (t2::ts) (top+k) pcs):PcsD Ls left right below (t::t2::ts) top (⟨left,top,right,top+k⟩::pcs)
mutual
inductive yI (Ls:List R):T->Pc->List (Int×Pc)->Prop where
 | leaf {i:Int} {p:Pc}:yI Ls (.int i) p [(i,p)]
 | bar {ps:List T} {p:Pc} {pcs:List Pc} {res:List (List (Int×Pc))} (h:PcsA Ls p.t p.b p.r ps p.l pcs) (r:SetL Ls ps pcs res):yI Ls (.tup [.str bar,.tup ps]) p res.flatten
 | dash {ps:List T} {p:Pc} {pcs:List Pc} {res:List (List (Int×Pc))} (h:PcsD Ls p.l p.r p.b ps p.t pcs) (r:SetL Ls ps pcs res):yI Ls (.tup [.str dash,.tup ps]) p res.flatten
inductive SetL (Ls:List R):List T->List Pc->List (List (Int×Pc))->Prop where
 | nil:SetL Ls [] [] []
 | cons {t:T} {p:Pc} {ts:List T} {pcs:List Pc} {a:List (Int×Pc)} {res:List (List (Int×Pc))} (h:yI Ls t p a) (r:SetL Ls ts pcs res):SetL Ls (t::ts) (p::pcs) (a::res)
end
noncomputable def Rm (P:R) (p:Pc):Prop:=P (p.r-p.l) (p.b-p.t)
inductive RmL:List R->List Pc->Prop where
 | nil:RmL [] []
 | cons {P:R} {p:Pc} {Ps:List R} {pcs:List Pc} (h:Rm P p) (r:RmL Ps pcs):RmL (P::Ps) (p::pcs)
theorem least {f:Nat->Prop} (h:∃ n,f n):∃ n,f n/\∀ m,f m->n<=m:=by
 obtain ⟨n,hn⟩:=h
 have:∀ k n,n<=k->f n->∃ n,f n/\∀ m,f m->n<=m:=by
  intro k
  induction k with
  | zero =>
   intro n h1 h2
   exact ⟨n,h2,fun m _=>by omega⟩
  | succ k ih =>
   intro n h1 h2
   by_cases c:∃ m,m<n/\f m
   ·obtain ⟨m,m1,m2⟩:=c
    exact ih m (by omega) m2
   ·exact ⟨n,h2,fun m hm=>uT.mp fun z=>c ⟨m,z,hm⟩⟩
 exact this n n (kf _) hn
theorem Wa {P:R} {w:Nat} (h:∃ k,P w k):∃ k,Low P w (some k):=by
 obtain ⟨k,a,b⟩:=least (f:=fun k=>P w k) h
 exact ⟨k,a,b⟩
inductive Parts (h:Nat):List R->List Nat->Prop where
 | nil:Parts h [] []
 | cons {P:R} {a:Nat} {Ps:List R} {as:List Nat} (p:P a h) (r:Parts h Ps as):Parts h (P::Ps) (a::as)
theorem ZJ:∀ (Ps:List R) (P:R) (w h:Nat),(Ps.foldl bes P) w h->∃ (a:Nat) (as:List Nat),P a h/\Parts h Ps as/\a+as.sum<=w
 | [],P,w,h,z=>⟨w,[],z,.nil,kf _⟩
 | Q::Ps,P,w,h,z=>by
  obtain ⟨a,as,⟨x,y,e,px,qy⟩,r,s⟩:=ZJ Ps (bes P Q) w h z
  exact ⟨x,y::as,px,.cons qy r,by rw [vk];omega⟩
theorem cutA {Ls:List R} {top below right:Nat}:∀ {ps:List T} {P:R} {Ps:List R} {a:Nat} {as:List Nat} {left:Nat},zT Ls ps (P::Ps)->(∀ Q∈P::Ps,Up Q)->P a (below-top)->Parts (below-top) Ps as->left+a+as.sum<=right ->
  ∃ pcs,PcsA Ls top below right ps left pcs/\RmL (P::Ps) pcs
 | _,P,_,a,_,left,.cons h .nil,up,pa,.nil,le =>
  have z:P (right-left) (below-top):=(up P kw).up pa (show a<=right-left by simp at le;omega) (kf _)
  ⟨_,.one h z,.cons z .nil⟩
 | _,P,_,a,_,left,.cons (ts:=_::_) h (.cons h2 r2),up,pa,.cons (a:=a2) (as:=as) p2 q2,le=>by
  obtain ⟨w,lw⟩:=Wa (P:=tr P) (w:=below-top) ⟨a,pa⟩
  have wa:w<=a:=lw.2 a pa
  rw [vk] at le
  obtain ⟨pcs,k1,k2⟩:=cutA (top:=top) (below:=below) (right:=right) (left:=left+w) (.cons h2 r2) (fun Q hQ=>up Q (kq _ hQ)) p2 q2 (by omega)
  refine ⟨_,.cons h lw k1,.cons ?_ k2⟩
  show P (left+w-left) (below-top)
  rw [ut]
  exact lw.1
theorem j1:∀ (Ps:List R) (P:R) (w h:Nat),(Ps.foldl dwn P) w h->∃ (a:Nat) (as:List Nat),P w a/\Parts w (Ps.map tr) as/\a+as.sum<=h
 | [],P,w,h,z=>⟨h,[],z,.nil,kf _⟩
 | Q::Ps,P,w,h,z=>by
  obtain ⟨a,as,⟨x,y,e,px,qy⟩,r,s⟩:=j1 Ps (dwn P Q) w h z
  exact ⟨x,y::as,px,.cons qy r,by rw [vk];omega⟩
theorem cutD {Ls:List R} {left right below:Nat}:∀ {ps:List T} {P:R} {Ps:List R} {a:Nat} {as:List Nat} {top:Nat},zT Ls ps (P::Ps)->(∀ Q∈P::Ps,Up Q)->P (right-left) a->Parts (right-left) (Ps.map tr) as->top+a+as.sum<=below ->
  ∃ pcs,PcsD Ls left right below ps top pcs/\RmL (P::Ps) pcs
 | _,P,_,a,_,top,.cons h .nil,up,pa,.nil,le =>
  have z:P (right-left) (below-top):=(up P kw).up pa (kf _) (show a<=below-top by simp at le;omega)
  ⟨_,.one h z,.cons z .nil⟩
 | _,P,_,a,_,top,.cons (ts:=_::_) h (.cons h2 r2),up,pa,.cons (a:=a2) (as:=as) p2 q2,le=>by
  obtain ⟨k,lw⟩:=Wa (P:=P) (w:=right-left) ⟨a,pa⟩
  have wa:k<=a:=lw.2 a pa
  rw [vk] at le
  obtain ⟨pcs,k1,k2⟩:=cutD (left:=left) (right:=right) (below:=below) (top:=top+k) (.cons h2 r2) (fun Q hQ=>up Q (kq _ hQ)) p2 q2 (by omega)
  refine ⟨_,.cons h lw k1,.cons ?_ k2⟩
  show P (right-left) (top+k-top)
  rw [ut]
  exact lw.1
mutual
theorem Jx {Ls:List R} (hL:∀ L∈Ls,Up L):∀ {t:T} {P:R} {p:Pc},HasR Ls t P->Rm P p->p.l<=p.r->p.t<=p.b->∃ res,yI Ls t p res
 | _,_,p,.leaf _ _,_,_,_=>⟨_,.leaf⟩
 | _,_,p,.bar (P:=P) (Ps:=Ps) h,rm,le1,le2=>by
  obtain ⟨a,as,pa,ps,s⟩:=ZJ _ _ _ _ rm
  obtain ⟨pcs,k1,k2⟩:=cutA (Ls:=Ls) (top:=p.t) (below:=p.b) (right:=p.r) (left:=p.l) h (zT.up hL h) pa ps (by omega)
  obtain ⟨res,k3⟩:=Yd hL h k2
  exact ⟨_,.bar k1 k3⟩
 | _,_,p,.dash (P:=P) (Ps:=Ps) h,rm,le1,le2=>by
  obtain ⟨a,as,pa,ps,s⟩:=j1 _ _ _ _ rm
  obtain ⟨pcs,k1,k2⟩:=cutD (Ls:=Ls) (left:=p.l) (right:=p.r) (below:=p.b) (top:=p.t) h (zT.up hL h) pa ps (by omega)
  obtain ⟨res,k3⟩:=Yd hL h k2
  exact ⟨_,.dash k1 k3⟩
theorem Yd {Ls:List R} (hL:∀ L∈Ls,Up L):∀ {ts:List T} {Ps:List R} {pcs:List Pc},zT Ls ts Ps->RmL Ps pcs->∃ res,SetL Ls ts pcs res
 | _,_,_,.nil,.nil=>⟨[],.nil⟩
 | _,_,_,.cons h r,.cons (p:=p) m n=>by
  have:=(HasR.up hL h).pos m
  obtain ⟨a,k1⟩:=Jx hL h m (by omega) (by omega)
  obtain ⟨res,k2⟩:=Yd hL r n
  exact ⟨_,.cons k1 k2⟩
end
mutual
theorem yI.keys0 {Ls:List R}:∀ {t:T} {p:Pc} {res:List (Int×Pc)},yI Ls t p res->∀ {n:List Int},Good t n->res.map (·.1)=n
 | _,_,_,.leaf,n,g=>by rw [YL g];rfl
 | _,_,_,.bar h r,n,g=>by
  obtain ⟨nss,e,g⟩:=wV g
  rw [e,List.map_flatten,SetL.keys0 r g]
 | _,_,_,.dash h r,n,g=>by
  obtain ⟨nss,e,g⟩:=wV g
  rw [e,List.map_flatten,SetL.keys0 r g]
theorem SetL.keys0 {Ls:List R}:∀ {ts:List T} {pcs:List Pc} {res:List (List (Int×Pc))},SetL Ls ts pcs res->∀ {nss:List (List Int)},zI ts nss->res.map (List.map (·.1))=nss
 | _,_,_,.nil,nss,g=>by rw [YM g];rfl
 | _,_,_,.cons h r,nss,g=>by
  obtain ⟨a,b,e,g,gs⟩:=ZD g
  rw [e,vj,yI.keys0 h g,SetL.keys0 r gs]
end
theorem yI.keys {Ls:List R} {t:T} {n:List Int} {p:Pc} {res:List (Int×Pc)} (g:Good t n) (h:yI Ls t p res):res.map (·.1)=n:=yI.keys0 h g
theorem SetL.keys {Ls:List R} {ts:List T} {nss:List (List Int)} {pcs:List Pc} {res:List (List (Int×Pc))} (g:zI ts nss) (h:SetL Ls ts pcs res):res.map (List.map (·.1))=nss:=SetL.keys0 h g
theorem PcsA.rm {Ls:List R} {top below right:Nat}:∀ {ts:List T} {left:Nat} {pcs:List Pc} {i:Nat} {t:T} {p:Pc},PcsA Ls top below right ts left pcs->ts[i]?=some t->pcs[i]?=some p->p.t=top/\p.b=below/\∃ P,HasR Ls t P/\Rm P p
 | _,_,_,0,t,p,.one h rm,e1,e2=>by
  cases e1
  cases e2
  exact ⟨rfl,rfl,_,h,rm⟩
 | _,_,_,i+1,t,p,.one h rm,e1,e2=>by simp at e1
 | _,left,_,0,t,p,.cons (w:=w) (P:=P) h lw r,e1,e2=>by
  cases e1
  cases e2
  refine ⟨rfl,rfl,_,h,?_⟩
  show P (left+w-left) (below-top)
  rw [ut]
  exact lw.1
 | _,_,_,i+1,t,p,.cons h lw r,e1,e2=>PcsA.rm (i:=i) r (by simpa using e1) (by simpa using e2)
theorem PcsD.rm {Ls:List R} {left right below:Nat}:∀ {ts:List T} {top:Nat} {pcs:List Pc} {i:Nat} {t:T} {p:Pc},PcsD Ls left right below ts top pcs->ts[i]?=some t->pcs[i]?=some p->p.l=left/\p.r=right/\∃ P,HasR Ls t P/\Rm P p
 | _,_,_,0,t,p,.one h rm,e1,e2=>by
  cases e1
  cases e2
  exact ⟨rfl,rfl,_,h,rm⟩
 | _,_,_,i+1,t,p,.one h rm,e1,e2=>by simp at e1
 | _,top,_,0,t,p,.cons (k:=k) (P:=P) h lw r,e1,e2=>by
  cases e1
  cases e2
  refine ⟨rfl,rfl,_,h,?_⟩
  show P (right-left) (top+k-top)
  rw [ut]
  exact lw.1
 | _,_,_,i+1,t,p,.cons h lw r,e1,e2=>PcsD.rm (i:=i) r (by simpa using e1) (by simpa using e2)
noncomputable def plc (first:Nat):List Nat->List Nat
 | []=>[first]
 | a::r=>first::plc (first+a) r
theorem PcsA.ws {Ls:List R} {top below right:Nat}:∀ {ts:List T} {left:Nat} {pcs:List Pc},PcsA Ls top below right ts left pcs->∃ ws:List Nat,ws.length+1=ts.length/\(∀ (i:Nat) (t:T) (w:Nat),ts[i]?=some t->ws[i]?=some w->∃ P,HasR Ls t P/\Low (tr P) (below-top) (some w)) /\
  pcs=((plc left ws).zip ((plc left ws++[right]).drop 1)).map fun q=>⟨q.1,top,q.2,below⟩
 | _,_,_,.one _ _=>⟨[],rfl,fun i t w _ e=>by simp at e,rfl⟩
 | _,left,_,.cons (w:=w) (P:=P) h lw r=>by
  obtain ⟨ws,l,k,e⟩:=r.ws
  refine ⟨w::ws,by simpa using l,fun i t u e1 e2=>?_,?_⟩
  ·match i,e1,e2 with
   | 0,e1,e2 =>
    cases e1
    cases e2
    exact ⟨P,h,lw⟩
   | i+1,e1,e2=>exact k i t u (by simpa using e1) (by simpa using e2)
  ·rw [e]
   obtain ⟨xs,ex⟩ : ∃ xs,plc (left+w) ws=(left+w)::xs:=by cases ws<;>exact ⟨_,rfl⟩
   show _=(((left::plc (left+w) ws).zip (((left::plc (left+w) ws)++[right]).drop 1)).map fun q=>(⟨q.1,top,q.2,below⟩ : Pc))
   rw [ex]
   rfl
theorem PcsD.ws {Ls:List R} {left right below:Nat}:∀ {ts:List T} {top:Nat} {pcs:List Pc},PcsD Ls left right below ts top pcs->∃ ws:List Nat,ws.length+1=ts.length/\(∀ (i:Nat) (t:T) (w:Nat),ts[i]?=some t->ws[i]?=some w->∃ P,HasR Ls t P/\Low P (right-left) (some w)) /\
  pcs=((plc top ws).zip ((plc top ws++[below]).drop 1)).map fun q=>⟨left,q.1,right,q.2⟩
 | _,_,_,.one _ _=>⟨[],rfl,fun i t w _ e=>by simp at e,rfl⟩
 | _,top,_,.cons (k:=w) (P:=P) h lw r=>by
  obtain ⟨ws,l,k,e⟩:=r.ws
  refine ⟨w::ws,by simpa using l,fun i t u e1 e2=>?_,?_⟩
  ·match i,e1,e2 with
   | 0,e1,e2 =>
    cases e1
    cases e2
    exact ⟨P,h,lw⟩
   | i+1,e1,e2=>exact k i t u (by simpa using e1) (by simpa using e2)
  ·rw [e]
   obtain ⟨xs,ex⟩ : ∃ xs,plc (top+w) ws=(top+w)::xs:=by cases ws<;>exact ⟨_,rfl⟩
   show _=(((top::plc (top+w) ws).zip (((top::plc (top+w) ws)++[below]).drop 1)).map fun q=>(⟨left,q.1,right,q.2⟩ : Pc))
   rw [ex]
   rfl
theorem jS (first:Nat):∀ ws:List Nat,(plc first ws).length=ws.length+1:=by
 intro ws
 induction ws generalizing first with
 | nil=>rfl
 | cons a r ih=>show (plc (first+a) r).length+1=_;rw [ih,kK]
theorem Wb:∀ (ws:List Nat) (first a:Nat),plc first (ws++[a])=plc first ws++[first+ws.sum+a]
 | [],first,a=>by simp [plc]
 | b::r,first,a=>by
  show first::plc (first+b) (r++[a])=first::plc (first+b) r++[first+(b::r).sum+a]
  rw [Wb r,vk,<- Nat.add_assoc]
  rfl
theorem Wc:∀ (ws:List Nat) (first:Nat),∃ xs,plc first ws=xs++[first+ws.sum]
 | [],first=>⟨[],by simp [plc]⟩
 | b::r,first=>by
  obtain ⟨xs,e⟩:=Wc r (first+b)
  exact ⟨first::xs,by show first::plc (first+b) r=_;rw [e,vk,<- Nat.add_assoc];rfl⟩
end _Sta
namespace _L2
open PySem PySem.Spec PyProof.Rows
section
variable {prog:Program} {w:World} {A:Around} {E:Value->Shared->Prop} {s:Shared}
theorem Qw {it t:Addr} {i:Nat} {its:Array Value} {x:Value} {Q:Value->Shared->Prop} (hit:s.heap.IsTupleIter it t i) (ht:s.heap.IsTuple t its) (hx:its[i]?=some x)
  (hQ:∀ h',h'.IsTupleIter it t (i+1)->Heap.SameBut it s.heap h'->Q x {s with heap:=h'}):wpAny (model prog w) A (Builtin.SmallTypes.nextOf (.ref it)) Q E s:=by
 obtain ⟨o,ho,hc,hd⟩:=id hit
 obtain ⟨ol,hol,_,nl,hdl⟩:=ht
 unfold Builtin.SmallTypes.nextOf
 refine wpAny_bind (wpAny_callSpecial?_slot (name:=Str.ofString "__next__") hit.typeIs F.slot_tuple_iterator_next (wpAny_call_entry F.slot_tuple_iterator_next hit.typeIs F.entry_tuple_iterator_next ?_ (F.args_tuple_iterator_next_1 _)))
 show wpAny _ _ (field (.ref it) 0 >>= _) _ _ s
 refine wpAny_bind (wpAny_field ho hd (x:=.ref t) rfl ?_)
 show wpAny _ _ (if (Value.ref t == Value.none)=true then _ else _) _ _ s
 rw [if_neg (show ¬ ((Value.ref t == Value.none)=true) from kF)]
 show wpAny _ _ (field (.ref it) 1 >>= _) _ _ s
 refine wpAny_bind (wpAny_field ho hd (x:=.int i 0) rfl ?_)
 show wpAny _ _ (seqItems? (.ref t) >>= _) _ _ s
 refine wpAny_bind (wpAny_seqItems hol hdl ?_)
 simp only [uY,hx]
 refine wpAny_bind (wpAny_setField ho hd (by simp) (wpAny_pure ⟨x,rfl,wpAny_pure (hQ _ ?_ (Heap.SameBut.update ..))⟩))
 exact ⟨_,Heap.get?_update_self _ ho (Obj.isFreed_of_fields (Obj.data_mapFields hd _)),(Obj.cls_mapFields ..).trans hc,by rw [Obj.data_mapFields hd];simp [rawInt]⟩
theorem Jy {it t:Addr} {i:Nat} {its:Array Value} {Q:Value->Shared->Prop} (hh:A.handled=none) (hit:s.heap.IsTupleIter it t i) (ht:s.heap.IsTuple t its) (hx:its[i]?=none)
  (hE:∀ h' e,Heap.ExtBut it s.heap h'->(∃ o,h'.get? e=some o/\o.cls=.type "StopIteration")->E (.ref e) {s with heap:=h'}):wpAny (model prog w) A (Builtin.SmallTypes.nextOf (.ref it)) Q E s:=by
 obtain ⟨o,ho,hc,hd⟩:=id hit
 obtain ⟨ol,hol,_,nl,hdl⟩:=ht
 unfold Builtin.SmallTypes.nextOf
 refine wpAny_bind (wpAny_callSpecial?_slot (name:=Str.ofString "__next__") hit.typeIs F.slot_tuple_iterator_next (wpAny_call_entry F.slot_tuple_iterator_next hit.typeIs F.entry_tuple_iterator_next ?_ (F.args_tuple_iterator_next_1 _)))
 show wpAny _ _ (field (.ref it) 0 >>= _) _ _ s
 refine wpAny_bind (wpAny_field ho hd (x:=.ref t) rfl ?_)
 show wpAny _ _ (if (Value.ref t == Value.none)=true then _ else _) _ _ s
 rw [if_neg (show ¬ ((Value.ref t == Value.none)=true) from kF)]
 show wpAny _ _ (field (.ref it) 1 >>= _) _ _ s
 refine wpAny_bind (wpAny_field ho hd (x:=.int i 0) rfl ?_)
 show wpAny _ _ (seqItems? (.ref t) >>= _) _ _ s
 refine wpAny_bind (wpAny_seqItems hol hdl ?_)
 simp only [uY,hx]
 refine wpAny_bind (wpAny_rule (wpAny_bind (wpAny_setField ho hd (by simp) ?_)))
 show wpAny _ _ (newExc (.type "StopIteration") [] >>= _) _ _ _
 refine wpAny_bind ?_
 simp only [newExc,newTuple]
 refine wpAny_bind (wpAny_newObj_type ?_ (by size_fits))
 refine wpAny_bind (m:=firstArgMember _ _) (wpAny_of_eq (a:=Value.none) (by first | rfl | (simp only [firstArgMember];rfl)) ?_)
 refine wpAny_newObj_type ?_ (by size_fits)
 simp only [raiseNew]
 refine wpAny_bind (wpAny_handled ?_)
 first | rw [show A.in1.handled=none from hh] | rw [hh]
 refine wpAny_bind (wpAny_pure (wpAny_throw ?_))
 exact hE _ _ (((Heap.SameBut.update ..).extBut.push _).push _) ⟨_,Heap.get?_push_size _ rfl,rfl⟩
theorem Jz {z TI TO i1 i2 l1 l2:Addr} {k1 k2:Nat} {xs ys:Array Value} {x y a b:Value} {Q:Value->Shared->Prop} (D:ZipApart z TI TO i1 i2 l1 l2)
  (hz:IsZip s.heap z TI TO .none) (hTI:IsPair s.heap TI (.ref i1) (.ref i2)) (hTO:IsPair s.heap TO a b)
  (h1:s.heap.IsTupleIter i1 l1 k1) (h2:s.heap.IsListIter i2 l2 k2) (hl1:s.heap.IsTuple l1 xs) (hl2:s.heap.IsList l2 ys) (hx:xs[k1]?=some x) (hy:ys[k2]?=some y)
  (hQ:∀ h',IsZip h' z TI TO (rawInt s.heap.objs.size)->IsPair h' TO x y->h'.IsTupleIter i1 l1 (k1+1)->h'.IsListIter i2 l2 (k2+1)->IsPair h' s.heap.objs.size x y->h'.objs.size=s.heap.objs.size+1 ->
   (∀ c o,c≠z->c≠TO->c≠i1->c≠i2->s.heap.get? c=some o->h'.get? c=some o)->Q (.ref s.heap.objs.size) {s with heap:=h'}) :
  wpAny (model prog w) A (Builtin.«zip.__next__» ⟨[.ref z],[]⟩) (fun fin s'=>∃ v,fin=.done (.ret v)/\Q v s') E s:=by
 show wpAny _ _ (field (.ref z) 2 >>= _) _ _ _
 refine wpAny_bind (wpAny_field hz rfl (x:=.bool false) rfl ?_)
 show wpAny _ _ (field (.ref z) 3 >>= _) _ _ _
 refine wpAny_bind (wpAny_field hz rfl (x:=.ref TI) rfl ?_)
 refine wpAny_bind (wpAny_seqItems hTI rfl ?_)
 show wpAny _ _ (Builtin.SmallTypes.ownedTupleIsFree (.ref z) >>= _) _ _ _
 refine wpAny_bind ?_
 unfold Builtin.SmallTypes.ownedTupleIsFree
 refine wpAny_bind (wpAny_field hz rfl (x:=.none) rfl (wpAny_pure ?_))
 simp only [if_true]
 refine wpAny_bind (wpAny_rule ?_)
 refine wpAny_bind (wpAny_field hz rfl (x:=.ref TO) rfl ?_)
 refine wpAny_bind (wpAny_setField_rec hz (by simp) fun g1 hz1 s1=>?_)
 replace hz1:IsZip g1 z TI TO .ellipsis:=hz1
 refine wpAny_bind ?_
 simp only [List.zipIdx_cons,List.zipIdx_nil,uz,bF]
 refine wpAny_bind (wpAny_bind (wpAny_onRaise ?_))
 show wpAny _ _ (Builtin.SmallTypes.nextOf (.ref i1) >>= _) _ _ _
 refine wpAny_bind (Qw (h1.extBut s1.extBut D.i1z) (hl1.extBut s1.extBut D.l1z) hx fun g2 h12 s2=>wpAny_pure ?_)
 have hTO2:IsPair g2 TO a b:=s2.extBut _ _ D.TOi1 (s1.extBut _ _ D.TOz hTO)
 refine wpAny_bind (wpAny_seqItems hTO2 rfl ?_)
 refine wpAny_bind (wpAny_updateSeq_pair hTO2 fun g3 hTO3 s3=>?_)
 replace hTO3:IsPair g3 TO x b:=hTO3
 refine wpAny_bind (wpAny_letGo (wpAny_pure ?_))
 refine wpAny_bind (wpAny_bind (wpAny_onRaise ?_))
 show wpAny _ _ (Builtin.SmallTypes.nextOf (.ref i2) >>= _) _ _ _
 refine wpAny_bind (wpAny_nextOf_list_item (((h2.extBut s1.extBut D.i2z).extBut s2.extBut D.i12.symm).extBut s3.extBut D.TOi2.symm) (((hl2.extBut s1.extBut D.l2z).extBut s2.extBut D.l2i1).extBut s3.extBut D.l2TO) hy fun g4 h24 s4=>wpAny_pure ?_)
 have hTO4:IsPair g4 TO x b:=s4.extBut _ _ D.TOi2 hTO3
 refine wpAny_bind (wpAny_seqItems hTO4 rfl ?_)
 refine wpAny_bind (wpAny_updateSeq_pair hTO4 fun g5 hTO5 s5=>?_)
 replace hTO5:IsPair g5 TO x y:=hTO5
 refine wpAny_bind (wpAny_letGo (wpAny_pure (wpAny_pure ?_)))
 refine wpAny_bind (wpAny_seqItems hTO5 rfl ?_)
 refine wpAny_bind (wpAny_newTuple ?_)
 have sz:g5.objs.size=s.heap.objs.size:=by rw [s5.1,s4.1,s3.1,s2.1,s1.1]
 have hz5:IsZip g5 z TI TO .ellipsis:=s5.extBut _ _ D.TOz.symm (s4.extBut _ _ D.i2z.symm (s3.extBut _ _ D.TOz.symm (s2.extBut _ _ D.i1z.symm hz1)))
 have keep:∀ c o,c≠z->c≠TO->c≠i1->c≠i2->s.heap.get? c=some o->g5.get? c=some o:=fun c o c1 c2 c3 c4 e=>s5.extBut _ _ c2 (s4.extBut _ _ c4 (s3.extBut _ _ c2 (s2.extBut _ _ c3 (s1.extBut _ _ c1 e))))
 have h15:g5.IsTupleIter i1 l1 (k1+1):=((h12.extBut s3.extBut D.TOi1.symm).extBut s4.extBut D.i12).extBut s5.extBut D.TOi1.symm
 have h25:g5.IsListIter i2 l2 (k2+1):=h24.extBut s5.extBut D.TOi2.symm
 have zlt:z<g5.objs.size:=Heap.lt_size hz5
 show wpAny _ _ (Builtin.SmallTypes.ownedTupleHandOut (.ref z) (.ref g5.objs.size) >>= _) _ _ _
 refine wpAny_bind ?_
 unfold Builtin.SmallTypes.ownedTupleHandOut
 have hz6:IsZip (g5.push {cls:=.type "tuple",data:=.seq #[x,y]}) z TI TO .ellipsis:=Heap.get?_push_of_some _ hz5
 refine wpAny_bind (wpAny_setField_rec hz6 (by simp) fun g7 hz7 s7=>?_)
 replace hz7:IsZip g7 z TI TO (rawInt g5.objs.size):=hz7
 refine wpAny_setField_rec hz7 (by simp) fun g8 hz8 s8=>?_
 replace hz8:IsZip g8 z TI TO (rawInt g5.objs.size):=hz8
 have up:∀ c o,c≠z->g5.get? c=some o->g8.get? c=some o:=fun c o c1 e=>s8.extBut _ _ c1 (s7.extBut _ _ c1 (Heap.get?_push_of_some _ e))
 have hT8:IsPair g8 g5.objs.size x y:=s8.extBut _ _ (ue zlt) (s7.extBut _ _ (ue zlt) (Heap.get?_push_size _ rfl))
 have sz8:g8.objs.size=g5.objs.size+1:=by rw [s8.1,s7.1,Heap.size_push]
 rw [sz] at hz8 hT8 sz8
 refine wpAny_pure ⟨_,rfl,?_⟩
 show Q (.ref g5.objs.size) _
 rw [sz]
 exact hQ g8 hz8 (up _ _ D.TOz hTO5) (h15.at fun o e=>up _ o D.i1z e) (h25.at fun o e=>up _ o D.i2z e) hT8 sz8 fun c o c1 c2 c3 c4 e=>up c o c1 (keep c o c1 c2 c3 c4 e)
theorem zav {z TI TO i1 i2 l1 l2:Addr} {k1:Nat} {xs:Array Value} {a b:Value} {Q:Fin->Shared->Prop} (hh:A.handled=none) (D:ZipApart z TI TO i1 i2 l1 l2)
  (hz:IsZip s.heap z TI TO .none) (hTI:IsPair s.heap TI (.ref i1) (.ref i2)) (h1:s.heap.IsTupleIter i1 l1 k1) (hl1:s.heap.IsTuple l1 xs) (hend:xs[k1]?=none)
  (hE:∀ h' e,(∀ c o,c≠z->c≠i1->s.heap.get? c=some o->h'.get? c=some o)->(∃ o,h'.get? e=some o/\o.cls=.type "StopIteration")->E (.ref e) {s with heap:=h'}) :
  wpAny (model prog w) A (Builtin.«zip.__next__» ⟨[.ref z],[]⟩) Q E s:=by
 show wpAny _ _ (field (.ref z) 2 >>= _) _ _ _
 refine wpAny_bind (wpAny_field hz rfl (x:=.bool false) rfl ?_)
 show wpAny _ _ (field (.ref z) 3 >>= _) _ _ _
 refine wpAny_bind (wpAny_field hz rfl (x:=.ref TI) rfl ?_)
 refine wpAny_bind (wpAny_seqItems hTI rfl ?_)
 show wpAny _ _ (Builtin.SmallTypes.ownedTupleIsFree (.ref z) >>= _) _ _ _
 refine wpAny_bind ?_
 unfold Builtin.SmallTypes.ownedTupleIsFree
 refine wpAny_bind (wpAny_field hz rfl (x:=.none) rfl (wpAny_pure ?_))
 simp only [if_true]
 refine wpAny_bind (wpAny_rule ?_)
 refine wpAny_bind (wpAny_field hz rfl (x:=.ref TO) rfl ?_)
 refine wpAny_bind (wpAny_setField_rec hz (by simp) fun g1 hz1 s1=>?_)
 replace hz1:IsZip g1 z TI TO .ellipsis:=hz1
 refine wpAny_bind ?_
 simp only [List.zipIdx_cons,List.zipIdx_nil,uz,bF]
 refine wpAny_bind (wpAny_bind (wpAny_onRaise ?_))
 show wpAny _ _ (Builtin.SmallTypes.nextOf (.ref i1) >>= _) _ _ _
 refine wpAny_bind (Jy hh (h1.extBut s1.extBut D.i1z) (hl1.extBut s1.extBut D.l1z) hend fun g2 e s2 he=>?_)
 obtain ⟨oe,hoe,hce⟩:=he
 have hz2:IsZip g2 z TI TO .ellipsis:=s2 _ _ D.i1z.symm hz1
 have hez:e≠z:=fun x=>by subst x;rw [hz2] at hoe;cases hoe;simp at hce
 exact wpAny_setField_rec hz2 (by simp) fun g3 _ s3=>hE g3 e (fun c o c1 c3 x=>s3.extBut _ _ c1 (s2 _ _ c3 (s1.extBut _ _ c1 x))) ⟨oe,s3.extBut _ _ hez hoe,hce⟩
theorem We {z TI TO i1 i2 l1 l2:Addr} {k1 k2:Nat} {xs ys:Array Value} {x y a b:Value} {Q:Option Value->Shared->Prop} (D:ZipApart z TI TO i1 i2 l1 l2)
  (hz:IsZip s.heap z TI TO .none) (hTI:IsPair s.heap TI (.ref i1) (.ref i2)) (hTO:IsPair s.heap TO a b)
  (h1:s.heap.IsTupleIter i1 l1 k1) (h2:s.heap.IsListIter i2 l2 k2) (hl1:s.heap.IsTuple l1 xs) (hl2:s.heap.IsList l2 ys) (hx:xs[k1]?=some x) (hy:ys[k2]?=some y)
  (hQ:∀ h',IsZip h' z TI TO (rawInt s.heap.objs.size)->IsPair h' TO x y->h'.IsTupleIter i1 l1 (k1+1)->h'.IsListIter i2 l2 (k2+1)->IsPair h' s.heap.objs.size x y->h'.objs.size=s.heap.objs.size+1 ->
   (∀ c o,c≠z->c≠TO->c≠i1->c≠i2->s.heap.get? c=some o->h'.get? c=some o)->Q (some (.ref s.heap.objs.size)) {s with heap:=h'}):wpAny (model prog w) A (pyNext (.ref z)) Q E s:=by
 have hT:s.TypeIs (.ref z) "zip" := ⟨_,hz,rfl⟩
 unfold pyNext
 exact wpAny_bind (wpAny_attempt (wpAny_callSpecial?_slot (name:=Str.ofString "__next__") hT F.slot_zip_next
  (wpAny_call_entry F.slot_zip_next hT F.entry_zip_next (Jz D hz hTI hTO h1 h2 hl1 hl2 hx hy fun h' a1 a2 a3 a4 a5 a6 a7=>wpAny_pure (hQ h' a1 a2 a3 a4 a5 a6 a7)) (F.args_zip_next_1 _))))
theorem Wy {z TI TO i1 i2 l1 l2:Addr} {k1:Nat} {xs:Array Value} {Q:Option Value->Shared->Prop} (hh:A.handled=none) (D:ZipApart z TI TO i1 i2 l1 l2)
  (hz:IsZip s.heap z TI TO .none) (hTI:IsPair s.heap TI (.ref i1) (.ref i2)) (h1:s.heap.IsTupleIter i1 l1 k1) (hl1:s.heap.IsTuple l1 xs) (hend:xs[k1]?=none)
  (hQ:∀ h',(∀ c o,c≠z->c≠i1->s.heap.get? c=some o->h'.get? c=some o)->Q none {s with heap:=h'}):wpAny (model prog w) A (pyNext (.ref z)) Q E s:=by
 have hT:s.TypeIs (.ref z) "zip" := ⟨_,hz,rfl⟩
 unfold pyNext
 refine wpAny_bind (wpAny_attempt (wpAny_callSpecial?_slot (name:=Str.ofString "__next__") hT F.slot_zip_next
  (wpAny_call_entry F.slot_zip_next hT F.entry_zip_next (zav (a:=.none) (b:=.none) hh D hz hTI h1 hl1 hend fun h' e hk he=>?_) (F.args_zip_next_1 _))))
 obtain ⟨o,ho,hc⟩:=he
 refine wpAny_bind (wpAny_isInstance (T := "StopIteration") (b:=true) ⟨o,ho,hc⟩ isSubtype_stop ?_)
 exact wpAny_pure (hQ _ hk)
end
noncomputable def ItZT (K:Frag) (a b:Addr):It :=
 ⟨fun i H=>∃ xs ys x y,SqT K H a xs/\SqL K H b ys/\xs[i]?=some x/\ys[i]?=some y,
 fun i H x H'=>∃ p u v,H p=none/\x=.ref p/\H'=upd H p (.tup [u,v])/\(∀ xs,SqT K H a xs->xs[i]?=some u)/\∀ ys,SqL K H b ys->ys[i]?=some v,
 fun i H=>∃ xs ys,SqT K H a xs/\SqL K H b ys/\xs.length<=i⟩
theorem Ye {h:Heap} {a c:Addr} {its:Array Value} {o:Obj} (hl:h.IsTuple a its) (hc:h.get? c=some o) (hn:o.cls≠.type "tuple"):a≠c:=fun z=>by
 obtain ⟨o',g1,g2,_⟩:=hl
 rw [z,hc] at g1
 cases g1
 exact hn g2
theorem ZL {h:Heap} {z TI TO i1 i2 a b:Addr} {xs ys:Array Value} {k1 k2:Nat} {f0 v u:Value} (D:Dst z TI TO i1 i2) (aTO:a≠TO) (hz:IsZip h z TI TO f0) (hTO:IsPair h TO v u) (h1:h.IsTupleIter i1 a k1) (h2:h.IsListIter i2 b k2) (l1:h.IsTuple a xs) (l2:h.IsList b ys) :
  ZipApart z TI TO i1 i2 a b:=by
 obtain ⟨o1,e1,c1,_⟩:=h1
 obtain ⟨o2,e2,c2,_⟩:=h2
 exact ⟨D.TIz,D.TOz,D.i1z,D.i2z,D.TITO,D.TIi1,D.TIi2,D.TOi1,D.TOi2,D.i12,Ye l1 hz (show Value.type "zip" ≠ .type "tuple" by decide),aTO,Ye l1 e1 (by rw [c1];decide),Ye l1 e2 (by rw [c2];decide),xo l2 hz (show Value.type "zip" ≠ .type "list" by decide),xo l2 hTO (show Value.type "tuple" ≠ .type "list" by decide),xo l2 e1 (by rw [c1];decide),xo l2 e2 (by rw [c2];decide)⟩
theorem JA {P:Program} {w:World} {K:Frag} {elts:List Expr} {kx:Nat} {px:Pos} (a b z TI TO i1 i2:Addr) (D:Dst z TI TO i1 i2) (aTO:a≠TO) :
  Turn P w K (.Tuple elts kx px) (ItZT K a b) [z,TI,TO,i1,i2] z (fun i h=>IsZip h z TI TO .none/\IsPair h TI (.ref i1) (.ref i2)/\(∃ v u,IsPair h TO v u)/\h.IsTupleIter i1 a i/\h.IsListIter i2 b i) where
 mem:=by simp
 obj:=fun i h st c hc=>by
  obtain ⟨hz,hTI,⟨v,u,hTO⟩,⟨o1,e1,c1,d1⟩,⟨o2,e2,c2,d2⟩⟩:=st
  have hc:c=z\/c=TI\/c=TO\/c=i1\/c=i2:=by simpa using hc
  rcases hc with rfl | rfl | rfl | rfl | rfl
  ·exact ⟨_,hz,fun v y=>by have y':Data.fields _=Data.cell v:=y;cases y'⟩
  ·exact ⟨_,hTI,fun v y=>by have y':Data.seq _=Data.cell v:=y;cases y'⟩
  ·exact ⟨_,hTO,fun v y=>by have y':Data.seq _=Data.cell v:=y;cases y'⟩
  ·exact ⟨o1,e1,fun v y=>by rw [d1] at y;cases y⟩
  ·exact ⟨o2,e2,fun v y=>by rw [d2] at y;cases y⟩
 keep:=fun i h h' st k=>by
  obtain ⟨hz,hTI,⟨v,u,hTO⟩,h1,h2⟩:=st
  exact ⟨k z (by simp) _ hz,k TI (by simp) _ hTI,⟨v,u,k TO (by simp) _ hTO⟩,h1.at fun o q=>k i1 (by simp) o q,h2.at fun o q=>k i2 (by simp) o q⟩
 item:=by
  intro X hP hw hK hc i pins s σ H E I hf st hg
  subst hP hw hK
  obtain ⟨hz,hTI,⟨v0,u0,hTO⟩,h1,h2⟩:=st
  obtain ⟨xs,ys,x,y,hq1,hq2,hx,hy⟩:=hg
  obtain ⟨its,rv,tp0,hz1⟩:=I.tuple hq1
  have tp:s.heap.IsTuple a its.toArray:=tp0
  obtain ⟨jts,rw',tq,hz2⟩:=I.list hq2
  obtain ⟨u,hu,ru⟩:=rv.get hx
  obtain ⟨v,hv,rv'⟩:=rw'.get hy
  have Z:=ZL D aTO hz hTO h1 h2 tp tq.isList
  refine We Z hz hTI hTO h1 h2 tp tq.isList (x:=u) (y:=v) (by simpa using hu) (by simpa using hv) fun h' a1 a2 a3 a4 a5 a6 hk=>?_
  refine ⟨_,rfl,wpAny_letOwnedTupleGo_zip a1 fun h'' hz'' hs=>?_⟩
  have lt:∀ {c o},s.heap.get? c=some o->s.heap.objs.size≠c:=fun e=>ue (Heap.lt_size e)
  have ne1:=lt hz
  have k2:∀ c o,c∉[z,TO,i1,i2]->s.heap.get? c=some o->h''.get? c=some o:=fun c o m q=>by
   have m:c≠z/\c≠TO/\c≠i1/\c≠i2:=by simpa using m
   exact (hs.2 c m.1).trans (hk c o m.1 m.2.1 m.2.2.1 m.2.2.2 q)
  have I1:Inv X pins σ H {s with heap:=h'',toks:=s.toks}:=I.turnedL (t':=s.toks) k2 fun c m=>hf c (by
   have m:c=z\/c=TO\/c=i1\/c=i2:=by simpa using m
   rcases m with rfl | rfl | rfl | rfl<;>simp)
  have hn:H s.heap.objs.size=none:=I.hok.fresh (kf _)
  have FP:=I.fpOk (b:=s.heap.objs.size) (kf _) hn
  have hT2:h''.get? s.heap.objs.size=some {cls:=.type "tuple",data:=.seq #[u,v]}:=(hs.2 _ ne1).trans a5
  have I2:=I1.track (p:=s.heap.objs.size) (o:=.tup [x,y]) hn (Heap.get?_none_of_le I.sz) FP.2.1 FP.2.2.2.2.1 FP.2.2.2.2.2
   ⟨Zz2,[u,v],.cons ru (.cons rv' .nil),⟨_,hT2,rfl,_,rfl⟩⟩
  refine ⟨.ref s.heap.objs.size,_,I2,rfl,⟨_,x,y,hn,rfl,rfl,fun zs hy'=>?_,fun zs hy'=>?_⟩,⟨hz'',(hs.2 _ D.TIz).trans (hk _ _ D.TIz D.TITO D.TIi1 D.TIi2 hTI),⟨_,_,(hs.2 _ D.TOz).trans a2⟩,a3.at fun o q=>(hs.2 _ D.i1z).trans q,a4.at fun o q=>(hs.2 _ D.i2z).trans q⟩,fun c hc=>?_⟩
  ·rw [I.tuple_inj hy' hq1];exact hx
  ·rw [I.list_inj hy' hq2];exact hy
  ·have hb2:c≠s.heap.objs.size:=by
    have m:c=z\/c=TI\/c=TO\/c=i1\/c=i2:=by simpa using hc
    rcases m with rfl | rfl | rfl | rfl | rfl
    ·exact ne1.symm
    ·exact (lt hTI).symm
    ·exact (lt hTO).symm
    ·obtain ⟨o,g,_⟩:=h1
     exact (lt g).symm
    ·obtain ⟨o,g,_⟩:=h2
     exact (lt g).symm
   rw [zp hb2]
   exact (hf c hc).1
 done:=by
  intro X hP hw hK hc i pins s σ H E I hf st hg
  subst hP hw hK
  obtain ⟨hz,hTI,⟨v0,u0,hTO⟩,h1,h2⟩:=st
  obtain ⟨xs,ys,hq1,hq2,hx⟩:=hg
  obtain ⟨its,rv,tp0,hz1⟩:=I.tuple hq1
  have tp:s.heap.IsTuple a its.toArray:=tp0
  obtain ⟨jts,rw',tq,hz2⟩:=I.list hq2
  have l1:=rv.length
  have l2:=rw'.length
  have Z:=ZL D aTO hz hTO h1 h2 tp tq.isList
  refine Wy (I.ok.hd hc) Z hz hTI h1 tp ?_ fun h' hk=>⟨rfl,I.turnedL (t':=s.toks) (ch:=[z,i1]) (fun c o m q=>?_) fun c m=>hf c ?_⟩
  ·simp
   omega
  ·have m:c≠z/\c≠i1:=by simpa using m
   exact hk c o m.1 m.2 q
  ·have m:c=z\/c=i1:=by simpa using m
   rcases m with rfl | rfl<;>simp
 self:=fun _ _ _ _ _ st h=>wpAny_pyIter_zip st.1 h
noncomputable def x0 (h:Heap) (l1 l2:Addr):Heap:=((((h.push {cls:=.type "tuple_iterator",data:=.fields #[.ref l1,.int 0 0]}).push {cls:=.type "list_iterator",data:=.fields #[.ref l2,.int 0 0]}).push {cls:=.type "tuple",data:=.seq #[.ref h.objs.size,.ref (h.objs.size+1)]}).push {cls:=.type "tuple",data:=.seq #[.none,.none]}).push {cls:=.type "zip",data:=.fields #[.none,.bool false,.bool false,.ref (h.objs.size+2),.ref (h.objs.size+3)]}
theorem Qx (l1 l2:Addr) (xs ys:Array Value):Meets (Builtin.«zip.__new__» ⟨[.type "zip",.ref l1,.ref l2],[]⟩) (fun _ R s=>s.heap.IsTuple l1 xs/\s.heap.IsList l2 ys/\R (.ok (.ret (.ref (s.heap.objs.size+4)))) {s with heap:=x0 s.heap l1 l2}) :=
 .of_wp fun prog w A R s h=>by
  obtain ⟨hp,g,d,tk,os⟩:=s
  obtain ⟨hl1,hl2,h⟩:=h
  have hsub:=sub_zip
  have hL1:Heap.IsTuple (Shared.heap ⟨hp,g,d,tk,os⟩) l1 xs:=hl1
  have hL2:Heap.IsList (Shared.heap ⟨hp.push {cls:=.type "tuple_iterator",data:=.fields #[.ref l1,.int 0 0]},g,d,tk,os⟩) l2 ys:=Heap.IsList.push hl2 _
  wp_walk using wpAny_pyIter_tuple hL1,wpAny_pyIter_list hL2
  refine ⟨_,rfl,?_⟩
  have z1:(hp.push {cls:=.type "tuple_iterator",data:=.fields #[.ref l1,.int 0 0]}).objs.size=hp.objs.size+1:=Heap.size_push ..
  simp only [Heap.size_push]
  exact h
section
variable {prog:Program} {w:World} {A:Around} {E:Value->Shared->Prop} {s:Shared}
theorem JB {l1 l2:Addr} {xs ys:Array Value} {Q:Value->Shared->Prop} (hl1:s.heap.IsTuple l1 xs) (hl2:s.heap.IsList l2 ys)
  (h:∀ h',IsZip h' (s.heap.objs.size+4) (s.heap.objs.size+2) (s.heap.objs.size+3) .none->IsPair h' (s.heap.objs.size+2) (.ref s.heap.objs.size) (.ref (s.heap.objs.size+1)) ->
   IsPair h' (s.heap.objs.size+3) .none .none->h'.IsTupleIter s.heap.objs.size l1 0->h'.IsListIter (s.heap.objs.size+1) l2 0->(∀ c o,s.heap.get? c=some o->h'.get? c=some o)->Q (.ref (s.heap.objs.size+4)) {s with heap:=h'}) :
  wpAny (model prog w) A (call (.type "zip") [.ref l1,.ref l2]) Q E s:=by
 refine callType_new F.called_zip (by decide) (F.typeCall_zip_2 _ _) (F.newCall_zip_2 _ _) (fun obj=>F.args_object_init_3 obj _ _) F.entry_zip_new (Qx l1 l2 xs ys) ⟨hl1,hl2,?_⟩
 have up:∀ {h:Heap} {o:Obj} {c:Addr} {o':Obj},h.get? c=some o'->(h.push o).get? c=some o':=fun e=>Heap.get?_push_of_some _ e
 have g5:(x0 s.heap l1 l2).get? (s.heap.objs.size+4)=some {cls:=.type "zip",data:=.fields #[.none,.bool false,.bool false,.ref (s.heap.objs.size+2),.ref (s.heap.objs.size+3)]}:=by
  unfold x0
  have:=Heap.get?_push_size ((((s.heap.push {cls:=.type "tuple_iterator",data:=.fields #[.ref l1,.int 0 0]}).push {cls:=.type "list_iterator",data:=.fields #[.ref l2,.int 0 0]}).push {cls:=.type "tuple",data:=.seq #[.ref s.heap.objs.size,.ref (s.heap.objs.size+1)]}).push {cls:=.type "tuple",data:=.seq #[.none,.none]}) (o:={cls:=.type "zip",data:=.fields #[.none,.bool false,.bool false,.ref (s.heap.objs.size+2),.ref (s.heap.objs.size+3)]}) rfl
  simpa only [Heap.size_push] using this
 have g4:(x0 s.heap l1 l2).get? (s.heap.objs.size+3)=some {cls:=.type "tuple",data:=.seq #[.none,.none]}:=by
  unfold x0
  have:=Heap.get?_push_size (((s.heap.push {cls:=.type "tuple_iterator",data:=.fields #[.ref l1,.int 0 0]}).push {cls:=.type "list_iterator",data:=.fields #[.ref l2,.int 0 0]}).push {cls:=.type "tuple",data:=.seq #[.ref s.heap.objs.size,.ref (s.heap.objs.size+1)]}) (o:={cls:=.type "tuple",data:=.seq #[.none,.none]}) rfl
  exact up (by simpa only [Heap.size_push] using this)
 have g3:(x0 s.heap l1 l2).get? (s.heap.objs.size+2)=some {cls:=.type "tuple",data:=.seq #[.ref s.heap.objs.size,.ref (s.heap.objs.size+1)]}:=by
  unfold x0
  have:=Heap.get?_push_size ((s.heap.push {cls:=.type "tuple_iterator",data:=.fields #[.ref l1,.int 0 0]}).push {cls:=.type "list_iterator",data:=.fields #[.ref l2,.int 0 0]}) (o:={cls:=.type "tuple",data:=.seq #[.ref s.heap.objs.size,.ref (s.heap.objs.size+1)]}) rfl
  exact up (up (by simpa only [Heap.size_push] using this))
 have g2:(x0 s.heap l1 l2).get? (s.heap.objs.size+1)=some {cls:=.type "list_iterator",data:=.fields #[.ref l2,.int 0 0]}:=by
  unfold x0
  have:=Heap.get?_push_size (s.heap.push {cls:=.type "tuple_iterator",data:=.fields #[.ref l1,.int 0 0]}) (o:={cls:=.type "list_iterator",data:=.fields #[.ref l2,.int 0 0]}) rfl
  exact up (up (up (by simpa only [Heap.size_push] using this)))
 have g1:(x0 s.heap l1 l2).get? s.heap.objs.size=some {cls:=.type "tuple_iterator",data:=.fields #[.ref l1,.int 0 0]}:=up (up (up (up (Heap.get?_push_size _ rfl))))
 show _/\_
 exact ⟨⟨_,g5,rfl⟩,h _ g5 g3 g4 ⟨_,g1,rfl,rfl⟩ ⟨_,g2,rfl,rfl⟩ fun c o x=>up (up (up (up (up x))))⟩
end
noncomputable def zdo (K:Frag) (ta:TA):TI:=fun σ H R=>ta σ H fun vs H1=>∃ a b,vs=[.ref a,.ref b]/\(∃ xs,SqT K H1 a xs)/\(∃ ys,SqL K H1 b ys)/\R (ItZT K a b) H1
theorem zbK {X:Cx} {l r:Expr} {ta:TA} {elts:List Expr} {kx:Nat} {px p pos:Pos} (hg:Gl X "zip") (hm:X.mg "zip" = none) (ha:PA X [l,r] ta) (hs:starEach [l,r] X.env=[(false,eval l X.env),(false,eval r X.env)]:=by rfl) (hs2:starEach [r] X.env=[(false,eval r X.env)]:=by rfl) :
  PI X (.Tuple elts kx px) (.Call (.Name "zip" p) [l,r] [] pos) (zdo X.K ta):=by
 intro pins s σ H R I h
 refine Call_ (xb I hg hm boot_zip (vv (thn (ha pos pins s σ H _ I h) fun us s1 ⟨vs,H1,I1,r1,q1⟩=>?_) (by rw [hs,hs2]) (by rw [hs2];rfl)))
 obtain ⟨a,b,e,⟨xs,hq1⟩,⟨ys,hq2⟩,q⟩:=q1
 subst e
 cases r1 with
 | cons r rr =>
  cases rr with
  | cons r' rr =>
   cases rr
   cases r
   cases r'
   obtain ⟨its,rv,tp0,hz1⟩:=I1.tuple hq1
   have tp:s1.heap.IsTuple a its.toArray:=tp0
   obtain ⟨jts,rw',tq,hz2⟩:=I1.list hq2
   have alt:a<s1.heap.objs.size:=by
    obtain ⟨o,e,_⟩:=tp
    exact Heap.lt_size e
   refine JB tp tq.isList fun h' a1 a2 a3 a4 a5 hk=>?_
   refine wpAny_pyIter_zip a1 ?_
   refine ⟨s1.heap.objs.size+4,[s1.heap.objs.size+4,s1.heap.objs.size+2,s1.heap.objs.size+3,s1.heap.objs.size,s1.heap.objs.size+1],_,_,H1,rfl,I1.kept (t':=s1.toks) hk,
    JA a b _ _ _ _ _ (XC _) (fun z=>absurd alt (by rw [z];exact uT.mpr (bh _ _))),⟨a1,a2,⟨_,_,a3⟩,a4,a5⟩,fun c hc=>?_,q⟩
   have m:c=s1.heap.objs.size+4\/c=s1.heap.objs.size+2\/c=s1.heap.objs.size+3\/c=s1.heap.objs.size\/c=s1.heap.objs.size+1:=by simpa using hc
   have le:s1.heap.objs.size<=c:=YC m
   exact I1.fpOk le (I1.hok.fresh le)
theorem zaw {K:Frag} {a b:Addr} {xs ys:List V} {g:TG} {tb:TS} {D:Ends} {σ:St} {H:Hp} (Pv:Nat->St->Hp->Prop) (hl:xs.length=ys.length) (h0:Pv 0 σ H) (hq:∀ i σ H,i<=xs.length->Pv i σ H->SqT K H a xs/\SqL K H b ys)
  (hs:∀ i x y σ H p,xs[i]?=some x->ys[i]?=some y->Pv i σ H->H p=none->g (.ref p) σ (upd H p (.tup [x,y])) fun σ2 H2=>tb {D with nx:=Pv (i+1),ct:=Pv (i+1),bk:=D.nx} σ2 H2) (hd:∀ σ H,Pv xs.length σ H->D.nx σ H) :
  ∃ W:Nat->Nat->St->Hp->Prop,(∃ m,W 0 m σ H)/\∀ i m σ H,W i m σ H ->
   ((ItZT K a b).stop i H/\D.nx σ H)\/((ItZT K a b).go i H/\∃ N:St->Hp->Prop,(∀ σ' H',N σ' H'->∃ m',m'<m/\W (i+1) m' σ' H')/\∀ x H',(ItZT K a b).yld i H x H'->g x σ H' fun σ2 H2=>tb {D with nx:=N,ct:=N,bk:=D.nx} σ2 H2):=by
 refine ⟨fun i m σ H=>m=xs.length-i/\i<=xs.length/\Pv i σ H,⟨xs.length,by simp,ve _,h0⟩,?_⟩
 rintro i m σ H ⟨rfl,hi,p⟩
 obtain ⟨z1,z2⟩:=hq i σ H hi p
 by_cases hlt:i<xs.length
 ·refine .inr ⟨⟨xs,ys,xs[i],ys[i]'(by omega),z1,z2,kh _,kh _⟩,Pv (i+1),fun σ' H' p'=>⟨xs.length-(i+1),by omega,rfl,hlt,p'⟩,fun x H' y=>?_⟩
  obtain ⟨q,u,v,hn,e,e2,y1,y2⟩:=y
  subst e e2
  exact hs i u v σ H q (y1 xs z1) (y2 ys z2) p hn
 ·have e:i=xs.length:=by omega
  subst e
  exact .inl ⟨⟨xs,ys,z1,z2,kf _⟩,hd σ H p⟩
end _L2
namespace _JF
open PySem _L2 _Lin _Tre PySem.W
open _Sta (R Ok sbs exch reg OkS OkSs stN HasR zT Low Best tr Pc PcsA PcsD yI SetL plc)
noncomputable def nV (m:Nat):V:=.int (m:Int)
noncomputable def pq (p:Pc):List V:=[nV p.l,nV p.t,nV p.r,nV p.b]
noncomputable def PcAt (H:Hp) (v:V) (p:Pc):Prop:=∃ a,v=.ref a/\H a=some (.tup (pq p))
noncomputable def yE (H:Hp):List V->List Pc->Prop:=Paired (PcAt H)
theorem PcAt.same {H H':Hp} (S:Same H H') {v:V} {p:Pc} (h:PcAt H v p):PcAt H' v p:=let ⟨a,e,z⟩:=h;⟨a,e,S _ _ z⟩
theorem yE.same {H H':Hp} (S:Same H H'):∀ {vs:List V} {ps:List Pc},yE H vs ps->yE H' vs ps
 | _,_,.nil=>.nil
 | _,_,.cons h t=>.cons (h.same S) (yE.same S t)
theorem yE.len {H:Hp} {vs:List V} {ps:List Pc} (h:yE H vs ps):vs.length=ps.length:=Paired.length h
theorem yE.snoc {H:Hp} {vs:List V} {ps:List Pc} {v:V} {p:Pc} (h:yE H vs ps) (r:PcAt H v p):yE H (vs++[v]) (ps++[p]):=Paired.snoc h r
theorem yE.get {H:Hp}:∀ {vs:List V} {ps:List Pc} {i:Nat} {v:V},yE H vs ps->vs[i]?=some v->∃ p,ps[i]?=some p/\PcAt H v p
 | _,_,_,_,.nil,e=>by simp at e
 | _,_,0,_,.cons r _,e=>by simp at e;subst e;exact ⟨_,rfl,r⟩
 | _,_,i+1,v,.cons _ t,e=>by
  obtain ⟨p,h1,h2⟩:=yE.get (i:=i) (v:=v) t (by simpa using e)
  exact ⟨p,by simpa using h1,h2⟩
noncomputable def NpAt (H:Hp) (v:V) (q:Int×Pc):Prop:=∃ a u,v=.ref a/\H a=some (.tup [.int q.1,u])/\PcAt H u q.2
noncomputable def yF (H:Hp):List V->List (Int×Pc)->Prop:=Paired (NpAt H)
theorem NpAt.same {H H':Hp} (S:Same H H') {v:V} {q:Int×Pc} (h:NpAt H v q):NpAt H' v q:=let ⟨a,u,e,z,p⟩:=h;⟨a,u,e,S _ _ z,p.same S⟩
theorem yF.same {H H':Hp} (S:Same H H'):∀ {vs:List V} {ps:List (Int×Pc)},yF H vs ps->yF H' vs ps
 | _,_,.nil=>.nil
 | _,_,.cons h t=>.cons (h.same S) (yF.same S t)
theorem yF.len {H:Hp} {vs:List V} {ps:List (Int×Pc)} (h:yF H vs ps):vs.length=ps.length:=Paired.length h
theorem yF.app {H:Hp}:∀ {vs us:List V} {ps qs:List (Int×Pc)},yF H vs ps->yF H us qs->yF H (vs++us) (ps++qs)
 | _,_,_,_,.nil,s=>s
 | _,_,_,_,.cons r t,s=>.cons r (yF.app t s)
theorem yF.upd {H:Hp} {l:Addr} {xs:List V} {o':HO} (hl:H l=some (.lst xs)):∀ {vs:List V} {ps:List (Int×Pc)},yF H vs ps->yF (upd H l o') vs ps
 | _,_,.nil=>.nil
 | _,_,.cons ⟨a,u,e,z,pa,e2,z2⟩ t=>.cons ⟨a,u,e,by rw [zp (xy z hl (by intro y;cases y))];exact z,pa,e2,by rw [zp (xy z2 hl (by intro y;cases y))];exact z2⟩ (yF.upd hl t)
theorem Wf {ws:List V} (h:1<=ws.length):cutV ws none (some (-1))=ws.dropLast:=by
 unfold cutV
 rw [_HT.xO,List.drop_zero,List.dropLast_eq_take]
 congr 1
 show (if (-1:Int)<0 then (-1+(ws.length:Int)).toNat else min (-1:Int).toNat ws.length)-0=ws.length-1
 rw [if_pos (by decide)]
 omega
noncomputable def jT:Sp:=fun vs H Q _=>∃ (first last:Nat) (a:Addr) (ws:List Nat),vs=[.int first,.int last,.ref a]/\H a=some (.lst (ws.map nV))/\ws.length<=1000/\∀ (l:Addr) (H':Hp),Same H H'->H' l=some (.lst ((plc first ws++[last]).map nV))->Q (.ref l) H'
structure Pts (H H0:Hp) (pa b:Addr) (ps:List T) (Ls:List R):Prop where
 parts:∃ ws,H pa=some (.tup ws)/\AtL H ws ps
 xL:∃ bvs As,H b=some (.lst bvs)/\yw H0 H bvs As/\OkSs As Ls/\∀ A∈As,A.length<=600
 two:2<=ps.length
 good:∃ nss,zI ps nss/\nss.flatten.length<=24
 small:∀ p∈ps,sz p+3<=96
 sm:Same H0 H
noncomputable def spPa:Sp:=fun vs H Q _=>∃ (pa b pp:Addr) (ps:List T) (Ls:List R) (p:Pc) (pcs:List Pc) (H0:Hp),vs=[.ref pa,.ref b,.ref pp]/\Pts H H0 pa b ps Ls/\H pp=some (.tup (pq p))/\p.t<=p.b/\PcsA Ls p.t p.b p.r ps p.l pcs/\∀ (l:Addr) (us:List V) (H':Hp),Same H H'->H' l=some (.lst us)->yE H' us pcs->Q (.ref l) H'
noncomputable def spPd:Sp:=fun vs H Q _=>∃ (pa b pp:Addr) (ps:List T) (Ls:List R) (p:Pc) (pcs:List Pc) (H0:Hp),vs=[.ref pa,.ref b,.ref pp]/\Pts H H0 pa b ps Ls/\H pp=some (.tup (pq p))/\p.l<=p.r/\PcsD Ls p.l p.r p.b ps p.t pcs/\∀ (l:Addr) (us:List V) (H':Hp),Same H H'->H' l=some (.lst us)->yE H' us pcs->Q (.ref l) H'
section
variable {P:Program} {w:World} {K:Frag} {mg:Str->Option Value} {base:Heap} {kA:Addr}
theorem Yf:zC ["first","last","lengths","places","length"] ["first","last","lengths"] (zg qz):=by trivial
theorem zax {f:Addr} {fd:FuncData} (F:Fun K "edges" "edges" qz f fd):FnOk P w K mg base CX0 1 f fd ["first","last","lengths"] jT:=by
 refine F.ok Yf (fun vs H Q E h=>?_) (fun cdv A outer s H vs Q E hr h=>?_)
 ·refine E_4 h fun first last a ws n8=>A_2 n8 fun e9 _=>?_;clear n8 h;subst e9
  rfl
 ·refine E_4 h fun first last a ws n8=>A_4 n8 fun e9 ha hn q=>?_;clear n8 h;subst e9
  refine ⟨_,(ze (zm (i:=3) Yf.nd rfl (Or.inl rfl) (zE (za (pv 0) zb)))
   (ze (yr PassesOwn.never rfl (ya (pv 2)) (zo (i:=4) Yf.nd rfl (Or.inl rfl))
   (zf (zZ (yG kN vf vg ye (pv 3) (za (zj zS (zw zV (pv 3) (xY xB zh) (fun _ _=>rfl)) (pv 4)) zb)))))
   (zf (zn (zj yX (pv 3) (zE (za (pv 1) zb))))))),?_⟩
  refine ⟨_,rfl,Zz1,fun l nl=>?_⟩
  have S1:=zc (o:=.lst [nV first]) nl
  have hl1:(upd H l (.lst [nV first])) l=some (.lst ((plc first []).map nV)):=zd
  change tSeq _ _ _ _ (upd H l (.lst [nV first]))
  generalize upd H l (.lst [nV first])=H1 at S1 hl1
  refine run_seq ⟨_,rfl,a,rfl,⟨_,SqL.of (S1 _ _ ha)⟩,?_⟩
  refine xn (K:=K) (a:=a) (xs:=ws.map nV) (fun i σ H2=>∃ o:Option V,σ=[some (.int first),some (.int last),some (.ref a),some (.ref l),o]/\Same H H2/\H2 l=some (.lst ((plc first (ws.take i)).map nV))) ⟨none,rfl,S1,hl1⟩ (fun i σ H2 _ h9=>by obtain ⟨_,_,S,_⟩:=h9;exact (SqL.of (S _ _ ha))) ?_ ?_
  ·intro i v σ H2 hi h8
   refine E_1 h8 fun o n8=>A_3 n8 fun e9 S2 hl2=>?_;clear n8 h8;subst e9
   rw [va] at hi
   obtain ⟨m,hm,rfl⟩:=vA.mp hi
   obtain ⟨hil,ev⟩:=kg.mp hm
   refine zQ ?_
   obtain ⟨xs,ex⟩:=_Sta.Wc (ws.take i) first
   have lp:=_Sta.jS first (ws.take i)
   rw [kH] at lp
   have hl3:H2 l=some (.lst (xs.map nV++[nV (first+(ws.take i).sum)])):=by rw [hl2,ex,kC];rfl
   refine ⟨_,rfl,.inl ⟨rfl,_,SqL.of hl3⟩,_,rfl,1,rfl,l,_,_,_,rfl,rfl,SqL.of hl3,j5 _ _,_,rfl,_,_,rfl,rfl,l,_,_,rfl,rfl,hl2,by rw [ke];exact vi (show _<=2000 by omega) (by decide),?_⟩
   refine ⟨_,rfl,zU S2 nl,?_⟩
   rw [zd,<- kz hil,ev,_Sta.Wb,kC]
   show some (HO.lst (_++[V.int (((first+(ws.take i).sum:Nat):Int)+(m:Int))]))=some (HO.lst (_++[V.int (((first+(ws.take i).sum+m:Nat)):Int)]))
   rw [show (((first+(ws.take i).sum:Nat):Int)+(m:Int))=(((first+(ws.take i).sum+m:Nat)):Int) by omega]
  ·intro σ H2 h8
   refine E_1 h8 fun o n8=>A_3 n8 fun e9 S2 hl2=>?_;clear n8 h8;subst e9
   rw [ke,kO] at hl2
   refine ⟨_,rfl,_,rfl,Zz1,fun p1 np1=>?_⟩
   have S3:=zc (o:=.lst [nV last]) np1
   have hp1:(upd H2 p1 (.lst [nV last])) p1=some (.lst [nV last]):=zd
   change rCat _ _ (upd H2 p1 (.lst [nV last])) _
   generalize upd H2 p1 (.lst [nV last])=H3 at S3 hp1
   have lp:=_Sta.jS first ws
   refine I_4 l p1 _ _ ⟨rfl,rfl,S3 _ _ hl2,hp1,by rw [ke,lp];exact km (show ws.length+1+[nV last].length<=2000 by simp;omega) (by decide),fun p2 np2=>?_⟩
   have e:(plc first ws).map nV++[nV last]=(plc first ws++[last]).map nV:=by rw [kC];rfl
   rw [e]
   exact q p2 _ (S2.trans (S3.trans (zc np2))) zd
theorem scPa:zC ["parts","stairs","piece","high","widths","places"] ["parts","stairs","piece"] (zg sPa):=by trivial
theorem zdp {f fN fS fE:Addr} {fd dN dS dE:FuncData} (F:Fun K "pieces_across" "pieces_across" sPa f fd) (gLEFT:GI mg "LEFT" 0) (gTOP:GI mg "TOP" 1) (gRIGHT:GI mg "RIGHT" 2) (gBELOW:GI mg "BELOW" 3) (tzip:mg "zip" = none) (Na:Callee P w K mg base CX0 1 "narrowest" fN dN ["stairs","high"] ZI)
  (So:Callee P w K mg base CX0 27 "stairs_of" fS dS ["tree","boxes"] (spSo 24)) (Ed:Callee P w K mg base CX0 1 "edges" fE dE ["first","last","lengths"] jT):FnOk P w K mg base CX0 28 f fd ["parts","stairs","piece"] spPa:=by
 refine F.ok scPa (fun vs H Q E h=>?_) (fun cdv A outer s H vs Q E hr h=>?_)
 ·refine E_8 h fun pa b pp ps Ls p pcs H0 n8=>A_2 n8 fun e9 _=>?_;clear n8 h;subst e9
  rfl
 ·refine E_8 h fun pa b pp ps Ls p pcs H0 n8=>A_6 n8 fun e9 hP hpp htb hA q=>?_;clear n8 h;subst e9
  refine ⟨_,(ze (zm (i:=3) scPa.nd rfl (Or.inr rfl) (zj wE (zw zP (pv 2) (z6 rfl gBELOW) (fun _ _=>rfl)) (zw zP (pv 2) (z6 rfl gTOP) (fun _ _=>rfl))))
   (ze (xR (i:=4) (Nc:=["part","high","stairs"]) (ix:=[none,some 3,some 1]) scPa.nd rfl (Or.inl rfl) rfl rfl (by exact (wD (yc jc (pv 0) yl (yg (xY xB zh))))) (fun _ _ _ _ _=>(zo (i:=0) (by show (["part","high","stairs"]:List Str).Nodup;decide +kernel) rfl (Or.inl rfl))) (fun _ _ _ _ _=>yd) (fun _ _ _ _ _=>(zk Na.ok (hr.mono (by decide)) rfl Na.bound Na.kp Na.bd .nil zG (za (zk So.ok hr rfl So.bound So.kp So.bd .nil zG (za (pv 0) (za (pv 2) zb))) (za (pv 1) zb)))))
   (ze (zm (i:=5) scPa.nd rfl (Or.inl rfl) (zk Ed.ok (hr.mono (by decide)) rfl Ed.bound Ed.kp Ed.bd .nil zG (za (zw zP (pv 2) (z6 rfl gLEFT) (fun _ _=>rfl)) (za (zw zP (pv 2) (z6 rfl gRIGHT) (fun _ _=>rfl)) (za (pv 4) zb)))))
   (zf (zn (yq (Nc:=["left","right","piece"]) (ix:=[none,none,some 2]) rfl rfl (by exact (XD rfl tzip (za (pv 5) (za (yc yP (pv 5) (yg zh) yl) zb)))) (fun _ _ _ _ _=>(qf (K:=K) (n:=2) rfl rfl (z8 (zo (i:=0) (by show (["left","right","piece"]:List Str).Nodup;decide +kernel) rfl (Or.inl rfl)) (z8 (zo (i:=1) (by show (["left","right","piece"]:List Str).Nodup;decide +kernel) rfl (Or.inl rfl)) xh)))) (fun _ _ _ _ _=>yd) (fun _ _ _ _ _=>(zN (za (pv 0) (za (zw (y7 (K:=K) rfl) (pv 2) (z6 rfl gTOP) (fun _ _=>rfl)) (za (pv 1) (za (zw (y7 (K:=K) rfl) (pv 2) (z6 rfl gBELOW) (fun _ _=>rfl)) zb)))))))))))),?_⟩
  obtain ⟨ws,hpa,hQ⟩:=hP.parts
  obtain ⟨bvs,As,hb,hB,hO,h600⟩:=hP.xL
  obtain ⟨nss,hG,n24⟩:=hP.good
  have lq:=hQ.len
  have two:=hP.two
  have l24:ps.length<=24:=km hG.le n24
  obtain ⟨wl,lw,hw,epc⟩:=hA.ws
  refine wo (v:=.int ((p.b-p.t:Nat):Int)) (by
   rw [show ((p.b-p.t:Nat):Int)=(p.b:Int)-(p.t:Int) by omega]
   exact yz (yV (zA rfl) yT (SqT.of hpp) rfl) (yV (zA rfl) yT (SqT.of hpp) rfl)) ?_
  refine ⟨_,rfl,1,rfl,_,rfl,pa,ws,rfl,SqT.of hpa,?_,fun pc nc=>?_⟩
  ·rw [_HT.xO]
   show ¬ (0=0/\(if (-1:Int)<0 then (-1+(ws.length:Int)).toNat else min (-1:Int).toNat ws.length)=ws.length)
   rw [if_pos (by decide)]
   omega
  rw [Wf (by omega)]
  have S1:=zc (o:=.tup ws.dropLast) nc
  have hpc:(upd H pc (.tup ws.dropLast)) pc=some (.tup ws.dropLast):=zd
  generalize upd H pc (.tup ws.dropLast)=H1 at S1 hpc
  have ldl:ws.dropLast.length=wl.length:=by rw [uG];omega
  refine ⟨pc,rfl,⟨_,SqT.of hpc⟩,qd (K:=K) (a:=pc) (xs:=ws.dropLast) (fun i ys σ H2=>ys=(wl.take i).map nV/\Same H1 H2/\∃ o,σ=[o,some (.int ((p.b-p.t:Nat):Int)),some (.ref b)]) ⟨rfl,Same.refl _,none,rfl⟩
   (fun i ys σ H2 hi h9=>by obtain ⟨e,S,_⟩:=h9;exact (⟨by rw [e,ke,kH];exact km (show _<=1000 by omega) (by decide),SqT.of (S _ _ hpc)⟩)) ?_ ?_⟩
  case refine_2 =>
   rintro i y ys σ H2 hy ⟨rfl,S2,o,rfl⟩
   have hi:=(kg.mp hy).1
   have hy':ws[i]?=some y:=by
    rw [kh hi,List.getElem_dropLast] at hy
    rw [kh (by omega)]
    exact hy
   obtain ⟨tp,ep,hAp⟩:=hQ.get hy'
   have pm:tp∈ps:=kZ ep
   obtain ⟨np,enp,gp⟩:=hG.get ep
   have hiw:i<wl.length:=by omega
   obtain ⟨P1,hP1,low1⟩:=hw i tp _ ep (kh hiw)
   have ln:=qC (kZ enp)
   have S12:=S1.trans S2
   dsimp only [z7,tYes]
   refine iteT ?_
   refine ⟨_,rfl,_,rfl,y,tp,np,b,bvs,As,Ls,P1,H0,rfl,hAp.same S12,gp,hP1,S12 _ _ hb,hB.same S12,hO,h600,by omega,by have:=hP.small tp pm;omega,by decide,hP.sm.trans S12,fun l us A1 H3 S3 nl hl hs oA lA=>?_⟩
   refine ⟨_,rfl,l,us,A1,p.b-p.t,rfl,hl,hs,by omega,fun o4 H4 S4 low4=>?_⟩
   have e4:o4=some wl[i]:=Low.uniq (low4.of (P:=tr (reg A1)) (Q:=tr P1) fun w k=>oA.2 k w) low1
   subst e4
   refine ⟨?_,S2.trans (S3.trans S4),_,rfl⟩
   rw [<- kz hiw,kC]
   rfl
  rintro ys σ H2 ⟨rfl,S2,_⟩ lw1 nlw
  rw [ldl,kO]
  have S3:=S1.trans (S2.trans (zc (o:=.lst (wl.map nV)) nlw))
  have hlw:(upd H2 lw1 (.lst (wl.map nV))) lw1=some (.lst (wl.map nV)):=zd
  generalize upd H2 lw1 (.lst (wl.map nV))=H3 at S3 hlw
  try dsimp only
  have hpp3:=S3 _ _ hpp
  refine ⟨_,rfl,pp,_,_,_,rfl,rfl,SqT.of hpp3,rfl,_,rfl,pp,_,_,_,rfl,rfl,SqT.of hpp3,rfl,_,rfl,p.l,p.r,lw1,wl,rfl,hlw,by omega,fun lp H4 S4 hlp=>?_⟩
  have S34:=S3.trans S4
  have hpp4:=S4 _ _ hpp3
  refine ⟨_,rfl,_,rfl,_,rfl,lp,_,rfl,SqL.of hlp,fun l2 nl2=>?_⟩
  have pl:=_Sta.jS p.l wl
  have ec:cutV ((plc p.l wl++[p.r]).map nV) (some 1) none=((plc p.l wl++[p.r]).drop 1).map nV:=by
   have:=yZ ((plc p.l wl++[p.r]).map nV) 1 (by rw [ke,ki];simp)
   rw [List.map_drop]
   exact this
  rw [ec]
  have S5:=zc (o:=.lst (((plc p.l wl++[p.r]).drop 1).map nV)) nl2
  have hl2:(upd H4 l2 (.lst (((plc p.l wl++[p.r]).drop 1).map nV))) l2=some (.lst (((plc p.l wl++[p.r]).drop 1).map nV)):=zd
  have hlp5:=S5 _ _ hlp
  have hpp5:=S5 _ _ hpp4
  generalize upd H4 l2 (.lst (((plc p.l wl++[p.r]).drop 1).map nV))=H5 at S5 hl2 hlp5 hpp5
  have lmin:min ((plc p.l wl++[p.r]).map nV).length (((plc p.l wl++[p.r]).drop 1).map nV).length=wl.length+1:=by
   rw [ke,ke,vq,ki,pl]
   simp
  have lz:((plc p.l wl).zip ((plc p.l wl++[p.r]).drop 1)).length=wl.length+1:=by
   rw [uA,vq,ki,pl]
   simp
  refine ⟨lp,l2,rfl,⟨_,SqL.of hlp5⟩,⟨_,SqL.of hl2⟩,ZV (K:=K) (a:=lp) (b:=l2) (xs:=(plc p.l wl++[p.r]).map nV) (ys:=((plc p.l wl++[p.r]).drop 1).map nV) (fun i ys σ H6=>yE H6 ys ((((plc p.l wl).zip ((plc p.l wl++[p.r]).drop 1)).take i).map fun q=>⟨q.1,p.t,q.2,p.b⟩)/\Same H5 H6/\∃ o o2,σ=[o,o2,some (.ref pp)]) ⟨.nil,Same.refl _,none,none,rfl⟩
   (fun i ys σ H6 hi h9=>by obtain ⟨e,S,_⟩:=h9;exact (⟨by rw [e.len,ke,kH];exact km (show _<=1000 by omega) (by decide),SqL.of (S _ _ hlp5),SqL.of (S _ _ hl2)⟩)) ?_ ?_⟩
  case refine_2 =>
   intro i x y ys σ H6 tpa hx hy h8 ntp
   refine A_3 h8 fun hY S6 n8=>E_2 n8 fun o o2 e9=>?_;clear n8 h8;subst e9
   rw [va] at hx hy
   obtain ⟨x1,hx1,rfl⟩:=vA.mp hx
   obtain ⟨y1,hy1,rfl⟩:=vA.mp hy
   have hil:i<wl.length+1:=by
    have:=(kg.mp hy1).1
    rw [vq,ki,pl] at this
    simp at this
    omega
   have hx2:(plc p.l wl)[i]?=some x1:=by
    rw [vS (by omega)] at hx1
    exact hx1
   have St:=zc (o:=.tup [nV x1,nV y1]) ntp
   have hpp6:=S6 _ _ hpp5
   refine ⟨tpa,_,rfl,SqT.of zd,rfl,_,_,rfl,_,_,rfl,rfl,?_⟩
   dsimp only [z7,tYes]
   refine iteT ?_
   generalize upd H6 tpa (.tup [nV x1,nV y1])=H7 at St
   have hpp7:=St _ _ hpp6
   refine Xt (v1:=nV x1) (v2:=nV p.t) (v3:=nV y1) (v4:=nV p.b) (zA rfl) (yV (zA rfl) yT (SqT.of hpp7) rfl) (zA rfl) (yV (zA rfl) yT (SqT.of hpp7) rfl) (fun tq ntq=>?_)
   have Sq:=zc (o:=.tup [nV x1,nV p.t,nV y1,nV p.b]) ntq
   refine ⟨?_,S6.trans (St.trans Sq),_,_,rfl⟩
   have ez:((plc p.l wl).zip ((plc p.l wl++[p.r]).drop 1))[i]?=some (x1,y1):=uJ.mpr ⟨hx2,hy1⟩
   obtain ⟨hzl,evz⟩:=kg.mp ez
   rw [<- kz hzl,evz,kC]
   exact (hY.same (St.trans Sq)).snoc ⟨tq,rfl,zd⟩
  rintro ys σ H6 ⟨hY,S6,_⟩ lr nlr
  rw [lmin,<- lz,kO,<- epc] at hY
  exact q lr ys _ (S34.trans (S5.trans (S6.trans (zc nlr)))) zd (hY.same (zc nlr))
end
end _JF
namespace _JF
open PySem _L2 _Lin _Tre PySem.W
open _Sta (R Ok sbs exch reg OkS OkSs stN HasR zT Low Best tr Pc PcsA PcsD yI SetL plc)
section
variable {P:Program} {w:World} {K:Frag} {mg:Str->Option Value} {base:Heap} {kA:Addr}
theorem scPd:zC ["parts","stairs","piece","wide","heights","places"] ["parts","stairs","piece"] (zg sPd):=by trivial
theorem zdq {f fN fS fE:Addr} {fd dN dS dE:FuncData} (F:Fun K "pieces_down" "pieces_down" sPd f fd) (gLEFT:GI mg "LEFT" 0) (gTOP:GI mg "TOP" 1) (gRIGHT:GI mg "RIGHT" 2) (gBELOW:GI mg "BELOW" 3) (tzip:mg "zip" = none) (Lo:Callee P w K mg base CX0 1 "lowest" fN dN ["stairs","wide"] Xg)
  (So:Callee P w K mg base CX0 27 "stairs_of" fS dS ["tree","boxes"] (spSo 24)) (Ed:Callee P w K mg base CX0 1 "edges" fE dE ["first","last","lengths"] jT):FnOk P w K mg base CX0 28 f fd ["parts","stairs","piece"] spPd:=by
 refine F.ok scPd (fun vs H Q E h=>?_) (fun cdv A outer s H vs Q E hr h=>?_)
 ·refine E_8 h fun pa b pp ps Ls p pcs H0 n8=>A_2 n8 fun e9 _=>?_;clear n8 h;subst e9
  rfl
 ·refine E_8 h fun pa b pp ps Ls p pcs H0 n8=>A_6 n8 fun e9 hP hpp htb hA q=>?_;clear n8 h;subst e9
  refine ⟨_,(ze (zm (i:=3) scPd.nd rfl (Or.inr rfl) (zj wE (zw zP (pv 2) (z6 rfl gRIGHT) (fun _ _=>rfl)) (zw zP (pv 2) (z6 rfl gLEFT) (fun _ _=>rfl))))
   (ze (xR (i:=4) (Nc:=["part","wide","stairs"]) (ix:=[none,some 3,some 1]) scPd.nd rfl (Or.inl rfl) rfl rfl (by exact (wD (yc jc (pv 0) yl (yg (xY xB zh))))) (fun _ _ _ _ _=>(zo (i:=0) (by show (["part","wide","stairs"]:List Str).Nodup;decide +kernel) rfl (Or.inl rfl))) (fun _ _ _ _ _=>yd) (fun _ _ _ _ _=>(zk Lo.ok (hr.mono (by decide)) rfl Lo.bound Lo.kp Lo.bd .nil zG (za (zk So.ok hr rfl So.bound So.kp So.bd .nil zG (za (pv 0) (za (pv 2) zb))) (za (pv 1) zb)))))
   (ze (zm (i:=5) scPd.nd rfl (Or.inl rfl) (zk Ed.ok (hr.mono (by decide)) rfl Ed.bound Ed.kp Ed.bd .nil zG (za (zw zP (pv 2) (z6 rfl gTOP) (fun _ _=>rfl)) (za (zw zP (pv 2) (z6 rfl gBELOW) (fun _ _=>rfl)) (za (pv 4) zb)))))
   (zf (zn (yq (Nc:=["top","below","piece"]) (ix:=[none,none,some 2]) rfl rfl (by exact (XD rfl tzip (za (pv 5) (za (yc yP (pv 5) (yg zh) yl) zb)))) (fun _ _ _ _ _=>(qf (K:=K) (n:=2) rfl rfl (z8 (zo (i:=0) (by show (["top","below","piece"]:List Str).Nodup;decide +kernel) rfl (Or.inl rfl)) (z8 (zo (i:=1) (by show (["top","below","piece"]:List Str).Nodup;decide +kernel) rfl (Or.inl rfl)) xh)))) (fun _ _ _ _ _=>yd) (fun _ _ _ _ _=>(zN (za (zw (y7 (K:=K) rfl) (pv 2) (z6 rfl gLEFT) (fun _ _=>rfl)) (za (pv 0) (za (zw (y7 (K:=K) rfl) (pv 2) (z6 rfl gRIGHT) (fun _ _=>rfl)) (za (pv 1) zb)))))))))))),?_⟩
  obtain ⟨ws,hpa,hQ⟩:=hP.parts
  obtain ⟨bvs,As,hb,hB,hO,h600⟩:=hP.xL
  obtain ⟨nss,hG,n24⟩:=hP.good
  have lq:=hQ.len
  have two:=hP.two
  have l24:ps.length<=24:=km hG.le n24
  obtain ⟨wl,lw,hw,epc⟩:=hA.ws
  refine wo (v:=.int ((p.r-p.l:Nat):Int)) (by
   rw [show ((p.r-p.l:Nat):Int)=(p.r:Int)-(p.l:Int) by omega]
   exact yz (yV (zA rfl) yT (SqT.of hpp) rfl) (yV (zA rfl) yT (SqT.of hpp) rfl)) ?_
  refine ⟨_,rfl,1,rfl,_,rfl,pa,ws,rfl,SqT.of hpa,?_,fun pc nc=>?_⟩
  ·rw [_HT.xO]
   show ¬ (0=0/\(if (-1:Int)<0 then (-1+(ws.length:Int)).toNat else min (-1:Int).toNat ws.length)=ws.length)
   rw [if_pos (by decide)]
   omega
  rw [Wf (by omega)]
  have S1:=zc (o:=.tup ws.dropLast) nc
  have hpc:(upd H pc (.tup ws.dropLast)) pc=some (.tup ws.dropLast):=zd
  generalize upd H pc (.tup ws.dropLast)=H1 at S1 hpc
  have ldl:ws.dropLast.length=wl.length:=by rw [uG];omega
  refine ⟨pc,rfl,⟨_,SqT.of hpc⟩,qd (K:=K) (a:=pc) (xs:=ws.dropLast) (fun i ys σ H2=>ys=(wl.take i).map nV/\Same H1 H2/\∃ o,σ=[o,some (.int ((p.r-p.l:Nat):Int)),some (.ref b)]) ⟨rfl,Same.refl _,none,rfl⟩
   (fun i ys σ H2 hi h9=>by obtain ⟨e,S,_⟩:=h9;exact (⟨by rw [e,ke,kH];exact km (show _<=1000 by omega) (by decide),SqT.of (S _ _ hpc)⟩)) ?_ ?_⟩
  case refine_2 =>
   rintro i y ys σ H2 hy ⟨rfl,S2,o,rfl⟩
   have hi:=(kg.mp hy).1
   have hy':ws[i]?=some y:=by
    rw [kh hi,List.getElem_dropLast] at hy
    rw [kh (by omega)]
    exact hy
   obtain ⟨tp,ep,hAp⟩:=hQ.get hy'
   have pm:tp∈ps:=kZ ep
   obtain ⟨np,enp,gp⟩:=hG.get ep
   have hiw:i<wl.length:=by omega
   obtain ⟨P1,hP1,low1⟩:=hw i tp _ ep (kh hiw)
   have ln:=qC (kZ enp)
   have S12:=S1.trans S2
   dsimp only [z7,tYes]
   refine iteT ?_
   refine ⟨_,rfl,_,rfl,y,tp,np,b,bvs,As,Ls,P1,H0,rfl,hAp.same S12,gp,hP1,S12 _ _ hb,hB.same S12,hO,h600,by omega,by have:=hP.small tp pm;omega,by decide,hP.sm.trans S12,fun l us A1 H3 S3 nl hl hs oA lA=>?_⟩
   refine ⟨_,rfl,l,us,A1,p.r-p.l,rfl,hl,hs,by omega,fun o4 H4 S4 low4=>?_⟩
   have e4:o4=some wl[i]:=Low.uniq (low4.of (P:=reg A1) (Q:=P1) fun w k=>oA.2 w k) low1
   subst e4
   refine ⟨?_,S2.trans (S3.trans S4),_,rfl⟩
   rw [<- kz hiw,kC]
   rfl
  rintro ys σ H2 ⟨rfl,S2,_⟩ lw1 nlw
  rw [ldl,kO]
  have S3:=S1.trans (S2.trans (zc (o:=.lst (wl.map nV)) nlw))
  have hlw:(upd H2 lw1 (.lst (wl.map nV))) lw1=some (.lst (wl.map nV)):=zd
  generalize upd H2 lw1 (.lst (wl.map nV))=H3 at S3 hlw
  try dsimp only
  have hpp3:=S3 _ _ hpp
  refine ⟨_,rfl,pp,_,_,_,rfl,rfl,SqT.of hpp3,rfl,_,rfl,pp,_,_,_,rfl,rfl,SqT.of hpp3,rfl,_,rfl,p.t,p.b,lw1,wl,rfl,hlw,by omega,fun lp H4 S4 hlp=>?_⟩
  have S34:=S3.trans S4
  have hpp4:=S4 _ _ hpp3
  refine ⟨_,rfl,_,rfl,_,rfl,lp,_,rfl,SqL.of hlp,fun l2 nl2=>?_⟩
  have pl:=_Sta.jS p.t wl
  have ec:cutV ((plc p.t wl++[p.b]).map nV) (some 1) none=((plc p.t wl++[p.b]).drop 1).map nV:=by
   have:=yZ ((plc p.t wl++[p.b]).map nV) 1 (by rw [ke,ki];simp)
   rw [List.map_drop]
   exact this
  rw [ec]
  have S5:=zc (o:=.lst (((plc p.t wl++[p.b]).drop 1).map nV)) nl2
  have hl2:(upd H4 l2 (.lst (((plc p.t wl++[p.b]).drop 1).map nV))) l2=some (.lst (((plc p.t wl++[p.b]).drop 1).map nV)):=zd
  have hlp5:=S5 _ _ hlp
  have hpp5:=S5 _ _ hpp4
  generalize upd H4 l2 (.lst (((plc p.t wl++[p.b]).drop 1).map nV))=H5 at S5 hl2 hlp5 hpp5
  have lmin:min ((plc p.t wl++[p.b]).map nV).length (((plc p.t wl++[p.b]).drop 1).map nV).length=wl.length+1:=by
   rw [ke,ke,vq,ki,pl]
   simp
  have lz:((plc p.t wl).zip ((plc p.t wl++[p.b]).drop 1)).length=wl.length+1:=by
   rw [uA,vq,ki,pl]
   simp
  refine ⟨lp,l2,rfl,⟨_,SqL.of hlp5⟩,⟨_,SqL.of hl2⟩,ZV (K:=K) (a:=lp) (b:=l2) (xs:=(plc p.t wl++[p.b]).map nV) (ys:=((plc p.t wl++[p.b]).drop 1).map nV) (fun i ys σ H6=>yE H6 ys ((((plc p.t wl).zip ((plc p.t wl++[p.b]).drop 1)).take i).map fun q=>⟨p.l,q.1,p.r,q.2⟩)/\Same H5 H6/\∃ o o2,σ=[o,o2,some (.ref pp)]) ⟨.nil,Same.refl _,none,none,rfl⟩
   (fun i ys σ H6 hi h9=>by obtain ⟨e,S,_⟩:=h9;exact (⟨by rw [e.len,ke,kH];exact km (show _<=1000 by omega) (by decide),SqL.of (S _ _ hlp5),SqL.of (S _ _ hl2)⟩)) ?_ ?_⟩
  case refine_2 =>
   intro i x y ys σ H6 tpa hx hy h8 ntp
   refine A_3 h8 fun hY S6 n8=>E_2 n8 fun o o2 e9=>?_;clear n8 h8;subst e9
   rw [va] at hx hy
   obtain ⟨x1,hx1,rfl⟩:=vA.mp hx
   obtain ⟨y1,hy1,rfl⟩:=vA.mp hy
   have hil:i<wl.length+1:=by
    have:=(kg.mp hy1).1
    rw [vq,ki,pl] at this
    simp at this
    omega
   have hx2:(plc p.t wl)[i]?=some x1:=by
    rw [vS (by omega)] at hx1
    exact hx1
   have St:=zc (o:=.tup [nV x1,nV y1]) ntp
   have hpp6:=S6 _ _ hpp5
   refine ⟨tpa,_,rfl,SqT.of zd,rfl,_,_,rfl,_,_,rfl,rfl,?_⟩
   dsimp only [z7,tYes]
   refine iteT ?_
   generalize upd H6 tpa (.tup [nV x1,nV y1])=H7 at St
   have hpp7:=St _ _ hpp6
   refine Xt (v1:=nV p.l) (v2:=nV x1) (v3:=nV p.r) (v4:=nV y1) (yV (zA rfl) yT (SqT.of hpp7) rfl) (zA rfl) (yV (zA rfl) yT (SqT.of hpp7) rfl) (zA rfl) (fun tq ntq=>?_)
   have Sq:=zc (o:=.tup [nV p.l,nV x1,nV p.r,nV y1]) ntq
   refine ⟨?_,S6.trans (St.trans Sq),_,_,rfl⟩
   have ez:((plc p.t wl).zip ((plc p.t wl++[p.b]).drop 1))[i]?=some (x1,y1):=uJ.mpr ⟨hx2,hy1⟩
   obtain ⟨hzl,evz⟩:=kg.mp ez
   rw [<- kz hzl,evz,kC]
   exact (hY.same (St.trans Sq)).snoc ⟨tq,rfl,zd⟩
  rintro ys σ H6 ⟨hY,S6,_⟩ lr nlr
  rw [lmin,<- lz,kO,<- epc] at hY
  exact q lr ys _ (S34.trans (S5.trans (S6.trans (zc nlr)))) zd (hY.same (zc nlr))
noncomputable def spPo:Sp:=fun vs H Q _=>∃ (x:V) (k:Str) (b pp:Addr) (ps:List T) (nss:List (List Int)) (bvs:List V) (As:List Stc) (Ls:List R) (p:Pc) (pcs:List Pc) (H0:Hp),vs=[x,.ref b,.ref pp]/\At H x (.tup [.str k,.tup ps])/\zI ps nss/\nss.flatten.length<=24/\2<=ps.length/\sz (.tup [.str k,.tup ps])<=96/\H b=some (.lst bvs)/\yw H0 H bvs As/\OkSs As Ls/\(∀ A∈As,A.length<=600)/\Same H0 H/\H pp=some (.tup (pq p))/\p.l<=p.r/\p.t<=p.b /\
 ((k=bar/\PcsA Ls p.t p.b p.r ps p.l pcs)\/(k=dash/\PcsD Ls p.l p.r p.b ps p.t pcs))/\∀ (l:Addr) (us:List V) (H':Hp),Same H H'->H' l=some (.lst us)->yE H' us pcs->Q (.ref l) H'
theorem scPo:zC ["tree","stairs","piece"] ["tree","stairs","piece"] (zg sPo):=by trivial
theorem zdr {f fA fD:Addr} {fd dA dD:FuncData} (F:Fun K "pieces_of" "pieces_of" sPo f fd) (gKIND:GI mg "KIND" 0) (gPARTS:GI mg "PARTS" 1) (Z:Ns K mg) (Pa:Callee P w K mg base CX0 28 "pieces_across" fA dA ["parts","stairs","piece"] spPa)
  (Pd:Callee P w K mg base CX0 28 "pieces_down" fD dD ["parts","stairs","piece"] spPd):FnOk P w K mg base CX0 29 f fd ["tree","stairs","piece"] spPo:=by
 obtain ⟨gWIDE,gHIGH,gMOST_WORDS,gACROSS,tl,ti,tlist,tall,tmax,trev,_,_,_,_,_,_⟩:=Z
 refine F.ok scPo (fun vs H Q E h=>?_) (fun cdv A outer s H vs Q E hr h=>?_)
 ·refine E_12 h fun x k b pp ps nss bvs As Ls p pcs H0 n8=>A_2 n8 fun e9 _=>?_;clear n8 h;subst e9
  rfl
 ·refine E_12 h fun x k b pp ps nss bvs As Ls p pcs H0 n8=>A_16 n8 fun e9 hA hG n24 two hz hb hB hO h600 S0 hpp le1 le2 hk q=>?_;clear n8 h;subst e9
  refine ⟨_,(ze (zR (zF y4 (zw zP (pv 0) (z6 rfl gKIND) (fun _ _=>rfl)) (zaN rfl gACROSS) (zJ _))
   (zf (zn (zk Pa.ok hr rfl Pa.bound Pa.kp Pa.bd .nil zG (za (zw zP (pv 0) (z6 rfl gPARTS) (fun _ _=>rfl)) (za (pv 1) (za (pv 2) zb))))))
   zL)
   (zf (zn (zk Pd.ok hr rfl Pd.bound Pd.kp Pd.bd .nil zG (za (zw zP (pv 0) (z6 rfl gPARTS) (fun _ _=>rfl)) (za (pv 1) (za (pv 2) zb))))))),?_⟩
  cases hA with
  | @tup a0 vs0 ss e hL =>
  obtain ⟨b0,ws,rfl,e2,hQ⟩:=hL.knot
  have hPts:Pts H H0 b0 b ps Ls:=⟨⟨ws,e2,hQ⟩,⟨bvs,As,hb,hB,hO,h600⟩,two,⟨nss,hG,n24⟩,fun p hp=>by
   have:=yL k ps
   have:=ZB two hp
   omega,S0⟩
  refine ⟨_,rfl,a0,_,_,_,rfl,rfl,SqT.of e,rfl,rfl,_,rfl,?_⟩
  have ek:decide (V.str k=V.str "|")=decide (k=bar):=by
   rw [decide_eq_decide]
   exact ⟨fun z=>by injection z,fun z=>by rw [z];rfl⟩
  rw [ek]
  rcases hk with ⟨rfl,hA⟩ | ⟨rfl,hD⟩
  ·rw [decide_eq_true rfl]
   refine iteT ?_
   refine ⟨_,rfl,a0,_,_,_,rfl,rfl,SqT.of e,rfl,_,rfl,_,rfl,b0,b,pp,ps,Ls,p,pcs,H0,rfl,hPts,hpp,le2,hA,q⟩
  ·rw [decide_eq_false wR]
   refine iteF ?_
   refine zY ?_
   dsimp only
   refine ⟨_,rfl,a0,_,_,_,rfl,rfl,SqT.of e,rfl,_,rfl,_,rfl,b0,b,pp,ps,Ls,p,pcs,H0,rfl,hPts,hpp,le1,hD,q⟩
end
end _JF
namespace _Sta
open _Tre _Lin
theorem SetL.get {Ls:List R}:∀ {ts:List T} {pcs:List Pc} {res:List (List (Int×Pc))} {i:Nat} {t:T},SetL Ls ts pcs res->ts[i]?=some t->∃ p a,pcs[i]?=some p/\res[i]?=some a/\yI Ls t p a
 | _,_,_,_,_,.nil,e=>by simp at e
 | _,_,_,0,_,.cons h _,e=>by simp at e;subst e;exact ⟨_,_,rfl,rfl,h⟩
 | _,_,_,i+1,t,.cons _ r,e=>by
  obtain ⟨p,a,h1,h2,h3⟩:=SetL.get (i:=i) (t:=t) r (by simpa using e)
  exact ⟨p,a,by simpa using h1,by simpa using h2,h3⟩
theorem SetL.len {Ls:List R}:∀ {ts:List T} {pcs:List Pc} {res:List (List (Int×Pc))},SetL Ls ts pcs res->res.length=ts.length/\pcs.length=ts.length
 | _,_,_,.nil=>⟨rfl,rfl⟩
 | _,_,_,.cons _ r=>by simp only [kK];exact ⟨by rw [r.len.1],by rw [r.len.2]⟩
theorem JC {α:Type} (L:List (List α)) (i:Nat):(L.take i).flatten.length<=L.flatten.length:=by
 have:=congrArg (fun z=>(List.flatten z).length) (bf i L)
 simp only [vT,ki] at this
 omega
theorem SetL.sizes {Ls:List R} {ts:List T} {pcs:List Pc} {res:List (List (Int×Pc))} {nss:List (List Int)} (g:zI ts nss) (h:SetL Ls ts pcs res):res.flatten.length=nss.flatten.length:=by
 rw [<- SetL.keys g h,<- List.map_flatten,ke]
noncomputable def PcOk (p:Pc):Prop:=p.l<=p.r/\p.t<=p.b
theorem zaQ {Ls:List R} (hL:∀ L∈Ls,Up L) {t:T} {P:R} {p:Pc} (h:HasR Ls t P) (m:Rm P p):PcOk p:=by
 have:=(HasR.up hL h).pos m
 exact ⟨by omega,by omega⟩
end _Sta
namespace _JF
open PySem _L2 _Lin _Tre PySem.W
open _Sta (R Ok sbs exch reg OkS OkSs stN HasR zT Low Best tr Pc PcsA PcsD yI SetL plc PcOk)
theorem yE.upd {H:Hp} {l:Addr} {xs:List V} {o':HO} (hl:H l=some (.lst xs)):∀ {vs:List V} {ps:List Pc},yE H vs ps->yE (upd H l o') vs ps
 | _,_,.nil=>.nil
 | _,_,.cons ⟨a,e,z⟩ t=>.cons ⟨a,e,by rw [zp (xy z hl (by intro y;cases y))];exact z⟩ (yE.upd hl t)
noncomputable def jU (d:Nat):Sp:=fun vs H Q _=>∃ (x:V) (t:T) (n:List Int) (b pp:Addr) (bvs:List V) (As:List Stc) (Ls:List R) (p:Pc) (res:List (Int×Pc)) (H0:Hp),vs=[x,.ref b,.ref pp]/\At H x t/\Good t n/\n.length<=24/\sz t+3<=4*d/\d<=24/\H b=some (.lst bvs)/\yw H0 H bvs As/\OkSs As Ls/\(∀ A∈As,A.length<=600)/\(∀ L∈Ls,_Sta.Up L)/\Same H0 H/\H pp=some (.tup (pq p))/\PcOk p /\
 yI Ls t p res/\∀ (l:Addr) (us:List V) (H':Hp),Same H H'->H' l=some (.lst us)->yF H' us res->Q (.ref l) H'
section
variable {P:Program} {w:World} {K:Frag} {mg:Str->Option Value} {base:Heap} {kA:Addr}
theorem qD:zC ["tree","stairs","piece","found","part","own"] ["tree","stairs","piece"] (zg x8):=by trivial
theorem zbL {f:Addr} {fd:FuncData} (F:Fun K "set_in" "set_in" x8 f fd):FnOk P w K mg base CX0 30 f fd ["tree","stairs","piece"] (jU 0):=by
 refine F.ok qD (fun vs H Q E h=>?_) (fun cdv A outer s H vs Q E hr h=>?_)
 ·refine E_11 h fun x t n b pp bvs As Ls p res H0 n8=>A_2 n8 fun e9 _=>?_;clear n8 h;subst e9
  rfl
 ·refine E_11 h fun x t n b pp bvs As Ls p res H0 n8=>A_6 n8 fun e9 _ _ _ hz _=>?_;clear n8 h;subst e9
  omega
theorem zbM {f fW fP:Addr} {fd dW dP:FuncData} {d:Nat} (F:Fun K "set_in" "set_in" x8 f fd) (gPARTS:GI mg "PARTS" 1) (tzip:mg "zip" = none) (Wo:Callee P w K mg base CX0 1 "is_whole" fW dW ["thing"] y8)
  (Po:Callee P w K mg base CX0 29 "pieces_of" fP dP ["tree","stairs","piece"] spPo) (Se:Callee P w K mg base CX0 (d+30) "set_in" f fd ["tree","stairs","piece"] (jU d)):FnOk P w K mg base CX0 (d+31) f fd ["tree","stairs","piece"] (jU (d+1)):=by
 refine F.ok qD (fun vs H Q E h=>?_) (fun cdv A outer s H vs Q E hr h=>?_)
 ·refine E_11 h fun x t n b pp bvs As Ls p res H0 n8=>A_2 n8 fun e9 _=>?_;clear n8 h;subst e9
  rfl
 ·refine E_11 h fun x t n b pp bvs As Ls p res H0 n8=>A_16 n8 fun e9 hA g n24 hz hd hb hB hO h600 hU S0 hpp pok hSI q=>?_;clear n8 h;subst e9
  refine ⟨_,(ze (zR (yi (zk Wo.ok (hr.mono (by omega)) rfl Wo.bound Wo.kp Wo.bd .nil zG (za (pv 0) zb)))
   (zf (zn (zE (za (zN (za (pv 0) (za (pv 2) zb))) zb))))
   zL)
   (ze (zm (i:=3) qD.nd rfl (Or.inl rfl) (zE zb))
   (ze (yr PassesOwn.never rfl (zbK rfl tzip (za (zw zP (pv 0) (z6 rfl gPARTS) (fun _ _=>rfl)) (za (zk Po.ok (hr.mono (by omega)) rfl Po.bound Po.kp Po.bd .nil zG (za (pv 0) (za (pv 1) (za (pv 2) zb)))) zb))) (wB rfl (z8 (zo (i:=4) qD.nd rfl (Or.inl rfl)) (z8 (zo (i:=5) qD.nd rfl (Or.inl rfl)) xh)))
   (zf (zZ (yG kN uN uO QS (pv 3) (za (zk Se.ok hr rfl Se.bound Se.kp Se.bd .nil zG (za (pv 4) (za (pv 1) (za (pv 5) zb)))) zb)))))
   (zf (zn (pv 3)))))),?_⟩
  refine ⟨_,rfl,x,t,rfl,hA,_,rfl,?_⟩
  cases g with
  | leaf i =>
   cases hA
   cases hSI
   refine iteT ?_
   refine ⟨_,rfl,_,rfl,Zz2,fun pt npt=>?_⟩
   have St:=zc (o:=.tup [.int i,.ref pp]) npt
   have hpt:(upd H pt (.tup [.int i,.ref pp])) pt=some (.tup [.int i,.ref pp]):=zd
   generalize upd H pt (.tup [.int i,.ref pp])=H1 at St hpt
   refine ⟨Zz1,fun l nl=>?_⟩
   have Sl:=zc (o:=.lst [.ref pt]) nl
   exact q l _ _ (St.trans Sl) zd (.cons ⟨pt,.ref pp,rfl,Sl _ _ hpt,pp,rfl,(St.trans Sl) _ _ hpp⟩ .nil)
  | @node k ps nss hk h2 hn hG =>
   obtain ⟨pcs,ress,hcut,hSL,rfl⟩ : ∃ pcs ress,((k=bar/\PcsA Ls p.t p.b p.r ps p.l pcs)\/(k=dash/\PcsD Ls p.l p.r p.b ps p.t pcs))/\SetL Ls ps pcs ress/\res=ress.flatten:=by
    cases hSI with
    | bar h r=>exact ⟨_,_,.inl ⟨rfl,h⟩,r,rfl⟩
    | dash h r=>exact ⟨_,_,.inr ⟨rfl,h⟩,r,rfl⟩
   have hpc:∀ (i:Nat) (t:T) (q:Pc),ps[i]?=some t->pcs[i]?=some q->PcOk q:=fun i t q e1 e2=>by
    rcases hcut with ⟨_,h⟩ | ⟨_,h⟩
    ·obtain ⟨_,_,P1,h1,h2⟩:=h.rm e1 e2
     exact _Sta.zaQ hU h1 h2
    ·obtain ⟨_,_,P1,h1,h2⟩:=h.rm e1 e2
     exact _Sta.zaQ hU h1 h2
   have hA0:=hA
   cases hA with
   | @tup a0 vs0 ss e hL =>
   obtain ⟨b0,ws,rfl,e2,hQ⟩:=hL.knot
   have lq:=hQ.len
   have nsz:=yL k ps
   have lps:=y9 ps
   have hlen:=hSL.len
   have hsize:=hSL.sizes hG
   refine iteF ?_
   refine zY ?_
   dsimp only
   refine ⟨by decide,fun l nl=>?_⟩
   have S1:=zc (o:=.lst []) nl
   have hl1:(upd H l (.lst [])) l=some (.lst []):=zd
   change tSeq _ _ _ _ (upd H l (.lst []))
   generalize upd H l (.lst [])=H1 at S1 hl1
   refine run_seq ?_
   refine ⟨_,rfl,a0,_,_,_,rfl,rfl,SqT.of (S1 _ _ e),rfl,_,rfl,_,rfl,_,rfl,.ref a0,k,b,pp,ps,nss,bvs,As,Ls,p,pcs,H0,rfl,hA0.same S1,hG,n24,h2,by omega,S1 _ _ hb,hB.same S1,hO,h600,S0.trans S1,S1 _ _ hpp,pok.1,pok.2,hcut,fun lpc us H2 S2 hlpc hPc=>?_⟩
   have S12:=S1.trans S2
   have lus:us.length=ps.length:=by rw [hPc.len,hlen.2]
   have hll:lpc≠l:=fun z=>by
    rw [z,S2 _ _ hl1] at hlpc
    injection hlpc with z2
    injection z2 with z3
    rw [<- z3] at lus
    simp at lus
    omega
   refine ⟨b0,lpc,rfl,⟨_,SqT.of (S12 _ _ e2)⟩,⟨_,SqL.of hlpc⟩,?_⟩
   refine zaw (K:=K) (a:=b0) (b:=lpc) (xs:=ws) (ys:=us) (fun i σ H3=>∃ (o1 o2:Option V) (vs:List V),σ=[some (.ref a0),some (.ref b),some (.ref pp),some (.ref l),o1,o2]/\Same H H3/\H3 l=some (.lst vs)/\yF H3 vs (ress.take i).flatten/\H3 lpc=some (.lst us)/\yE H3 us pcs) (by omega) ⟨none,none,[],rfl,S12,S2 _ _ hl1,.nil,hlpc,hPc⟩
    (fun i σ H3 hi h9=>by obtain ⟨_,_,_,_,S3,_,_,z,_⟩:=h9;exact (⟨SqT.of (S3 _ _ e2),SqL.of z⟩)) ?_ ?_
   ·intro i x1 y1 σ H3 tp hx hy h8 ntp
    refine E_3 h8 fun o1 o2 vs n8=>A_6 n8 fun e9 S3 hl3 hN hlp3 hPc3=>?_;clear n8 h8;subst e9
    obtain ⟨t1,et,hAt⟩:=hQ.get hx
    obtain ⟨p1,r1,ep,er,hS1⟩:=hSL.get et
    obtain ⟨p1',ep',pa1,rfl,hpa1⟩:=hPc3.get hy
    have e1:p1'=p1:=by rw [ep] at ep';injection ep' with z;exact z.symm
    subst e1
    obtain ⟨n1,en,gn⟩:=hG.get et
    have pm:t1∈ps:=kZ et
    have two:=ZB h2 pm
    have ln:=qC (kZ en)
    have St:=zc (o:=.tup [x1,.ref pa1]) ntp
    refine ⟨tp,_,rfl,SqT.of zd,rfl,_,_,rfl,_,_,rfl,rfl,?_⟩
    generalize upd H3 tp (.tup [x1,.ref pa1])=H4 at St
    have S4:=S3.trans St
    refine ⟨_,rfl,.inl ⟨rfl,_,SqL.of (St _ _ hl3)⟩,_,rfl,_,rfl,_,rfl,x1,t1,n1,b,pa1,bvs,As,Ls,p1',r1,H0,rfl,hAt.same S4,gn,by omega,by omega,by omega,S4 _ _ hb,hB.same S4,hO,h600,hU,S0.trans S4,St _ _ hpa1,hpc i t1 p1' et ep,hS1,fun l5 us5 H5 S5 hl5 hN5=>?_⟩
    have hl5':=S5 _ _ (St _ _ hl3)
    have lr:us5.length=n1.length:=by rw [hN5.len,<- yI.keys gn hS1,ke]
    have lv:vs.length<=24:=by
     rw [hN.len]
     have:=_Sta.JC ress i
     omega
    refine I_4 l l5 vs us5 ⟨rfl,rfl,hl5',hl5,km (show _<=48 by omega) (by decide),?_⟩
    obtain ⟨hir,evr⟩:=kg.mp er
    refine ⟨_,_,_,rfl,zU (S4.trans S5) nl,zd,?_,?_,?_⟩
    ·rw [<- kz hir,evr,vT,List.flatten_singleton]
     exact (((hN.same St).same S5).upd hl5').app (hN5.upd hl5')
    ·rw [zp hll]
     exact S5 _ _ (St _ _ hlp3)
    ·exact ((hPc3.same St).same S5).upd hl5'
   ·intro σ H3 h8
    refine E_3 h8 fun o1 o2 vs n8=>A_6 n8 fun e9 S3 hl3 hN _ _=>?_;clear n8 h8;subst e9
    rw [lq,<- hlen.1,kO] at hN
    exact ⟨_,rfl,q l vs H3 S3 hl3 hN⟩
theorem JD {f fW fP:Addr} {fd dW dP:FuncData} (F:Fun K "set_in" "set_in" x8 f fd) (gPARTS:GI mg "PARTS" 1) (tzip:mg "zip" = none) (Wo:Callee P w K mg base CX0 1 "is_whole" fW dW ["thing"] y8)
  (Po:Callee P w K mg base CX0 29 "pieces_of" fP dP ["tree","stairs","piece"] spPo) (bo:mg "set_in" = some (.ref f)) (kp:kE K (.ref f)=true) (bd:Binds K fd ["tree","stairs","piece"] []):∀ d,FnOk P w K mg base CX0 (d+30) f fd ["tree","stairs","piece"] (jU d)
 | 0=>zbL F
 | d+1=>zbM F gPARTS tzip Wo Po ⟨JD F gPARTS tzip Wo Po bo kp bd d,bo,kp,bd⟩
end
end _JF
namespace _JF
open PySem _L2 _Lin _Tre PySem.W
open _Sta (R Ok sbs exch reg OkS OkSs stN HasR zT Low Best tr Pc PcsA PcsD yI SetL plc PcOk)
theorem zay {m n:Nat} {p:Array Nat} {ks:List Int} (o:_Srt.Ord m p) (hl:ks.length=m) (pm:ks.Perm (up n)) (u:_Srt.Up (fun i=>ks.getD i 0) p m):p.toList.map (fun i=>ks.getD i 0)=up n:=by
 have lz:p.size=m:=o.sz
 have p1:(p.toList.map (fun i=>ks.getD i 0)).Perm ks:=by
  have q1:p.toList.Perm (vo m):=by
   have:=o.pm
   rw [Array.perm_iff_toList_perm] at this
   exact this
  have q2:=q1.map (fun i=>ks.getD i 0)
  have e:(vo m).map (fun i=>ks.getD i 0)=ks:=by
   apply List.ext_getElem
   ·rw [ke,v9,hl]
   ·intro i h1 h2
    rw [List.getElem_map,List.getElem_range,_L2.getD_at h2]
  rw [e] at q2
  exact q2
 have s1:(p.toList.map (fun i=>ks.getD i 0)).Pairwise (· <= ·):=by
  rw [List.pairwise_iff_getElem]
  intro i j hi hj hij
  rw [ke,Array.length_toList,lz] at hi hj
  have key:∀ k,k<m->∀ h,(p.toList.map (fun i=>ks.getD i 0))[k]'h=_Srt.kv (fun i=>ks.getD i 0) p k:=by
   intro k hk h
   have e:p.toList[k]'(by rw [Array.length_toList,lz];exact hk)=p.getD k 0:=by simp [Array.getD,lz,hk]
   rw [List.getElem_map,e]
   rfl
  rw [key i hi,key j hj]
  exact u.le (by omega) hj
 exact List.Perm.eq_of_pairwise (fun _ _ _ _ a b=>bu a b) s1 (YG n) (p1.trans pm)
noncomputable def pc0:Pc:=⟨0,0,0,0⟩
theorem yF.get {H:Hp}:∀ {vs:List V} {ps:List (Int×Pc)} {i:Nat} {v:V},yF H vs ps->vs[i]?=some v->∃ p,ps[i]?=some p/\NpAt H v p
 | _,_,_,_,.nil,e=>by simp at e
 | _,_,0,_,.cons r _,e=>by simp at e;subst e;exact ⟨_,rfl,r⟩
 | _,_,i+1,v,.cons _ t,e=>by
  obtain ⟨p,h1,h2⟩:=yF.get (i:=i) (v:=v) t (by simpa using e)
  exact ⟨p,by simpa using h1,h2⟩
theorem Wg {H:Hp} {vs:List V} {res:List (Int×Pc)} (h:yF H vs res):∀ (l:List Nat),(∀ i∈l,i<res.length)->yF H (l.map fun i=>vs.getD i .non) (l.map fun i=>res.getD i (0,pc0))
 | [],_=>.nil
 | i::ls,hl=>by
  have hi:=hl i kw
  have hv:i<vs.length:=by rw [h.len];exact hi
  obtain ⟨q,e,r⟩:=h.get (kh hv)
  refine .cons ?_ (Wg h ls fun j hj=>hl j (kq _ hj))
  have e1:res.getD i (0,pc0)=q:=by rw [kP,e];rfl
  show NpAt H (vs.getD i .non) (res.getD i (0,pc0))
  rw [e1,_L2.getD_at hv]
  exact r
theorem Wi {H:Hp}:∀ {vs:List V} {res:List (Int×Pc)},yF H vs res->∃ rest:List (List V),rest.length=vs.length/\∀ (i:Nat) (x:V) (n:Int) (r:List V),vs[i]?=some x->(res.map (·.1))[i]?=some n->rest[i]?=some r->∃ p,x=.ref p/\H p=some (.tup (.int n::r))/\r.length=1
 | _,_,.nil=>⟨[],rfl,fun i x n r e=>by simp at e⟩
 | _,_,.cons ⟨a,u,e,z,p⟩ t=>by
  obtain ⟨rest,l,h⟩:=Wi t
  refine ⟨[u]::rest,by simp only [kK,l],fun i x n r e1 e2 e3=>?_⟩
  match i,e1,e2,e3 with
  | 0,e1,e2,e3 =>
   cases e1
   cases e2
   cases e3
   exact ⟨a,e,z,rfl⟩
  | i+1,e1,e2,e3=>exact h i x n r (by simpa using e1) (by simpa using e2) (by simpa using e3)
noncomputable def Qy (C4 C6 C7:Addr):Sp:=fun vs H Q E=>∃ (x y:V) (t:T) (wide:Nat),vs=[x,y,.int wide]/\At H x t/\sz t<=1000 /\
 ((∃ (n:List Int) (a:Addr) (xs:List V) (wss:List (List W)),zX t/\Good t n/\y=.ref a/\H a=some (.lst xs)/\Txs H xs wss/\xs.length=n.length/\(∀ (P:R) (k:Nat) (H':Hp),HasR (Lvs wss) t P->Same H H'->Low P wide (some k)->Q (.int k) H')/\∀ (P:R) (H':Hp),HasR (Lvs wss) t P->Same H H'->Low P wide none->E (.ref C7) none H')\/Refd C4 C6 H y t E)
noncomputable def Wj (C4 C6 C7:Addr):Sp:=fun vs H Q E=>∃ (x y:V) (t:T) (wide high:Nat),vs=[x,y,.int wide,.int high]/\At H x t/\sz t<=1000 /\
 ((∃ (n:List Int) (a:Addr) (xs:List V) (wss:List (List W)) (P:R),zX t/\Good t n/\y=.ref a/\H a=some (.lst xs)/\Txs H xs wss/\xs.length=n.length/\HasR (Lvs wss) t P /\
  ((∃ res,P wide high/\yI (Lvs wss) t ⟨0,0,wide,high⟩ res/\∀ (l:Addr) (us:List V) (pcs:List Pc) (H':Hp),Same H H'->H l=none->H' l=some (.lst us)->yE H' us pcs->pcs.length=n.length->(∀ (i:Nat) (p:Pc),pcs[i]?=some p->((i:Int),p)∈res)->Q (.ref l) H')\/(¬ P wide high/\∀ H',Same H H'->E (.ref C7) none H')))\/Refd C4 C6 H y t E)
section
variable {P:Program} {w:World} {K:Frag} {mg:Str->Option Value} {base:Heap} {kA:Addr}
theorem zaR:zC ["tree","texts","wide","least"] ["tree","texts","wide"] (zg sHin):=by trivial
theorem zcO {f fL C4 C6 C7:Addr} {fd dL:FuncData} (F:Fun K "height_in" "height_in" sHin f fd) (ex:Exc K mg "NoRoom" C7) (Lh:Callee P w K mg base (CXE P w) 29 "least_high" fL dL ["tree","texts","wide"] (spLh C4 C6)):FnOk P w K mg base (CXE P w) 30 f fd ["tree","texts","wide"] (Qy C4 C6 C7):=by
 refine F.okE zaR (fun vs H Q E h=>?_) (fun cdv A outer s H vs Q E hr hh h=>?_)
 ·refine E_4 h fun x y t wide n8=>A_2 n8 fun e9 _=>?_;clear n8 h;subst e9
  rfl
 ·revert h;intro n7;refine E_4 n7 fun x y t wide n8=>A_4 n8 fun e9 hA hz h=>?_;clear n8 n7;subst e9
  refine ⟨_,(ze (zm (i:=3) zaR.nd rfl (Or.inl rfl) (zk Lh.ok hr rfl Lh.bound Lh.kp Lh.bd .nil x6 (za (pv 0) (za (pv 1) (za (pv 2) zb)))))
   (ze (zR (zF Zj (pv 3) yO rfl)
   (zf (xP ex hh rfl (za zM zb)))
   zL)
   (zf (zn (pv 3))))),?_⟩
  rcases h with ⟨n,a,xs,wss,iT,g,rfl,ha,hT,hl,q,qe⟩ | h
  ·refine ⟨_,rfl,_,rfl,_,rfl,x,.ref a,t,wide,rfl,hA,hz,.inl ⟨n,a,xs,wss,iT,g,rfl,ha,hT,hl,fun P1 o H1 hR S1 low=>?_⟩⟩
   cases o with
   | none=>exact ⟨_,rfl,rfl,_,rfl,iteT ⟨Zz1,qe P1 _ hR S1 low⟩⟩
   | some k=>exact ⟨_,rfl,rfl,_,rfl,iteF ⟨_,rfl,q P1 k H1 hR S1 low⟩⟩
  ·exact ⟨_,rfl,_,rfl,_,rfl,x,y,t,wide,rfl,hA,hz,.inr h⟩
theorem YS:zC ["tree","texts","wide","high","found"] ["tree","texts","wide","high"] (zg xU):=by trivial
theorem zbN {f fH fS fB C4 C6 C7:Addr} {fd dH dS dB:FuncData} (F:Fun K "setting" "setting" xU f fd) (ex:Exc K mg "NoRoom" C7) (ts:mg "sorted" = none) (Hi:Callee P w K mg base (CXE P w) 30 "height_in" fH dH ["tree","texts","wide"] (Qy C4 C6 C7))
  (Se:Callee P w K mg base CX0 54 "set_in" fS dS ["tree","stairs","piece"] (jU 24)) (Bs:Callee P w K mg base CX0 6 "box_stairs" fB dB ["texts"] Xc):FnOk P w K mg base (CXE P w) 55 f fd ["tree","texts","wide","high"] (Wj C4 C6 C7):=by
 refine F.okE YS (fun vs H Q E h=>?_) (fun cdv A outer s H vs Q E hr hh h=>?_)
 ·refine E_5 h fun x y t wide high n8=>A_2 n8 fun e9 _=>?_;clear n8 h;subst e9
  rfl
 ·revert h;intro n7;refine E_5 n7 fun x y t wide high n8=>A_4 n8 fun e9 hA hz h=>?_;clear n8 n7;subst e9
  refine ⟨_,(ze (zR (zF xZ (pv 3) (zk Hi.ok (hr.mono (by decide)) rfl Hi.bound Hi.kp Hi.bd .nil x6 (za (pv 0) (za (pv 1) (za (pv 2) zb)))) (zJ _))
   (zf (xP ex hh rfl (za zM zb)))
   zL)
   (ze (zm (i:=4) YS.nd rfl (Or.inl rfl) (zk Se.ok hr rfl Se.bound Se.kp Se.bd .nil zG (za (pv 0) (za (zk Bs.ok (hr.mono (by decide)) rfl Bs.bound Bs.kp Bs.bd .nil zG (za (pv 1) zb)) (za (zN (za zh (za zh (za (pv 2) (za (pv 3) zb))))) zb)))))
   (zf (zn (yq (Nc:=["number","box"]) (ix:=[none,none]) rfl rfl (by refine' ya ?zz;case zz=>exact (JY rfl ts (pv 4))) (fun _ _ _ _ _=>(qf (K:=K) (n:=2) rfl rfl (z8 (zo (i:=0) (by show (["number","box"]:List Str).Nodup;decide +kernel) rfl (Or.inl rfl)) (z8 (zo (i:=1) (by show (["number","box"]:List Str).Nodup;decide +kernel) rfl (Or.inl rfl)) xh)))) (fun _ _ _ _ _=>yd) (fun _ _ _ _ _=>(pv 1))))))),?_⟩
  rcases h with ⟨n,a,xs,wss,P1,iT,g,rfl,ha,hT,hl,hP,h⟩ | h
  ·have up1:=_Sta.HasR.up (wX wss) hP
   refine ⟨_,rfl,_,rfl,_,rfl,_,rfl,x,.ref a,t,wide,rfl,hA,hz,.inl ⟨n,a,xs,wss,iT,g,rfl,ha,hT,hl,fun P2 k H1 hR S1 low=>?_,fun P2 H1 hR S1 low=>?_⟩⟩
   ·have eP:=_Sta.jw hR hP
    subst eP
    refine ⟨_,_,rfl,rfl,_,rfl,?_⟩
    rcases h with ⟨res,rm,hSI,q⟩ | ⟨nrm,qe⟩
    ·have hk:¬ ((high:Int)<(k:Int)):=by
      have:=low.2 high rm
      omega
     rw [decide_eq_false hk]
     refine iteF ?_
     refine zY ?_
     dsimp only
     have n24:=(iT.okN g).2
     have okw:=hT.okw
     have ok40:=hT.ok40
     have hsz:=g.szN
     have lw:=hT.len
     refine ⟨_,rfl,_,rfl,a,xs,wss,rfl,S1 _ _ ha,hT.same S1,by omega,fun lb rs H2 S2 nlb hlb hBs=>?_⟩
     refine ⟨_,rfl,_,rfl,Zz4,fun pp npp=>?_⟩
     have S3:=zc (o:=.tup [.int 0,.int 0,.int wide,.int high]) npp
     have hpp:(upd H2 pp (.tup [.int 0,.int 0,.int wide,.int high])) pp=some (.tup (pq ⟨0,0,wide,high⟩)):=zd
     generalize upd H2 pp (.tup [.int 0,.int 0,.int wide,.int high])=H3 at S3 hpp
     refine I_11 x t n lb pp rs (wss.map stN) (Lvs wss) ⟨0,0,wide,high⟩ res H1 ⟨rfl,hA.same (S1.trans (S2.trans S3)),g,n24,by omega,by decide,S3 _ _ hlb,hBs.same S3,YO okw,fun A hA=>?_,wX wss,S2.trans S3,hpp,⟨ve _,ve _⟩,hSI,fun lf us H4 S4 hlf hN=>?_⟩
     ·obtain ⟨ws,hw,rfl⟩:=vC.mp hA
      exact WR (okw ws hw) (ok40 ws hw)
     have S14:=S1.trans (S2.trans (S3.trans S4))
     have hks:=yI.keys g hSI
     obtain ⟨yy,gy,l24,py⟩:=iT
     have e:=Good.uniq g gy
     subst e
     have lres:res.length=n.length:=by rw [<- hks,ke]
     have lus:us.length=n.length:=by rw [hN.len,lres]
     have nd:n.Nodup:=py.nodup_iff.mpr (XT _)
     obtain ⟨rest,lrest,hrest⟩:=Wi hN
     rw [hks] at hrest
     refine ⟨_,rfl,lf,us,n,rest,rfl,SqL.of hlf,by omega,by omega,lrest,nd,hrest,fun D p nD o u=>?_⟩
     rw [lus] at o u
     have eup:=zay o rfl py u
     have hps:yF H4 (p.toList.map fun i=>us.getD i .non) (p.toList.map fun i=>res.getD i (0,pc0)):=Wg hN p.toList fun i hi=>by
      have m:i∈p:=by simpa using hi
      have m2:i∈(uZ (vo n.length)):=(Array.Perm.mem_iff o.pm).mp m
      rw [lres]
      simpa using m2
     have efst:(p.toList.map fun i=>res.getD i (0,pc0)).map (·.1)=up n.length:=by
      rw [<- eup,v7]
      apply bx
      intro i _
      show (res.getD i (0,pc0)).1=n.getD i 0
      rw [<- hks,kP,kP,va]
      cases res[i]?<;>rfl
     have hmem:∀ q∈(p.toList.map fun i=>res.getD i (0,pc0)),q∈res:=fun q hq=>by
      obtain ⟨i,hi,rfl⟩:=vC.mp hq
      have m:i∈p:=by simpa using hi
      have m2:i∈(uZ (vo n.length)):=(Array.Perm.mem_iff o.pm).mp m
      have hil:i<res.length:=by rw [lres];simpa using m2
      rw [_L2.getD_at hil]
      exact vF hil
     generalize (p.toList.map fun i=>us.getD i .non)=ss at hps
     generalize (p.toList.map fun i=>res.getD i (0,pc0))=pk at hps efst hmem
     have S5:=zc (o:=.lst ss) nD
     have hD:(upd H4 D (.lst ss)) D=some (.lst ss):=zd
     have hps5:=hps.same S5
     generalize upd H4 D (.lst ss)=H5 at S5 hD hps5
     have lpk:pk.length=n.length:=by
      have:=congrArg List.length efst
      rwa [ke,XS] at this
     have lss:=hps.len
     refine ⟨D,rfl,⟨_,SqL.of hD⟩,yH (K:=K) (a:=D) (xs:=ss) (fun i ys σ H'=>yE H' ys ((pk.take i).map (·.2))/\Same H5 H'/\∃ o o2,σ=[o,o2]) ⟨.nil,Same.refl _,none,none,rfl⟩
      (fun i ys σ H' hi h9=>by obtain ⟨h1,S3,_⟩:=h9;exact (⟨by rw [h1.len,ke,kH];exact km (show _<=1000000 by omega) (by decide),SqL.of (S3 _ _ hD)⟩)) ?_ ?_⟩
     case refine_2 =>
      intro i y ys σ H6 hy h8
      refine A_3 h8 fun hY S6 n8=>E_2 n8 fun o1 o2 e9=>?_;clear n8 h8;subst e9
      obtain ⟨q1,eq1,⟨aq,uq,rfl,zq,hq⟩⟩:=hps5.get hy
      obtain ⟨hil,ev⟩:=kg.mp eq1
      refine ⟨aq,_,rfl,SqT.of (S6 _ _ zq),rfl,_,_,rfl,_,_,rfl,rfl,?_⟩
      dsimp only [z7,tYes]
      refine iteT ⟨_,rfl,?_,S6,_,_,rfl⟩
      rw [<- kz hil,ev,kC]
      exact hY.snoc (hq.same S6)
     rintro ys σ H6 ⟨hY,S6,_⟩ lr nlr
     rw [lss,kO] at hY
     have S7:=zc (o:=.lst ys) nlr
     refine q lr ys _ _ (S14.trans (S5.trans (S6.trans S7))) ((S14.trans (S5.trans S6)).free nlr) zd (hY.same S7) (by rw [ke,lpk]) fun i p1 e1=>?_
     rw [va] at e1
     obtain ⟨q1,eq1,rfl⟩:=vA.mp e1
     have e2:(pk.map (·.1))[i]?=some q1.1:=by rw [va,eq1];rfl
     rw [efst] at e2
     have e3:q1.1=(i:Int):=by
      unfold up at e2
      rw [va] at e2
      obtain ⟨j,ej,e4⟩:=vA.mp e2
      have:=(kg.mp ej).2
      rw [List.getElem_range] at this
      rw [<- e4,this]
     rw [<- e3]
     exact hmem q1 (kZ eq1)
    ·have hk:((high:Int)<(k:Int)):=by
      have:¬ k<=high:=fun z=>nrm (up1.up low.1 (kf _) z)
      omega
     rw [decide_eq_true hk]
     exact iteT ⟨Zz1,qe _ S1⟩
   ·have eP:=_Sta.jw hR hP
    subst eP
    rcases h with ⟨res,rm,_,_⟩ | ⟨_,qe⟩
    ·exact (low high rm).elim
    ·exact qe H1 S1
  ·exact ⟨_,rfl,_,rfl,_,rfl,_,rfl,x,y,t,wide,rfl,hA,hz,.inr h⟩
end
end _JF
namespace _JF
open PySem _L2 _Lin _Tre PySem.W
open _Sta (R Ok sbs exch reg OkS OkSs stN HasR zT Low Best tr)
section
variable {P:Program} {w:World} {K:Frag} {mg:Str->Option Value} {base:Heap} {kA:Addr}
theorem zbO:zC ["tree","texts","high"] ["tree","texts","high"] (zg qu):=by trivial
theorem zaz {f fT fL C4 C6:Addr} {fd dT dL:FuncData} (F:Fun K "least_wide" "least_wide" qu f fd) (Ts:Callee P w K mg base (CXE P w) 28 "tree_stairs" fT dT ["tree","texts"] (ZF C4 C6)) (Na:Callee P w K mg base CX0 1 "narrowest" fL dL ["stairs","high"] ZI) :
  FnOk P w K mg base (CXE P w) 29 f fd ["tree","texts","high"] (Yc C4 C6):=by
 refine F.okE zbO (fun vs H Q E h=>?_) (fun cdv A outer s H vs Q E hr hh h=>?_)
 ·refine E_4 h fun x y t wide n8=>A_2 n8 fun e9 _=>?_;clear n8 h;subst e9
  rfl
 ·revert h;intro n7;refine E_4 n7 fun x y t wide n8=>A_4 n8 fun e9 hA hz h=>?_;clear n8 n7;subst e9
  refine ⟨_,(zf (zn (zk Na.ok (hr.mono (by decide)) rfl Na.bound Na.kp Na.bd .nil zG (za (zk Ts.ok hr rfl Ts.bound Ts.kp Ts.bd .nil x6 (za (pv 0) (za (pv 1) zb))) (za (pv 2) zb))))),?_⟩
  rcases h with ⟨n,a,xs,wss,iT,g,rfl,ha,hT,hl,q⟩ | h
  ·refine ⟨_,rfl,_,rfl,x,.ref a,t,rfl,hA,hz,.inl ⟨n,a,xs,wss,iT,g,rfl,ha,hT,hl,fun P1 l us A1 H1 hR S1 nl hl1 hs oA lA=>?_⟩⟩
   refine ⟨_,rfl,l,us,A1,wide,rfl,hl1,hs,by omega,fun o H2 S2 low=>?_⟩
   exact q P1 o H2 hR (S1.trans S2) (low.of (P:=tr (reg A1)) (Q:=tr P1) fun w k=>oA.2 k w)
  ·exact ⟨_,rfl,_,rfl,x,y,t,rfl,hA,hz,.inr h⟩
end
end _JF
namespace _JF
open PySem _L2 _Lin _Tre PySem.W
noncomputable def spIs:Sp:=fun vs H Q _=>∃ (x:V) (t:T),vs=[x]/\At H x t/\sz t<=1000/\∀ (b:Bool) (H':Hp),Same H H'->(b=true↔zX t)->Q (.bl b) H'
theorem AtL.two {H:Hp} {vs:List V} {ss:List T} (h:AtL H vs ss) (l:vs.length=2):∃ u0 u1 s0 s1,vs=[u0,u1]/\ss=[s0,s1]/\At H u0 s0/\At H u1 s1:=by
 cases h with
 | nil=>cases l
 | cons h0 r =>
  cases r with
  | nil=>cases l
  | cons h1 r2 =>
   cases r2 with
   | nil=>exact ⟨_,_,_,_,rfl,rfl,h0,h1⟩
   | cons _ _=>cases l
section
variable {P:Program} {w:World} {K:Frag} {mg:Str->Option Value} {base:Heap} {kA:Addr}
theorem scIs:zC ["thing","pile","numbers","here","above","part"] ["thing"] (zg sIs):=by trivial
theorem zds {f fW:Addr} {fd fdW:FuncData} (F:Fun K "_law_is" "_law_is" sIs f fd) (Z:Nt K mg kA) (Lh:Callee P w K mg base CX0 1 "_law_whole" fW fdW ["found"] y8):FnOk P w K mg base CX0 2 f fd ["thing"] spIs:=by
 obtain ⟨gKIND,gPARTS,gMOST_BOXES,gKINDS,kk,ti,tint,tbool,tstr,ttup,tlist,tl,tany,ts,tr,kI,kB,kS,kT⟩:=Z
 refine F.ok scIs (fun vs H Q E h=>?_) (fun cdv A outer s H vs Q E hr h=>?_)
 ·refine E_2 h fun x t n8=>A_2 n8 fun e9 _=>?_;clear n8 h;subst e9
  rfl
 ·refine E_2 h fun x t n8=>A_4 n8 fun e9 hA hS q=>?_;clear n8 h;subst e9
  refine ⟨_,(ze (zm (i:=1) scIs.nd rfl (Or.inl rfl) (zE (za (zN (za (pv 0) (za zM zb))) zb)))
   (ze (zm (i:=2) scIs.nd rfl (Or.inl rfl) (zE zb))
   (ze (wC PassesOwn.never (zF (Zv hr.units) (pv 1) (zE zb) (zJ _))
   (ze (qa (Xp kN uC uD Xq (pv 1)) (wB rfl (z8 (zo (i:=3) scIs.nd rfl (Or.inl rfl)) (z8 (zo (i:=4) scIs.nd rfl (Or.inl rfl)) xh))))
    (zf (zR (yi (zk Lh.ok (hr.mono (show 1<=1 by decide)) rfl Lh.bound Lh.kp Lh.bd .nil zG (za (pv 3) zb)))
    (ze (zZ (yG kN vf vg ye (pv 2) (za (pv 3) zb)))
     (zf (zR (PW.pt (xE (zF jx (zi zy (by rfl) tl kL (za (pv 2) zb)) zh (zJ _)) (xI (zF jx (yG kN PySem.F.slot_list_count PySem.F.type_list_count Ji (pv 2) (za (pv 3) zb)) zh (zJ _)))))
     (zf (zn yB))
     zL)))
    (ze (zR (PW.pt (xE (yW (yi (zi yj (by rfl) ti kM (za (pv 3) (za (yU rfl ttup vE) zb))))) (xE (zF W8 (zi zy (by rfl) tl kL (za (pv 3) zb)) zh (zJ _)) (xI (yW (yi (zi yj (by rfl) ti kM (za (zw zP (pv 3) zh (fun _ _=>rfl)) (za (yU rfl tstr u9) zb)))))))))
     (zf (zn yB))
     zL)
     (ze (zR (PW.pt (xE (zF Xo (zw zP (pv 3) zh (fun _ _=>rfl)) (zE (za zM (za zM zb))) rfl) (xE (zF y4 (zw zP (pv 3) zh (fun _ _=>rfl)) (pv 4) (zJ _)) (xE (yW (yi (zi yj (by rfl) ti kM (za (zw zP (pv 3) zh (fun _ _=>rfl)) (za (yU rfl ttup vE) zb))))) (xI (zF xZ (zi zy (by rfl) tl kL (za (zw zP (pv 3) zh (fun _ _=>rfl)) zb)) zh (zJ _)))))))
     (zf (zn yB))
     zL)
     (zf (yr PassesOwn.never rfl (wD (zw zP (pv 3) zh (fun _ _=>rfl))) (zo (i:=5) scIs.nd rfl (Or.inl rfl))
     (zf (zZ (yG kN vf vg ye (pv 1) (za (zN (za (pv 5) (za (zw zP (pv 3) zh (fun _ _=>rfl)) zb))) zb))))))))))))
   (zf (zn (xt (y0 xZ (zi zy (by rfl) tl kL (za (pv 2) zb)) zh (zJ _)) (xJ (y0 (Zu hr.units) (zi Zz (by rfl) ts PyProof.Rows.boot_sorted (za (pv 2) zb)) (wO rfl rfl tlist rfl tr (za (zi zy (by rfl) tl kL (za (pv 2) zb)) zb)) (zJ _))))))))),?_⟩
  refine ⟨_,rfl,Zz2,fun p0 np0=>⟨Zz1,fun la nla=>?_⟩⟩
  have S1:=zc (o:=.tup [x,.str ""]) np0
  have hp0:(upd H p0 (.tup [x,.str ""])) p0=some (.tup [x,.str ""]):=zd
  generalize upd H p0 (.tup [x,.str ""])=H1 at S1 hp0 nla
  have fla:H la=none:=S1.free nla
  have S2:=S1.trans (zc (o:=.lst [.ref p0]) nla)
  have h2:(upd H1 la (.lst [.ref p0])) la=some (.lst [.ref p0]):=zd
  have hp0:=zc (o:=.lst [.ref p0]) nla _ _ hp0
  generalize upd H1 la (.lst [.ref p0])=H2 at S2 h2 hp0
  refine ⟨Zz0,fun ln nln=>?_⟩
  have fln:H ln=none:=S2.free nln
  have nn:la≠ln:=zO h2 nln
  have S3:=S2.trans (zc (o:=.lst []) nln)
  have h3:(upd H2 ln (.lst [])) ln=some (.lst []):=zd
  have h2:=zc (o:=.lst []) nln _ _ h2
  have hp0:=zc (o:=.lst []) nln _ _ hp0
  generalize upd H2 ln (.lst [])=H3 at S3 h2 h3 hp0
  dsimp only
  refine run_seq ?_
  refine ⟨fun m σ H4=>∃ (us:List V) (ps:List (T×Str)) (ns:List Int) (o3 o4 o5:Option V),m=szL (ps.map (·.1))/\σ=[some x,some (.ref la),some (.ref ln),o3,o4,o5]/\Same H H4/\H4 ln=some (.lst (ns.map V.int))/\H4 la=some (.lst us)/\yN H H4 us ps/\szL (ps.map (·.1))<=1000/\Rel2 t ps ns/\ns.length<=24,
   ⟨_,[.ref p0],[(t, "")],[],none,none,none,rfl,rfl,S3,h3,h2,.cons ⟨p0,x,rfl,hp0,hA⟩ .nil,?_,.start t,by decide⟩,?_⟩
  ·show szL [t]<=1000
   have:szL [t]=sz t:=by simp only [szL];omega
   omega
  intro m σ H4 h8
  refine E_6 h8 fun us ps ns o3 o4 o5 n8=>A_9 n8 fun e9 n90 S4 hln hla hP hsz R l24=>?_;clear n8 h8;subst e9;subst n90
  refine ⟨_,rfl,Zz0,fun pe npe=>?_⟩
  have Se:=zc (o:=.lst []) npe
  have hpe:(upd H4 pe (.lst [])) pe=some (.lst []):=zd
  have S5:=S4.trans Se
  have hln:=Se _ _ hln
  have hla:=Se _ _ hla
  have hP:=hP.same Se
  generalize upd H4 pe (.lst [])=H5 at Se hpe S5 hln hla hP
  have lps:=hP.len
  rcases _Tre.jr ps with e | ⟨ps',pa,e⟩
  ·subst e
   cases hP
   refine I_4 la pe 1 true ⟨rfl,rfl,eq_nil (SqL.of hla) (SqL.of hpe),by decide,false,rfl,iteF ?_⟩
   refine ⟨_,rfl,_,_,rfl,.inl (SqL.of hln),_,_,rfl,rfl,_,rfl,?_⟩
   rw [ke,decide_eq_true (by omega)]
   refine iteT ⟨_,rfl,ln,ns,rfl,SqL.of hln,by omega,fun l2 ms nl2 pm st=>?_⟩
   have S6:=zc (o:=.lst (ms.map V.int)) nl2
   have h6:(upd H5 l2 (.lst (ms.map V.int))) l2=some (.lst (ms.map V.int)):=zd
   have hln6:=S6 _ _ hln
   generalize upd H5 l2 (.lst (ms.map V.int))=H6 at S6 h6 hln6
   refine ⟨_,rfl,_,_,rfl,.inl (SqL.of hln6),ns.length,by rw [ke],by omega,fun l3 nl3=>?_⟩
   have S7:=zc (o:=.lst ((vo ns.length).map fun i:Nat=>V.int i)) nl3
   have h7:(upd H6 l3 (.lst ((vo ns.length).map fun i:Nat=>V.int i))) l3=some (.lst ((up ns.length).map V.int)):=by
    rw [zd]
    unfold up
    rw [v7]
    rfl
   refine I_4 l2 l3 1 _ ⟨rfl,rfl,WO (SqL.of (S7 _ _ h6)) (SqL.of h7),by decide,?_⟩
   refine q _ _ (S5.trans (S6.trans S7)) ?_
   show decide (ms=up ns.length)=true↔_
   rw [decide_eq_true_eq]
   exact R.done l24 pm st
  ·subst e
   obtain ⟨p,ab⟩:=pa
   obtain ⟨us',u,rfl,hP',q0,v,rfl,hq0,hv⟩:=hP.snoc
   refine I_4 la pe 1 false ⟨rfl,rfl,EqR.lens (n:=0) (SqL.of hla) (SqL.of hpe) (by simp),by decide,true,rfl,iteT ⟨_,fun _ _ y=>y,?_⟩⟩
   refine ⟨_,rfl,.inl ⟨rfl,_,SqL.of hla⟩,la,_,.ref q0,rfl,rfl,hla,(by simp),?_⟩
   have S6:Same H (upd H5 la (.lst (us'++[V.ref q0]).dropLast)):=zU S5 fla
   have hq6:(upd H5 la (.lst (us'++[V.ref q0]).dropLast)) q0=some (.tup [v,.str ab]):=by rw [zp (xy hq0 hla (by intro z;cases z))];exact hq0
   have hla6:(upd H5 la (.lst (us'++[V.ref q0]).dropLast)) la=some (.lst us'):=by rw [zd,uj]
   have hln6:(upd H5 la (.lst (us'++[V.ref q0]).dropLast)) ln=some (.lst (ns.map V.int)):=by rw [zp nn.symm];exact hln
   have hP6:=hP'.upd (o':=.lst (us'++[V.ref q0]).dropLast) hla
   generalize upd H5 la (.lst (us'++[V.ref q0]).dropLast)=H6 at S6 hq6 hla6 hln6 hP6
   refine ⟨q0,_,rfl,SqT.of hq6,rfl,_,_,rfl,_,_,rfl,rfl,?_⟩
   have hv6:=hv.same S6
   have lsz:szL ((ps'++[(p,ab)]).map (·.1))=szL (ps'.map (·.1))+sz p:=by
    rw [kC,yQ]
    show _+szL [p]=_
    have:szL [p]=sz p:=by simp only [szL];omega
    omega
   have psz:=wN p
   refine ⟨_,rfl,v,p,rfl,hv6,_,rfl,?_⟩
   have nok:∀ H7,Same H6 H7->(HasK p ab\/∀ m,¬ Good p m)->Q (.bl false) H7:=fun H7 S7 h=>q false H7 (S6.trans S7) ⟨fun z=>(by cases z),fun z=>absurd z (R.none h)⟩
   cases hI:isI p with
   | true =>
    refine iteT ?_
    cases hv with
    | int i =>
     refine ⟨_,rfl,.inl ⟨rfl,_,SqL.of hln6⟩,_,rfl,ln,_,_,rfl,rfl,hln6,by rw [ke];exact vi (show _<=24 by omega) (by decide),?_⟩
     have R7:=R.leaf
     have S7:Same H (upd H6 ln (.lst (ns.map V.int++[.int i]))):=zU S6 fln
     have hln7:(upd H6 ln (.lst (ns.map V.int++[.int i]))) ln=some (.lst ((ns++[i]).map V.int)):=by rw [zd,kC];rfl
     have hla7:(upd H6 ln (.lst (ns.map V.int++[.int i]))) la=some (.lst us'):=by rw [zp nn];exact hla6
     have hP7:=hP6.upd (o':=.lst (ns.map V.int++[.int i])) hln6
     generalize upd H6 ln (.lst (ns.map V.int++[.int i]))=H7 at S7 hln7 hla7 hP7
     refine ⟨_,rfl,_,_,rfl,.inl (SqL.of hln7),_,_,rfl,rfl,_,rfl,?_⟩
     rw [ke]
     by_cases c1:24<(ns++[i]).length
     ·rw [decide_eq_true (by omega)]
      exact iteT (iteT (q false H7 S7 ⟨fun z=>(by cases z),fun z=>absurd z (R7.twice (.inl c1))⟩))
     ·rw [decide_eq_false (by omega)]
      refine iteF ⟨_,rfl,.inl ⟨rfl,_,SqL.of hln7⟩,_,rfl,ln,ns++[i],i,rfl,rfl,SqL.of hln7,_,_,rfl,rfl,_,rfl,?_⟩
      by_cases c2:1<(ns++[i]).count i
      ·rw [decide_eq_true (by omega)]
       exact iteT (q false H7 S7 ⟨fun z=>(by cases z),fun z=>absurd z (R7.twice (.inr ⟨i,c2⟩))⟩)
      ·rw [decide_eq_false (by omega)]
       exact iteF ⟨_,by rw [lsz];omega,us',ps',ns++[i],_,_,_,rfl,rfl,S7,hln7,hla7,hP7,by rw [lsz] at hsz;omega,R7,by omega⟩
    | non=>cases hI
    | bl b=>cases hI
    | str x=>cases hI
    | tup e h=>cases hI
    | lst e=>cases hI
    | dic e=>cases hI
   | false =>
    refine iteF ?_
    have no0:isB p=false->Q (.bl false) H6:=fun h=>nok H6 (Same.refl _) (.inr (Z1 hI h))
    refine ⟨_,rfl,_,_,_,_,rfl,rfl,hv6.ty,kT _,_,rfl,?_⟩
    cases hv with
    | int i=>cases hI
    | non=>exact iteT (iteT (no0 rfl))
    | bl b=>exact iteT (iteT (no0 rfl))
    | str x=>exact iteT (iteT (no0 rfl))
    | lst e=>exact iteT (iteT (no0 rfl))
    | dic e=>exact iteT (iteT (no0 rfl))
    | @tup a vs0 ss e hLL =>
     have e6:=S6 _ _ e
     have ls:=hLL.len
     refine iteF ⟨_,rfl,_,_,rfl,.inr (SqT.of e6),rfl,_,rfl,?_⟩
     have d:decide (V.int ((vs0.length:Nat):Int)=V.int 2)=decide (vs0.length=2):=by
      rw [qb,vR,beq_iff_eq,decide_eq_true_eq]
      omega
     rw [d]
     by_cases h2:vs0.length=2
     case neg =>
      rw [decide_eq_false h2]
      refine iteT (iteT (no0 ?_))
      cases eB:isB (.tup ss) with
      | false=>rfl
      | true =>
       obtain ⟨k,qs,e3,_⟩:=jN.mp eB
       injection e3 with e3
       rw [e3] at ls
       exact absurd ls h2
     rw [decide_eq_true h2]
     refine iteF ?_
     obtain ⟨u0,u1,s0,s1,rfl,rfl,h0,h1⟩:=hLL.two h2
     refine ⟨_,rfl,_,_,_,_,rfl,rfl,SqT.of e6,rfl,_,_,_,_,rfl,rfl,(h0.same S6).ty,kS s0,_,rfl,?_⟩
     cases h0 with
     | non=>exact iteT (no0 rfl)
     | bl b=>exact iteT (no0 rfl)
     | int i=>exact iteT (no0 rfl)
     | lst e=>exact iteT (no0 rfl)
     | dic e=>exact iteT (no0 rfl)
     | tup e h=>exact iteT (no0 rfl)
     | str kd =>
     refine iteF ?_
     refine zY ?_
     dsimp only
     refine ⟨_,rfl,_,_,_,_,rfl,rfl,SqT.of e6,rfl,Zz2,fun lk nlk=>?_⟩
     have S7:=zc (o:=.lst [.str "|",.str "-"]) nlk
     refine ⟨lk,_,rfl,.inl (SqL.of zd),rfl,rfl,_,rfl,?_⟩
     have hla7:=S7 _ _ hla6
     have hln7:=S7 _ _ hln6
     have hP7:=hP6.same S7
     have S67:=S6.trans S7
     have nok7:∀ H8,Same (upd H6 lk (.lst [.str "|",.str "-"])) H8->(HasK (.tup [.str kd,s1]) ab\/∀ m,¬ Good (.tup [.str kd,s1]) m)->Q (.bl false) H8:=fun H8 S8=>nok H8 (S7.trans S8)
     generalize upd H6 lk (.lst [.str "|",.str "-"])=H7 at S7 hla7 hln7 hP7 S67 nok7
     have no7:isB (.tup [.str kd,s1])=false->Q (.bl false) H7:=fun h=>nok7 H7 (Same.refl _) (.inr (Z1 rfl h))
     have e7:=S67 _ _ e
     show (if (!inV (.str kd) [.str "|",.str "-"])=true then _ else _)
     rw [Wv]
     cases hk:isKb kd with
     | false =>
      refine iteT (iteT (no7 ?_))
      exact Jk hk
     | true =>
     refine iteF ⟨_,rfl,_,_,_,_,rfl,rfl,SqT.of e7,rfl,_,rfl,rfl,_,rfl,?_⟩
     by_cases hab:kd=ab
     case pos =>
      subst hab
      rw [decide_eq_true rfl]
      exact iteT (iteT (nok7 H7 (Same.refl _) (.inl ⟨s1,rfl⟩)))
     rw [decide_eq_false (fun z=>hab (by injection z))]
     refine iteF ⟨_,rfl,_,_,_,_,rfl,rfl,SqT.of e7,rfl,_,_,_,_,rfl,rfl,(h1.same S67).ty,kT s1,_,rfl,?_⟩
     cases h1 with
     | non=>exact iteT (iteT (no7 rfl))
     | bl b=>exact iteT (iteT (no7 rfl))
     | int i=>exact iteT (iteT (no7 rfl))
     | str x=>exact iteT (iteT (no7 rfl))
     | lst e=>exact iteT (iteT (no7 rfl))
     | dic e=>exact iteT (iteT (no7 rfl))
     | @tup b ws qs e2 hQ =>
     have lq:=hQ.len
     refine iteF ⟨_,rfl,_,_,_,_,rfl,rfl,SqT.of e7,rfl,_,_,rfl,.inr (SqT.of (S67 _ _ e2)),_,_,rfl,rfl,_,rfl,?_⟩
     by_cases l2:2<=qs.length
     case neg =>
      rw [decide_eq_true (by omega)]
      refine iteT (no7 ?_)
      show (isKb kd && (decide (2<=qs.length) && _))=false
      rw [decide_eq_false l2,Bool.false_and,bE]
     rw [decide_eq_false (by omega)]
     refine iteF ?_
     refine zY ?_
     dsimp only
     have R8:=R.node (wP.mp hk) l2 hab
     have nsz:=yL kd qs
     have ls1:=y9 (ps'.map (·.1))
     have ls2:=y9 qs
     rw [ke] at ls1
     have lus:=hP6.len
     refine ⟨_,rfl,_,_,_,_,rfl,rfl,SqT.of e7,rfl,b,rfl,⟨_,SqT.of (S67 _ _ e2)⟩,?_⟩
     refine Wz (K:=K) (a:=b) (xs:=ws) (fun i σ H8=>∃ (us8:List V) (o5:Option V),σ=[some x,some (.ref la),some (.ref ln),some (.ref a),some (.str ab),o5]/\Same H H8/\H8 ln=some (.lst (ns.map V.int))/\H8 la=some (.lst us8)/\yN H H8 us8 (ps'++(qs.take i).map (·,kd)))
      ⟨us',_,rfl,S67,hln7,hla7,by simpa using hP7⟩ (fun i σ H8 _ h9=>by obtain ⟨_,_,_,S8,_⟩:=h9;exact (SqT.of (S8 _ _ e2))) ?_ ?_
     ·intro i y σ H8 hi h8
      refine E_2 h8 fun us8 o5 n8=>A_5 n8 fun e9 S8 hln8 hla8 hP8=>?_;clear n8 h8;subst e9
      obtain ⟨r,er,hAr⟩:=hQ.get hi
      obtain ⟨hil,ev⟩:=kg.mp er
      refine zQ ?_
      refine ⟨_,rfl,.inl ⟨rfl,_,SqL.of hla8⟩,_,rfl,_,rfl,_,_,_,_,rfl,rfl,SqT.of (S8 _ _ e),rfl,Zz2,fun tq ntq=>?_⟩
      have St:=zc (o:=.tup [y,.str kd]) ntq
      have hla9:=St _ _ hla8
      have l8:=hP8.len
      rw [ki,ke,kH] at l8
      refine ⟨la,_,_,rfl,rfl,hla9,vi (show us8.length<=3000 by rw [lsz] at hsz;omega) (by decide),?_⟩
      refine ⟨us8++[.ref tq],_,rfl,zU (S8.trans St) fla,by rw [zp nn.symm];exact St _ _ hln8,zd,?_⟩
      rw [<- kz hil,ev,kC,<- vZ]
      refine ((hP8.same St).upd hla9).add ⟨tq,y,rfl,?_,hAr⟩
      rw [zp (fun z=>by rw [z,hla8] at ntq;cases ntq),zd]
     ·intro σ H8 h8
      refine E_2 h8 fun us8 o5 n8=>A_5 n8 fun e9 S8 hln8 hla8 hP8=>?_;clear n8 h8;subst e9
      rw [lq,kO] at hP8
      have em:szL ((ps'++qs.map (·,kd)).map (·.1))=szL (ps'.map (·.1))+szL qs:=by
       rw [kC,yQ,v7]
       congr 2
       exact List.map_id qs
      exact ⟨_,by rw [em,lsz];omega,us8,_,ns,_,_,_,rfl,rfl,S8,hln8,hla8,hP8,by rw [em];rw [lsz] at hsz;omega,R8,l24⟩
end
end _JF
namespace _L2
open PySem PySem.Spec PyProof.Rows
section
variable {X:Cx}
noncomputable def zaS (K:Frag):R2:=fun x y H Q=>∃ a b xs ys,x=.ref a/\y=.ref b/\SqT K H a xs/\SqT K H b ys/\xs.length+ys.length<=sizeLine /\
 (xs=[]->Q (.ref b) H)/\(xs≠[]->ys=[]->Q (.ref a) H)/\(xs≠[]->ys≠[]->∀ p,H p=none->Q (.ref p) (upd H p (.tup (xs++ys))))
theorem WY:OpR X (binaryOp .Add) (zaS X.K):=by
 intro pins s σ H x y v u Q I rx ry h
 refine E_4 h fun a b xs ys n8=>A_8 n8 fun e9 n90 ha hb hz q0 q1 q2=>?_;clear n8 h;subst e9;subst n90
 by_cases hx:xs=[]
 ·cases rx
  cases ry
  obtain ⟨its,r1,p1,_⟩:=I.tuple ha
  obtain ⟨its2,r2,p2,_⟩:=I.tuple hb
  obtain ⟨⟨cls,dd,data,sl⟩,ho,hc,n,hd⟩:=id p1
  obtain ⟨⟨cls2,dd2,data2,sl2⟩,ho2,hc2,n2,hd2⟩:=id p2
  simp only at hc hd hc2 hd2
  subst hc hd hc2 hd2
  exact concat_meets ⟨_,ho,rfl⟩ ⟨_,ho2,rfl⟩ noFill_tuple_add seq_tuple_add uX uU (uL _ _)
   (tuple_addW0 a b its.toArray its2.toArray n n2 dd dd2 sl sl2 (by simp [r1.nil_iff.mpr hx])) ⟨ho,ho2,⟨.ref b,H,I,rfl,q0 hx⟩⟩
 ·exact zaZ pins s σ H _ _ v u Q I rx ry ⟨a,b,xs,ys,rfl,rfl,ha,hb,hx,hz,q1 hx,q2 hx⟩
theorem JE {K:Frag} {H:Hp} {a b:Addr} {xs ys:List V} {Q:VK} (ha:H a=some (.tup xs)) (hb:H b=some (.tup ys)) (hz:xs.length+ys.length<=sizeLine)
  (q:∀ r H',(∀ c u,H c=some u->H' c=some u)->H' r=some (.tup (xs++ys))->Q (.ref r) H'):zaS K (.ref a) (.ref b) H Q:=by
 refine I_4 a b xs ys ⟨rfl,rfl,SqT.of ha,SqT.of hb,hz,fun e=>?_,fun _ e=>?_,fun _ _ p np=>?_⟩
 ·subst e
  exact q b H (fun _ _ z=>z) hb
 ·subst e
  exact q a H (fun _ _ z=>z) (by rw [vW];exact ha)
 ·exact q p _ (fun c u z=>by rw [zp (fun e=>by rw [e,np] at z;cases z)];exact z) zd
end
end _L2
namespace _Tre
open PySem
noncomputable def Way:T->List Nat->T->Prop
 | t,[],p=>t=p
 | t,k::w,p=>∃ kd ps q,t=.tup [.str kd,.tup ps]/\ps[k]?=some q/\Way q w p
theorem Way.snoc:∀ {w:List Nat} {t:T} {kd:Str} {ps:List T} {k:Nat} {p:T},Way t w (.tup [.str kd,.tup ps])->ps[k]?=some p->Way t (w++[k]) p
 | [],t,kd,ps,k,p,h,e=>⟨kd,ps,p,h,e,rfl⟩
 | j::w,t,kd,ps,k,p,⟨kd',ps',q,e1,e2,h⟩,e=>⟨kd',ps',q,e1,e2,h.snoc e⟩
theorem Yg:∀ {ps:List T} {k:Nat} {q:T},ps[k]?=some q->sz q<=szL ps
 | [],_,_,e=>by simp at e
 | p::ps,0,q,e=>by
  simp at e
  subst e
  simp only [szL]
  omega
 | p::ps,k+1,q,e=>by
  have:=Yg (ps:=ps) (k:=k) (q:=q) (by simpa using e)
  simp only [szL]
  omega
theorem Way.len:∀ {w:List Nat} {t p:T},Way t w p->w.length+sz p<=sz t
 | [],t,p,h=>by
  have h:t=p:=h
  rw [h]
  simp
 | k::w,t,p,⟨kd,ps,q,e1,e2,h⟩=>by
  have:=h.len
  have:=Yg e2
  have:=yL kd ps
  rw [e1,kK]
  omega
theorem zI.mem:∀ {ts:List T} {nss:List (List Int)},zI ts nss->∀ p∈ts,∃ n,Good p n
 | _,_,.nil,p,hp=>(kW hp).elim
 | _,_,.cons h r,p,hp=>by
  rcases kY.mp hp with e | e
  ·rw [e]
   exact ⟨_,h⟩
  ·exact r.mem p e
end _Tre
namespace _JF
open PySem _L2 _Tre PySem.W
noncomputable def nums (w:List Nat):List V:=w.map fun k:Nat=>V.int k
noncomputable def KnAt (H H3:Hp) (la lf:Addr) (t:T) (u:V) (p:T):Prop:=∃ (a:Addr) (v:V) (lw:Addr) (w:List Nat),u=.ref a/\H3 a=some (.tup [v,.ref lw])/\At H v p/\H3 lw=some (.lst (nums w))/\lw≠la/\lw≠lf/\Way t w p/\w.length<=100/\∃ n,Good p n
noncomputable def xf (H H3:Hp) (la lf:Addr) (t:T):List V->List T->Prop:=Paired (KnAt H H3 la lf t)
theorem KnAt.same {H H3 H4:Hp} {la lf:Addr} {t:T} (S:Same H3 H4) {u:V} {p:T}:KnAt H H3 la lf t u p->KnAt H H4 la lf t u p:=fun ⟨a,v,lw,w,e,z,h,y,r⟩=>⟨a,v,lw,w,e,S _ _ z,h,S _ _ y,r⟩
theorem KnAt.updA {H H3:Hp} {la lf:Addr} {t:T} {xs:List V} {o':HO} (hl:H3 la=some (.lst xs)) {u:V} {p:T}:KnAt H H3 la lf t u p->KnAt H (upd H3 la o') la lf t u p:=fun ⟨a,v,lw,w,e,z,h,y,n1,r⟩=>⟨a,v,lw,w,e,by rw [zp (xy z hl (by intro q;cases q))];exact z,h,by rw [zp n1];exact y,n1,r⟩
theorem KnAt.updF {H H3:Hp} {la lf:Addr} {t:T} {xs:List V} {o':HO} (hl:H3 lf=some (.lst xs)) {u:V} {p:T}:KnAt H H3 la lf t u p->KnAt H (upd H3 lf o') la lf t u p:=fun ⟨a,v,lw,w,e,z,h,y,n1,n2,r⟩=>⟨a,v,lw,w,e,by rw [zp (xy z hl (by intro q;cases q))];exact z,h,by rw [zp n2];exact y,n1,n2,r⟩
theorem xf.imp {H H3 H4:Hp} {la lf:Addr} {t:T} (f:∀ v p,KnAt H H3 la lf t v p->KnAt H H4 la lf t v p):∀ {vs:List V} {ps:List T},xf H H3 la lf t vs ps->xf H H4 la lf t vs ps
 | _,_,.nil=>.nil
 | _,_,.cons h r=>.cons (f _ _ h) (xf.imp f r)
theorem xf.len {H H3:Hp} {la lf:Addr} {t:T} {vs:List V} {ps:List T} (h:xf H H3 la lf t vs ps):vs.length=ps.length:=Paired.length h
theorem xf.snoc {H H3:Hp} {la lf:Addr} {t:T}:∀ {ps:List T} {p:T} {vs:List V},xf H H3 la lf t vs (ps++[p])->∃ us v,vs=us++[v]/\xf H H3 la lf t us ps/\KnAt H H3 la lf t v p:=fun h=>Paired.unsnoc h
noncomputable def Yh:Sp:=fun vs H Q _=>∃ (x:V) (t:T) (n:List Int),vs=[x]/\At H x t/\Good t n/\sz t<=100 /\
 ∀ (l:Addr) (us:List V) (H':Hp),Same H H'->H' l=some (.lst us)->0<us.length->us.length<=100->(∀ u∈us,∃ (a:Addr) (v:V) (lw:Addr) (w:List Nat) (p:T),u=.ref a/\H' a=some (.tup [v,.ref lw])/\At H v p/\H' lw=some (.lst (nums w))/\Way t w p/\∃ n,Good p n)->Q (.ref l) H'
section
variable {P:Program} {w:World} {K:Frag} {mg:Str->Option Value} {base:Heap} {kA:Addr}
theorem wA:zC ["tree","found","pile","here","way","k"] ["tree"] (zg qo):=by trivial
theorem zaA {f:Addr} {fd:FuncData} (F:Fun K "_law_knots" "_law_knots" qo f fd) (Z:Nt K mg kA):FnOk P w K mg base CX0 1 f fd ["tree"] Yh:=by
 obtain ⟨gKIND,gPARTS,gMOST_BOXES,gKINDS,kk,ti,tint,tbool,tstr,ttup,tlist,tl,tany,ts,tr,kI,kB,kS,kT⟩:=Z
 refine F.ok wA (fun vs H Q E h=>?_) (fun cdv A outer s H vs Q E hr h=>?_)
 ·refine E_3 h fun x t n n8=>A_2 n8 fun e9 _=>?_;clear n8 h;subst e9
  rfl
 ·refine E_3 h fun x t n n8=>A_5 n8 fun e9 hA gt hz q=>?_;clear n8 h;subst e9
  refine ⟨_,(ze (zm (i:=1) wA.nd rfl (Or.inl rfl) (zE zb))
   (ze (zm (i:=2) wA.nd rfl (Or.inl rfl) (zE (za (zN (za (pv 0) (za (zE zb) zb))) zb)))
   (ze (wC PassesOwn.never (zF (Zv hr.units) (pv 2) (zE zb) (zJ _))
   (ze (qa (Xp kN uC uD Xq (pv 2)) (wB rfl (z8 (zo (i:=3) wA.nd rfl (Or.inl rfl)) (z8 (zo (i:=4) wA.nd rfl (Or.inl rfl)) xh))))
    (ze (zZ (yG kN vf vg ye (pv 1) (za (zN (za (pv 3) (za (pv 4) zb))) zb)))
    (zf (zR (yi (zi yj (by rfl) ti kM (za (pv 3) (za (yU rfl ttup vE) zb))))
    (zf (yr PassesOwn.never rfl (xu rfl tr (za (zi zy (by rfl) tl kL (za (zw zP (pv 3) zh (fun _ _=>rfl)) zb)) zb)) (zo (i:=5) wA.nd rfl (Or.inl rfl))
     (zf (zZ (yG kN vf vg ye (pv 2) (za (zN (za (zw zP (zw zP (pv 3) zh (fun _ _=>rfl)) (pv 5) (fun _ _=>rfl)) (za (zj yX (pv 4) (zE (za (pv 5) zb))) zb))) zb))))))
    zL)))))
   (zf (zn (pv 1)))))),?_⟩
  refine ⟨Zz0,fun lf nlf=>?_⟩
  have S1:=zc (o:=.lst []) nlf
  have h1:(upd H lf (.lst [])) lf=some (.lst []):=zd
  generalize upd H lf (.lst [])=H1 at S1 h1
  dsimp only
  refine ⟨_,rfl,Zz0,fun l0 nl0=>⟨Zz2,fun p0 np0=>⟨Zz1,fun la nla=>?_⟩⟩⟩
  have S2:=S1.trans (zc (o:=.lst []) nl0)
  have h2:(upd H1 l0 (.lst [])) l0=some (.lst []):=zd
  have m1:l0≠lf:=(zO h1 nl0).symm
  have h1:=zc (o:=.lst []) nl0 _ _ h1
  generalize upd H1 l0 (.lst [])=H2 at S2 h2 h1 np0 nla
  have S3:=S2.trans (zc (o:=.tup [x,.ref l0]) np0)
  have h3:(upd H2 p0 (.tup [x,.ref l0])) p0=some (.tup [x,.ref l0]):=zd
  have h1:=zc (o:=.tup [x,.ref l0]) np0 _ _ h1
  have h2:=zc (o:=.tup [x,.ref l0]) np0 _ _ h2
  generalize upd H2 p0 (.tup [x,.ref l0])=H3 at S3 h3 h2 h1 nla
  have fla:H la=none:=S3.free nla
  have m2:l0≠la:=zO h2 nla
  have nn:lf≠la:=zO h1 nla
  have S4:=S3.trans (zc (o:=.lst [.ref p0]) nla)
  have h4:(upd H3 la (.lst [.ref p0])) la=some (.lst [.ref p0]):=zd
  have h1:=zc (o:=.lst [.ref p0]) nla _ _ h1
  have h2:=zc (o:=.lst [.ref p0]) nla _ _ h2
  have h3:=zc (o:=.lst [.ref p0]) nla _ _ h3
  generalize upd H3 la (.lst [.ref p0])=H4 at S4 h4 h3 h2 h1
  dsimp only
  refine run_seq ?_
  refine ⟨fun m σ H5=>∃ (us fs:List V) (ps:List T) (o3 o4 o5:Option V),m=szL ps/\σ=[some x,some (.ref lf),some (.ref la),o3,o4,o5]/\Same H H5/\H5 lf=some (.lst fs)/\H5 la=some (.lst us)/\xf H H5 la lf t us ps/\(∀ f∈fs,∃ p,KnAt H H5 la lf t f p)/\fs.length+szL ps<=sz t/\0<fs.length+szL ps,
   ⟨_,[.ref p0],[],[t],none,none,none,rfl,rfl,S4,h1,h4,.cons ⟨p0,x,l0,[],rfl,h3,hA,h2,m2,m1,rfl,by decide,n,gt⟩ .nil,fun f hf=>(kW hf).elim,by simp only [szL];exact uf (by simp),by simp only [szL];have:=wN t;simp;omega⟩,?_⟩
  intro m σ H5 h8
  refine E_6 h8 fun us fs ps o3 o4 o5 n8=>A_9 n8 fun e9 n90 S5 hlf hla hP hF hs hpos=>?_;clear n8 h8;subst e9;subst n90
  refine ⟨_,rfl,Zz0,fun pe npe=>?_⟩
  have Se:=zc (o:=.lst []) npe
  have hpe:(upd H5 pe (.lst [])) pe=some (.lst []):=zd
  have S6:=S5.trans Se
  have hlf:=Se _ _ hlf
  have hla:=Se _ _ hla
  have hP:=xf.imp (fun _ _ z=>KnAt.same Se z) hP
  have hF:∀ f∈fs,∃ p,KnAt H (upd H5 pe (.lst [])) la lf t f p:=fun f hf=>(hF f hf).imp fun p z=>z.same Se
  generalize upd H5 pe (.lst [])=H6 at Se hpe S6 hlf hla hP hF
  have lps:=hP.len
  rcases _Tre.jr ps with e | ⟨ps',p,e⟩
  ·subst e
   cases hP
   simp only [szL] at hs hpos
   refine I_4 la pe 1 true ⟨rfl,rfl,eq_nil (SqL.of hla) (SqL.of hpe),by decide,false,rfl,iteF ?_⟩
   exact ⟨_,rfl,q lf fs H6 S6 hlf (by omega) (by omega) fun f hf=>by
    obtain ⟨p,a,v,lw,w,e,z,h,y,_,_,c,_,g⟩:=hF f hf
    exact ⟨a,v,lw,w,p,e,z,h,y,c,g⟩⟩
  ·subst e
   obtain ⟨us',u,rfl,hP',kn⟩:=hP.snoc
   obtain ⟨q0,v,lw,wy,rfl,hq0,hv,hlw,d1,d2,hway,lwy,np,gp⟩:=id kn
   refine I_4 la pe 1 false ⟨rfl,rfl,EqR.lens (n:=0) (SqL.of hla) (SqL.of hpe) (by simp),by decide,true,rfl,iteT ⟨_,fun _ _ y=>y,?_⟩⟩
   refine ⟨_,rfl,.inl ⟨rfl,_,SqL.of hla⟩,la,_,.ref q0,rfl,rfl,hla,(by simp),?_⟩
   have S7:Same H (upd H6 la (.lst (us'++[V.ref q0]).dropLast)):=zU S6 fla
   have hlf7:(upd H6 la (.lst (us'++[V.ref q0]).dropLast)) lf=some (.lst fs):=by rw [zp nn];exact hlf
   have hla7:(upd H6 la (.lst (us'++[V.ref q0]).dropLast)) la=some (.lst us'):=by rw [zd,uj]
   have hP7:=xf.imp (fun _ _ z=>KnAt.updA (o':=.lst (us'++[V.ref q0]).dropLast) hla z) hP'
   have hF7:∀ f∈fs,∃ p,KnAt H (upd H6 la (.lst (us'++[V.ref q0]).dropLast)) la lf t f p:=fun f hf=>(hF f hf).imp fun p z=>z.updA hla
   have hq7:(upd H6 la (.lst (us'++[V.ref q0]).dropLast)) q0=some (.tup [v,.ref lw]):=by rw [zp (xy hq0 hla (by intro z;cases z))];exact hq0
   have hlw7:(upd H6 la (.lst (us'++[V.ref q0]).dropLast)) lw=some (.lst (nums wy)):=by rw [zp d1];exact hlw
   generalize upd H6 la (.lst (us'++[V.ref q0]).dropLast)=H7 at S7 hlf7 hla7 hP7 hF7 hq7 hlw7
   refine ⟨q0,_,rfl,SqT.of hq7,rfl,_,_,rfl,_,_,rfl,rfl,?_⟩
   have lsz:szL (ps'++[p])=szL ps'+sz p:=by rw [yQ];simp only [szL];omega
   have psz:=wN p
   refine ⟨_,rfl,.inl ⟨rfl,_,SqL.of hlf7⟩,_,rfl,_,rfl,Zz2,fun p8 np8=>?_⟩
   have S8':=zc (o:=.tup [v,.ref lw]) np8
   have S8:=S7.trans S8'
   have h8:(upd H7 p8 (.tup [v,.ref lw])) p8=some (.tup [v,.ref lw]):=zd
   have hlf8:=S8' _ _ hlf7
   have hla8:=S8' _ _ hla7
   have hlw8:=S8' _ _ hlw7
   have hP8:=xf.imp (fun _ _ z=>KnAt.same S8' z) hP7
   have hF8:∀ f∈fs,∃ p,KnAt H (upd H7 p8 (.tup [v,.ref lw])) la lf t f p:=fun f hf=>(hF7 f hf).imp fun p z=>z.same S8'
   generalize upd H7 p8 (.tup [v,.ref lw])=H8 at S8 h8 hlf8 hla8 hlw8 hP8 hF8
   refine ⟨lf,_,_,rfl,rfl,hlf8,vi (show _<=100 by omega) (by decide),?_⟩
   have kn8:KnAt H H8 la lf t (.ref p8) p:=⟨p8,v,lw,wy,rfl,h8,hv,hlw8,d1,d2,hway,lwy,np,gp⟩
   have S9:Same H (upd H8 lf (.lst (fs++[.ref p8]))):=zU S8 nlf
   have hlf9:(upd H8 lf (.lst (fs++[.ref p8]))) lf=some (.lst (fs++[.ref p8])):=zd
   have hla9:(upd H8 lf (.lst (fs++[.ref p8]))) la=some (.lst us'):=by rw [zp nn.symm];exact hla8
   have hlw9:(upd H8 lf (.lst (fs++[.ref p8]))) lw=some (.lst (nums wy)):=by rw [zp d2];exact hlw8
   have hP9:=xf.imp (fun _ _ z=>KnAt.updF (o':=.lst (fs++[.ref p8])) hlf8 z) hP8
   have hF9:∀ f∈fs++[.ref p8],∃ p,KnAt H (upd H8 lf (.lst (fs++[.ref p8]))) la lf t f p:=fun f hf=>by
    rcases vc.mp hf with z | z
    ·exact (hF8 f z).imp fun p z=>z.updF hlf8
    ·rw [kD.mp z]
     exact ⟨p,kn8.updF hlf8⟩
   generalize upd H8 lf (.lst (fs++[.ref p8]))=H9 at S9 hlf9 hla9 hlw9 hP9 hF9
   have lfs:(fs++[V.ref p8]).length=fs.length+1:=by simp
   dsimp only
   refine ⟨_,rfl,_,_,_,_,rfl,rfl,(hv.same S9).ty,kT p,_,rfl,?_⟩
   cases gp with
   | leaf i=>exact iteF ⟨_,by rw [lsz];omega,us',_,ps',_,_,_,rfl,rfl,S9,hlf9,hla9,hP9,hF9,by rw [lfs];omega,by omega⟩
   | @node kd qs nss hk h2 hn hG =>
   cases hv with
   | @tup a0 vs0 ss e hL =>
   obtain ⟨b0,ws,rfl,e2,hQ⟩:=hL.knot
   have lq:=hQ.len
   have nsz:=yL kd qs
   have ls1:=y9 ps'
   have ls2:=y9 qs
   have lus:=hP9.len
   refine iteT ⟨_,rfl,_,_,_,_,rfl,rfl,SqT.of (S9 _ _ e),rfl,_,_,rfl,.inr (SqT.of (S9 _ _ e2)),_,rfl,by omega,by omega,?_⟩
   have wl:=hway.len
   have nl:nums wy=wy.map fun k:Nat=>V.int k:=rfl
   refine xl (lo:=0) (n:=ws.length) (fun i σ H10=>∃ (us10:List V) (o5:Option V),σ=[some x,some (.ref lf),some (.ref la),some (.ref a0),some (.ref lw),o5]/\Same H H10/\H10 lf=some (.lst (fs++[.ref p8]))/\H10 la=some (.lst us10)/\H10 lw=some (.lst (nums wy))/\xf H H10 la lf t us10 (ps'++qs.take i)/\∀ f∈fs++[.ref p8],∃ p,KnAt H H10 la lf t f p)
    ⟨us',_,rfl,S9,hlf9,hla9,hlw9,by simpa using hP9,hF9⟩ ?_ ?_
   ·intro i σ H10 hi h8
    refine E_2 h8 fun us10 o5 n8=>A_7 n8 fun e9 S10 hlf10 hla10 hlw10 hP10 hF10=>?_;clear n8 h8;subst e9
    have hiq:i<qs.length:=by omega
    have eq1:qs[i]?=some qs[i]:=kh hiq
    obtain ⟨y,ey,hAy⟩:=hQ.get' eq1
    have l10:=hP10.len
    rw [ki,kH] at l10
    have ez:atI ws ((0:Int)+i)=some y:=by rw [uI];exact yK ey
    refine zQ ?_
    refine ⟨_,rfl,.inl ⟨rfl,_,SqL.of hla10⟩,_,rfl,_,_,_,_,rfl,rfl,SqT.of (S10 _ _ e),rfl,_,rfl,_,_,_,_,rfl,rfl,SqT.of (S10 _ _ e2),ez,_,rfl,_,rfl,Zz1,fun pl npl=>?_⟩
    have Sa:=zc (o:=.lst [.int (0+(i:Int))]) npl
    have ka:(upd H10 pl (.lst [.int (0+(i:Int))])) pl=some (.lst [.int (0+(i:Int))]):=zd
    have hlw11:=Sa _ _ hlw10
    generalize upd H10 pl (.lst [.int (0+(i:Int))])=H11 at Sa ka hlw11
    refine I_4 lw pl _ _ ⟨rfl,rfl,hlw11,ka,by rw [nl,ke];exact km (show _<=200 by simp;omega) (by decide),fun pc npc=>⟨Zz2,fun tq ntq=>?_⟩⟩
    have Sb:=zc (o:=.lst (nums wy++[.int (0+(i:Int))])) npc
    have kb:(upd H11 pc (.lst (nums wy++[.int (0+(i:Int))]))) pc=some (.lst (nums (wy++[i]))):=by
     rw [zd,nl]
     unfold nums
     rw [kC,uI]
     rfl
    have c1:pc≠la:=(zO (Sa _ _ hla10) npc).symm
    have c2:pc≠lf:=(zO (Sa _ _ hlf10) npc).symm
    generalize upd H11 pc (.lst (nums wy++[.int (0+(i:Int))]))=H12 at Sb kb ntq
    have Sc:=zc (o:=.tup [y,.ref pc]) ntq
    have kc:(upd H12 tq (.tup [y,.ref pc])) tq=some (.tup [y,.ref pc]):=zd
    have kb:=Sc _ _ kb
    generalize upd H12 tq (.tup [y,.ref pc])=H13 at Sc kc kb
    have S13:=Sa.trans (Sb.trans Sc)
    have hla13:=S13 _ _ hla10
    refine ⟨la,_,_,rfl,rfl,hla13,vi (show us10.length<=300 by omega) (by decide),?_⟩
    have gq:∃ n,Good qs[i] n:=hG.mem _ (vF hiq)
    have wn:(wy++[i]).length<=100:=by
     have:=(hway.snoc eq1).len
     omega
    have kn13:KnAt H H13 la lf t (.ref tq) qs[i]:=⟨tq,y,pc,wy++[i],rfl,kc,hAy,kb,c1,c2,hway.snoc eq1,wn,gq⟩
    refine ⟨us10++[.ref tq],_,rfl,zU (S10.trans S13) fla,by rw [zp nn];exact S13 _ _ hlf10,zd,by rw [zp d1];exact S13 _ _ hlw10,?_,fun f hf=>((hF10 f hf).imp fun p z=>(z.same S13).updA hla13)⟩
    rw [<- kz hiq,<- vZ]
    exact Paired.snoc (xf.imp (fun _ _ z=>KnAt.updA hla13 (z.same S13)) hP10) (kn13.updA hla13)
   ·intro σ H10 h8
    refine E_2 h8 fun us10 o5 n8=>A_7 n8 fun e9 S10 hlf10 hla10 hlw10 hP10 hF10=>?_;clear n8 h8;subst e9
    rw [lq,kO] at hP10
    exact ⟨_,by rw [yQ,lsz];omega,us10,_,_,_,_,_,rfl,rfl,S10,hlf10,hla10,hP10,hF10,by rw [lfs,yQ];omega,by omega⟩
end
inductive Chain (H H3:Hp) (t:T):List V->T->Prop where
 | nil:Chain H H3 t [] t
 | snoc {us:List V} {a:Addr} {v:V} {kd:Str} {ps:List T} {k:Nat} {c:T} (r:Chain H H3 t us (.tup [.str kd,.tup ps])) (e:H3 a=some (.tup [v,.int k])) (h:At H v (.tup [.str kd,.tup ps])) (g:ps[k]?=some c):Chain H H3 t (us++[.ref a]) c
theorem Chain.imp {H H3 H4:Hp} {t:T} (f:∀ a xs,H3 a=some (.tup xs)->H4 a=some (.tup xs)):∀ {us:List V} {c:T},Chain H H3 t us c->Chain H H4 t us c
 | _,_,.nil=>.nil
 | _,_,.snoc r e h g=>.snoc (Chain.imp f r) (f _ _ e) h g
theorem Chain.inv {H H3:Hp} {t c:T} {l A:List V} {u:V} (h:Chain H H3 t l c) (e:l=A++[u]):∃ a v kd ps k,u=.ref a/\Chain H H3 t A (.tup [.str kd,.tup ps])/\H3 a=some (.tup [v,.int (k:Nat)])/\At H v (.tup [.str kd,.tup ps])/\ps[k]?=some c:=by
 cases h with
 | nil =>
  have:=congrArg List.length e
  simp at this
 | @snoc us a v kd ps k _ r e1 h g =>
  have e2:=congrArg List.reverse e
  rw [List.reverse_append,List.reverse_append,List.reverse_singleton,List.reverse_singleton] at e2
  injection e2 with e3 e4
  have e5:us=A:=List.reverse_inj.mp e4
  subst e5
  exact ⟨a,v,kd,ps,k,e3.symm,r,e1,h,g⟩
theorem Chain.top {H H3:Hp} {t c:T} {l:List V} (h:Chain H H3 t l c) (e:l=[]):c=t:=by
 cases h with
 | nil=>rfl
 | snoc _ _ _ _ =>
  have:=congrArg List.length e
  simp at this
theorem AtL.take {H:Hp}:∀ {vs:List V} {ts:List T} (k:Nat),AtL H vs ts->AtL H (vs.take k) (ts.take k)
 | _,_,0,_=>.nil
 | _,_,k+1,.nil=>.nil
 | _,_,k+1,.cons h r=>.cons h (AtL.take k r)
theorem AtL.drop {H:Hp}:∀ {vs:List V} {ts:List T} (k:Nat),AtL H vs ts->AtL H (vs.drop k) (ts.drop k)
 | _,_,0,h=>h
 | _,_,k+1,.nil=>.nil
 | _,_,k+1,.cons _ r=>AtL.drop k r
theorem WZ:∀ {ps:List T} {k:Nat} {c:T},ps[k]?=some c->szL ps=szL (ps.take k)+sz c+szL (ps.drop (k+1))
 | [],_,_,e=>by simp at e
 | p::ps,0,c,e=>by
  simp at e
  subst e
  simp only [List.take,List.drop,szL]
  omega
 | p::ps,k+1,c,e=>by
  have:=WZ (ps:=ps) (k:=k) (c:=c) (by simpa using e)
  simp only [List.take,List.drop,szL]
  omega
theorem Chain.sz {H H3:Hp} {t:T}:∀ {us:List V} {c:T},Chain H H3 t us c->sz c<=sz t
 | _,_,.nil=>kf _
 | _,_,.snoc (kd:=kd) (ps:=ps) r _ _ g=>by
  have:=r.sz
  have:=Yg g
  have:=yL kd ps
  omega
noncomputable def Qz:Sp:=fun vs H Q _=>∃ (x:V) (t p:T) (lw:Addr) (wy:List Nat) (u:V) (nw:T),vs=[x,.ref lw,u]/\At H x t/\H lw=some (.lst (nums wy))/\Way t wy p/\At H u nw/\sz t<=100/\sz nw<=200 /\
 ∀ (v:V) (r:T) (H':Hp),Same H H'->At H' v r->sz r<=sz t+sz nw->Q v H'
section
variable {P:Program} {w:World} {K:Frag} {mg:Str->Option Value} {base:Heap} {kA:Addr}
theorem wg:zC ["tree","way","new","above","here","k","made","knot"] ["tree","way","new"] (zg sPut):=by trivial
theorem zcP {f:Addr} {fd:FuncData} (F:Fun K "_law_put" "_law_put" sPut f fd) (trev:mg "reversed" = none):FnOk P w K mg base CX0 1 f fd ["tree","way","new"] Qz:=by
 refine F.ok wg (fun vs H Q E h=>?_) (fun cdv A outer s H vs Q E hr h=>?_)
 ·refine E_7 h fun x t p lw wy u nw n8=>A_2 n8 fun e9 _=>?_;clear n8 h;subst e9
  rfl
 ·refine E_7 h fun x t p lw wy u nw n8=>A_8 n8 fun e9 hA hlw hway hu hz hnz q=>?_;clear n8 h;subst e9
  refine ⟨_,(ze (zm (i:=3) wg.nd rfl (Or.inl rfl) (zE zb))
   (ze (zm (i:=4) wg.nd rfl (Or.inl rfl) (pv 0))
   (ze (yr PassesOwn.never rfl (ya (pv 1)) (zo (i:=5) wg.nd rfl (Or.inl rfl))
   (ze (zZ (yG kN vf vg ye (pv 3) (za (zN (za (pv 4) (za (pv 5) zb))) zb)))
    (zf (zm (i:=4) wg.nd rfl (Or.inl rfl) (zw zP (zw zP (pv 4) zh (fun _ _=>rfl)) (pv 5) (fun _ _=>rfl))))))
   (ze (zm (i:=6) wg.nd rfl (Or.inl rfl) (pv 2))
   (ze (yr PassesOwn.never rfl (Jj rfl trev (za (pv 3) zb)) (wB rfl (z8 (zo (i:=7) wg.nd rfl (Or.inl rfl)) (z8 (zo (i:=5) wg.nd rfl (Or.inl rfl)) xh)))
   (zf (zm (i:=6) wg.nd rfl (Or.inl rfl) (zN (za (zw zP (pv 7) zh (fun _ _=>rfl)) (za (zj WY (zj WY (yc jc (zw zP (pv 7) zh (fun _ _=>rfl)) yl (yg (pv 5))) (zN (za (pv 6) zb))) (yc jc (zw zP (pv 7) zh (fun _ _=>rfl)) (yg (zj zS (pv 5) zh)) yl)) zb))))))
   (zf (zn (pv 6)))))))),?_⟩
  refine ⟨Zz0,fun la nla=>?_⟩
  have S1:=zc (o:=.lst []) nla
  have h1:(upd H la (.lst [])) la=some (.lst []):=zd
  generalize upd H la (.lst [])=H1 at S1 h1
  have wl:=hway.len
  have ln:(nums wy).length=wy.length:=by unfold nums;rw [ke]
  dsimp only
  refine ⟨_,rfl,?_⟩
  refine ⟨_,rfl,lw,rfl,⟨_,SqL.of (S1 _ _ hlw)⟩,?_⟩
  refine xn (K:=K) (a:=lw) (xs:=nums wy) (fun i σ H2=>∃ (us:List V) (c:T) (v:V) (o5:Option V),σ=[some x,some (.ref lw),some u,some (.ref la),some v,o5,none,none]/\Same H H2/\H2 la=some (.lst us)/\us.length=i/\Chain H H2 t us c/\At H v c/\Way c (wy.drop i) p)
   ⟨[],t,x,none,rfl,S1,h1,rfl,.nil,hA,hway⟩ (fun i σ H2 _ h9=>by obtain ⟨_,_,_,_,_,S2,_⟩:=h9;exact (SqL.of (S2 _ _ hlw))) ?_ ?_
  ·intro i y σ H2 hi h8
   refine E_4 h8 fun us c v o5 n8=>A_7 n8 fun e9 S2 hla lus hC hv hW=>?_;clear n8 h8;subst e9
   obtain ⟨k,ek,rfl⟩ : ∃ k,wy[i]?=some k/\y=.int k:=by
    unfold nums at hi
    rw [va] at hi
    obtain ⟨k,ek,e⟩:=vA.mp hi
    exact ⟨k,ek,e.symm⟩
   obtain ⟨hil,ev⟩:=kg.mp ek
   rw [ud hil,ev] at hW
   refine E_3 hW fun kd ps c2 n8=>A_3 n8 fun e9 e2 hW2=>?_;clear n8 hW;subst e9
   refine zQ ?_
   refine ⟨_,rfl,.inl ⟨rfl,_,SqL.of hla⟩,_,rfl,_,rfl,Zz2,fun pq npq=>?_⟩
   have Sa:=zc (o:=.tup [v,.int k]) npq
   have ka:(upd H2 pq (.tup [v,.int k])) pq=some (.tup [v,.int k]):=zd
   have hla3:=Sa _ _ hla
   generalize upd H2 pq (.tup [v,.int k])=H3 at Sa ka hla3
   refine ⟨la,_,_,rfl,rfl,hla3,vi (show us.length<=100 by omega) (by decide),?_⟩
   have S4:Same H (upd H3 la (.lst (us++[.ref pq]))):=zU (S2.trans Sa) nla
   have hC4:Chain H (upd H3 la (.lst (us++[.ref pq]))) t (us++[.ref pq]) c2 :=
    .snoc (hC.imp fun a xs z=>by rw [zp (xy (Sa _ _ z) hla3 (by intro q;cases q))];exact Sa _ _ z) (by rw [zp (xy ka hla3 (by intro q;cases q))];exact ka) hv e2
   have hla4:(upd H3 la (.lst (us++[.ref pq]))) la=some (.lst (us++[.ref pq])):=zd
   generalize upd H3 la (.lst (us++[.ref pq]))=H4 at S4 hC4 hla4
   dsimp only
   cases hv with
   | @tup a0 vs0 ss e hL =>
   obtain ⟨b0,ws,rfl,eb,hQ⟩:=hL.knot
   obtain ⟨y2,ey,hAy⟩:=hQ.get' e2
   refine ⟨_,rfl,_,_,_,_,rfl,rfl,SqT.of (S4 _ _ e),rfl,_,rfl,_,_,_,_,rfl,rfl,SqT.of (S4 _ _ eb),yK ey,?_⟩
   exact I_4 _ c2 y2 _ ⟨rfl,S4,hla4,by rw [ki,lus];rfl,hC4,hAy,hW2⟩
  ·intro σ H2 h8
   refine E_4 h8 fun us c v o5 n8=>A_7 n8 fun e9 S2 hla lus hC hv hW=>?_;clear n8 h8;subst e9
   rw [ln] at lus
   rw [ln,List.drop_length] at hW
   dsimp only
   refine ⟨_,rfl,?_⟩
   refine ⟨_,rfl,la,us,rfl,SqL.of hla,?_⟩
   have el:∀ i,us.length-(i+1)=us.length-1-i:=fun i=>by omega
   refine zbh (K:=K) (a:=la) (xs:=us) (fun i σ H3=>∃ (c r:T) (m:V) (o5 o7:Option V),σ=[some x,some (.ref lw),some u,some (.ref la),some v,o5,some m,o7]/\Same H H3/\H3 la=some (.lst us)/\Chain H H3 t (us.take (us.length-i)) c/\At H3 m r/\sz r<=sz c+sz nw)
    ⟨c,nw,u,o5,none,rfl,S2,hla,by rw [Nat.sub_zero,kO];exact hC,hu.same S2,by omega⟩ (fun i σ H3 _ h9=>by obtain ⟨_,_,_,_,_,_,_,z,_⟩:=h9;exact (SqL.of z)) ?_ ?_
   ·intro i y σ H3 hi hy h8
    refine E_5 h8 fun c r m o5 o7 n8=>A_6 n8 fun e9 S3 hla3 hC3 hm hr3=>?_;clear n8 h8;subst e9
    obtain ⟨hil,ev⟩:=kg.mp hy
    have et:us.take (us.length-i)=us.take (us.length-(i+1))++[y]:=by
     rw [el,show us.length-i=(us.length-1-i)+1 by omega,<- kz hil,ev]
    obtain ⟨a,kv,kd,ps,k,rfl,hC4,ea,hk,ec⟩:=hC3.inv et
    have hk3:=hk
    cases hk with
    | @tup a0 vs0 ss e hL =>
    obtain ⟨b0,ws,rfl,eb,hQ⟩:=hL.knot
    have lq:=hQ.len
    have kl:=(kg.mp ec).1
    refine ⟨a,_,rfl,SqT.of ea,rfl,_,_,rfl,_,_,rfl,rfl,?_⟩
    have sc:=WZ ec
    have n1:=yL kd ps
    have cz:=hC3
    have c1:cutV ws none (some (k:Int))=ws.take k:=wU ws k (by omega)
    have c2:cutV ws (some ((k:Int)+1)) none=ws.drop (k+1):=yZ ws (k+1) (by omega)
    have lsm:ws.length<=1000000:=by
     have:=hC4.sz
     have:=y9 ps
     omega
    refine ⟨_,rfl,_,_,_,_,rfl,rfl,SqT.of (S3 _ _ e),rfl,_,rfl,_,_,_,_,rfl,rfl,SqT.of (S3 _ _ e),rfl,_,rfl,_,rfl,b0,ws,rfl,SqT.of (S3 _ _ eb),?_,fun p1 np1=>?_⟩
    ·rw [_HT.wm,_HT.xO]
     omega
    rw [c1]
    have Sa:=zc (o:=.tup (ws.take k)) np1
    have ka:(upd H3 p1 (.tup (ws.take k))) p1=some (.tup (ws.take k)):=zd
    generalize upd H3 p1 (.tup (ws.take k))=H4 at Sa ka
    refine ⟨_,rfl,Zz1,fun p2 np2=>?_⟩
    have Sb:=zc (o:=.tup [m]) np2
    have kb:(upd H4 p2 (.tup [m])) p2=some (.tup [m]):=zd
    have ka:=Sb _ _ ka
    generalize upd H4 p2 (.tup [m])=H5 at Sb kb ka
    refine JE ka kb (km (show _<=1000001 by rw [kH];simp;omega) (by decide)) fun r1 H6 Sc k6=>?_
    refine ⟨_,rfl,_,_,_,_,rfl,rfl,SqT.of (Sc _ _ (Sb _ _ (Sa _ _ (S3 _ _ e)))),rfl,_,rfl,_,_,rfl,rfl,_,rfl,b0,ws,rfl,SqT.of (Sc _ _ (Sb _ _ (Sa _ _ (S3 _ _ eb)))),?_,fun p3 np3=>?_⟩
    ·have z:=_HT.wm ws.length 0 (k+1)
     have z:_HT.sIx ws.length 0 (some ((k:Int)+1))=min (k+1) ws.length:=z
     rw [z]
     omega
    rw [c2]
    have Sd:=zc (o:=.tup (ws.drop (k+1))) np3
    have kd7:(upd H6 p3 (.tup (ws.drop (k+1)))) p3=some (.tup (ws.drop (k+1))):=zd
    have k6:=Sd _ _ k6
    generalize upd H6 p3 (.tup (ws.drop (k+1)))=H7 at Sd kd7 k6
    refine JE k6 kd7 (km (show _<=2000001 by rw [ki,kH,vq];simp;omega) (by decide)) fun r2 H8 Se k8=>⟨Zz2,fun p9 np9=>?_⟩
    have Sf:=zc (o:=.tup [.str kd,.ref r2]) np9
    have SS:Same H3 (upd H8 p9 (.tup [.str kd,.ref r2])):=Sa.trans (Sb.trans (Same.trans Sc (Sd.trans (Same.trans Se Sf))))
    have k9:(upd H8 p9 (.tup [.str kd,.ref r2])) p9=some (.tup [.str kd,.ref r2]):=zd
    have k8:=Sf _ _ k8
    generalize upd H8 p9 (.tup [.str kd,.ref r2])=H9 at SS k9 k8
    refine ⟨.tup [.str kd,.tup ps],.tup [.str kd,.tup (ps.take k++[r]++ps.drop (k+1))],.ref p9,_,_,rfl,S3.trans SS,SS _ _ hla3,hC4.imp fun a xs z=>SS _ _ z,?_,?_⟩
    ·exact .tup k9 (.cons (.str kd) (.cons (.tup k8 ((((hQ.take k).same (S3.trans SS)).app (.cons (hm.same SS) .nil)).app ((hQ.drop (k+1)).same (S3.trans SS)))) .nil))
    ·rw [yL,yL,yQ,yQ]
     simp only [szL]
     omega
   ·intro σ H3 h8
    refine E_5 h8 fun c r m o5 o7 n8=>A_6 n8 fun e9 S3 hla3 hC3 hm hr3=>?_;clear n8 h8;subst e9
    have e:=hC3.top (by rw [bD];rfl)
    subst e
    exact ⟨_,rfl,q m r H3 S3 hm hr3⟩
end
noncomputable def Th (b:Nat) (te:TE) (σ:St) (H0:Hp):Prop:=∀ (H:Hp) (Q:VK),Same H0 H->(∀ v t H',Same H H'->At H' v t->sz t<=b->Q v H')->te σ H Q
noncomputable def ThL (b n:Nat) (ta:TA) (σ:St) (H0:Hp):Prop:=∀ (H:Hp) (Q:List V->Hp->Prop),Same H0 H->(∀ vs ts H',Same H H'->AtL H' vs ts->szL ts<=b->ts.length=n->Q vs H')->ta σ H Q
noncomputable def ThA (B n:Nat) (ta:TA) (σ:St) (H0:Hp):Prop:=∀ (H:Hp) (Q:List V->Hp->Prop),Same H0 H->(∀ vs H',Same H H'->vs.length=n->(∀ v∈vs,∃ t,At H' v t/\sz t<=B)->Q vs H')->ta σ H Q
section
variable {σ:St} {H0:Hp} {te:TE} {ta:TA} {b c n B:Nat}
theorem th_c {v:V} {t:T} (h:∀ H,At H v t) (hb:sz t<=b):Th b (tC v) σ H0:=fun H Q S q=>q v t H (Same.refl _) (h H) hb
theorem qE {i:Int}:Th 1 (tC (.int i)) σ H0:=th_c (fun _=>.int i) (by simp only [sz];exact kf _)
theorem xp {x:Str}:Th 1 (tC (.str x)) σ H0:=th_c (fun _=>.str x) (by simp only [sz];exact kf _)
theorem JF:Th 1 (tC .non) σ H0:=th_c (fun _=>.non) (by simp only [sz];exact kf _)
theorem zaT {x:Bool}:Th 1 (tC (.bl x)) σ H0:=th_c (fun _=>.bl x) (by simp only [sz];exact kf _)
theorem ZM {i:Nat} {v:V} {t:T} (e:σ[i]?=some (some v)) (h:At H0 v t) (hb:sz t<=b):Th b (tVar i) σ H0:=fun H Q S q=>⟨v,e,q v t H (Same.refl _) (h.same S) hb⟩
theorem zcQ {i:Int}:Th 1 (tUn (rU fun i=>V.int (-i)) (tC (V.int i))) σ H0:=fun H Q S q=>⟨i,rfl,q _ (.int (-i)) H (Same.refl _) (.int _) (by simp only [sz];exact kf _)⟩
theorem QA {i:Nat} {m j:Int} {g:Int->Int->Int} (e:σ[i]?=some (some (.int m))):Th 1 (tOp (rI0 fun i j=>V.int (g i j)) (tVar i) (tC (.int j))) σ H0:=fun H Q S q=>⟨_,e,m,j,rfl,rfl,q _ (.int (g m j)) H (Same.refl _) (.int _) (by simp only [sz];exact kf _)⟩
theorem zcR:Th 1 (tOp (rI CPow fun i j=>V.int (i^j.toNat)) (tC (.int 10)) (tC (.int 30))) σ H0:=fun H Q S q=>⟨10,30,rfl,rfl,⟨by decide,by decide,by decide⟩,q _ (.int _) H (Same.refl _) (.int _) (by simp only [sz];exact kf _)⟩
theorem zcS:Th 1 Jd σ H0:=fun H Q S q p np=>q (.ref p) .dic _ (zc np) (.dic zd) (by simp only [sz];exact kf _)
theorem z5:ThL 0 0 tNil σ H0:=fun H Q S q=>q [] [] H (Same.refl _) .nil (kf _) rfl
theorem zD (h:Th b te σ H0) (r:ThL c n ta σ H0):ThL (b+c) (n+1) (yk te ta) σ H0:=fun H Q S q =>
 h H _ S fun v t H1 S1 a1 z1=>r H1 _ (S.trans S1) fun vs ts H2 S2 a2 z2 l2=>q (v::vs) (t::ts) H2 (S1.trans S2) (.cons (a1.same S2) a2) (by simp only [szL];omega) (by rw [kK,l2])
theorem yh (h:ThL b n ta σ H0) (hn:n<=100):Th (b+1) (tTup ta) σ H0:=fun H Q S q =>
 h H _ S fun vs ts H1 S1 a1 z1 l1=>⟨km (show vs.length<=100 by rw [a1.len];omega) (by decide),fun p np=>q (.ref p) (.tup ts) _ (S1.trans (zc np)) (.tup zd (a1.same (zc np))) (by simp only [sz];omega)⟩
theorem Wk (h:ThL b n ta σ H0) (hn:n<=100):Th 1 (tLst ta) σ H0:=fun H Q S q =>
 h H _ S fun vs ts H1 S1 a1 z1 l1=>⟨km (show vs.length<=100 by rw [a1.len];omega) (by decide),fun p np=>q (.ref p) .lst _ (S1.trans (zc np)) (.lst zd) (by simp only [sz];exact kf _)⟩
theorem zbP {K:Frag} {i:Nat} {a:Addr} {us:List V} (e:σ[i]?=some (some (.ref a))) (h:H0 a=some (.tup us)):Th 1 (tCB (fun xs H Q=>∃ p ys,xs=[.ref p]/\(SqL K H p ys\/SqT K H p ys)/\∀ l,H l=none->Q (.ref l) (upd H l (.lst ys))) (yk (tVar i) tNil)) σ H0:=fun H Q S q =>
 ⟨_,e,a,us,rfl,.inr (SqT.of (S _ _ h)),fun l nl=>q (.ref l) .lst _ (zc nl) (.lst zd) (by simp only [sz];exact kf _)⟩
theorem Wl:∀ (ts:List T) (k:Nat),szL (ts.take k)<=szL ts
 | _,0=>ve _
 | [],k+1=>kf _
 | t::ts,k+1=>by
  have:=Wl ts k
  simp only [List.take,szL]
  omega
theorem zcT {K:Frag} {i:Nat} {a:Addr} {us:List V} {ts:List T} (e:σ[i]?=some (some (.ref a))) (h:H0 a=some (.tup us)) (hL:AtL H0 us ts) (h2:2<=us.length) (hb:1+szL ts<=b):Th b (tSl (rSlT K) (tVar i) WD (zaI (tC (.int 1)))) σ H0:=fun H Q S q=>by
 refine ⟨_,e,1,rfl,a,us,rfl,SqT.of (S _ _ h),?_,fun p np=>?_⟩
 ·have z:_HT.sIx us.length us.length (some (1:Int))=min 1 us.length:=_HT.wm us.length us.length 1
  rw [z]
  omega
 ·have z:cutV us none (some (1:Int))=us.take 1:=wU us 1 (by omega)
  rw [z]
  refine q (.ref p) (.tup (ts.take 1)) _ (zc np) (.tup zd (((hL.take 1).same S).same (zc np))) ?_
  have:=Wl ts 1
  simp only [sz]
  omega
theorem jV:ThA B 0 tNil σ H0:=fun H Q S q=>q [] H (Same.refl _) rfl fun v hv=>(kW hv).elim
theorem zK (h:Th b te σ H0) (r:ThA B n ta σ H0) (hb:b<=B):ThA B (n+1) (yk te ta) σ H0:=fun H Q S q =>
 h H _ S fun v t H1 S1 a1 z1=>r H1 _ (S.trans S1) fun vs H2 S2 l2 all=>q (v::vs) H2 (S1.trans S2) (by rw [kK,l2]) fun u hu=>by
  rcases kY.mp hu with e | e
  ·rw [e]
   exact ⟨t,a1.same S2,km z1 hb⟩
  ·exact all u e
theorem zaB {D:Ends} {i:Nat} {u:TS} {H:Hp} (t:ThA B n ta σ H0) (S:Same H0 H) (hn:n<=100)
  (k:∀ l us H',Same H0 H'->H' l=some (.lst us)->us.length=n->(∀ v∈us,∃ t,At H' v t/\sz t<=B)->u D (σ.set i (some (.ref l))) H'):tSeq (tAsg (tLst ta) (z7 i)) u D σ H :=
 t H _ S fun vs H1 S1 l1 all=>⟨km (show vs.length<=100 by omega) (by decide),fun p np=>k p vs _ (S.trans (S1.trans (zc np))) zd l1 fun v hv=>(all v hv).imp fun t z=>⟨z.1.same (zc np),z.2⟩⟩
theorem Yi {D:Ends} {i:Nat} {u:TS} {H:Hp} {l0:Addr} {us0:List V} (e:σ[i]?=some (some (.ref l0))) (h0:H l0=some (.lst us0)) (n0:us0.length<=100) (all0:∀ v∈us0,∃ t,At H v t/\sz t<=B) (t:ThA B n ta σ H0) (S:Same H0 H) (hn:n<=100)
  (k:∀ l us H',Same H0 H'->H' l=some (.lst us)->us.length=us0.length+n->(∀ v∈us,∃ t,At H' v t/\sz t<=B)->u D (σ.set i (some (.ref l))) H'):tSeq (tAsg (tOp rCat (tVar i) (tLst ta)) (z7 i)) u D σ H :=
 ⟨_,e,t H _ S fun vs H1 S1 l1 all=>⟨km (show vs.length<=100 by omega) (by decide),fun p np=>⟨l0,p,us0,vs,rfl,rfl,zc np _ _ (S1 _ _ h0),zd,km (show us0.length+vs.length<=200 by omega) (by decide),fun r nr=>by
  have S2:=(zc (o:=.lst vs) np).trans (zc (o:=.lst (us0++vs)) nr)
  refine k r (us0++vs) _ (S.trans (S1.trans S2)) zd (by rw [ki,l1]) fun v hv=>?_
  rcases vc.mp hv with z | z
  ·exact (all0 v z).imp fun t z=>⟨z.1.same (S1.trans S2),z.2⟩
  ·exact (all v z).imp fun t z=>⟨z.1.same S2,z.2⟩⟩⟩⟩
end
noncomputable def Yj:Sp:=fun vs H Q _=>∃ (x:V) (p:T) (n:List Int) (many cell:Int),vs=[x,.int many,.int cell]/\At H x p/\Good p n /\
 ∀ (v:V) (t:T) (H':Hp),Same H H'->At H' v t->sz t<=sz p+10->Q v H'
noncomputable def Yk:Sp:=fun vs H Q _=>∃ (x:V) (t:T) (n:List Int) (cell:Int),vs=[x,.int cell]/\At H x t/\Good t n/\sz t<=100 /\
 ∀ (v:V) (r:T) (H':Hp),Same H H'->At H' v r->sz r<=300->Q v H'
section
variable {P:Program} {w:World} {K:Frag} {mg:Str->Option Value} {base:Heap} {kA:Addr}
theorem xA:zC ["here","many","cell","kind","parts","some"] ["here","many","cell"] (zg qp):=by trivial
theorem zaC {f:Addr} {fd:FuncData} (F:Fun K "_law_other" "_law_other" qp f fd) (Z:Nt K mg kA):FnOk P w K mg base CX0 1 f fd ["here","many","cell"] Yj:=by
 obtain ⟨gKIND,gPARTS,gMOST_BOXES,gKINDS,kk,ti,tint,tbool,tstr,ttup,tlist,tl,tany,ts,tr,kI,kB,kS,kT⟩:=Z
 refine F.ok xA (fun vs H Q E h=>?_) (fun cdv A outer s H vs Q E hr h=>?_)
 ·refine E_5 h fun x p n many cell n8=>A_2 n8 fun e9 _=>?_;clear n8 h;subst e9
  rfl
 ·refine E_5 h fun x p n many cell n8=>A_4 n8 fun e9 hA gp q=>?_;clear n8 h;subst e9
  refine ⟨_,(ze (zm (i:=3) xA.nd rfl (Or.inl rfl) zM)
   (ze (zm (i:=4) xA.nd rfl (Or.inl rfl) (zN (za (pv 0) (za (pv 1) zb))))
   (ze (zR (yi (zi yj (by rfl) ti kM (za (pv 0) (za (yU rfl ttup vE) zb))))
   (zf (qa (pv 0) (wB rfl (z8 (zo (i:=3) xA.nd rfl (Or.inl rfl)) (z8 (zo (i:=4) xA.nd rfl (Or.inl rfl)) xh)))))
   zL)
   (ze (zm (i:=5) xA.nd rfl (Or.inl rfl) (zE (za (zN (za (pv 3) (za (yc jc (pv 4) yl (yg zh)) zb))) (za (zN (za (pv 3) (za (zN zb) zb))) (za (zN (za zM (za (pv 4) zb))) (za (zN (za zM (za (pv 4) zb))) (za (zN (za zM (za (pv 4) zb))) (za (zN (za zM (za (pv 4) zb))) (za (zN (za zh (za (pv 4) zb))) (za (pv 1) zb))))))))))
   (ze (zm (i:=5) xA.nd rfl (Or.inl rfl) (zj yX (pv 5) (zE (za (zN (za yO (za (pv 4) zb))) (za (zN (za (pv 3) (za (wT jd rfl tlist uw (za (pv 4) zb)) zb))) (za (zN (za (pv 3) (za (pv 4) (za zh zb)))) (za (zE (za (pv 3) (za (pv 4) zb))) (za (zN zb) (za (zE zb) (za zM (za zM (za (xY xB zh) (za XI (za yO zb))))))))))))))
   (ze (zm (i:=5) xA.nd rfl (Or.inl rfl) (zj yX (pv 5) (zE (za yB (za yB (za (zN (za (pv 4) (za (pv 3) zb))) (za (zN (za (pv 3) (za zh zb))) (za (zN (za zM (za (pv 4) zb))) (za zh (za (zj wE (pv 1) zh) (za (zj zS (pv 1) zh) (za (zN (za zM (za (zN (za (pv 1) (za (zj zS (pv 1) zh) zb))) zb))) zb))))))))))))
   (ze (zm (i:=5) xA.nd rfl (Or.inl rfl) (zj yX (pv 5) (zE (za (zN (za zM (za (zN (za (pv 1) (za (pv 0) zb))) zb))) (za (zN (za (pv 1) zb)) (za (zN (za (pv 1) (za (pv 1) zb))) (za (zj zb3 zh zh) (za (zN (za (zE (za (pv 3) zb)) (za (pv 4) zb))) (za (zN (za zM (za (zN (za zM (za zM zb))) zb))) (za zh (za zh zb)))))))))))
   (zf (zn (zw zV (pv 5) (zj yt (pv 2) (zi zy (by rfl) tl kL (za (pv 5) zb))) (fun _ _=>rfl))))))))))),?_⟩
  refine run_seq (zY ?_)
  dsimp only
  refine ⟨_,rfl,_,rfl,Zz2,fun pt npt=>?_⟩
  have S1:=zc (o:=.tup [x,.int many]) npt
  have h1:(upd H pt (.tup [x,.int many])) pt=some (.tup [x,.int many]):=zd
  generalize upd H pt (.tup [x,.int many])=H1 at S1 h1
  dsimp only
  refine ZU (R:=fun σ H2=>∃ (kd:Str) (pa:Addr) (us:List V) (ts:List T),σ=[some x,some (.int many),some (.int cell),some (.str kd),some (.ref pa),none]/\Same H H2/\H2 pa=some (.tup us)/\AtL H2 us ts/\2<=us.length/\1+szL ts<=sz p+2) ?_ (fun k=>?_)
  ·intro σ H2 h8
   refine E_4 h8 fun kd pa us ts n8=>A_6 n8 fun e9 S2 hpa hL h2 hs=>?_;clear n8 h8;subst e9
   have tH:∀ σ:St,σ[0]?=some (some x)->Th (sz p) (tVar 0) σ H2:=fun σ e=>ZM e (hA.same S2) (kf _)
   have tM:∀ σ:St,σ[1]?=some (some (.int many))->Th 1 (tVar 1) σ H2:=fun σ e=>ZM e (.int many) (by simp only [sz];exact kf _)
   have tK:∀ σ:St,σ[3]?=some (some (.str kd))->Th 1 (tVar 3) σ H2:=fun σ e=>ZM e (.str kd) (by simp only [sz];exact kf _)
   have tP:∀ σ:St,σ[4]?=some (some (.ref pa))->Th (sz p+2) (tVar 4) σ H2:=fun σ e=>ZM e (.tup hpa hL) (by simp only [sz];exact hs)
   refine zaB (B:=sz p+10) (n:=8) (zK (yh (zD (tK _ rfl) (zD (zcT rfl hpa hL h2 hs) z5)) (by decide)) (zK (yh (zD (tK _ rfl) (zD (yh z5 (by decide)) z5)) (by decide)) (zK (yh (zD xp (zD (tP _ rfl) z5)) (by decide)) (zK (yh (zD xp (zD (tP _ rfl) z5)) (by decide)) (zK (yh (zD xp (zD (tP _ rfl) z5)) (by decide)) (zK (yh (zD xp (zD (tP _ rfl) z5)) (by decide)) (zK (yh (zD qE (zD (tP _ rfl) z5)) (by decide)) (zK (tM _ rfl) jV (by omega)) (by omega)) (by omega)) (by omega)) (by omega)) (by omega)) (by omega)) (by omega)) (Same.refl _) (by decide) fun l1 us1 H3 S3 e3 n3 a3=>?_
   refine Yi (B:=sz p+10) (n:=11) (H0:=H2) rfl e3 (by omega) a3 (zK (yh (zD JF (zD (tP _ rfl) z5)) (by decide)) (zK (yh (zD (tK _ rfl) (zD (zbP rfl hpa) z5)) (by decide)) (zK (yh (zD (tK _ rfl) (zD (tP _ rfl) (zD qE z5))) (by decide)) (zK (Wk (zD (tK _ rfl) (zD (tP _ rfl) z5)) (by decide)) (zK (yh z5 (by decide)) (zK (Wk z5 (by decide)) (zK xp (zK xp (zK zcQ (zK zcS (zK JF jV (by omega)) (by omega)) (by omega)) (by omega)) (by omega)) (by omega)) (by omega)) (by omega)) (by omega)) (by omega)) (by omega)) S3 (by decide) fun l2 us2 H4 S4 e4 n4 a4=>?_
   refine Yi (B:=sz p+10) (n:=9) (H0:=H2) rfl e4 (by omega) a4 (zK zaT (zK zaT (zK (yh (zD (tP _ rfl) (zD (tK _ rfl) z5)) (by decide)) (zK (yh (zD (tK _ rfl) (zD qE z5)) (by decide)) (zK (yh (zD xp (zD (tP _ rfl) z5)) (by decide)) (zK qE (zK (QA rfl) (zK (QA rfl) (zK (yh (zD xp (zD (yh (zD (tM _ rfl) (zD (QA rfl) z5)) (by decide)) z5)) (by decide)) jV (by omega)) (by omega)) (by omega)) (by omega)) (by omega)) (by omega)) (by omega)) (by omega)) (by omega)) S4 (by decide) fun l3 us3 H5 S5 e5 n5 a5=>?_
   refine Yi (B:=sz p+10) (n:=8) (H0:=H2) rfl e5 (by omega) a5 (zK (yh (zD xp (zD (yh (zD (tM _ rfl) (zD (tH _ rfl) z5)) (by decide)) z5)) (by decide)) (zK (yh (zD (tM _ rfl) z5) (by decide)) (zK (yh (zD (tM _ rfl) (zD (tM _ rfl) z5)) (by decide)) (zK zcR (zK (yh (zD (Wk (zD (tK _ rfl) z5) (by decide)) (zD (tP _ rfl) z5)) (by decide)) (zK (yh (zD xp (zD (yh (zD xp (zD xp z5)) (by decide)) z5)) (by decide)) (zK qE (zK qE jV (by omega)) (by omega)) (by omega)) (by omega)) (by omega)) (by omega)) (by omega)) (by omega)) S5 (by decide) fun l4 us4 H6 S6 e6 n6 a6=>?_
   have b0:=vH cell (show (us4.length:Int)≠0 by omega)
   have b1:=vL cell (show (0:Int)<us4.length by omega)
   obtain ⟨j,hj⟩:=vN b0
   have jl:j<us4.length:=by omega
   refine ⟨_,rfl,_,rfl,_,rfl,_,_,rfl,.inl (SqL.of e6),_,_,rfl,rfl,by omega,_,_,_,us4[j],rfl,rfl,SqL.of e6,by rw [hj];exact yK (kh jl),?_⟩
   obtain ⟨t,ht,hs2⟩:=a6 _ (vF jl)
   exact q _ t H6 (S2.trans S6) ht hs2
  ·refine ⟨_,rfl,_,_,_,_,rfl,rfl,(hA.same S1).ty,kT p,_,rfl,?_⟩
   cases gp with
   | leaf i =>
    cases hA
    refine iteF (k _ _ ⟨"|",pt,[.int i,.int many],[.int i,.int many],rfl,S1,h1,.cons (.int i) (.cons (.int many) .nil),kf _,?_⟩)
    simp only [szL,sz]
    omega
   | @node kd qs nss hk h2 hn hG =>
    cases hA with
    | @tup a0 vs0 ss e hL =>
    obtain ⟨b0,ws,rfl,e2,hQ⟩:=hL.knot
    have lq:=hQ.len
    have nsz:=yL kd qs
    refine iteT ⟨_,rfl,a0,_,rfl,SqT.of (S1 _ _ e),rfl,_,_,rfl,_,_,rfl,rfl,?_⟩
    exact k _ _ ⟨kd,b0,ws,qs,rfl,S1,S1 _ _ e2,hQ.same S1,by omega,by omega⟩
end
end _JF
namespace _L2
open PySem PySem.Spec PyProof.Rows PySem.W
end _L2
namespace _L2
open PySem PySem.Spec PyProof.Rows
open PySem.W
end _L2
namespace _JF
open PySem _L2 _Tre PySem.W
section
variable {P:Program} {w:World} {K:Frag} {mg:Str->Option Value} {base:Heap} {kA:Addr}
theorem jW:zC ["tree","cell","knots","here","way"] ["tree","cell"] (zg qr):=by trivial
theorem zaD {f fK fP fO:Addr} {fd dK dP dO:FuncData} (F:Fun K "_law_wrong" "_law_wrong" qr f fd) (tl:mg "len" = none) (Kn:Callee P w K mg base CX0 1 "_law_knots" fK dK ["tree"] Yh)
  (Pu:Callee P w K mg base CX0 1 "_law_put" fP dP ["tree","way","new"] Qz) (Ot:Callee P w K mg base CX0 1 "_law_other" fO dO ["here","many","cell"] Yj):FnOk P w K mg base CX0 2 f fd ["tree","cell"] Yk:=by
 refine F.ok jW (fun vs H Q E h=>?_) (fun cdv A outer s H vs Q E hr h=>?_)
 ·refine E_4 h fun x t n cell n8=>A_2 n8 fun e9 _=>?_;clear n8 h;subst e9
  rfl
 ·refine E_4 h fun x t n cell n8=>A_5 n8 fun e9 hA g hz q=>?_;clear n8 h;subst e9
  refine ⟨_,(ze (zm (i:=2) jW.nd rfl (Or.inl rfl) (zk Kn.ok (hr.mono (show 1<=1 by decide)) rfl Kn.bound Kn.kp Kn.bd .nil zG (za (pv 0) zb)))
   (ze (qa (zw zV (pv 2) (zj yt (zj xi (pv 1) zh) (zi zy (by rfl) tl kL (za (pv 2) zb))) (fun _ _=>rfl)) (wB rfl (z8 (zo (i:=3) jW.nd rfl (Or.inl rfl)) (z8 (zo (i:=4) jW.nd rfl (Or.inl rfl)) xh))))
   (zf (zn (zk Pu.ok (hr.mono (show 1<=1 by decide)) rfl Pu.bound Pu.kp Pu.bd .nil zG (za (pv 0) (za (pv 4) (za (zk Ot.ok (hr.mono (show 1<=1 by decide)) rfl Ot.bound Ot.kp Ot.bd .nil zG (za (pv 3) (za (zj xi (zj zS (zi zy (by rfl) tl kL (za (pv 2) zb)) zh) zh) (za (pv 1) zb)))) zb)))))))),?_⟩
  refine ⟨_,rfl,x,t,n,rfl,hA,g,hz,fun l us H1 S1 hl u0 u1 all=>?_⟩
  have b0:=vH (cell / 36) (show (us.length:Int)≠0 by omega)
  have b1:=vL (cell / 36) (show (0:Int)<us.length by omega)
  obtain ⟨j,hj⟩:=vN b0
  have jl:j<us.length:=by omega
  obtain ⟨a,v,lw,wy,p,ea,ht,hv,hlw,hway,np,gp⟩:=all _ (vF jl)
  dsimp only
  refine ⟨_,rfl,_,rfl,_,_,rfl,rfl,(show CDiv cell 36 from ⟨by decide,by decide⟩),_,rfl,_,_,rfl,.inl (SqL.of hl),_,_,rfl,rfl,by omega,_,_,_,us[j],rfl,rfl,SqL.of hl,by rw [hj];exact yK (kh jl),?_⟩
  rw [ea]
  refine ⟨a,_,rfl,SqT.of ht,rfl,_,_,rfl,_,_,rfl,rfl,?_⟩
  have wl:=hway.len
  refine ⟨_,rfl,_,rfl,_,rfl,_,rfl,_,_,rfl,.inl (SqL.of hl),_,_,rfl,rfl,_,_,rfl,rfl,(show CDiv _ 2 from ⟨by decide,by decide⟩),_,rfl,v,p,np,_,cell,rfl,hv.same S1,gp,fun u nw H2 S2 hu zu=>?_⟩
  exact I_7 x t p lw wy u nw ⟨rfl,(hA.same S1).same S2,S2 _ _ hlw,hway,hu,hz,by omega,fun v r H3 S3 hv zr=>q v r H3 (S1.trans (S2.trans S3)) hv (by omega)⟩
end
end _JF
namespace _L2
open PySem PySem.Spec PyProof.Rows PySem.W
section
variable {X:Cx} {es:List Expr} {te:TE} {t:TA}
theorem QB {a:Const} {b:Nat} {c:Pos} (ha:PE X (.Constant a b c) te) (hr:PA X es t):PA X (.Constant a b c::es) (yk te t):=za ha hr rfl
theorem zdt {a b:Expr} {o:Operator} {c:Pos} (ha:PE X (.BinOp a o b c) te) (hr:PA X es t):PA X (.BinOp a o b c::es) (yk te t):=za ha hr rfl
theorem zbQ {i:Nat} {x:Str} {es:List Expr} {te:TE} {p pos pos':Pos} (hN:X.N.Nodup) (hi:X.N[i]?=some x) (hx:Loc X.env.scope x) (he:PE X (.List es p) te) (hf:X.fn x=true\/X.env.scope.names.lookup x=some .local) :
  PS X (.Assign [.Name x pos'] (.List es p) pos) (tAsg te (z7 i)):=zm hN hi hx he rfl hf
theorem zdu {a:List Expr} {c:Pos} (ha:PE X (.List a c) te) (hr:PA X es t):PA X (.List a c::es) (yk te t):=za ha hr rfl
end
structure Bx (p:Prop):Prop where
 get:p
section
variable {X:Cx} {es:List Expr} {te:TE} {t:TA}
theorem xN:Bx (PA X [] tNil):=⟨zb⟩
theorem b_cC {a:Const} {b:Nat} {c:Pos} (ha:Bx (PE X (.Constant a b c) te)) (hr:Bx (PA X es t)):Bx (PA X (.Constant a b c::es) (yk te t)):=⟨QB ha.get hr.get⟩
theorem b_cB {a b:Expr} {o:Operator} {c:Pos} (ha:Bx (PE X (.BinOp a o b c) te)) (hr:Bx (PA X es t)):Bx (PA X (.BinOp a o b c::es) (yk te t)):=⟨zdt ha.get hr.get⟩
theorem zcU {i:Nat} {x:Str} {p pos pos':Pos} (hN:X.N.Nodup) (hi:X.N[i]?=some x) (hx:Loc X.env.scope x) (he:Bx (PA X es t)) (hf:X.fn x=true\/X.env.scope.names.lookup x=some .local) :
  Bx (PS X (.Assign [.Name x pos'] (.List es p) pos) (tAsg (tLst t) (z7 i))):=⟨zbQ hN hi hx (zE he.get) hf⟩
theorem JG {st:Stmt} {rest:List Stmt} {t u:TS} (h1:Bx (PS X st t)) (h2:Bx (PSs X rest u)):Bx (PSs X (st::rest) (tSeq t u)):=⟨ze h1.get h2.get⟩
end
end _L2
namespace _L2
open PySem
section
variable {X:Cx} {es:List Expr} {te:TE} {t:TA}
theorem b_cL {a:List Expr} {c:Pos} (ha:Bx (PE X (.List a c) te)) (hr:Bx (PA X es t)):Bx (PA X (.List a c::es) (yk te t)):=⟨zdu ha.get hr.get⟩
theorem wj {pos:Pos} (h:Bx (PA X es t)):Bx (PE X (.List es pos) (tLst t)):=⟨zE h.get⟩
theorem zaE {i j:Nat} {x y:Str} {p pos pos' p2 p3:Pos} (hN:X.N.Nodup) (hi:X.N[i]?=some x) (hx:Loc X.env.scope x) (hv:PE X (.Name y p3) (tVar j)) (he:Bx (PA X es t)) (hs:swapsWith (.BinOp (.Name y p3) .Add (.List es p) p2) (some (.Name x pos')) pos.line X.env=pure false) (hf:X.fn x=true\/X.env.scope.names.lookup x=some .local) :
  Bx (PS X (.Assign [.Name x pos'] (.BinOp (.Name y p3) .Add (.List es p) p2) pos) (tAsg (tOp rCat (tVar j) (tLst t)) (z7 i))):=⟨zm hN hi hx (zj yX hv (zE he.get)) hs hf⟩
end
end _L2
namespace _JF
open PySem _L2 _Lin _Tre PySem.W
noncomputable def Rf (v:V):Prop:=y6 v=true\/∃ p,v=.ref p
noncomputable def Bt (te:TE) (σ:St) (H0:Hp):Prop:=∀ (H:Hp) (Q:VK),Same H0 H->(∀ v H',Same H H'->JT H' v false->Rf v->Q v H')->te σ H Q
noncomputable def Bts (n:Nat) (ta:TA) (σ:St) (H0:Hp):Prop:=∀ (H:Hp) (Q:List V->Hp->Prop),Same H0 H->(∀ vs H',Same H H'->vs.length=n->(∀ v∈vs,JT H' v false/\Rf v)->Q vs H')->ta σ H Q
noncomputable def Wd (b:Bool) (te:TE) (σ:St) (H0:Hp):Prop:=∀ (H:Hp) (Q:VK),Same H0 H->(∀ v H',Same H H'->JW H' v b->Q v H')->te σ H Q
noncomputable def Wds (bs:List Bool) (ta:TA) (σ:St) (H0:Hp):Prop:=∀ (H:Hp) (Q:List V->Hp->Prop),Same H0 H->(∀ vs H',Same H H'->JWs H' vs bs->Q vs H')->ta σ H Q
section
variable {σ:St} {H0:Hp} {te tk:TE} {ta:TA} {n:Nat} {b:Bool} {bs:List Bool}
theorem W0:Bts 0 tNil σ H0:=fun H Q _ q=>q [] H (Same.refl _) rfl fun v hv=>(nomatch hv)
theorem yx (h:Bt te σ H0) (r:Bts n ta σ H0):Bts (n+1) (yk te ta) σ H0:=fun H Q S q =>
 h H _ S fun v H1 S1 a1 f1=>r H1 _ (S.trans S1) fun vs H2 S2 l2 a2=>q (v::vs) H2 (S1.trans S2) (by rw [kK,l2]) fun u hu=>(kY.mp hu).elim (fun e=>e ▸ ⟨a1.same S2,f1⟩) (a2 u)
theorem bt_c {v:V} (h:∀ H,NoL H v) (f:y6 v=true):Bt (tC v) σ H0:=fun H Q _ q=>q v H (Same.refl _) (.inr ⟨rfl,h H⟩) (.inl f)
theorem wd_s {x:Str} (l:W) (e:x=txt l) (asc:∀ c∈l,c<128) (len:l.length<=1000):Wd (isW l) (tC (.str x)) σ H0:=fun H Q _ q=>q _ H (Same.refl _) (.inl ⟨l,by rw [e],asc,len,rfl⟩)
theorem wd_n {v:V} (h:∀ H,NoS H v):Wd false (tC v) σ H0:=fun H Q _ q=>q v H (Same.refl _) (.inr ⟨rfl,h H⟩)
theorem zcV {x:Str} (e:x=txt [97]):Wd false (tOp (fun x y H Q=>∃ (c:Nat) (n:Int),x=.str (txt [c])/\y=.int n/\0<=n/\n<=1000000/\Q (.str (txt (vp n.toNat c))) H) (tC (.str x)) (tC (.int 13))) σ H0:=fun H Q _ q =>
 ⟨97,13,by rw [e],rfl,by decide,by decide,q _ H (Same.refl _) (.inl ⟨vp 13 97,rfl,by decide,by decide,by decide +kernel⟩)⟩
theorem xk:Wds [] tNil σ H0:=fun H Q _ q=>q [] H (Same.refl _) .nil
theorem yJ (h:Wd b te σ H0) (r:Wds bs ta σ H0):Wds (b::bs) (yk te ta) σ H0:=fun H Q S q =>
 h H _ S fun v H1 S1 a1=>r H1 _ (S.trans S1) fun vs H2 S2 a2=>q (v::vs) H2 (S1.trans S2) (.cons (a1.same S2) a2)
theorem wd_l (h:Wds bs ta σ H0) (hn:bs.length<=100):Wd false (tLst ta) σ H0:=fun H Q S q =>
 h H _ S fun vs H1 S1 a1=>⟨km (show vs.length<=100 by rw [a1.len];exact hn) (by decide),fun p np=>q (.ref p) _ (S1.trans (zc np)) (.inr ⟨rfl,.lst zd⟩)⟩
theorem bt_l (h:Wds bs ta σ H0) (hb:bs.all id=false) (hn:bs.length<=100):Bt (tLst ta) σ H0:=fun H Q S q =>
 h H _ S fun vs H1 S1 a1=>⟨km (show vs.length<=100 by rw [a1.len];exact hn) (by decide),fun p np=>q (.ref p) _ (S1.trans (zc np)) (.inl ⟨p,vs,bs,rfl,zd,a1.same (zc np),by rw [a1.len];omega,by rw [hb];rfl⟩) (.inr ⟨p,rfl⟩)⟩
theorem W1 {H:Hp} {v:V} {b:Bool} (h:JW H v b):∀ k:Nat,JWs H (vp k [v]).flatten (vp k b)
 | 0=>.nil
 | k+1=>.cons h (W1 h k)
theorem JH {m:Int} (h:Wds [b] ta σ H0) (hk:∀ H Q,Q (.int m) H->tk σ H Q) (m1:41<=m) (m2:m<=200):Bt (tOp rRep (tLst ta) tk) σ H0:=fun H Q S q =>
 h H _ S fun vs H1 S1 a1=>by
  have lv:=a1.len
  refine ⟨km (show vs.length<=100 by rw [lv];show 1<=100;decide) (by decide),fun p np=>?_⟩
  have S2:=zc (o:=.lst vs) np
  have hp:upd H1 p (.lst vs) p=some (.lst vs):=zd
  have a2:=a1.same S2
  generalize upd H1 p (.lst vs)=H2 at S2 hp a2
  obtain ⟨v,rfl,hv⟩ : ∃ v,vs=[v]/\JW H2 v b:=by
   cases a2 with
   | cons r t=>cases t;exact ⟨_,rfl,r⟩
  refine hk _ _ ⟨p,m,[v],rfl,rfl,hp,by omega,by omega,?_,fun p2 np2=>?_⟩
  ·rw [kU,Nat.one_mul]
   exact km (show m.toNat<=200 by omega) (by decide)
  ·have S3:=zc (o:=.lst (vp m.toNat [v]).flatten) np2
   refine q (.ref p2) _ (S1.trans (S2.trans S3)) (.inl ⟨p2,_,_,rfl,zd,W1 (hv.same S3) m.toNat,?_,?_⟩) (.inr ⟨p2,rfl⟩)
   ·rw [len_rep,kU];omega
   ·rw [len_rep,kU,decide_eq_false (by omega),bE]
end
theorem zcW {D:Ends} {i:Nat} {u:TS} {σ:St} {H0 H:Hp} {ta:TA} {n:Nat} (t:Bts n ta σ H0) (S:Same H0 H) (hn:n<=100)
  (k:∀ l us H',Same H H'->H' l=some (.lst us)->us.length=n->(∀ v∈us,JT H' v false/\Rf v)->u D (σ.set i (some (.ref l))) H'):tSeq (tAsg (tLst ta) (z7 i)) u D σ H :=
 t H _ S fun vs H1 S1 l1 a1=>⟨km (show vs.length<=100 by omega) (by decide),fun p np=>k p vs _ (S1.trans (zc np)) zd l1 fun v hv=>⟨(a1 v hv).1.same (zc np),(a1 v hv).2⟩⟩
theorem zcX {D:Ends} {i:Nat} {u:TS} {σ:St} {H0 H:Hp} {ta:TA} {n m:Nat} {l0:Addr} {vs0:List V} (e:σ[i]?=some (some (.ref l0))) (h0:H l0=some (.lst vs0)) (n0:vs0.length=m) (a0:∀ v∈vs0,JT H v false/\Rf v) (t:Bts n ta σ H0) (S:Same H0 H) (hn:m+n<=100)
  (k:∀ l us H',Same H H'->H' l=some (.lst us)->us.length=m+n->(∀ v∈us,JT H' v false/\Rf v)->u D (σ.set i (some (.ref l))) H'):tSeq (tAsg (tOp rCat (tVar i) (tLst ta)) (z7 i)) u D σ H :=
 ⟨_,e,t H _ S fun vs H1 S1 l1 a1=>⟨km (show vs.length<=100 by omega) (by decide),fun p np=>⟨l0,p,vs0,vs,rfl,rfl,zc np _ _ (S1 _ _ h0),zd,km (show vs0.length+vs.length<=200 by omega) (by decide),fun r nr=>by
  have S2:=(zc (o:=.lst vs) np).trans (zc (o:=.lst (vs0++vs)) nr)
  refine k r (vs0++vs) _ (S1.trans S2) zd (by rw [ki];omega) fun v hv=>?_
  rcases vc.mp hv with h | h
  ·exact ⟨(a0 v h).1.same (S1.trans S2),(a0 v h).2⟩
  ·exact ⟨(a1 v h).1.same S2,(a1 v h).2⟩⟩⟩⟩
theorem Wm {H:Hp}:∀ {xs:List V},(∀ v∈xs,JT H v true\/JT H v false)->∃ bs,JTs H xs bs
 | [],_=>⟨[],.nil⟩
 | x::r,h=>by
  obtain ⟨bs,j⟩:=Wm (xs:=r) fun v hv=>h v (kq _ hv)
  rcases h x kw with z | z
  ·exact ⟨_,.cons z j⟩
  ·exact ⟨_,.cons z j⟩
theorem W2 {H:Hp}:∀ {xs:List V},(∀ v∈xs,JT H v true\/JT H v false)->(∃ v∈xs,JT H v false)->∃ bs,JTs H xs bs/\bs.all id=false
 | [],_,⟨v,hv,_⟩=>(nomatch hv)
 | x::r,h,⟨v,hv,z⟩=>by
  rcases kY.mp hv with e | hv
  ·subst e
   obtain ⟨bs,j⟩:=Wm (xs:=r) fun u hu=>h u (kq _ hu)
   exact ⟨false::bs,.cons z j,rfl⟩
  ·obtain ⟨bs,j,e⟩:=W2 (xs:=r) (fun u hu=>h u (kq _ hu)) ⟨v,hv,z⟩
   rcases h x kw with y | y
   ·exact ⟨true::bs,.cons y j,by rw [bK,e];rfl⟩
   ·exact ⟨false::bs,.cons y j,rfl⟩
theorem W3 {H:Hp}:∀ {us:List V} {wss:List (List W)},Txs H us wss->∀ v∈us,JT H v true/\Rf v
 | _,_,.nil,v,hv=>(nomatch hv)
 | _,_,.cons h t,v,hv=>by
  rcases kY.mp hv with e | e
  ·subst e
   obtain ⟨a,e,_⟩:=id h
   exact ⟨h.jt,.inr ⟨a,e⟩⟩
  ·exact W3 t v e
noncomputable def Wp:Sp:=fun vs H Q _=>∃ (l:Addr) (us:List V) (wss:List (List W)) (cell:Int),vs=[.ref l,.int cell]/\H l=some (.lst us)/\Txs H us wss/\1<=wss.length/\wss.length<=24 /\
 ∀ (g:Addr) (xs:List V) (bs:List Bool) (H':Hp),Same H H'->H' g=some (.lst xs)->JTs H' xs bs->xs.length<=100->(∀ v∈xs,Rf v)->(xs.length≠wss.length\/bs.all id=false)->Q (.ref g) H'
section
variable {P:Program} {w:World} {K:Frag} {mg:Str->Option Value} {base:Heap}
theorem ZN:zC ["texts","cell","some","at"] ["texts","cell"] (zg jL):=by trivial
theorem zbR {f:Addr} {fd:FuncData} (F:Fun K "_law_bad_texts" "_law_bad_texts" jL f fd) (tl:mg "len" = none):FnOk P w K mg base CX0 1 f fd ["texts","cell"] Wp:=by
 refine F.ok ZN (fun vs H Q E h=>?_) (fun cdv A outer s H vs Q E hr h=>?_)
 ·refine E_4 h fun l us wss cell n8=>A_2 n8 fun e9 _=>?_;clear n8 h;subst e9
  rfl
 ·refine E_4 h fun l us wss cell n8=>A_6 n8 fun e9 hl hT n0 n24 q=>?_;clear n8 h;subst e9
  refine' ⟨?uu,?hb,?_⟩
  case hb =>
   suffices z:_L2.Bx (PSs _ _ ?uu) by
    cases z with
    | mk h=>exact h
   refine' JG ?b1 (JG ?b2 ?b3)
   case b1=>exact zcU (i:=2) ZN.nd rfl (Or.inl rfl) (b_cC ⟨yO⟩ (b_cC ⟨zh⟩ (b_cC ⟨yB⟩ (b_cC ⟨zM⟩ (b_cC ⟨zM⟩ (b_cL (wj (b_cC ⟨zM⟩ (b_cC ⟨zM⟩ xN))) (b_cL (wj (b_cC ⟨zM⟩ xN)) (b_cL (wj (b_cB ⟨zj za7 zM zh⟩ xN)) (b_cL (wj (b_cC ⟨zM⟩ (b_cC ⟨zh⟩ xN))) (b_cL (wj (b_cC ⟨yO⟩ xN)) (b_cL (wj (b_cC ⟨yB⟩ (b_cC ⟨zM⟩ xN))) (b_cL (wj (b_cL (wj (b_cC ⟨zM⟩ xN)) xN)) (b_cL (wj (b_cC ⟨zM⟩ xN)) xN))))))))))))) (Or.inr rfl)
   case b2=>exact zaE (i:=2) (j:=2) ZN.nd rfl (Or.inl rfl) (pv 2) (b_cB ⟨zj QT (zE (QB zM zb)) zh⟩ (b_cB ⟨zj QT (zE (QB zM zb)) (zj zS zh (zj yt (zj xi (pv 1) zh) zh))⟩ xN)) rfl (Or.inr rfl)
   case b3=>exact ⟨(ze (zm (i:=3) ZN.nd rfl (Or.inl rfl) (zj yt (zj xi (pv 1) zh) (zi zy (by rfl) tl kL (za (pv 0) zb))))
   (ze (zR (zF y4 (zj yt (pv 1) zh) zh (zJ _)) (zf (zn (zj yX (yc yP (pv 0) yl (yg (pv 3))) (yc yP (pv 0) (yg (zj zS (pv 3) zh)) yl)))) zL)
   (ze (zR (zF y4 (zj yt (pv 1) zh) zh (zJ _)) (zf (zn (zj yX (zj yX (yc yP (pv 0) yl (yg (pv 3))) (zE (za (zE (za zM zb)) zb))) (yc yP (pv 0) (yg (pv 3)) yl)))) zL)
   (ze (zR (zF y4 (zj yt (pv 1) zh) zh (zJ _)) (zf (zn (zj yX (pv 0) (zE (za (zE zb) zb))))) zL)
   (zf (zn (zj yX (zj yX (yc yP (pv 0) yl (yg (pv 3))) (zE (za (zw zV (pv 2) (zj yt (pv 1) zh) (fun _ _=>rfl)) zb))) (yc yP (pv 0) (yg (zj zS (pv 3) zh)) yl))))))))⟩
  have ea:("a" : Str)=txt [97]:=by decide +kernel
  have wa:∀ {σ:St} {H0:Hp},Wd true (tC (.str "a")) σ H0:=wd_s [97] ea (by decide) (by decide)
  have lu:=hT.len
  refine zcW (n:=13) (H0:=H) (yx (bt_c (fun _=>.non) rfl) (yx (bt_c (fun _=>.int _) rfl) (yx (bt_c (fun _=>.bl _) rfl) (yx (bt_c (fun _=>.str _) rfl) (yx (bt_c (fun _=>.str _) rfl)
   (yx (bt_l (yJ wa (yJ (wd_s [] (by decide +kernel) (by decide) (by decide)) xk)) (by decide) (by decide))
   (yx (bt_l (yJ (wd_s [97,32,98] (by decide +kernel) (by decide) (by decide)) xk) (by decide) (by decide))
   (yx (bt_l (yJ (zcV ea) xk) (by decide) (by decide))
   (yx (bt_l (yJ wa (yJ (wd_n fun _=>.int _) xk)) (by decide) (by decide))
   (yx (bt_l (yJ (wd_n fun _=>.non) xk) (by decide) (by decide))
   (yx (bt_l (yJ (wd_n fun _=>.bl _) (yJ wa xk)) (by decide) (by decide))
   (yx (bt_l (yJ (wd_l (yJ wa xk) (by decide)) xk) (by decide) (by decide))
   (yx (bt_l (yJ (wd_s [32] (by decide +kernel) (by decide) (by decide)) xk) (by decide) (by decide)) W0))))))))))))) (Same.refl _) (by decide) fun l1 us1 H1 S1 hl1 n1 a1=>?_
  have c0:=vH (cell / 18) (show (60:Int)≠0 by decide)
  have c1:=vL (cell / 18) (show (0:Int)<60 by decide)
  refine zcX (n:=2) (m:=13) (H0:=H1) rfl hl1 n1 a1 (yx (JH (m:=41) (yJ wa xk) (fun H Q z=>z) (by decide) (by decide)) (yx (JH (m:=42+cell / 18 % 60) (yJ (wd_s [98] (by decide +kernel) (by decide) (by decide)) xk) (fun H Q z=>⟨_,rfl,_,_,rfl,rfl,⟨by decide,by decide⟩,_,_,rfl,rfl,by show (0:Int)<60;decide,_,_,rfl,rfl,z⟩) (by omega) (by omega)) W0)) (Same.refl _) (by decide) fun l2 us2 H2 S2 hl2 n2 a2=>?_
  have S12:=S1.trans S2
  have hl':=S12 _ _ hl
  refine ⟨_,rfl,_,_,rfl,rfl,⟨by decide,by decide⟩,_,rfl,_,_,rfl,.inl (SqL.of hl'),_,_,rfl,rfl,by omega,?_⟩
  refine zQ ?_
  dsimp only
  have k0:=vH (cell / 18) (show (us.length:Int)≠0 by omega)
  have k1:=vL (cell / 18) (show (0:Int)<(us.length:Int) by omega)
  generalize cell / 18 % (us.length:Int)=at_ at k0 k1
  obtain ⟨k,rfl⟩:=vN k0
  have m0:=vH cell (show (18:Int)≠0 by decide)
  have m1:=vL cell (show (0:Int)<18 by decide)
  have all:=W3 (hT.same S12)
  have fin:∀ (g:Addr) (xs:List V) (H':Hp),Same H2 H'->H' g=some (.lst xs)->(∀ v∈xs,(JT H' v true\/JT H' v false)/\Rf v)->xs.length<=100->(xs.length≠us.length\/∃ v∈xs,JT H' v false)->Q (.ref g) H':=fun g xs H' S hg ha hn hb=>by
   rcases hb with z | z
   ·obtain ⟨bs,j⟩:=Wm fun v hv=>(ha v hv).1
    exact q g xs bs H' (S12.trans S) hg j hn (fun v hv=>(ha v hv).2) (.inl (by omega))
   ·obtain ⟨bs,j,e⟩:=W2 (fun v hv=>(ha v hv).1) z
    exact q g xs bs H' (S12.trans S) hg j hn (fun v hv=>(ha v hv).2) (.inr e)
  have fromU:∀ {H':Hp},Same H2 H'->∀ v∈us,(JT H' v true\/JT H' v false)/\Rf v:=fun S v hv=>⟨.inl ((all v hv).1.same S),(all v hv).2⟩
  have e1:cutV us none (some (k:Int))=us.take k:=wU us k (by omega)
  have e2:cutV us (some ((k:Int)+1)) none=us.drop (k+1):=yZ us (k+1) (by omega)
  have e3:cutV us (some (k:Int)) none=us.drop k:=yZ us k (by omega)
  refine ⟨_,rfl,_,_,rfl,rfl,by show (0:Int)<18;decide,rfl,_,rfl,?_⟩
  refine ite2 (fun c1=>?_) (fun c1=>?_)
  ·refine ⟨_,rfl,_,rfl,_,rfl,l,us,rfl,SqL.of hl',fun p1 m1=>?_⟩
   rw [e1]
   have T1:=zc (o:=.lst (us.take k)) m1
   have h1:upd H2 p1 (.lst (us.take k)) p1=some (.lst (us.take k)):=zd
   generalize upd H2 p1 (.lst (us.take k))=H3 at T1 h1
   refine ⟨_,rfl,_,rfl,_,_,rfl,rfl,_,rfl,l,us,rfl,SqL.of (T1 _ _ hl'),fun p2 m2=>?_⟩
   rw [e2]
   have T2:=zc (o:=.lst (us.drop (k+1))) m2
   have h2:upd H3 p2 (.lst (us.drop (k+1))) p2=some (.lst (us.drop (k+1))):=zd
   have h1:=T2 _ _ h1
   have T2:=T1.trans T2
   generalize upd H3 p2 (.lst (us.drop (k+1)))=H4 at T2 h2 h1
   refine I_4 p1 p2 _ _ ⟨rfl,rfl,h1,h2,km (show _<=1000 by rw [kH,vq];omega) (by decide),fun p3 m3=>?_⟩
   have T3:=T2.trans (zc (o:=.lst (us.take k++us.drop (k+1))) m3)
   refine fin p3 _ _ T3 zd (fun v hv=>fromU T3 v ?_) (by rw [ki,kH,vq];omega) (.inl (by rw [ki,kH,vq];omega))
   rcases vc.mp hv with h | h
   ·exact v8 h
   ·exact br h
  refine zY ?_
  dsimp only
  refine ⟨_,rfl,_,_,rfl,rfl,by show (0:Int)<18;decide,rfl,_,rfl,?_⟩
  refine ite2 (fun c2=>?_) (fun c2=>?_)
  ·refine ⟨_,rfl,_,rfl,_,rfl,l,us,rfl,SqL.of hl',fun p1 m1=>?_⟩
   rw [e1]
   have T1:=zc (o:=.lst (us.take k)) m1
   have h1:upd H2 p1 (.lst (us.take k)) p1=some (.lst (us.take k)):=zd
   generalize upd H2 p1 (.lst (us.take k))=H3 at T1 h1
   refine ⟨Zz1,fun p2 m2=>⟨Zz1,fun p3 m3=>?_⟩⟩
   have U1:=zc (o:=.lst [V.str "a"]) m2
   have U2:=zc (o:=.lst [V.ref p2]) m3
   have g2:=U2 _ _ (zd (H:=H3) (a:=p2) (o:=.lst [V.str "a"]))
   have g3:upd (upd H3 p2 (.lst [V.str "a"])) p3 (.lst [V.ref p2]) p3=some (.lst [V.ref p2]):=zd
   have h1:=(U1.trans U2) _ _ h1
   have T2:=T1.trans (U1.trans U2)
   generalize upd (upd H3 p2 (.lst [V.str "a"])) p3 (.lst [V.ref p2])=H4 at T2 g2 g3 h1
   refine I_4 p1 p3 _ _ ⟨rfl,rfl,h1,g3,km (show _<=1000 by rw [kH];show _+1<=1000;omega) (by decide),fun p4 m4=>?_⟩
   have U4:=zc (o:=.lst (us.take k++[V.ref p2])) m4
   have g4:upd H4 p4 (.lst (us.take k++[V.ref p2])) p4=some (.lst (us.take k++[V.ref p2])):=zd
   have g2:=U4 _ _ g2
   have T4:=T2.trans U4
   generalize upd H4 p4 (.lst (us.take k++[V.ref p2]))=H5 at T4 g4 g2
   refine ⟨_,rfl,_,rfl,_,rfl,l,us,rfl,SqL.of (T4 _ _ hl'),fun p5 m5=>?_⟩
   rw [e3]
   have U5:=zc (o:=.lst (us.drop k)) m5
   have g5:upd H5 p5 (.lst (us.drop k)) p5=some (.lst (us.drop k)):=zd
   have g4:=U5 _ _ g4
   have g2:=U5 _ _ g2
   have T5:=T4.trans U5
   generalize upd H5 p5 (.lst (us.drop k))=H6 at T5 g5 g4 g2
   refine I_4 p4 p5 _ _ ⟨rfl,rfl,g4,g5,km (show _<=1000 by rw [ki,kH,vq,kU];omega) (by decide),fun p6 m6=>?_⟩
   have U6:=zc (o:=.lst (us.take k++[V.ref p2]++us.drop k)) m6
   have T6:=T5.trans U6
   refine fin p6 _ _ T6 zd (fun v hv=>?_) (by rw [ki,ki,kH,vq,kU];omega) (.inl (by rw [ki,ki,kH,vq,kU];omega))
   rcases vc.mp hv with h | h
   ·rcases vc.mp h with h | h
    ·exact fromU T6 v (v8 h)
    ·rw [kD.mp h]
     exact ⟨.inl (.inl ⟨p2,_,[true],rfl,U6 _ _ g2,.cons (.inl ⟨[97],by rw [ea],by decide,by decide,rfl⟩) .nil,by decide,rfl⟩),.inr ⟨p2,rfl⟩⟩
   ·exact fromU T6 v (br h)
  refine zY ?_
  dsimp only
  refine ⟨_,rfl,_,_,rfl,rfl,by show (0:Int)<18;decide,rfl,_,rfl,?_⟩
  refine ite2 (fun c3=>?_) (fun c3=>?_)
  ·refine ⟨_,rfl,Zz0,fun p2 m2=>⟨Zz1,fun p3 m3=>?_⟩⟩
   have U1:=zc (o:=.lst []) m2
   have U2:=zc (o:=.lst [V.ref p2]) m3
   have g2:=U2 _ _ (zd (H:=H2) (a:=p2) (o:=.lst []))
   have g3:upd (upd H2 p2 (.lst [])) p3 (.lst [V.ref p2]) p3=some (.lst [V.ref p2]):=zd
   have T2:=U1.trans U2
   generalize upd (upd H2 p2 (.lst [])) p3 (.lst [V.ref p2])=H4 at T2 g2 g3
   refine I_4 l p3 _ _ ⟨rfl,rfl,T2 _ _ hl',g3,km (show _<=1000 by show _+1<=1000;omega) (by decide),fun p4 m4=>?_⟩
   have U4:=zc (o:=.lst (us++[V.ref p2])) m4
   have T4:=T2.trans U4
   refine fin p4 _ _ T4 zd (fun v hv=>?_) (by rw [ki,kU];omega) (.inl (by rw [ki,kU];omega))
   rcases vc.mp hv with h | h
   ·exact fromU T4 v h
   ·rw [kD.mp h]
    exact ⟨.inl (.inl ⟨p2,_,[],rfl,U4 _ _ g2,.nil,by decide,rfl⟩),.inr ⟨p2,rfl⟩⟩
  refine zY ?_
  dsimp only
  have d1:¬ cell % 18=15:=fun z=>c1 (decide_eq_true (by show V.int (cell % 18)=_;rw [z]))
  have d2:¬ cell % 18=16:=fun z=>c2 (decide_eq_true (by show V.int (cell % 18)=_;rw [z]))
  have d3:¬ cell % 18=17:=fun z=>c3 (decide_eq_true (by show V.int (cell % 18)=_;rw [z]))
  have m15:cell % 18<15:=by omega
  refine ⟨_,rfl,_,rfl,_,rfl,l,us,rfl,SqL.of hl',fun p1 m1'=>?_⟩
  rw [e1]
  have T1:=zc (o:=.lst (us.take k)) m1'
  have h1:upd H2 p1 (.lst (us.take k)) p1=some (.lst (us.take k)):=zd
  generalize upd H2 p1 (.lst (us.take k))=H3 at T1 h1
  obtain ⟨j,ej⟩:=vN m0
  have hj:us2[j]?=some (us2[j]'(by omega)):=kh (by omega)
  have hx:=a2 _ (vF (show j<us2.length by omega))
  generalize us2[j]'(by omega)=x at hj hx
  refine ⟨_,rfl,_,rfl,_,_,rfl,rfl,by show (0:Int)<18;decide,_,_,_,_,rfl,rfl,SqL.of (T1 _ _ hl2),(by rw [ej];exact yK hj),Zz1,fun p3 m3=>?_⟩
  have U3:=zc (o:=.lst [x]) m3
  have g3:upd H3 p3 (.lst [x]) p3=some (.lst [x]):=zd
  have h1:=U3 _ _ h1
  have T3:=T1.trans U3
  generalize upd H3 p3 (.lst [x])=H4 at T3 g3 h1
  refine I_4 p1 p3 _ _ ⟨rfl,rfl,h1,g3,km (show _<=1000 by rw [kH,kU];omega) (by decide),fun p4 m4=>?_⟩
  have U4:=zc (o:=.lst (us.take k++[x])) m4
  have g4:upd H4 p4 (.lst (us.take k++[x])) p4=some (.lst (us.take k++[x])):=zd
  have T4:=T3.trans U4
  generalize upd H4 p4 (.lst (us.take k++[x]))=H5 at T4 g4
  refine ⟨_,rfl,_,rfl,_,_,rfl,rfl,_,rfl,l,us,rfl,SqL.of (T4 _ _ hl'),fun p5 m5=>?_⟩
  rw [e2]
  have U5:=zc (o:=.lst (us.drop (k+1))) m5
  have g5:upd H5 p5 (.lst (us.drop (k+1))) p5=some (.lst (us.drop (k+1))):=zd
  have g4:=U5 _ _ g4
  have T5:=T4.trans U5
  generalize upd H5 p5 (.lst (us.drop (k+1)))=H6 at T5 g5 g4
  refine I_4 p4 p5 _ _ ⟨rfl,rfl,g4,g5,km (show _<=1000 by rw [ki,kH,vq,kU];omega) (by decide),fun p6 m6=>?_⟩
  have T6:=T5.trans (zc (o:=.lst (us.take k++[x]++us.drop (k+1))) m6)
  refine fin p6 _ _ T6 zd (fun v hv=>?_) (by rw [ki,ki,kH,vq,kU];omega) (.inr ⟨x,vt _ (kQ _ kw),hx.1.same T6⟩)
  rcases vc.mp hv with h | h
  ·rcases vc.mp h with h | h
   ·exact fromU T6 v (v8 h)
   ·rw [kD.mp h]
    exact ⟨.inr (hx.1.same T6),hx.2⟩
  ·exact fromU T6 v (br h)
end
end _JF
namespace _L2
open PySem PySem.Spec PyProof.Rows PySem.W
section
variable {X:Cx}
noncomputable def rNeS (K:Frag):R2:=fun x y H Q=>∃ (a c:Addr) (xs:List V),x=.ref a/\y=.ref c/\SqL K H a xs/\SqL K H c xs/\(∀ v∈xs,y6 v=true\/∃ p,v=.ref p)/\Q (.bl false) H
theorem zcY (hu:X.A.units+64<cLine):OpR X (compareOp .NotEq) (rNeS X.K):=by
 intro pins s σ H x y v u Q I rx ry h
 refine E_3 h fun a c xs n8=>A_6 n8 fun e9 n90 ha hc hv q=>?_;clear n8 h;subst e9;subst n90
 cases rx
 cases ry
 have fin:∀ {k:Bool},k=true->EP X pins σ Q (.bool (!k)) s:=fun z=>⟨.bl false,H,I,by rw [z];rfl,q⟩
 obtain ⟨i1,r1,p1,z1⟩:=I.list ha
 obtain ⟨i2,r2,p2,z2⟩:=I.list hc
 have l1:=r1.length
 have l2:=r2.length
 refine SeqAt.RcNeAt.lists (e:=fun _=>true) p1.isList p2.isList (by simp;omega) (by omega) (fun j h1 h2=>?_) _ _ _ _ (fin (vD.mpr fun _ _=>rfl))
 have h1':j<i1.length:=by simpa using h1
 have h2':j<i2.length:=by simpa using h2
 have a1:=yY r1 h1'
 have a2:=yY r2 h2'
 have m:xs.getD j .non∈xs:=by
  rw [kP,kh (show j<xs.length by omega)]
  exact vF _
 have key:SeqAt.EqAt X.A.in1 s (i1[j]'h1') (i2[j]'h2') true:=by
  rcases hv _ m with f | ⟨p,e⟩
  ·have:=Xn (A:=X.A.in1) (s:=s) a1 a2 f f
   rw [qL f] at this
   exact this
  ·rw [e] at a1 a2
   have b1:i1[j]'h1'=Value.ref p:=a1
   have b2:i2[j]'h2'=Value.ref p:=a2
   rw [b1,b2]
   exact SeqAt.EqAt.same _
 simpa using key
end
end _L2
namespace _L2
open PySem
theorem wY {X:Cx} {K:Frag} (hK:X.K=K):yM X (.builtin "isinstance") (fun xs H Q=>∃ x c t b,xs=[x,c]/\jy c=true/\TyX K H x t/\ky K t (clsV c)=some b/\Q (.bl b) H):=by
 subst hK
 exact yj
theorem QC {X:Cx} {K:Frag} (hK:X.K=K):yM X (.builtin "isinstance") (fun xs H Q=>∃ x p cs t b,xs=[x,.ref p]/\SqT K H p cs/\cs.all jy=true/\TyX K H x t/\bG K t (cs.map clsV)=some b/\Q (.bl b) H):=by
 subst hK
 exact Q0
theorem zbS {X:Cx} {K:Frag} {o e:Expr} {to:TE} {t:TA} {apos cpos:Pos} (hK:X.K=K) (ho:PE X o to) (ha:PA X [e] t)
  (hbase:attributeBase o "append" X.env (eval o X.env)=eval o X.env:=by rfl)
  (hfew:((backTo cpos (starEach [e] X.env)).all (fun x=>!x.1) && (backToKw cpos (keywordEach [] X.env)).all (fun x=>x.1.isSome)
   && decide ([e].length+([]:List Keyword).length+(if ([]:List Keyword).isEmpty then 0 else 1)<30))=true:=by rfl)
  (hline:(apos.endLine == cpos.line)=true:=by rfl) (hs:starEach [e] X.env=(false,eval e X.env)::starEach [] X.env:=by rfl) (hplain:(backTo cpos (starEach [] X.env)).any (·.1)=false:=by rfl) :
  PE X (.Call (.Attribute o "append" apos) [e] [] cpos) (tBM K "list" WF to t):=by
 subst hK
 exact yG kN vf vg ye ho ha hbase hfew hline hs hplain
theorem zbT {i:Nat} {CP:Addr->Prop} {tb:(Addr->St->Hp->Prop)->TS} {ts u:TS} {D:Ends} {σ:St} {H:Hp} (G:Addr->St->Hp->Prop)
  (hand:∀ C σ1 H1,G C σ1 H1->CP C/\∀ ea,H1 ea=none->ts {nx:=fun σ2 H2=>u D (σ2.set i none) H2,rt:=D.rt,bk:=fun σ2 H2=>D.bk (σ2.set i none) H2,ct:=fun σ2 H2=>D.ct (σ2.set i none) H2} (σ1.set i (some (.ref ea))) (upd H1 ea (.ext (yS ea C))))
  (body:∀ Ec:Addr->St->Hp->Prop,(∀ C σ1 H1,G C σ1 H1->Ec C σ1 H1)->tb Ec {D with nx:=u D} σ H):tSeq (tTry i CP tb ts) u D σ H:=body _ hand
end _L2
namespace _JF
open PySem _L2 _Lin _Tre PySem.W
open _Sta (R HasR yI)
structure jX (K:Frag) (C0 C1 C2 C3 C4 C5 C6 C7 C8 C9 C:Addr) (d:Nat):Prop where
 cE:xj K C
 up:mroIn K C (.ref C0)=some true
 k4:kitOne K (.ref C) (.ref C4)=some (decide (d=0))
 k6:kitOne K (.ref C) (.ref C6)=some (decide (d=1))
 k7:kitOne K (.ref C) (.ref C7)=some (decide (d=2))
 kv:kitOne K (.ref C) (.type "ValueError")=some true
 kA:kitAny K (.ref C) [.ref C5,.ref C9,.ref C1,.ref C2,.ref C3,.ref C8]=some false
structure Kinds (K:Frag) (mg:Str->Option Value) (C0 C1 C2 C3 C4 C5 C6 C7 C8 C9:Addr):Prop where
 m0:mg "PartError" = some (.ref C0)
 m1:mg "NoPage" = some (.ref C1)
 m2:mg "NoPicture" = some (.ref C2)
 m3:mg "NoPlace" = some (.ref C3)
 m4:mg "NoTree" = some (.ref C4)
 m5:mg "NoNeeds" = some (.ref C5)
 m6:mg "NoTexts" = some (.ref C6)
 m7:mg "NoRoom" = some (.ref C7)
 m8:mg "NoRow" = some (.ref C8)
 m9:mg "NoNumber" = some (.ref C9)
 mv:mg "ValueError" = none
 cP:xj K C0
 kT:jX K C0 C1 C2 C3 C4 C5 C6 C7 C8 C9 C4 0
 kX:jX K C0 C1 C2 C3 C4 C5 C6 C7 C8 C9 C6 1
 kR:jX K C0 C1 C2 C3 C4 C5 C6 C7 C8 C9 C7 2
theorem zbU:bootBuiltins "ValueError" = some (.type "ValueError"):=by decide +kernel
noncomputable def Fails (d:Nat):List V:=[.bl (decide (d=0)),.bl (decide (d=1)),.bl (decide (d=2)),.bl true,.bl false]
noncomputable def RefP (H:Hp) (y:V) (t:T) (d:Nat):Prop:=(d=1/\∃ (n:List Int) (a:Addr) (xs:List V) (bs:List Bool),zX t/\Good t n/\y=.ref a/\H a=some (.lst xs)/\JTs H xs bs/\xs.length<=1000/\(xs.length≠n.length\/bs.all id=false))\/(d=1/\zX t/\NoL H y)\/(d=0/\¬ zX t)
theorem RefP.same {H H':Hp} (S:Same H H') {y:V} {t:T} {d:Nat} (h:RefP H y t d):RefP H' y t d:=by
 rcases h with ⟨e,n,a,xs,bs,h1,h2,h3,h4,h5,h6⟩ | ⟨e,h1,h2⟩ | h
 ·exact .inl ⟨e,n,a,xs,bs,h1,h2,h3,S _ _ h4,h5.same S,h6⟩
 ·exact .inr (.inl ⟨e,h1,h2.same S⟩)
 ·exact .inr (.inr h)
theorem RefP.refd {C4 C6:Addr} {H:Hp} {y:V} {t:T} {d:Nat} {E:XK} (h:RefP H y t d) (k:∀ C,(d=0/\C=C4)\/(d=1/\C=C6)->∀ H',Same H H'->E (.ref C) none H'):Refd C4 C6 H y t E:=by
 rcases h with ⟨e,n,a,xs,bs,h1,h2,h3,h4,h5,h6,h7⟩ | ⟨e,h1,h2⟩ | ⟨e,h1⟩
 ·exact .inl ⟨n,a,xs,bs,h1,h2,h3,h4,h5,h6,h7,k C6 (.inr ⟨e,rfl⟩)⟩
 ·exact .inr (.inl ⟨h1,h2,k C6 (.inr ⟨e,rfl⟩)⟩)
 ·exact .inr (.inr ⟨h1,k C4 (.inl ⟨e,rfl⟩)⟩)
theorem W4 {K:Frag} {H:Hp} {a b:Addr} {xs:List V} (ha:H a=some (.lst xs)) (hb:H b=some (.lst xs)) (f:xs.all y6=true):EqR K H 1 (.ref a) (.ref b) true:=by
 refine Zh (EqR.lsts (n:=0) (e:=fun j=>eqV (xs.getD j .non) (xs.getD j .non)) (SqL.of ha) (SqL.of hb) rfl fun j hj=>?_) (vD.mpr fun j hj=>?_)
 ·have fj:y6 (xs.getD j .non)=true:=by
   rw [kP,kh hj]
   exact vD.mp f _ (vF hj)
  exact .flat fj fj
 ·have hj:j<xs.length:=vO.mp hj
  refine qL ?_
  rw [kP,kh hj]
  exact vD.mp f _ (vF hj)
noncomputable def qY:Sp:=fun vs H Q _=>∃ (way:Nat) (x y:V) (t:T) (wide high:Nat),vs=[.int way,x,y,.int wide,.int high]/\way<4/\At H x t/\sz t<=1000 /\
 ((∃ d,RefP H y t d/\∀ l H',Same H H'->H' l=some (.lst (Fails d))->Q (.ref l) H') \/
  (way=3/\∃ (n:List Int) (a:Addr) (xs:List V) (wss:List (List W)) (P:R),zX t/\Good t n/\y=.ref a/\H a=some (.lst xs)/\Txs H xs wss/\xs.length=n.length/\HasR (Lvs wss) t P /\
  ((∃ res,P wide high/\yI (Lvs wss) t ⟨0,0,wide,high⟩ res/\∀ l H',Same H H'->H' l=some (.lst [])->Q (.ref l) H')\/(¬ P wide high/\∀ l H',Same H H'->H' l=some (.lst (Fails 2))->Q (.ref l) H'))))
noncomputable def Wq:Sp:=fun vs H Q _=>∃ (x y:V) (t:T) (wide high d:Nat),vs=[x,y,.int wide,.int high,.int (d:Int)]/\At H x t/\sz t<=1000/\RefP H y t d/\∀ H',Same H H'->Q (.bl true) H'
section
variable {P:Program} {w:World} {K:Frag} {mg:Str->Option Value} {base:Heap}
theorem qZ:zC ["way","tree","texts","wide","high","kinds","e"] ["way","tree","texts","wide","high"] (zg wx):=by trivial
theorem JI {f fT fH fW fS C0 C1 C2 C3 C4 C5 C6 C7 C8 C9:Addr} {fd dT dH dW dS:FuncData} (F:Fun K "_law_caught" "_law_caught" wx f fd) (ti:mg "isinstance" = none) (Z:Kinds K mg C0 C1 C2 C3 C4 C5 C6 C7 C8 C9)
  (Ts:Callee P w K mg base (CXE P w) 28 "tree_stairs" fT dT ["tree","texts"] (ZF C4 C6)) (Lh:Callee P w K mg base (CXE P w) 29 "least_high" fH dH ["tree","texts","wide"] (spLh C4 C6)) (Lw:Callee P w K mg base (CXE P w) 29 "least_wide" fW dW ["tree","texts","high"] (Yc C4 C6)) (Se:Callee P w K mg base (CXE P w) 55 "setting" fS dS ["tree","texts","wide","high"] (Wj C4 C6 C7)) :
  FnOk P w K mg base CX0 56 f fd ["way","tree","texts","wide","high"] qY:=by
 refine F.ok qZ (fun vs H Q E h=>?_) (fun cdv A outer s H vs Q E hr h=>?_)
 ·refine E_6 h fun way x y t wide high n8=>A_2 n8 fun e9 _=>?_;clear n8 h;subst e9
  rfl
 ·revert h;intro n7;refine E_6 n7 fun way x y t wide high n8=>A_5 n8 fun e9 w4 hA hz h=>?_;clear n8 n7;subst e9
  refine ⟨_,ze (zm (i:=5) qZ.nd rfl (Or.inl rfl) (zE zb))
   (ze (zcd (i:=6) rfl rfl qZ.nd rfl rfl rfl Z.m0 Z.cP
    (fun pl Ec=>ze (zR (zF y4 (pv 0) zh (zJ _)) (zf (zZ (qJ Ts.ok (hr.mono (show 28<=55 by decide)) rfl Ts.bound Ts.kp Ts.bd .nil rfl (za (pv 1) (za (pv 2) zb))))) zL)
     (ze (zR (zF y4 (pv 0) zh (zJ _)) (zf (zZ (qJ Lh.ok (hr.mono (show 29<=55 by decide)) rfl Lh.bound Lh.kp Lh.bd .nil rfl (za (pv 1) (za (pv 2) (za (pv 3) zb)))))) zL)
     (ze (zR (zF y4 (pv 0) zh (zJ _)) (zf (zZ (qJ Lw.ok (hr.mono (show 29<=55 by decide)) rfl Lw.bound Lw.kp Lw.bd .nil rfl (za (pv 1) (za (pv 2) (za (pv 4) zb)))))) zL)
     (zf (zR (zF y4 (pv 0) zh (zJ _)) (zf (zZ (qJ Se.ok hr rfl Se.bound Se.kp Se.bd .nil rfl (za (pv 1) (za (pv 2) (za (pv 3) (za (pv 4) zb))))))) zL)))))
    (fun ee=>ze (zm (i:=5) qZ.nd rfl (Or.inl rfl) (zE (za (zi (wY (K:=K) rfl) (by rfl) ti kM (za (pv 6) (za (xD rfl Z.m4) zb))) (za (zi (wY (K:=K) rfl) (by rfl) ti kM (za (pv 6) (za (xD rfl Z.m6) zb))) (za (zi (wY (K:=K) rfl) (by rfl) ti kM (za (pv 6) (za (xD rfl Z.m7) zb))) (za (zi (wY (K:=K) rfl) (by rfl) ti kM (za (pv 6) (za (yU rfl Z.mv zbU) zb))) zb))))))
     (zf (zZ (zbS (K:=K) rfl (pv 5) (za (zi (QC (K:=K) rfl) (by rfl) ti kM (za (pv 6) (za (zN (za (xD rfl Z.m5) (za (xD rfl Z.m9) (za (xD rfl Z.m1) (za (xD rfl Z.m2) (za (xD rfl Z.m3) (za (xD rfl Z.m8) zb))))))) zb))) zb))))))
   (zf (zn (pv 5)))),?_⟩
  refine wq ⟨Zz0,fun l0 n0=>?_⟩
  have S0:=zc (o:=.lst []) n0
  have hl0:upd H l0 (.lst []) l0=some (.lst []):=zd
  generalize upd H l0 (.lst [])=H0 at S0 hl0
  refine zbT (G:=fun C σ1 H1=>∃ d,jX K C0 C1 C2 C3 C4 C5 C6 C7 C8 C9 C d/\σ1=[some (.int way),some x,some y,some (.int wide),some (.int high),some (.ref l0),none]/\Same H H1/\∀ l H',Same H H'->H' l=some (.lst (Fails d))->Q (.ref l) H') ?_ ?_
  ·intro C σ1 H1 h8
   obtain ⟨d,Zk,rfl,S1,q⟩:=h8
   refine ⟨Zk.up,fun ea hea=>?_⟩
   have SE:=zc (o:=.ext (yS ea C)) hea
   have hE:(upd H1 ea (.ext (yS ea C))) ea=some (.ext (yS ea C)):=zd
   generalize upd H1 ea (.ext (yS ea C))=H2 at SE hE ⊢
   refine wq ?_
   refine ⟨_,rfl,_,_,_,_,rfl,rfl,.exc hE Zk.cE,Zk.k4,?_⟩
   refine ⟨_,rfl,_,_,_,_,rfl,rfl,.exc hE Zk.cE,Zk.k6,?_⟩
   refine ⟨_,rfl,_,_,_,_,rfl,rfl,.exc hE Zk.cE,Zk.k7,?_⟩
   refine ⟨_,rfl,_,_,_,_,rfl,rfl,.exc hE Zk.cE,Zk.kv,Zz4,fun lk nk=>?_⟩
   have Sk:=zc (o:=.lst [.bl (decide (d=0)),.bl (decide (d=1)),.bl (decide (d=2)),.bl true]) nk
   have hK:(upd H2 lk (.lst [.bl (decide (d=0)),.bl (decide (d=1)),.bl (decide (d=2)),.bl true])) lk=some (.lst [.bl (decide (d=0)),.bl (decide (d=1)),.bl (decide (d=2)),.bl true]):=zd
   have hE3:=Sk _ _ hE
   generalize hH3:upd H2 lk (.lst [.bl (decide (d=0)),.bl (decide (d=1)),.bl (decide (d=2)),.bl true])=H3 at Sk hK hE3 ⊢
   refine ⟨_,rfl,.inl ⟨rfl,_,SqL.of hK⟩,_,rfl,Zz6,fun t1 nt1=>?_⟩
   have St:=zc (o:=.tup [.ref C5,.ref C9,.ref C1,.ref C2,.ref C3,.ref C8]) nt1
   refine I_5 _ _ _ _ _ ⟨rfl,SqT.of zd,rfl,.exc (St _ _ hE3) Zk.cE,Zk.kA,lk,_,_,rfl,rfl,St _ _ hK,by show 4<sizeLine;decide,?_⟩
   exact ⟨_,rfl,q lk _ (zU (S1.trans (SE.trans (Sk.trans St))) (S1.trans SE |>.free nk)) zd⟩
  ·intro Ec hE
   have no:∀ {i j:Int},i≠j->decide (V.int i=V.int j)=false:=fun h=>decide_eq_false fun z=>h (by injection z)
   have refuse:∀ {d:Nat} {H1:Hp},RefP H y t d->Same H H1->(∀ l H',Same H H'->H' l=some (.lst (Fails d))->Q (.ref l) H')->Refd C4 C6 H1 y t (fun c _ H2=>∃ C,c=.ref C/\Ec C [some (.int way),some x,some y,some (.int wide),some (.int high),some (.ref l0),none] H2):=fun {d H1} hR S q=>by
    refine (hR.same S).refd fun C hC H' S'=>⟨C,rfl,hE C _ H' ⟨d,?_,rfl,S.trans S',q⟩⟩
    rcases hC with ⟨rfl,rfl⟩ | ⟨rfl,rfl⟩
    ·exact Z.kT
    ·exact Z.kX
   rcases (show way=0\/way=1\/way=2\/way=3 by omega) with rfl | rfl | rfl | rfl
   ·rcases h with ⟨d,hR,q⟩ | ⟨e,_⟩
    ·refine ⟨_,rfl,rfl,_,rfl,iteT ?_⟩
     exact ⟨_,rfl,_,rfl,x,y,t,rfl,hA.same S0,hz,.inr (refuse hR S0 q)⟩
    ·cases e
   ·rcases h with ⟨d,hR,q⟩ | ⟨e,_⟩
    ·refine ⟨_,rfl,rfl,_,rfl,iteF ?_⟩
     refine zY ?_
     dsimp only
     refine ⟨_,rfl,rfl,_,rfl,iteT ?_⟩
     exact ⟨_,rfl,_,rfl,_,rfl,x,y,t,wide,rfl,hA.same S0,hz,.inr (refuse hR S0 q)⟩
    ·cases e
   ·rcases h with ⟨d,hR,q⟩ | ⟨e,_⟩
    ·refine ⟨_,rfl,rfl,_,rfl,iteF ?_⟩
     refine zY ?_
     dsimp only
     refine ⟨_,rfl,rfl,_,rfl,iteF ?_⟩
     refine zY ?_
     dsimp only
     refine ⟨_,rfl,rfl,_,rfl,iteT ?_⟩
     exact ⟨_,rfl,_,rfl,_,rfl,x,y,t,high,rfl,hA.same S0,hz,.inr (refuse hR S0 q)⟩
    ·cases e
   ·refine ⟨_,rfl,rfl,_,rfl,iteF ?_⟩
    refine zY ?_
    dsimp only
    refine ⟨_,rfl,rfl,_,rfl,iteF ?_⟩
    refine zY ?_
    dsimp only
    refine ⟨_,rfl,rfl,_,rfl,iteF ?_⟩
    refine zY ?_
    dsimp only
    refine ⟨_,rfl,rfl,_,rfl,iteT ?_⟩
    rcases h with ⟨d,hR,q⟩ | ⟨_,n,a,xs,wss,PP,iT,g,rfl,ha,hT,ln,hR,h⟩
    ·exact ⟨_,rfl,_,rfl,_,rfl,_,rfl,x,y,t,wide,high,rfl,hA.same S0,hz,.inr (refuse hR S0 q)⟩
    ·refine ⟨_,rfl,_,rfl,_,rfl,_,rfl,x,.ref a,t,wide,high,rfl,hA.same S0,hz,.inl ⟨n,a,xs,wss,PP,iT,g,rfl,S0 _ _ ha,hT.same S0,ln,hR,?_⟩⟩
     rcases h with ⟨res,h1,h2,q⟩ | ⟨h1,q⟩
     ·exact .inl ⟨res,h1,h2,fun l us pcs H' S' _ _ _ _ _=>⟨_,rfl,q l0 H' (S0.trans S') (S' _ _ hl0)⟩⟩
     ·exact .inr ⟨h1,fun H' S'=>⟨C7,rfl,hE _ _ _ ⟨2,Z.kR,rfl,S0.trans S',q⟩⟩⟩
theorem JJ:zC ["tree","texts","wide","high","due","way"] ["tree","texts","wide","high","due"] (zg jM):=by trivial
theorem zbV {f fC:Addr} {fd dC:FuncData} (F:Fun K "_law_all_refuse" "_law_all_refuse" jM f fd) (tr:mg "range" = none) (Ca:Callee P w K mg base CX0 56 "_law_caught" fC dC ["way","tree","texts","wide","high"] qY):FnOk P w K mg base CX0 57 f fd ["tree","texts","wide","high","due"] Wq:=by
 refine F.ok JJ (fun vs H Q E h=>?_) (fun cdv A outer s H vs Q E hr h=>?_)
 ·refine E_6 h fun x y t wide high d n8=>A_2 n8 fun e9 _=>?_;clear n8 h;subst e9
  rfl
 ·refine E_6 h fun x y t wide high d n8=>A_5 n8 fun e9 hA hz hR q=>?_;clear n8 h;subst e9
  refine ⟨_,(ze (yr PassesOwn.never rfl (xu rfl tr (za zh zb)) (zo (i:=5) JJ.nd rfl (Or.inl rfl))
   (zf (zR (zF (Zv hr.units) (zk Ca.ok hr rfl Ca.bound Ca.kp Ca.bd .nil zG (za (pv 5) (za (pv 0) (za (pv 1) (za (pv 2) (za (pv 3) zb)))))) (zE (za (y0 y4 (pv 4) zh (zJ _)) (za (y0 y4 (pv 4) zh (zJ _)) (za yB (za yB (za yB zb)))))) (zJ _))
    (zf (zn yB))
    zL)))
   (zf (zn yB))),?_⟩
  have d2:d<=1:=by
   rcases hR with ⟨e,_⟩ | ⟨e,_⟩ | ⟨e,_⟩<;>omega
  refine ⟨_,rfl,by decide,by decide,?_⟩
  refine xl (lo:=0) (n:=4) (fun i σ H1=>∃ o5:Option V,σ=[some x,some y,some (.int wide),some (.int high),some (.int (d:Int)),o5]/\Same H H1) ⟨none,rfl,Same.refl _⟩ ?_ ?_
  ·intro i σ H1 hi h8
   obtain ⟨o5,rfl,S1⟩:=h8
   rw [show (0:Int)+(i:Int)=(i:Int) from uI _]
   refine zQ ?_
   dsimp only
   refine ⟨_,rfl,_,rfl,_,rfl,_,rfl,_,rfl,i,x,y,t,wide,high,rfl,hi,hA.same S1,hz,.inl ⟨d,hR.same S1,fun l H2 S2 hl=>?_⟩⟩
   refine ⟨_,rfl,rfl,_,rfl,rfl,Zz5,fun l3 n3=>?_⟩
   have eL:[V.bl (decide (V.int (d:Int)=V.int 0)),V.bl (decide (V.int (d:Int)=V.int 1)),V.bl false,V.bl true,V.bl false]=Fails d:=by
    rcases (show d=0\/d=1 by omega) with rfl | rfl<;>rfl
   rw [eL]
   have S3:=zc (o:=.lst (Fails d)) n3
   have h3:upd H2 l3 (.lst (Fails d)) l3=some (.lst (Fails d)):=zd
   have hl:=S3 _ _ hl
   have S3:=S2.trans S3
   generalize upd H2 l3 (.lst (Fails d))=H3 at S3 h3 hl
   refine I_4 _ _ 1 _ ⟨rfl,rfl,W4 hl h3 rfl,by decide,_,rfl,iteF ?_⟩
   exact ⟨_,rfl,S1.trans S3⟩
  ·intro σ H1 h8
   obtain ⟨o5,rfl,S1⟩:=h8
   exact q H1 S1
end
end _JF
namespace _JF
open PySem _L2 _Lin _Tre PySem.W
open _Sta (R Ok HasR Low tr Pc yI Rm)
noncomputable def QD (K:Frag):Sp:=fun vs H Q _=>∃ (a:Addr) (ns:List Int),vs=[.ref a]/\SqL K H a (ns.map V.int)/\ns.length<=63/\∀ H',Q (.bl true) H'
noncomputable def Nls (n:Nat) (ta:TA) (σ:St) (H0:Hp):Prop:=∀ (H:Hp) (Q:List V->Hp->Prop),Same H0 H->(∀ vs H',Same H H'->vs.length=n->(∀ v∈vs,NoL H' v)->Q vs H')->ta σ H Q
theorem zbW {σ:St} {H0:Hp}:Nls 0 tNil σ H0:=fun H Q _ q=>q [] H (Same.refl _) rfl fun v hv=>(nomatch hv)
theorem xX {σ:St} {H0:Hp} {te:TE} {ta:TA} {n:Nat} (h:∀ (H:Hp) (Q:VK),Same H0 H->(∀ v H',Same H H'->NoL H' v->Q v H')->te σ H Q) (r:Nls n ta σ H0):Nls (n+1) (yk te ta) σ H0:=fun H Q S q =>
 h H _ S fun v H1 S1 a1=>r H1 _ (S.trans S1) fun vs H2 S2 l2 a2=>q (v::vs) H2 (S1.trans S2) (by rw [kK,l2]) fun u hu=>(kY.mp hu).elim (fun e=>e ▸ a1.same S2) (a2 u)
theorem nl_c {σ:St} {H0:Hp} {v:V} (h:∀ H,NoL H v):∀ (H:Hp) (Q:VK),Same H0 H->(∀ v H',Same H H'->NoL H' v->Q v H')->tC v σ H Q:=fun H Q _ q=>q v H (Same.refl _) (h H)
theorem zbX {K:Frag} {ta:TA} {n:Nat} {σ:St} {H:Hp} {g:TG} {tb u:TS} {D:Ends} (t:Nls n ta σ H) (hn:n<=100)
  (k:∀ l us H',Same H H'->H' l=some (.lst us)->us.length=n->(∀ v∈us,NoL H' v)->tFor (fun _ _ R=>R (Itl K l) H') g tb {D with nx:=u D} σ H'):tSeq (tFor (W7 K (tLst ta)) g tb) u D σ H :=
 t H _ (Same.refl _) fun vs H1 S1 l1 all=>⟨km (show vs.length<=100 by omega) (by decide),fun p np=>⟨p,rfl,⟨_,SqL.of zd⟩,k p vs _ (S1.trans (zc np)) zd l1 fun v hv=>(all v hv).same (zc np)⟩⟩
section
variable {P:Program} {w:World} {K:Frag} {mg:Str->Option Value} {base:Heap}
theorem xg:zC ["script","cells","tree","texts","heights","cell","wide","least","k","bad","handed","wrong","some","thing","high","kinds"] ["script"] (zg sLaw):=by trivial
theorem zcZ {f fCe fLt fSh fHt fMo fBt fAr fWr fIs fCa:Addr} {fd dCe dLt dSh dHt dMo dBt dAr dWr dIs dCa:FuncData} (F:Fun K "law" "law" sLaw f fd) (tl:mg "len" = none) (tr:mg "range" = none) (tmin:mg "min" = none) (ttup:mg "tuple" = none) (tlist:mg "list" = none) (Ce:Callee P w K mg base CX0 1 "_law_cell_at" fCe dCe ["script","k"] (qR K)) (Lt:Callee P w K mg base CX0 2 "_law_tree" fLt dLt ["cells"] Z2)
  (Sh:Callee P w K mg base CX0 2 "_law_short_texts" fSh dSh ["script","many"] (Z6 K)) (Ht:Callee P w K mg base CX0 26 "_law_heights" fHt dHt ["tree","texts","most"] (jR 24)) (Mo:Callee P w K mg base CX0 1 "_law_most" fMo dMo ["texts"] Z7) (Bt:Callee P w K mg base CX0 1 "_law_bad_texts" fBt dBt ["texts","cell"] Wp)
  (Ar:Callee P w K mg base CX0 57 "_law_all_refuse" fAr dAr ["tree","texts","wide","high","due"] Wq) (Wr:Callee P w K mg base CX0 2 "_law_wrong" fWr dWr ["tree","cell"] Yk) (Is:Callee P w K mg base CX0 2 "_law_is" fIs dIs ["thing"] spIs) (Ca:Callee P w K mg base CX0 56 "_law_caught" fCa dCa ["way","tree","texts","wide","high"] qY):FnOk P w K mg base CX0 58 f fd ["script"] (QD K):=by
 refine F.ok xg (fun vs H Q E h=>?_) (fun cdv A outer s H vs Q E hr h=>?_)
 ·refine E_2 h fun a ns n8=>A_2 n8 fun e9 _=>?_;clear n8 h;subst e9
  rfl
 ·refine E_2 h fun a ns n8=>A_4 n8 fun e9 hS h63 q=>?_;clear n8 h;subst e9
  refine ⟨_,(ze (zm (i:=1) xg.nd rfl (Or.inl rfl) (yc yP (pv 0) (yg zh) (yg (zj zS zh (zj yt (zk Ce.ok (hr.mono (show 1<=57 by decide)) rfl Ce.bound Ce.kp Ce.bd .nil zG (za (pv 0) (za zh zb))) zh)))))
   (ze (zm (i:=2) xg.nd rfl (Or.inl rfl) (zk Lt.ok (hr.mono (show 2<=57 by decide)) rfl Lt.bound Lt.kp Lt.bd .nil zG (za (pv 1) zb)))
   (ze (zm (i:=3) xg.nd rfl (Or.inl rfl) (zk Sh.ok (hr.mono (show 2<=57 by decide)) rfl Sh.bound Sh.kp Sh.bd .nil zG (za (pv 0) (za (zj zS (zi zy (by rfl) tl kL (za (pv 1) zb)) zh) zb))))
   (ze (zm (i:=4) xg.nd rfl (Or.inl rfl) (zk Ht.ok (hr.mono (show 26<=57 by decide)) rfl Ht.bound Ht.kp Ht.bd .nil zG (za (pv 2) (za (pv 3) (za (zk Mo.ok (hr.mono (show 1<=57 by decide)) rfl Mo.bound Mo.kp Mo.bd .nil zG (za (pv 3) zb)) zb)))))
   (ze (zm (i:=5) xg.nd rfl (Or.inl rfl) (zk Ce.ok (hr.mono (show 1<=57 by decide)) rfl Ce.bound Ce.kp Ce.bd .nil zG (za (pv 0) (za zh zb))))
   (ze (zm (i:=6) xg.nd rfl (Or.inl rfl) (zj zS zh (zj yt (zj xi (pv 5) zh) (zi zy (by rfl) tl kL (za (pv 4) zb)))))
   (ze (zm (i:=7) xg.nd rfl (Or.inl rfl) (zw zV (pv 4) (zi (QN rfl) (by rfl) tmin PyProof.Rows.boot_min (za (pv 6) (za (zj wE (zi zy (by rfl) tl kL (za (pv 4) zb)) zh) zb))) (fun _ _=>rfl)))
   (ze (yr PassesOwn.never rfl (xu rfl tr (za zh zb)) (zo (i:=8) xg.nd rfl (Or.inl rfl))
   (ze (zm (i:=9) xg.nd rfl (Or.inl rfl) (zk Bt.ok (hr.mono (show 1<=57 by decide)) rfl Bt.bound Bt.kp Bt.bd .nil zG (za (pv 3) (za (zj zS (zj xi (pv 5) zh) (pv 8)) zb))))
    (ze (xR (i:=10) (Nc:=["text"]) (ix:=[none]) xg.nd rfl (Or.inl rfl) rfl rfl (by refine' ya ?zz;case zz=>exact (pv 9)) (fun _ _ _ _ _=>(zo (i:=0) (by show (["text"]:List Str).Nodup;decide +kernel) rfl (Or.inl rfl))) (fun _ _ _ _ _=>yd) (fun _ _ _ _ _=>(pv 0)))
    (ze (zR (PW.pt (xE (yW (yi (zk Ar.ok hr rfl Ar.bound Ar.kp Ar.bd .nil zG (za (pv 2) (za (pv 10) (za (pv 6) (za (zj zS zh (zj yt (pv 5) zh)) (za zh zb)))))))) (xI (zF (zcY hr.units) (pv 10) (pv 9) (zJ _)))))
    (zf (zn yB))
    zL)
    (ze (zm (i:=11) xg.nd rfl (Or.inl rfl) (zk Wr.ok (hr.mono (show 2<=57 by decide)) rfl Wr.bound Wr.kp Wr.bd .nil zG (za (pv 2) (za (zj zS (pv 5) (zj Xk zh (pv 8))) zb))))
    (ze (zm (i:=12) xg.nd rfl (Or.inl rfl) (zw zV (zE (za (pv 9) (za (pv 3) zb))) (zj yt (pv 8) zh) (fun _ _=>rfl)))
    (zf (zR (PW.pt (w9 (yW (yi (zk Is.ok (hr.mono (show 2<=57 by decide)) rfl Is.bound Is.kp Is.bd .nil zG (za (pv 11) zb)))) (wk (yW (yi (zk Ar.ok hr rfl Ar.bound Ar.kp Ar.bd .nil zG (za (pv 11) (za (pv 12) (za (pv 6) (za (zj zS zh (zj yt (pv 5) zh)) (za zh zb)))))))))))
    (zf (zn yB))
    zL))))))))
   (ze (yr PassesOwn.never rfl (ya (zE (za yO (za (wT q8 rfl ttup vE (za (pv 3) zb)) (za XI (za zM (za zh (za yB zb)))))))) (zo (i:=13) xg.nd rfl (Or.inl rfl))
   (zf (zR (yW (yi (zk Ar.ok hr rfl Ar.bound Ar.kp Ar.bd .nil zG (za (pv 2) (za (pv 13) (za (pv 6) (za (zj zS zh (zj yt (pv 5) zh)) (za zh zb))))))))
    (zf (zn yB))
    zL)))
   (ze (zm (i:=14) xg.nd rfl (Or.inl rfl) (zj zS zh (zj yt (zj xi (pv 5) zh) zh)))
   (ze (zm (i:=15) xg.nd rfl (Or.inl rfl) (zk Ca.ok (hr.mono (show 56<=57 by decide)) rfl Ca.bound Ca.kp Ca.bd .nil zG (za zh (za (pv 2) (za (yq (Nc:=["words"]) (ix:=[none]) rfl rfl (by refine' ya ?zz;case zz=>exact (pv 3)) (fun _ _ _ _ _=>(zo (i:=0) (by show (["words"]:List Str).Nodup;decide +kernel) rfl (Or.inl rfl))) (fun _ _ _ _ _=>yd) (fun _ _ _ _ _=>(wT (YV (K:=K) rfl) rfl tlist uw (za (pv 0) zb)))) (za (pv 6) (za (pv 14) zb)))))))
   (ze (zR (PW.pt (xE (zF Zj (pv 7) yO rfl) (xI (zF xZ (pv 14) (pv 7) (zJ _)))))
   (zf (zn (y0 (Zu hr.units) (pv 15) (zE (za yB (za yB (za yB (za yB (za yB zb)))))) (zJ _))))
   zL)
   (zf (zn (y0 (Zu hr.units) (pv 15) (zE zb) (zJ _)))))))))))))))),?_⟩
  refine ⟨_,rfl,_,rfl,_,rfl,a,ns,0,rfl,hS,by decide,fun c0=>?_⟩
  refine ⟨_,_,rfl,rfl,(by show (0:Int)<6;decide),_,_,rfl,rfl,_,rfl,a,_,rfl,hS,fun pc nc=>?_⟩
  have k0:=vH c0 (show (6:Int)≠0 by decide)
  have k1:=vL c0 (show (0:Int)<6 by decide)
  obtain ⟨cells,hcut⟩:=zae ns (some 2) (some (2+c0 % 6))
  have hcl:cells.length<=7:=by
   obtain ⟨j,hj⟩:=vN (show 0<=2+c0 % 6 by omega)
   have e:=congrArg List.length hcut
   rw [hj] at e
   have:=zcL (ns.map V.int) j
   rw [e,ke] at this
   omega
  dsimp only
  rw [hcut]
  have S1:=zc (o:=.lst (cells.map V.int)) nc
  have hpc:(upd H pc (.lst (cells.map V.int))) pc=some (.lst (cells.map V.int)):=zd
  generalize upd H pc (.lst (cells.map V.int))=H1 at S1 hpc
  refine ⟨_,rfl,pc,cells,rfl,hpc,by omega,fun x t n H2 S2 hA g' pm hz=>?_⟩
  have S12:=S1.trans S2
  refine ⟨_,rfl,_,rfl,pc,_,rfl,.inl (SqL.of (S2 _ _ hpc)),_,_,rfl,rfl,a,ns,cells.length+1,by rw [ke];rfl,S12.seq hS,by omega,fun lt us wss H3 S3 hlt hT lw=>?_⟩
  have iT:zX t:=⟨n,g',by rw [pm.length_eq,Yb];omega,by rw [pm.length_eq,Yb];exact pm⟩
  have pm':n.Perm (up wss.length):=by rw [lw];exact pm
  have hG:Gd H3 x lt t n wss:=⟨hA.same S3,by omega,iT,g',pm',by omega,us,hlt,hT⟩
  have rng:∀ i∈n,0<=i/\i<((Lvs wss).length:Int):=fun i hi=>by
   have:=pm'.mem_iff.mp hi
   unfold up at this
   obtain ⟨j,hj,rfl⟩:=vC.mp this
   have:=vO.mp hj
   unfold Lvs
   rw [ke]
   omega
  obtain ⟨P1,hR⟩:=_Sta.Z4 (Ls:=Lvs wss) g' rng
  have hU:=wX wss
  have hup:=HasR.up hU hR
  have hbd:=(_Sta.zbG hG.good hG.pm hR).mono (show _<=wf wss by unfold wf;omega)
  have ms:wf wss<=1000000:=by
   have:=zau hT.okw hT.ok40
   have:=hG.len
   unfold wf
   omega
  have gsz:=g'.szN
  have nl:=hG.nlen
  have S03:=S12.trans S3
  -- the table
  refine ⟨_,rfl,_,rfl,_,rfl,lt,us,wss,rfl,hlt,hT,by omega,fun H4 S4=>?_⟩
  refine I_8 x t n lt us wss P1 (wf wss) ⟨rfl,hG.at_.same S4,g',hR,S4 _ _ hlt,hT.same S4,ms,by omega,by decide,fun lh f1 H5 S5 hlh htb=>?_⟩
  have lf:=htb.1
  have S35:=S4.trans S5
  have S05:=S03.trans S35
  refine ⟨_,rfl,a,ns,1,rfl,S05.seq hS,by decide,fun c1=>?_⟩
  refine ⟨_,rfl,_,_,rfl,rfl,⟨by decide,by decide⟩,_,rfl,lh,_,rfl,.inl (SqL.of hlh),_,_,rfl,rfl,(by show (0:Int)<(((tb f1).length:Nat):Int);rw [xM,lf];omega),_,_,rfl,rfl,?_⟩
  have e0:=vH (c1 / 7) (show (((tb f1).length:Nat):Int)≠0 by rw [xM,lf];omega)
  obtain ⟨wd,hwd⟩ : ∃ wd:Nat,1+c1 / 7 % (((tb f1).length:Nat):Int)=(wd:Int):=⟨(1+c1 / 7 % (((tb f1).length:Nat):Int)).toNat,by omega⟩
  dsimp only
  rw [hwd]
  have low1:=htb.2 (min wd (wf wss)) (Nat.min_le_right _ _)
  have low2:=_Sta.zcK hup hbd low1
  have hat:atI (tb f1) (if ((((tb f1).length:Nat):Int)-1)<((wd:Nat):Int) then ((((tb f1).length:Nat):Int)-1) else ((wd:Nat):Int))=some (oV (f1.getD (min wd (wf wss)) none)):=by
   rw [show (if ((((tb f1).length:Nat):Int)-1)<((wd:Nat):Int) then ((((tb f1).length:Nat):Int)-1) else ((wd:Nat):Int))=((min wd (wf wss):Nat):Int) by rw [xM,lf];split<;>omega]
   exact Qv (by omega)
  refine ⟨_,rfl,_,rfl,_,rfl,lh,_,rfl,.inl (SqL.of hlh),_,_,rfl,rfl,_,_,rfl,lh,_,_,_,rfl,rfl,SqL.of hlh,hat,?_⟩
  refine zQ ?_
  dsimp only
  generalize f1.getD (min wd (wf wss)) none=o at low2
  have hlt5:=S35 _ _ hlt
  have hT5:=hT.same S35
  have hA5:=hG.at_.same S35
  have lu:=hT.len
  have b0:=vH c1 (show (9:Int)≠0 by decide)
  obtain ⟨hi9,h9⟩ : ∃ m:Nat,1+c1 % 9=(m:Int):=⟨(1+c1 % 9).toNat,by omega⟩
  have nine:∀ (xv y:V) (d:Int),[xv,y,V.int (wd:Int),V.int (1+c1 % 9),V.int d]=[xv,y,V.int (wd:Int),V.int (hi9:Int),V.int d]:=fun xv y d=>by rw [h9]
  refine ⟨_,rfl,by decide,by decide,?_⟩
  refine xl (lo:=0) (n:=3) (fun i σ H6=>∃ (o8 o9 o10 o11 o12:Option V),σ=[some (.ref a),some (.ref pc),some x,some (.ref lt),some (.ref lh),some (.int c1),some (.int wd),some (oV o),o8,o9,o10,o11,o12,none,none,none]/\Same H5 H6) ⟨none,none,none,none,none,rfl,Same.refl _⟩ ?_ ?_
  ·intro i σ H6 hi h8
   refine E_5 h8 fun o8 o9 o10 o11 o12 n8=>A_2 n8 fun e9 S6=>?_;clear n8 h8;subst e9
   rw [show (0:Int)+(i:Int)=(i:Int) from uI _]
   refine zQ ?_
   dsimp only
   refine ⟨_,rfl,_,rfl,_,_,rfl,rfl,⟨by decide,by decide⟩,_,rfl,_,_,rfl,rfl,lt,us,wss,_,rfl,S6 _ _ hlt5,hT5.same S6,by omega,by omega,fun g xs bs H7 S7 hg hJ hn hRf hb=>?_⟩
   refine zQ ?_
   dsimp only
   refine ⟨_,rfl,g,rfl,⟨_,SqL.of hg⟩,yH (K:=K) (a:=g) (xs:=xs) (fun i ys σ H8=>ys=xs.take i/\H8=H7/\∃ o,σ=[o]) ⟨rfl,rfl,none,rfl⟩
    (fun i ys σ H8 hi h9=>by obtain ⟨e,e8,_⟩:=h9;exact (⟨by rw [e,kH];exact km (show _<=1000 by omega) (by decide),by rw [e8];exact SqL.of hg⟩)) ?_ ?_⟩
   case refine_2 =>
    rintro j y ys σ H8 hy ⟨rfl,rfl,o,rfl⟩
    dsimp only [z7,tYes]
    refine iteT ⟨_,rfl,?_,rfl,_,rfl⟩
    rw [List.take_add_one,hy]
    rfl
   rintro ys σ H8 ⟨rfl,rfl,_⟩ lh2 nh2
   rw [kO]
   have S8:=zc (o:=.lst xs) nh2
   have hh2:upd H8 lh2 (.lst xs) lh2=some (.lst xs):=zd
   have hg8:=S8 _ _ hg
   have hJ8:=hJ.same S8
   generalize upd H8 lh2 (.lst xs)=H9 at S8 hh2 hg8 hJ8
   refine zQ ?_
   dsimp only
   have A9:=S6.trans (S7.trans S8)
   have bad:RefP H9 (.ref lh2) t 1:=.inl ⟨rfl,n,lh2,xs,bs,iT,g',rfl,hh2,hJ8,by omega,hb.imp (fun z=>by omega) id⟩
   refine ⟨_,rfl,_,rfl,_,rfl,_,rfl,_,_,rfl,rfl,(by show (0:Int)<9;decide),_,_,rfl,rfl,x,.ref lh2,t,wd,hi9,1,nine x (.ref lh2) 1,hA5.same A9,by omega,bad,fun H10 S10=>⟨_,rfl,iteF ?_⟩⟩
   refine ⟨_,rfl,_,rfl,lh2,g,xs,rfl,rfl,SqL.of (S10 _ _ hh2),SqL.of (S10 _ _ hg8),hRf,_,rfl,iteF ?_⟩
   refine zY ?_
   dsimp only
   have A10:=A9.trans S10
   refine ⟨_,rfl,_,rfl,_,rfl,_,_,rfl,rfl,.inl ⟨by decide,by decide⟩,_,_,rfl,rfl,x,t,n,_,rfl,hA5.same A10,g',by omega,fun v r H11 S11 hv hr3=>?_⟩
   refine zQ ?_
   dsimp only
   refine ⟨_,rfl,_,rfl,Zz2,fun l9 n9=>?_⟩
   have S12:=zc (o:=.lst [V.ref g,V.ref lt]) n9
   have h12:upd H11 l9 (.lst [V.ref g,V.ref lt]) l9=some (.lst [V.ref g,V.ref lt]):=zd
   generalize upd H11 l9 (.lst [V.ref g,V.ref lt])=H12 at S12 h12
   obtain ⟨y12,hy12⟩ : ∃ y,atI [V.ref g,V.ref lt] ((i:Int) % 2)=some y:=by
    rcases (show (i:Int) % 2=0\/(i:Int) % 2=1 by omega) with e | e<;>rw [e]
    ·exact ⟨_,rfl⟩
    ·exact ⟨_,rfl⟩
   refine ⟨_,rfl,_,_,rfl,rfl,(by show (0:Int)<2;decide),l9,_,_,y12,rfl,rfl,SqL.of h12,hy12,?_⟩
   refine zQ ?_
   dsimp only
   refine ⟨_,rfl,v,r,rfl,hv.same S12,by omega,fun b H13 S13 hb2=>⟨_,rfl,?_⟩⟩
   have A13:=A10.trans (S11.trans (S12.trans S13))
   cases b with
   | true=>exact iteF ⟨_,_,_,_,_,rfl,A13⟩
   | false =>
    refine iteT ?_
    have nT:¬ zX r:=fun z=>by cases hb2.mpr z
    exact ⟨_,rfl,_,rfl,_,rfl,_,rfl,_,_,rfl,rfl,(by show (0:Int)<9;decide),_,_,rfl,rfl,v,y12,r,wd,hi9,0,nine v y12 0,hv.same (S12.trans S13),by omega,.inr (.inr ⟨rfl,nT⟩),fun H14 S14=>⟨_,rfl,iteF ⟨_,_,_,_,_,rfl,A13.trans S14⟩⟩⟩
  ·intro σ H6 h8
   refine E_5 h8 fun o8 o9 o10 o11 o12 n8=>A_2 n8 fun e9 S6=>?_;clear n8 h8;subst e9
   dsimp only
   have hlt6:=S6 _ _ hlt5
   refine zbX (n:=6) (xX (nl_c fun _=>.non) (xX (fun H' Q' S' q'=>⟨_,rfl,lt,us,rfl,.inl ⟨SqL.of (S' _ _ hlt6),fun p np=>q' (.ref p) _ (zc np) (.tup zd)⟩⟩) (xX (fun H' Q' S' q' p np=>q' (.ref p) _ (zc np) (.dK zd)) (xX (nl_c fun _=>.str _) (xX (nl_c fun _=>.int _) (xX (nl_c fun _=>.bl _) zbW)))))) (by decide) fun ld vd H7 S7 hld ld6 hno=>?_
   refine xn (K:=K) (a:=ld) (xs:=vd) (fun i σ H8=>∃ o13:Option V,σ=[some (.ref a),some (.ref pc),some x,some (.ref lt),some (.ref lh),some (.int c1),some (.int wd),some (oV o),o8,o9,o10,o11,o12,o13,none,none]/\Same H7 H8)
    ⟨none,rfl,Same.refl _⟩ (fun i σ H8 _ h9=>by obtain ⟨_,_,S⟩:=h9;exact (SqL.of (S _ _ hld))) ?_ ?_
   ·intro i v σ H8 hv h8
    obtain ⟨o13,rfl,S8⟩:=h8
    refine zQ ?_
    dsimp only
    refine ⟨_,rfl,_,rfl,_,rfl,_,rfl,_,_,rfl,rfl,(by show (0:Int)<9;decide),_,_,rfl,rfl,x,v,t,wd,hi9,1,nine x v 1,hA5.same (S6.trans (S7.trans S8)),by omega,.inr (.inl ⟨rfl,iT,(hno v (kZ hv)).same S8⟩),fun H9 S9=>⟨_,rfl,iteF ⟨_,rfl,S8.trans S9⟩⟩⟩
   ·intro σ H8 h8
    obtain ⟨o13,rfl,S8⟩:=h8
    dsimp only
    have A8:=S6.trans (S7.trans S8)
    have hlt8:=A8 _ _ hlt5
    have hT8:=hT5.same A8
    refine ⟨_,rfl,_,_,rfl,rfl,⟨by decide,by decide⟩,_,_,rfl,rfl,(by show (0:Int)<40;decide),_,_,rfl,rfl,?_⟩
    have g0:=vH (c1 / 5) (show (40:Int)≠0 by decide)
    obtain ⟨hg,hhg⟩ : ∃ hg:Nat,1+c1 / 5 % 40=(hg:Int):=⟨(1+c1 / 5 % 40).toNat,by omega⟩
    dsimp only
    rw [hhg]
    refine ⟨_,rfl,_,rfl,lt,rfl,⟨_,SqL.of hlt8⟩,yH (K:=K) (a:=lt) (xs:=us) (fun i ys σ H9=>Txs H9 ys (wss.take i)/\Same H8 H9/\∃ o,σ=[o]) ⟨.nil,Same.refl _,none,rfl⟩
     (fun i ys σ H9 hi h9=>by obtain ⟨e,S,_⟩:=h9;exact (⟨by rw [e.len,kH];exact km (show _<=1000 by omega) (by decide),SqL.of (S _ _ hlt8)⟩)) ?_ ?_⟩
    case refine_2 =>
     intro i y ys σ H9 hy h8
     refine A_3 h8 fun hY S9 n8=>E_1 n8 fun o' e9=>?_;clear n8 h8;subst e9
     obtain ⟨ws,ew,pa,rfl,hpa,hw,h40⟩:=hT8.get hy
     obtain ⟨hil,ev⟩:=kg.mp ew
     dsimp only [z7,tYes]
     refine iteT ⟨_,rfl,pa,_,rfl,.inl (SqL.of (S9 _ _ hpa)),fun p1 np1=>?_⟩
     have S10:=zc (o:=.lst (tx ws)) np1
     refine ⟨?_,S9.trans S10,_,rfl⟩
     rw [<- kz hil,ev]
     exact (hY.same S10).snoc ⟨p1,rfl,zd,hw,h40⟩
    rintro ys σ H9 ⟨hY,S9,_⟩ ph nph
    rw [lu,kO] at hY
    have S10:=S9.trans (zc (o:=.lst ys) nph)
    have hph:(upd H9 ph (.lst ys)) ph=some (.lst ys):=zd
    have hY10:=hY.same (zc (o:=.lst ys) nph)
    generalize upd H9 ph (.lst ys)=H10 at S10 hph hY10
    have lys:=hY10.len
    have A10:=A8.trans S10
    refine ⟨_,rfl,_,rfl,3,x,.ref ph,t,wd,hg,rfl,by decide,hA5.same A10,by omega,.inr ⟨rfl,n,ph,ys,wss,P1,iT,g',rfl,hph,hY10,by rw [lys,hG.nlen],hR,?_⟩⟩
    by_cases hp:P1 wd hg
    ·obtain ⟨res,hSI⟩:=_Sta.Jx hU hR (p:=⟨0,0,wd,hg⟩) hp (ve _) (ve _)
     refine .inl ⟨res,hp,hSI,fun l H11 S11 hl=>?_⟩
     refine zQ ?_
     dsimp only
     cases o with
     | none=>exact absurd hp (low2 _)
     | some v =>
      have:=low2.2 _ hp
      refine ⟨_,rfl,rfl,_,rfl,iteF ?_⟩
      refine ⟨_,rfl,_,rfl,_,_,rfl,rfl,_,rfl,?_⟩
      rw [decide_eq_false (show ¬ ((hg:Nat):Int)<((v:Nat):Int) by omega)]
      refine iteF ?_
      refine zY ?_
      dsimp only
      refine ⟨_,rfl,Zz0,fun le nle=>?_⟩
      have hl:=zc (o:=.lst []) nle _ _ hl
      refine I_4 _ _ 1 _ ⟨rfl,rfl,eq_empty hl zd,by decide,?_⟩
      rw [decide_eq_true rfl]
      exact q _
    ·refine .inr ⟨hp,fun l H11 S11 hl=>?_⟩
     refine zQ ?_
     dsimp only
     have fin:∀ (N:St->Hp->Prop) (σ':St),σ'[15]?=some (some (.ref l))->tRet (tOp (rEqR K false) (tVar 15) (tLst (yk (tC (.bl false)) (yk (tC (.bl false)) (yk (tC (.bl true)) (yk (tC (.bl true)) (yk (tC (.bl false)) tNil))))))) {nx:=N,rt:=Q} σ' H11:=fun N σ' e=>by
      refine ⟨_,e,Zz5,fun le nle=>?_⟩
      have hl:=zc (o:=.lst (Fails 2)) nle _ _ hl
      refine I_4 _ _ 1 _ ⟨rfl,rfl,W4 hl zd rfl,by decide,?_⟩
      exact q _
     cases o with
     | none=>exact ⟨_,rfl,rfl,_,rfl,iteT (fin _ _ rfl)⟩
     | some v =>
      have lt2:hg<v:=by
       refine Nat.lt_of_not_le fun z=>hp (hup.up low2.1 (kf _) z)
      refine ⟨_,rfl,rfl,_,rfl,iteF ?_⟩
      refine ⟨_,rfl,_,rfl,_,_,rfl,rfl,_,rfl,?_⟩
      rw [decide_eq_true (show ((hg:Nat):Int)<((v:Nat):Int) by omega)]
      exact iteT (fin _ _ rfl)
end
end _JF
namespace _JF
open PySem _L2 _Tre
theorem bl1 {α:Type} {p:List α->Prop} {us:List α} (hl:us.length=1) (q:∀ a0,p [a0]):p us:=match us,hl with
 | [a0],_=>q a0
theorem bl2 {α:Type} {p:List α->Prop} {us:List α} (hl:us.length=2) (q:∀ a0 a1,p [a0,a1]):p us:=match us,hl with
 | [a0,a1],_=>q a0 a1
theorem bl3 {α:Type} {p:List α->Prop} {us:List α} (hl:us.length=3) (q:∀ a0 a1 a2,p [a0,a1,a2]):p us:=match us,hl with
 | [a0,a1,a2],_=>q a0 a1 a2
theorem bl4 {α:Type} {p:List α->Prop} {us:List α} (hl:us.length=4) (q:∀ a0 a1 a2 a3,p [a0,a1,a2,a3]):p us:=match us,hl with
 | [a0,a1,a2,a3],_=>q a0 a1 a2 a3
theorem bl5 {α:Type} {p:List α->Prop} {us:List α} (hl:us.length=5) (q:∀ a0 a1 a2 a3 a4,p [a0,a1,a2,a3,a4]):p us:=match us,hl with
 | [a0,a1,a2,a3,a4],_=>q a0 a1 a2 a3 a4
theorem all_mk {l:PySem.W.OpenLaw} {w:World} {K:Frag} {h:Heap} {mg:Str->Option Value} {fa  f0 f1 f2 f3 f4 f5 f6 f7 f8 f9 f10 f11 f12 f13 f14 f15 f16 f17 f18 f19 f20 f21 f22 f23 f24 f25 f26 f27 f28 f29 f30 f31 f32 f33 f34 f35 f36 f37 f38 f39 f40 f41 f42 f43 f44 f45 f46 f47 f48 f49 f50 f51 f52 C0 C1 C2 C3 C4 C5 C6 C7 C8 C9:Addr} (X:K.In h) (G:h.Ns mainGlobals mg) (hfa:mg "law" = some (.ref fa))
  {od0 od1 od2 od3 od4 od5 od6 od7 od8 od9 od10 od11 od12 od13 od14 od15 od16 od17 od18 od19 od20 od21 od22 od23 od24 od25 od26 od27 od28 od29 od30 od31 od32 od33 od34 od35 od36 od37 od38 od39 od40 od41 od42 od43 od44 od45 od46 od47 od48 od49 od50 od51 od52 an0 an1 an2 an3 an4 an5 an6 an7 an8 an9 an10 an11 an12 an13 an14 an15 an16 an17 an18 an19 an20 an21 an22 an23 an24 an25 an26 an27 an28 an29 an30 an31 an32 an33 an34 an35 an36 an37 an38 an39 an40 an41 an42 an43 an44 an45 an46 an47 an48 an49 an50 an51 an52:Option Addr} {sl0 sl1 sl2 sl3 sl4 sl5 sl6 sl7 sl8 sl9 sl10 sl11 sl12 sl13 sl14 sl15 sl16 sl17 sl18 sl19 sl20 sl21 sl22 sl23 sl24 sl25 sl26 sl27 sl28 sl29 sl30 sl31 sl32 sl33 sl34 sl35 sl36 sl37 sl38 sl39 sl40 sl41 sl42 sl43 sl44 sl45 sl46 sl47 sl48 sl49 sl50 sl51 sl52:Array (Option Value)} {oc0 kV0 dc0 pm0 cd0 ct0 oc1 kV1 dc1 pm1 cd1 ct1 oc2 kV2 dc2 pm2 cd2 ct2 oc3 kV3 dc3 pm3 cd3 ct3 oc4 kV4 dc4 pm4 cd4 ct4 oc5 kV5 dc5 pm5 cd5 ct5 oc6 kV6 dc6 pm6 cd6 ct6 oc7 kV7 dc7 pm7 cd7 ct7 oc8 kV8 dc8 pm8 cd8 ct8 oc9 kV9 dc9 pm9 cd9 ct9 oc10 kV10 dc10 pm10 cd10 ct10 oc11 kV11 dc11 pm11 cd11 ct11 oc12 kV12 dc12 pm12 cd12 ct12 oc13 kV13 dc13 pm13 cd13 ct13 oc14 kV14 dc14 pm14 cd14 ct14 oc15 kV15 dc15 pm15 cd15 ct15 oc16 kV16 dc16 pm16 cd16 ct16 oc17 kV17 dc17 pm17 cd17 ct17 oc18 kV18 dc18 pm18 cd18 ct18 oc19 kV19 dc19 pm19 cd19 ct19 oc20 kV20 dc20 pm20 cd20 ct20 oc21 kV21 dc21 pm21 cd21 ct21 oc22 kV22 dc22 pm22 cd22 ct22 oc23 kV23 dc23 pm23 cd23 ct23 oc24 kV24 dc24 pm24 cd24 ct24 oc25 kV25 dc25 pm25 cd25 ct25 oc26 kV26 dc26 pm26 cd26 ct26 oc27 kV27 dc27 pm27 cd27 ct27 oc28 kV28 dc28 pm28 cd28 ct28 oc29 kV29 dc29 pm29 cd29 ct29 oc30 kV30 dc30 pm30 cd30 ct30 oc31 kV31 dc31 pm31 cd31 ct31 oc32 kV32 dc32 pm32 cd32 ct32 oc33 kV33 dc33 pm33 cd33 ct33 oc34 kV34 dc34 pm34 cd34 ct34 oc35 kV35 dc35 pm35 cd35 ct35 oc36 kV36 dc36 pm36 cd36 ct36 oc37 kV37 dc37 pm37 cd37 ct37 oc38 kV38 dc38 pm38 cd38 ct38 oc39 kV39 dc39 pm39 cd39 ct39 oc40 kV40 dc40 pm40 cd40 ct40 oc41 kV41 dc41 pm41 cd41 ct41 oc42 kV42 dc42 pm42 cd42 ct42 oc43 kV43 dc43 pm43 cd43 ct43 oc44 kV44 dc44 pm44 cd44 ct44 oc45 kV45 dc45 pm45 cd45 ct45 oc46 kV46 dc46 pm46 cd46 ct46 oc47 kV47 dc47 pm47 cd47 ct47 oc48 kV48 dc48 pm48 cd48 ct48 oc49 kV49 dc49 pm49 cd49 ct49 oc50 kV50 dc50 pm50 cd50 ct50 oc51 kV51 dc51 pm51 cd51 ct51 oc52 kV52 dc52 pm52 cd52 ct52:Value} {kA:Addr} {odK:Option Addr} {nK:Nat} {slK:Array (Option Value)} {tk1 tk2:Tok} {t_LEFT_OUT t_MOST_SIGNS t_KIND t_PARTS t_MOST_BOXES t_WIDE t_HIGH t_MOST_WORDS t_LEFT t_TOP t_RIGHT t_BELOW t_ACROSS:Tok}
  (a0:kt K mainGlobals "is_sign" = some (some (.ref f0)))
  (l0:K.lookup f0=some ⟨oc0,od0,.func (kJ "is_sign" "is_sign" (zB jB) (zx jB) (zg jB) .none kV0 dc0 pm0 an0 cd0 ct0),sl0⟩)
  (c0:kG K cd0 "is_sign" = true)
  (k0:kE K (.ref f0)=true)
  (a1:kt K mainGlobals "is_word" = some (some (.ref f1)))
  (l1:K.lookup f1=some ⟨oc1,od1,.func (kJ "is_word" "is_word" (zB jC) (zx jC) (zg jC) .none kV1 dc1 pm1 an1 cd1 ct1),sl1⟩)
  (c1:kG K cd1 "is_word" = true)
  (k1:kE K (.ref f1)=true)
  (a2:kt K mainGlobals "are_words" = some (some (.ref f2)))
  (l2:K.lookup f2=some ⟨oc2,od2,.func (kJ "are_words" "are_words" (zB sAre) (zx sAre) (zg sAre) .none kV2 dc2 pm2 an2 cd2 ct2),sl2⟩)
  (c2:kG K cd2 "are_words" = true)
  (k2:kE K (.ref f2)=true)
  (a3:kt K mainGlobals "refuse_no_words" = some (some (.ref f3)))
  (l3:K.lookup f3=some ⟨oc3,od3,.func (kJ "refuse_no_words" "refuse_no_words" (zB wu) (zx wu) (zg wu) .none kV3 dc3 pm3 an3 cd3 ct3),sl3⟩)
  (c3:kG K cd3 "refuse_no_words" = true)
  (k3:kE K (.ref f3)=true)
  (a4:kt K mainGlobals "taken" = some (some (.ref f4)))
  (l4:K.lookup f4=some ⟨oc4,od4,.func (kJ "taken" "taken" (zB qj) (zx qj) (zg qj) .none kV4 dc4 pm4 an4 cd4 ct4),sl4⟩)
  (c4:kG K cd4 "taken" = true)
  (k4:kE K (.ref f4)=true)
  (a5:kt K mainGlobals "with_next_word" = some (some (.ref f5)))
  (l5:K.lookup f5=some ⟨oc5,od5,.func (kJ "with_next_word" "with_next_word" (zB jD) (zx jD) (zg jD) .none kV5 dc5 pm5 an5 cd5 ct5),sl5⟩)
  (c5:kG K cd5 "with_next_word" = true)
  (k5:kE K (.ref f5)=true)
  (a6:kt K mainGlobals "next_width" = some (some (.ref f6)))
  (l6:K.lookup f6=some ⟨oc6,od6,.func (kJ "next_width" "next_width" (zB qk) (zx qk) (zg qk) .none kV6 dc6 pm6 an6 cd6 ct6),sl6⟩)
  (c6:kG K cd6 "next_width" = true)
  (k6:kE K (.ref f6)=true)
  (a7:kt K mainGlobals "text_stairs" = some (some (.ref f7)))
  (l7:K.lookup f7=some ⟨oc7,od7,.func (kJ "text_stairs" "text_stairs" (zB wv) (zx wv) (zg wv) .none kV7 dc7 pm7 an7 cd7 ct7),sl7⟩)
  (c7:kG K cd7 "text_stairs" = true)
  (k7:kE K (.ref f7)=true)
  (a8:kt K mainGlobals "is_whole" = some (some (.ref f8)))
  (l8:K.lookup f8=some ⟨oc8,od8,.func (kJ "is_whole" "is_whole" (zB ql) (zx ql) (zg ql) .none kV8 dc8 pm8 an8 cd8 ct8),sl8⟩)
  (c8:kG K cd8 "is_whole" = true)
  (k8:kE K (.ref f8)=true)
  (a9:kt K mainGlobals "has_kind" = some (some (.ref f9)))
  (l9:K.lookup f9=some ⟨oc9,od9,.func (kJ "has_kind" "has_kind" (zB sHas) (zx sHas) (zg sHas) .none kV9 dc9 pm9 an9 cd9 ct9),sl9⟩)
  (c9:kG K cd9 "has_kind" = true)
  (k9:kE K (.ref f9)=true)
  (a10:kt K mainGlobals "is_branch" = some (some (.ref f10)))
  (l10:K.lookup f10=some ⟨oc10,od10,.func (kJ "is_branch" "is_branch" (zB sBr) (zx sBr) (zg sBr) .none kV10 dc10 pm10 an10 cd10 ct10),sl10⟩)
  (c10:kG K cd10 "is_branch" = true)
  (k10:kE K (.ref f10)=true)
  (a11:kt K mainGlobals "numbers_in" = some (some (.ref f11)))
  (l11:K.lookup f11=some ⟨oc11,od11,.func (kJ "numbers_in" "numbers_in" (zB sNum) (zx sNum) (zg sNum) .none kV11 dc11 pm11 an11 cd11 ct11),sl11⟩)
  (c11:kG K cd11 "numbers_in" = true)
  (k11:kE K (.ref f11)=true)
  (a12:kt K mainGlobals "is_tree" = some (some (.ref f12)))
  (l12:K.lookup f12=some ⟨oc12,od12,.func (kJ "is_tree" "is_tree" (zB jE) (zx jE) (zg jE) .none kV12 dc12 pm12 an12 cd12 ct12),sl12⟩)
  (c12:kG K cd12 "is_tree" = true)
  (k12:kE K (.ref f12)=true)
  (a13:kt K mainGlobals "refuse_no_tree" = some (some (.ref f13)))
  (l13:K.lookup f13=some ⟨oc13,od13,.func (kJ "refuse_no_tree" "refuse_no_tree" (zB jG) (zx jG) (zg jG) .none kV13 dc13 pm13 an13 cd13 ct13),sl13⟩)
  (c13:kG K cd13 "refuse_no_tree" = true)
  (k13:kE K (.ref f13)=true)
  (a14:kt K mainGlobals "boxes_of" = some (some (.ref f14)))
  (l14:K.lookup f14=some ⟨oc14,od14,.func (kJ "boxes_of" "boxes_of" (zB qt) (zx qt) (zg qt) .none kV14 dc14 pm14 an14 cd14 ct14),sl14⟩)
  (c14:kG K cd14 "boxes_of" = true)
  (k14:kE K (.ref f14)=true)
  (a15:kt K mainGlobals "is_text" = some (some (.ref f15)))
  (l15:K.lookup f15=some ⟨oc15,od15,.func (kJ "is_text" "is_text" (zB jH) (zx jH) (zg jH) .none kV15 dc15 pm15 an15 cd15 ct15),sl15⟩)
  (c15:kG K cd15 "is_text" = true)
  (k15:kE K (.ref f15)=true)
  (a16:kt K mainGlobals "refuse_no_texts" = some (some (.ref f16)))
  (l16:K.lookup f16=some ⟨oc16,od16,.func (kJ "refuse_no_texts" "refuse_no_texts" (zB sRTx) (zx sRTx) (zg sRTx) .none kV16 dc16 pm16 an16 cd16 ct16),sl16⟩)
  (c16:kG K cd16 "refuse_no_texts" = true)
  (k16:kE K (.ref f16)=true)
  (a17:kt K mainGlobals "side_by_side" = some (some (.ref f17)))
  (l17:K.lookup f17=some ⟨oc17,od17,.func (kJ "side_by_side" "side_by_side" (zB sSbs) (zx sSbs) (zg sSbs) .none kV17 dc17 pm17 an17 cd17 ct17),sl17⟩)
  (c17:kG K cd17 "side_by_side" = true)
  (k17:kE K (.ref f17)=true)
  (a18:kt K mainGlobals "all_side_by_side" = some (some (.ref f18)))
  (l18:K.lookup f18=some ⟨oc18,od18,.func (kJ "all_side_by_side" "all_side_by_side" (zB sAll) (zx sAll) (zg sAll) .none kV18 dc18 pm18 an18 cd18 ct18),sl18⟩)
  (c18:kG K cd18 "all_side_by_side" = true)
  (k18:kE K (.ref f18)=true)
  (a19:kt K mainGlobals "exchanged" = some (some (.ref f19)))
  (l19:K.lookup f19=some ⟨oc19,od19,.func (kJ "exchanged" "exchanged" (zB jI) (zx jI) (zg jI) .none kV19 dc19 pm19 an19 cd19 ct19),sl19⟩)
  (c19:kG K cd19 "exchanged" = true)
  (k19:kE K (.ref f19)=true)
  (a20:kt K mainGlobals "box_stairs" = some (some (.ref f20)))
  (l20:K.lookup f20=some ⟨oc20,od20,.func (kJ "box_stairs" "box_stairs" (zB sBst) (zx sBst) (zg sBst) .none kV20 dc20 pm20 an20 cd20 ct20),sl20⟩)
  (c20:kG K cd20 "box_stairs" = true)
  (k20:kE K (.ref f20)=true)
  (a21:kt K mainGlobals "stairs_of" = some (some (.ref f21)))
  (l21:K.lookup f21=some ⟨oc21,od21,.func (kJ "stairs_of" "stairs_of" (zB sSo) (zx sSo) (zg sSo) .none kV21 dc21 pm21 an21 cd21 ct21),sl21⟩)
  (c21:kG K cd21 "stairs_of" = true)
  (k21:kE K (.ref f21)=true)
  (a22:kt K mainGlobals "tree_stairs" = some (some (.ref f22)))
  (l22:K.lookup f22=some ⟨oc22,od22,.func (kJ "tree_stairs" "tree_stairs" (zB sTst) (zx sTst) (zg sTst) .none kV22 dc22 pm22 an22 cd22 ct22),sl22⟩)
  (c22:kG K cd22 "tree_stairs" = true)
  (k22:kE K (.ref f22)=true)
  (a23:kt K mainGlobals "lowest" = some (some (.ref f23)))
  (l23:K.lookup f23=some ⟨oc23,od23,.func (kJ "lowest" "lowest" (zB sLow) (zx sLow) (zg sLow) .none kV23 dc23 pm23 an23 cd23 ct23),sl23⟩)
  (c23:kG K cd23 "lowest" = true)
  (k23:kE K (.ref f23)=true)
  (a24:kt K mainGlobals "narrowest" = some (some (.ref f24)))
  (l24:K.lookup f24=some ⟨oc24,od24,.func (kJ "narrowest" "narrowest" (zB jJ) (zx jJ) (zg jJ) .none kV24 dc24 pm24 an24 cd24 ct24),sl24⟩)
  (c24:kG K cd24 "narrowest" = true)
  (k24:kE K (.ref f24)=true)
  (a25:kt K mainGlobals "least_high" = some (some (.ref f25)))
  (l25:K.lookup f25=some ⟨oc25,od25,.func (kJ "least_high" "least_high" (zB sLh) (zx sLh) (zg sLh) .none kV25 dc25 pm25 an25 cd25 ct25),sl25⟩)
  (c25:kG K cd25 "least_high" = true)
  (k25:kE K (.ref f25)=true)
  (a26:kt K mainGlobals "least_wide" = some (some (.ref f26)))
  (l26:K.lookup f26=some ⟨oc26,od26,.func (kJ "least_wide" "least_wide" (zB qu) (zx qu) (zg qu) .none kV26 dc26 pm26 an26 cd26 ct26),sl26⟩)
  (c26:kG K cd26 "least_wide" = true)
  (k26:kE K (.ref f26)=true)
  (a27:kt K mainGlobals "edges" = some (some (.ref f27)))
  (l27:K.lookup f27=some ⟨oc27,od27,.func (kJ "edges" "edges" (zB qz) (zx qz) (zg qz) .none kV27 dc27 pm27 an27 cd27 ct27),sl27⟩)
  (c27:kG K cd27 "edges" = true)
  (k27:kE K (.ref f27)=true)
  (a28:kt K mainGlobals "pieces_across" = some (some (.ref f28)))
  (l28:K.lookup f28=some ⟨oc28,od28,.func (kJ "pieces_across" "pieces_across" (zB sPa) (zx sPa) (zg sPa) .none kV28 dc28 pm28 an28 cd28 ct28),sl28⟩)
  (c28:kG K cd28 "pieces_across" = true)
  (k28:kE K (.ref f28)=true)
  (a29:kt K mainGlobals "pieces_down" = some (some (.ref f29)))
  (l29:K.lookup f29=some ⟨oc29,od29,.func (kJ "pieces_down" "pieces_down" (zB sPd) (zx sPd) (zg sPd) .none kV29 dc29 pm29 an29 cd29 ct29),sl29⟩)
  (c29:kG K cd29 "pieces_down" = true)
  (k29:kE K (.ref f29)=true)
  (a30:kt K mainGlobals "pieces_of" = some (some (.ref f30)))
  (l30:K.lookup f30=some ⟨oc30,od30,.func (kJ "pieces_of" "pieces_of" (zB sPo) (zx sPo) (zg sPo) .none kV30 dc30 pm30 an30 cd30 ct30),sl30⟩)
  (c30:kG K cd30 "pieces_of" = true)
  (k30:kE K (.ref f30)=true)
  (a31:kt K mainGlobals "set_in" = some (some (.ref f31)))
  (l31:K.lookup f31=some ⟨oc31,od31,.func (kJ "set_in" "set_in" (zB x8) (zx x8) (zg x8) .none kV31 dc31 pm31 an31 cd31 ct31),sl31⟩)
  (c31:kG K cd31 "set_in" = true)
  (k31:kE K (.ref f31)=true)
  (a32:kt K mainGlobals "height_in" = some (some (.ref f32)))
  (l32:K.lookup f32=some ⟨oc32,od32,.func (kJ "height_in" "height_in" (zB sHin) (zx sHin) (zg sHin) .none kV32 dc32 pm32 an32 cd32 ct32),sl32⟩)
  (c32:kG K cd32 "height_in" = true)
  (k32:kE K (.ref f32)=true)
  (a33:kt K mainGlobals "setting" = some (some (.ref f33)))
  (l33:K.lookup f33=some ⟨oc33,od33,.func (kJ "setting" "setting" (zB xU) (zx xU) (zg xU) .none kV33 dc33 pm33 an33 cd33 ct33),sl33⟩)
  (c33:kG K cd33 "setting" = true)
  (k33:kE K (.ref f33)=true)
  (a34:kt K mainGlobals "_law_cell_at" = some (some (.ref f34)))
  (l34:K.lookup f34=some ⟨oc34,od34,.func (kJ "_law_cell_at" "_law_cell_at" (zB ww) (zx ww) (zg ww) .none kV34 dc34 pm34 an34 cd34 ct34),sl34⟩)
  (c34:kG K cd34 "_law_cell_at" = true)
  (k34:kE K (.ref f34)=true)
  (a35:kt K mainGlobals "_law_whole" = some (some (.ref f35)))
  (l35:K.lookup f35=some ⟨oc35,od35,.func (kJ "_law_whole" "_law_whole" (zB sLwh) (zx sLwh) (zg sLwh) .none kV35 dc35 pm35 an35 cd35 ct35),sl35⟩)
  (c35:kG K cd35 "_law_whole" = true)
  (k35:kE K (.ref f35)=true)
  (a36:kt K mainGlobals "_law_join" = some (some (.ref f36)))
  (l36:K.lookup f36=some ⟨oc36,od36,.func (kJ "_law_join" "_law_join" (zB jF) (zx jF) (zg jF) .none kV36 dc36 pm36 an36 cd36 ct36),sl36⟩)
  (c36:kG K cd36 "_law_join" = true)
  (k36:kE K (.ref f36)=true)
  (a37:kt K mainGlobals "_law_tree" = some (some (.ref f37)))
  (l37:K.lookup f37=some ⟨oc37,od37,.func (kJ "_law_tree" "_law_tree" (zB qm) (zx qm) (zg qm) .none kV37 dc37 pm37 an37 cd37 ct37),sl37⟩)
  (c37:kG K cd37 "_law_tree" = true)
  (k37:kE K (.ref f37)=true)
  (a38:kt K mainGlobals "_law_word" = some (some (.ref f38)))
  (l38:K.lookup f38=some ⟨oc38,od38,.func (kJ "_law_word" "_law_word" (zB sLw) (zx sLw) (zg sLw) .none kV38 dc38 pm38 an38 cd38 ct38),sl38⟩)
  (c38:kG K cd38 "_law_word" = true)
  (k38:kE K (.ref f38)=true)
  (a39:kt K mainGlobals "_law_rows" = some (some (.ref f39)))
  (l39:K.lookup f39=some ⟨oc39,od39,.func (kJ "_law_rows" "_law_rows" (zB qv) (zx qv) (zg qv) .none kV39 dc39 pm39 an39 cd39 ct39),sl39⟩)
  (c39:kG K cd39 "_law_rows" = true)
  (k39:kE K (.ref f39)=true)
  (a40:kt K mainGlobals "_law_short_texts" = some (some (.ref f40)))
  (l40:K.lookup f40=some ⟨oc40,od40,.func (kJ "_law_short_texts" "_law_short_texts" (zB qw) (zx qw) (zg qw) .none kV40 dc40 pm40 an40 cd40 ct40),sl40⟩)
  (c40:kG K cd40 "_law_short_texts" = true)
  (k40:kE K (.ref f40)=true)
  (a41:kt K mainGlobals "_law_beside" = some (some (.ref f41)))
  (l41:K.lookup f41=some ⟨oc41,od41,.func (kJ "_law_beside" "_law_beside" (zB jK) (zx jK) (zg jK) .none kV41 dc41 pm41 an41 cd41 ct41),sl41⟩)
  (c41:kG K cd41 "_law_beside" = true)
  (k41:kE K (.ref f41)=true)
  (a42:kt K mainGlobals "_law_heights" = some (some (.ref f42)))
  (l42:K.lookup f42=some ⟨oc42,od42,.func (kJ "_law_heights" "_law_heights" (zB sHts) (zx sHts) (zg sHts) .none kV42 dc42 pm42 an42 cd42 ct42),sl42⟩)
  (c42:kG K cd42 "_law_heights" = true)
  (k42:kE K (.ref f42)=true)
  (a43:kt K mainGlobals "_law_most" = some (some (.ref f43)))
  (l43:K.lookup f43=some ⟨oc43,od43,.func (kJ "_law_most" "_law_most" (zB qx) (zx qx) (zg qx) .none kV43 dc43 pm43 an43 cd43 ct43),sl43⟩)
  (c43:kG K cd43 "_law_most" = true)
  (k43:kE K (.ref f43)=true)
  (a44:kt K mainGlobals "_law_is" = some (some (.ref f44)))
  (l44:K.lookup f44=some ⟨oc44,od44,.func (kJ "_law_is" "_law_is" (zB sIs) (zx sIs) (zg sIs) .none kV44 dc44 pm44 an44 cd44 ct44),sl44⟩)
  (c44:kG K cd44 "_law_is" = true)
  (k44:kE K (.ref f44)=true)
  (a45:kt K mainGlobals "_law_knots" = some (some (.ref f45)))
  (l45:K.lookup f45=some ⟨oc45,od45,.func (kJ "_law_knots" "_law_knots" (zB qo) (zx qo) (zg qo) .none kV45 dc45 pm45 an45 cd45 ct45),sl45⟩)
  (c45:kG K cd45 "_law_knots" = true)
  (k45:kE K (.ref f45)=true)
  (a46:kt K mainGlobals "_law_put" = some (some (.ref f46)))
  (l46:K.lookup f46=some ⟨oc46,od46,.func (kJ "_law_put" "_law_put" (zB sPut) (zx sPut) (zg sPut) .none kV46 dc46 pm46 an46 cd46 ct46),sl46⟩)
  (c46:kG K cd46 "_law_put" = true)
  (k46:kE K (.ref f46)=true)
  (a47:kt K mainGlobals "_law_other" = some (some (.ref f47)))
  (l47:K.lookup f47=some ⟨oc47,od47,.func (kJ "_law_other" "_law_other" (zB qp) (zx qp) (zg qp) .none kV47 dc47 pm47 an47 cd47 ct47),sl47⟩)
  (c47:kG K cd47 "_law_other" = true)
  (k47:kE K (.ref f47)=true)
  (a48:kt K mainGlobals "_law_wrong" = some (some (.ref f48)))
  (l48:K.lookup f48=some ⟨oc48,od48,.func (kJ "_law_wrong" "_law_wrong" (zB qr) (zx qr) (zg qr) .none kV48 dc48 pm48 an48 cd48 ct48),sl48⟩)
  (c48:kG K cd48 "_law_wrong" = true)
  (k48:kE K (.ref f48)=true)
  (a49:kt K mainGlobals "_law_bad_texts" = some (some (.ref f49)))
  (l49:K.lookup f49=some ⟨oc49,od49,.func (kJ "_law_bad_texts" "_law_bad_texts" (zB jL) (zx jL) (zg jL) .none kV49 dc49 pm49 an49 cd49 ct49),sl49⟩)
  (c49:kG K cd49 "_law_bad_texts" = true)
  (k49:kE K (.ref f49)=true)
  (a50:kt K mainGlobals "_law_caught" = some (some (.ref f50)))
  (l50:K.lookup f50=some ⟨oc50,od50,.func (kJ "_law_caught" "_law_caught" (zB wx) (zx wx) (zg wx) .none kV50 dc50 pm50 an50 cd50 ct50),sl50⟩)
  (c50:kG K cd50 "_law_caught" = true)
  (k50:kE K (.ref f50)=true)
  (a51:kt K mainGlobals "_law_all_refuse" = some (some (.ref f51)))
  (l51:K.lookup f51=some ⟨oc51,od51,.func (kJ "_law_all_refuse" "_law_all_refuse" (zB jM) (zx jM) (zg jM) .none kV51 dc51 pm51 an51 cd51 ct51),sl51⟩)
  (c51:kG K cd51 "_law_all_refuse" = true)
  (k51:kE K (.ref f51)=true)
  (a52:kt K mainGlobals "law" = some (some (.ref f52)))
  (l52:K.lookup f52=some ⟨oc52,od52,.func (kJ "law" "law" (zB sLaw) (zx sLaw) (zg sLaw) .none kV52 dc52 pm52 an52 cd52 ct52),sl52⟩)
  (c52:kG K cd52 "law" = true)
  (k52:kE K (.ref f52)=true)
  (C0m:kt K mainGlobals "PartError" = some (some (.ref C0)))
  (C1m:kt K mainGlobals "NoPage" = some (some (.ref C1)))
  (C2m:kt K mainGlobals "NoPicture" = some (some (.ref C2)))
  (C3m:kt K mainGlobals "NoPlace" = some (some (.ref C3)))
  (C4m:kt K mainGlobals "NoTree" = some (some (.ref C4)))
  (C5m:kt K mainGlobals "NoNeeds" = some (some (.ref C5)))
  (C6m:kt K mainGlobals "NoTexts" = some (some (.ref C6)))
  (C7m:kt K mainGlobals "NoRoom" = some (some (.ref C7)))
  (C8m:kt K mainGlobals "NoRow" = some (some (.ref C8)))
  (C9m:kt K mainGlobals "NoNumber" = some (some (.ref C9)))
  (z_len:kt K mainGlobals "len" = some none)
  (z_range:kt K mainGlobals "range" = some none)
  (z_min:kt K mainGlobals "min" = some none)
  (z_max:kt K mainGlobals "max" = some none)
  (z_sum:kt K mainGlobals "sum" = some none)
  (z_zip:kt K mainGlobals "zip" = some none)
  (z_isinstance:kt K mainGlobals "isinstance" = some none)
  (z_int:kt K mainGlobals "int" = some none)
  (z_bool:kt K mainGlobals "bool" = some none)
  (z_str:kt K mainGlobals "str" = some none)
  (z_tuple:kt K mainGlobals "tuple" = some none)
  (z_list:kt K mainGlobals "list" = some none)
  (z_all:kt K mainGlobals "all" = some none)
  (z_any:kt K mainGlobals "any" = some none)
  (z_ord:kt K mainGlobals "ord" = some none)
  (z_sorted:kt K mainGlobals "sorted" = some none)
  (z_reversed:kt K mainGlobals "reversed" = some none)
  (z_ValueError:kt K mainGlobals "ValueError" = some none)
  (g_LEFT_OUT:kt K mainGlobals "LEFT_OUT" = some (some (.int 37 t_LEFT_OUT)))
  (g_MOST_SIGNS:kt K mainGlobals "MOST_SIGNS" = some (some (.int 12 t_MOST_SIGNS)))
  (g_KIND:kt K mainGlobals "KIND" = some (some (.int 0 t_KIND)))
  (g_PARTS:kt K mainGlobals "PARTS" = some (some (.int 1 t_PARTS)))
  (g_MOST_BOXES:kt K mainGlobals "MOST_BOXES" = some (some (.int 24 t_MOST_BOXES)))
  (g_WIDE:kt K mainGlobals "WIDE" = some (some (.int 0 t_WIDE)))
  (g_HIGH:kt K mainGlobals "HIGH" = some (some (.int 1 t_HIGH)))
  (g_MOST_WORDS:kt K mainGlobals "MOST_WORDS" = some (some (.int 40 t_MOST_WORDS)))
  (g_LEFT:kt K mainGlobals "LEFT" = some (some (.int 0 t_LEFT)))
  (g_TOP:kt K mainGlobals "TOP" = some (some (.int 1 t_TOP)))
  (g_RIGHT:kt K mainGlobals "RIGHT" = some (some (.int 2 t_RIGHT)))
  (g_BELOW:kt K mainGlobals "BELOW" = some (some (.int 3 t_BELOW)))
  (g_ACROSS:kt K mainGlobals "ACROSS" = some (some (.str "|" t_ACROSS)))
  (ex4:uM K C4 [.type "ValueError",.type "Exception",.type "BaseException",.type "object"] "ValueError.__new__" = true)
  (ex6:uM K C6 [.type "ValueError",.type "Exception",.type "BaseException",.type "object"] "ValueError.__new__" = true)
  (ex7:uM K C7 [.type "ValueError",.type "Exception",.type "BaseException",.type "object"] "ValueError.__new__" = true)
  (e0a:vM K (.ref C0) "__getattribute__" = some (some (.builtin "BaseException.__getattribute__")))
  (e0b:vM K (.ref C0) "__getattr__" = some none)
  (e0c:vM K (.ref C0) "__class__" = some (some (.builtin "object.__class__")))
  (e0f:vV K C0 (.type "object")=some true)
  (e0g:vV K C0 (.type "BaseException")=some true)
  (e0h:bH K (.ref C0)=some (.type "type"))
  (e0i:(bL K C0).isSome=true)
  (e4a:vM K (.ref C4) "__getattribute__" = some (some (.builtin "BaseException.__getattribute__")))
  (e4b:vM K (.ref C4) "__getattr__" = some none)
  (e4c:vM K (.ref C4) "__class__" = some (some (.builtin "object.__class__")))
  (e4f:vV K C4 (.type "object")=some true)
  (e4g:vV K C4 (.type "BaseException")=some true)
  (e4h:bH K (.ref C4)=some (.type "type"))
  (e4i:(bL K C4).isSome=true)
  (e6a:vM K (.ref C6) "__getattribute__" = some (some (.builtin "BaseException.__getattribute__")))
  (e6b:vM K (.ref C6) "__getattr__" = some none)
  (e6c:vM K (.ref C6) "__class__" = some (some (.builtin "object.__class__")))
  (e6f:vV K C6 (.type "object")=some true)
  (e6g:vV K C6 (.type "BaseException")=some true)
  (e6h:bH K (.ref C6)=some (.type "type"))
  (e6i:(bL K C6).isSome=true)
  (e7a:vM K (.ref C7) "__getattribute__" = some (some (.builtin "BaseException.__getattribute__")))
  (e7b:vM K (.ref C7) "__getattr__" = some none)
  (e7c:vM K (.ref C7) "__class__" = some (some (.builtin "object.__class__")))
  (e7f:vV K C7 (.type "object")=some true)
  (e7g:vV K C7 (.type "BaseException")=some true)
  (e7h:bH K (.ref C7)=some (.type "type"))
  (e7i:(bL K C7).isSome=true)
  (ed:PySem.W.specialIn K (.builtin "object.__class__") "__get__" = some (some (.builtin "getset_descriptor.__get__")))
  (ee:PySem.W.takesIn K (.builtin "object.__class__")=some true)
  (hKINDS:kt K mainGlobals "KINDS" = some (some (.ref kA)))
  (lkK:K.lookup kA=some ⟨.type "tuple",odK,.seq #[.str "|" tk1,.str "-" tk2] nK,slK⟩)
  (kt0:ky K (.type "NoneType") (.type "str")=some false)
  (kt1:ky K (.type "bool") (.type "str")=some false)
  (kt2:ky K (.type "int") (.type "str")=some false)
  (kt3:ky K (.type "list") (.type "str")=some false)
  (kt4:ky K (.type "tuple") (.type "str")=some false)
  (kt5:ky K (.type "dict") (.type "str")=some false)
  (kt6:ky K (.type "NoneType") (.type "list")=some false)
  (kt7:ky K (.type "str") (.type "list")=some false)
  (kt8:ky K (.type "int") (.type "list")=some false)
  (kt9:ky K (.type "tuple") (.type "list")=some false)
  (kt10:ky K (.type "dict") (.type "list")=some false)
  (q_int0:ky K (.type "NoneType") (.type "int")=some false)
  (q_int1:ky K (.type "bool") (.type "int")=some true)
  (q_int2:ky K (.type "int") (.type "int")=some true)
  (q_int3:ky K (.type "str") (.type "int")=some false)
  (q_int4:ky K (.type "tuple") (.type "int")=some false)
  (q_int5:ky K (.type "list") (.type "int")=some false)
  (q_int6:ky K (.type "dict") (.type "int")=some false)
  (q_bool0:ky K (.type "NoneType") (.type "bool")=some false)
  (q_bool1:ky K (.type "bool") (.type "bool")=some true)
  (q_bool2:ky K (.type "int") (.type "bool")=some false)
  (q_bool3:ky K (.type "str") (.type "bool")=some false)
  (q_bool4:ky K (.type "tuple") (.type "bool")=some false)
  (q_bool5:ky K (.type "list") (.type "bool")=some false)
  (q_bool6:ky K (.type "dict") (.type "bool")=some false)
  (q_str0:ky K (.type "NoneType") (.type "str")=some false)
  (q_str1:ky K (.type "bool") (.type "str")=some false)
  (q_str2:ky K (.type "int") (.type "str")=some false)
  (q_str3:ky K (.type "str") (.type "str")=some true)
  (q_str4:ky K (.type "tuple") (.type "str")=some false)
  (q_str5:ky K (.type "list") (.type "str")=some false)
  (q_str6:ky K (.type "dict") (.type "str")=some false)
  (q_tuple0:ky K (.type "NoneType") (.type "tuple")=some false)
  (q_tuple1:ky K (.type "bool") (.type "tuple")=some false)
  (q_tuple2:ky K (.type "int") (.type "tuple")=some false)
  (q_tuple3:ky K (.type "str") (.type "tuple")=some false)
  (q_tuple4:ky K (.type "tuple") (.type "tuple")=some true)
  (q_tuple5:ky K (.type "list") (.type "tuple")=some false)
  (q_tuple6:ky K (.type "dict") (.type "tuple")=some false)
  (kt11:ky K (.type "bool") (.type "list")=some false)
  (up4:vV K C4 (.ref C0)=some true)
  (qk44:ky K (.ref C4) (.ref C4)=some true)
  (qk46:ky K (.ref C4) (.ref C6)=some false)
  (qk47:ky K (.ref C4) (.ref C7)=some false)
  (qv4:ky K (.ref C4) (.type "ValueError")=some true)
  (qA4:bG K (.ref C4) [.ref C5,.ref C9,.ref C1,.ref C2,.ref C3,.ref C8]=some false)
  (up6:vV K C6 (.ref C0)=some true)
  (qk64:ky K (.ref C6) (.ref C4)=some false)
  (qk66:ky K (.ref C6) (.ref C6)=some true)
  (qk67:ky K (.ref C6) (.ref C7)=some false)
  (qv6:ky K (.ref C6) (.type "ValueError")=some true)
  (qA6:bG K (.ref C6) [.ref C5,.ref C9,.ref C1,.ref C2,.ref C3,.ref C8]=some false)
  (up7:vV K C7 (.ref C0)=some true)
  (qk74:ky K (.ref C7) (.ref C4)=some false)
  (qk76:ky K (.ref C7) (.ref C6)=some false)
  (qk77:ky K (.ref C7) (.ref C7)=some true)
  (qv7:ky K (.ref C7) (.type "ValueError")=some true)
  (qA7:bG K (.ref C7) [.ref C5,.ref C9,.ref C1,.ref C2,.ref C3,.ref C8]=some false) :
  ∃ fd:FuncData,(∀ (s:Shared) (v:Value),BindsTo s fd ⟨[v],[]⟩ [("script",v)])/\∀ base:Heap,K.In base->base.Ns mainGlobals mg->FnOk l.prog w K mg base CX0 58 fa fd ["script"] (QD K):=by
 have e:=hfa.symm.trans (kj X G a52)
 cases e
 have F0:=zH (st:=jB) l0 c0 k0
 have F1:=zH (st:=jC) l1 c1 k1
 have F2:=zH (st:=sAre) l2 c2 k2
 have F3:=zH (st:=wu) l3 c3 k3
 have F4:=zH (st:=qj) l4 c4 k4
 have F5:=zH (st:=jD) l5 c5 k5
 have F6:=zH (st:=qk) l6 c6 k6
 have F7:=zH (st:=wv) l7 c7 k7
 have F8:=zH (st:=ql) l8 c8 k8
 have F9:=zH (st:=sHas) l9 c9 k9
 have F10:=zH (st:=sBr) l10 c10 k10
 have F11:=zH (st:=sNum) l11 c11 k11
 have F12:=zH (st:=jE) l12 c12 k12
 have F13:=zH (st:=jG) l13 c13 k13
 have F14:=zH (st:=qt) l14 c14 k14
 have F15:=zH (st:=jH) l15 c15 k15
 have F16:=zH (st:=sRTx) l16 c16 k16
 have F17:=zH (st:=sSbs) l17 c17 k17
 have F18:=zH (st:=sAll) l18 c18 k18
 have F19:=zH (st:=jI) l19 c19 k19
 have F20:=zH (st:=sBst) l20 c20 k20
 have F21:=zH (st:=sSo) l21 c21 k21
 have F22:=zH (st:=sTst) l22 c22 k22
 have F23:=zH (st:=sLow) l23 c23 k23
 have F24:=zH (st:=jJ) l24 c24 k24
 have F25:=zH (st:=sLh) l25 c25 k25
 have F26:=zH (st:=qu) l26 c26 k26
 have F27:=zH (st:=qz) l27 c27 k27
 have F28:=zH (st:=sPa) l28 c28 k28
 have F29:=zH (st:=sPd) l29 c29 k29
 have F30:=zH (st:=sPo) l30 c30 k30
 have F31:=zH (st:=x8) l31 c31 k31
 have F32:=zH (st:=sHin) l32 c32 k32
 have F33:=zH (st:=xU) l33 c33 k33
 have F34:=zH (st:=ww) l34 c34 k34
 have F35:=zH (st:=sLwh) l35 c35 k35
 have F36:=zH (st:=jF) l36 c36 k36
 have F37:=zH (st:=qm) l37 c37 k37
 have F38:=zH (st:=sLw) l38 c38 k38
 have F39:=zH (st:=qv) l39 c39 k39
 have F40:=zH (st:=qw) l40 c40 k40
 have F41:=zH (st:=jK) l41 c41 k41
 have F42:=zH (st:=sHts) l42 c42 k42
 have F43:=zH (st:=qx) l43 c43 k43
 have F44:=zH (st:=sIs) l44 c44 k44
 have F45:=zH (st:=qo) l45 c45 k45
 have F46:=zH (st:=sPut) l46 c46 k46
 have F47:=zH (st:=qp) l47 c47 k47
 have F48:=zH (st:=qr) l48 c48 k48
 have F49:=zH (st:=jL) l49 c49 k49
 have F50:=zH (st:=wx) l50 c50 k50
 have F51:=zH (st:=jM) l51 c51 k51
 have F52:=zH (st:=sLaw) l52 c52 k52
 have xc0:xj K C0:=⟨e0a,e0b,e0c,ed,ee,e0f,e0g,e0h,e0i⟩
 have xc4:xj K C4:=⟨e4a,e4b,e4c,ed,ee,e4f,e4g,e4h,e4i⟩
 have xc6:xj K C6:=⟨e6a,e6b,e6c,ed,ee,e6f,e6g,e6h,e6i⟩
 have xc7:xj K C7:=⟨e7a,e7b,e7c,ed,ee,e7f,e7g,e7h,e7i⟩
 have Z:Nm K mg:=⟨⟨_,kj X G g_LEFT_OUT⟩,⟨_,kj X G g_MOST_SIGNS⟩,(ko X G z_isinstance),(ko X G z_str),(ko X G z_list),(ko X G z_len),(ko X G z_all),(ko X G z_any),(ko X G z_ord),kt0,kt1,kt2,kt3,kt4,kt5,kt6,kt7,kt8,kt9,kt10,kt11⟩
 have Zt:Nt K mg kA:=⟨⟨_,kj X G g_KIND⟩,⟨_,kj X G g_PARTS⟩,⟨_,kj X G g_MOST_BOXES⟩,kj X G hKINDS,fun H=>.inr ⟨_,_,_,lkK,rfl,rfl,(show 2<=sizeLine by decide),.cons ⟨_,rfl⟩ (.cons ⟨_,rfl⟩ .nil)⟩,(ko X G z_isinstance),(ko X G z_int),(ko X G z_bool),(ko X G z_str),(ko X G z_tuple),(ko X G z_list),(ko X G z_len),(ko X G z_any),(ko X G z_sorted),(ko X G z_range),(fun t=>by cases t;exact q_int0;exact q_int1;exact q_int2;exact q_int3;exact q_int4;exact q_int5;exact q_int6),(fun t=>by cases t;exact q_bool0;exact q_bool1;exact q_bool2;exact q_bool3;exact q_bool4;exact q_bool5;exact q_bool6),(fun t=>by cases t;exact q_str0;exact q_str1;exact q_str2;exact q_str3;exact q_str4;exact q_str5;exact q_str6),(fun t=>by cases t;exact q_tuple0;exact q_tuple1;exact q_tuple2;exact q_tuple3;exact q_tuple4;exact q_tuple5;exact q_tuple6)⟩
 have Zs:Ns K mg:=⟨⟨_,kj X G g_WIDE⟩,⟨_,kj X G g_HIGH⟩,⟨_,kj X G g_MOST_WORDS⟩,⟨_,kj X G g_ACROSS⟩,(ko X G z_len),(ko X G z_isinstance),(ko X G z_list),(ko X G z_all),(ko X G z_max),(ko X G z_reversed),kt6,kt7,kt8,kt9,kt10,kt11⟩
 have ZK:Kinds K mg C0 C1 C2 C3 C4 C5 C6 C7 C8 C9:=⟨kj X G C0m,kj X G C1m,kj X G C2m,kj X G C3m,kj X G C4m,kj X G C5m,kj X G C6m,kj X G C7m,kj X G C8m,kj X G C9m,(ko X G z_ValueError),xc0,⟨xc4,up4,qk44,qk46,qk47,qv4,qA4⟩,⟨xc6,up6,qk64,qk66,qk67,qv6,qA6⟩,⟨xc7,up7,qk74,qk76,qk77,qv7,qA7⟩⟩
 refine ⟨kJ "law" "law" (zB sLaw) (zx sLaw) (zg sLaw) .none kV52 dc52 pm52 an52 cd52 ct52,fun s v=>.of_eq rfl,fun base B _=>?_⟩
 have Y0:Callee l.prog w K mg base CX0 1 "is_sign" f0 _ ["sign"] XJ:=⟨zbd F0 Z,kj X G a0,k0,F0.binds fun _ _ _ _ _ _ us hl=>bl1 (p:=fun us=>bindArgs _ ⟨us,[]⟩=pure (vn _ us)) hl fun _=>rfl⟩
 have Y1:Callee l.prog w K mg base CX0 2 "is_word" f1 _ ["thing"] XL:=⟨zbe F1 Z Y0,kj X G a1,k1,F1.binds fun _ _ _ _ _ _ us hl=>bl1 (p:=fun us=>bindArgs _ ⟨us,[]⟩=pure (vn _ us)) hl fun _=>rfl⟩
 have Y2:Callee l.prog w K mg base CX0 3 "are_words" f2 _ ["things"] YY:=⟨zco F2 Z Y1,kj X G a2,k2,F2.binds fun _ _ _ _ _ _ us hl=>bl1 (p:=fun us=>bindArgs _ ⟨us,[]⟩=pure (vn _ us)) hl fun _=>rfl⟩
 have Y3:Callee l.prog w K mg base (CXE l.prog w) 4 "refuse_no_words" f3 _ ["things"] (Za C6):=⟨Jf F3 ⟨kj X G C6m,ex6⟩ Y2,kj X G a3,k3,F3.binds fun _ _ _ _ _ _ us hl=>bl1 (p:=fun us=>bindArgs _ ⟨us,[]⟩=pure (vn _ us)) hl fun _=>rfl⟩
 have Y4:Callee l.prog w K mg base CX0 1 "taken" f4 _ ["words","wide"] ZY:=⟨J9 F4 (ko X G z_len),kj X G a4,k4,F4.binds fun _ _ _ _ _ _ us hl=>bl2 (p:=fun us=>bindArgs _ ⟨us,[]⟩=pure (vn _ us)) hl fun _ _=>rfl⟩
 have Y5:Callee l.prog w K mg base CX0 1 "with_next_word" f5 _ ["row","behind"] XQ:=⟨zbf F5 (ko X G z_len),kj X G a5,k5,F5.binds fun _ _ _ _ _ _ us hl=>bl2 (p:=fun us=>bindArgs _ ⟨us,[]⟩=pure (vn _ us)) hl fun _ _=>rfl⟩
 have Y6:Callee l.prog w K mg base CX0 2 "next_width" f6 _ ["rows"] XR:=⟨zbg F6 (ko X G z_min) (ko X G z_zip) Y5,kj X G a6,k6,F6.binds fun _ _ _ _ _ _ us hl=>bl1 (p:=fun us=>bindArgs _ ⟨us,[]⟩=pure (vn _ us)) hl fun _=>rfl⟩
 have Y7:Callee l.prog w K mg base (CXE l.prog w) 5 "text_stairs" f7 _ ["words"] (Zb C6):=⟨Jg F7 (ko X G z_len) (ko X G z_max) Y3 Y4 Y6,kj X G a7,k7,F7.binds fun _ _ _ _ _ _ us hl=>bl1 (p:=fun us=>bindArgs _ ⟨us,[]⟩=pure (vn _ us)) hl fun _=>rfl⟩
 have Y8:Callee l.prog w K mg base CX0 1 "is_whole" f8 _ ["thing"] y8:=⟨zab F8 Zt,kj X G a8,k8,F8.binds fun _ _ _ _ _ _ us hl=>bl1 (p:=fun us=>bindArgs _ ⟨us,[]⟩=pure (vn _ us)) hl fun _=>rfl⟩
 have Y9:Callee l.prog w K mg base CX0 1 "has_kind" f9 _ ["thing"] Qm:=⟨zcr F9 Zt,kj X G a9,k9,F9.binds fun _ _ _ _ _ _ us hl=>bl1 (p:=fun us=>bindArgs _ ⟨us,[]⟩=pure (vn _ us)) hl fun _=>rfl⟩
 have Y10:Callee l.prog w K mg base CX0 2 "is_branch" f10 _ ["thing"] spBr:=⟨zdf F10 Zt Y9,kj X G a10,k10,F10.binds fun _ _ _ _ _ _ us hl=>bl1 (p:=fun us=>bindArgs _ ⟨us,[]⟩=pure (vn _ us)) hl fun _=>rfl⟩
 have Y11:Callee l.prog w K mg base CX0 4 "numbers_in" f11 _ ["thing"] YZ:=⟨zcs F11 Zt Y8 Y10,kj X G a11,k11,F11.binds fun _ _ _ _ _ _ us hl=>bl1 (p:=fun us=>bindArgs _ ⟨us,[]⟩=pure (vn _ us)) hl fun _=>rfl⟩
 have Y12:Callee l.prog w K mg base CX0 5 "is_tree" f12 _ ["thing"] XV:=⟨zbj F12 Zt Y11,kj X G a12,k12,F12.binds fun _ _ _ _ _ _ us hl=>bl1 (p:=fun us=>bindArgs _ ⟨us,[]⟩=pure (vn _ us)) hl fun _=>rfl⟩
 have Y13:Callee l.prog w K mg base (CXE l.prog w) 6 "refuse_no_tree" f13 _ ["thing"] (XZ C4):=⟨zbm F13 ⟨kj X G C4m,ex4⟩ Y12,kj X G a13,k13,F13.binds fun _ _ _ _ _ _ us hl=>bl1 (p:=fun us=>bindArgs _ ⟨us,[]⟩=pure (vn _ us)) hl fun _=>rfl⟩
 have Y14:Callee l.prog w K mg base (CXE l.prog w) 7 "boxes_of" f14 _ ["tree"] (Z3 C4):=⟨zag F14 (ko X G z_len) Y13 Y11,kj X G a14,k14,F14.binds fun _ _ _ _ _ _ us hl=>bl1 (p:=fun us=>bindArgs _ ⟨us,[]⟩=pure (vn _ us)) hl fun _=>rfl⟩
 have Y15:Callee l.prog w K mg base CX0 4 "is_text" f15 _ ["thing"] X4:=⟨zbu F15 Zs Y2,kj X G a15,k15,F15.binds fun _ _ _ _ _ _ us hl=>bl1 (p:=fun us=>bindArgs _ ⟨us,[]⟩=pure (vn _ us)) hl fun _=>rfl⟩
 have Y16:Callee l.prog w K mg base (CXE l.prog w) 8 "refuse_no_texts" f16 _ ["tree","texts"] (Qo C4 C6):=⟨zcA F16 Zs ⟨kj X G C6m,ex6⟩ Y14 Y15,kj X G a16,k16,F16.binds fun _ _ _ _ _ _ us hl=>bl2 (p:=fun us=>bindArgs _ ⟨us,[]⟩=pure (vn _ us)) hl fun _ _=>rfl⟩
 have Y17:Callee l.prog w K mg base CX0 1 "side_by_side" f17 _ ["one","other"] Qp:=⟨zcB F17 Zs,kj X G a17,k17,F17.binds fun _ _ _ _ _ _ us hl=>bl2 (p:=fun us=>bindArgs _ ⟨us,[]⟩=pure (vn _ us)) hl fun _ _=>rfl⟩
 have Y18:Callee l.prog w K mg base CX0 2 "all_side_by_side" f18 _ ["parts"] Xb:=⟨zcC F18 Y17,kj X G a18,k18,F18.binds fun _ _ _ _ _ _ us hl=>bl1 (p:=fun us=>bindArgs _ ⟨us,[]⟩=pure (vn _ us)) hl fun _=>rfl⟩
 have Y19:Callee l.prog w K mg base CX0 1 "exchanged" f19 _ ["stairs"] ZE:=⟨zbv F19 Zs,kj X G a19,k19,F19.binds fun _ _ _ _ _ _ us hl=>bl1 (p:=fun us=>bindArgs _ ⟨us,[]⟩=pure (vn _ us)) hl fun _=>rfl⟩
 have Y20:Callee l.prog w K mg base CX0 6 "box_stairs" f20 _ ["texts"] Xc:=⟨zcE F20 Y7,kj X G a20,k20,F20.binds fun _ _ _ _ _ _ us hl=>bl1 (p:=fun us=>bindArgs _ ⟨us,[]⟩=pure (vn _ us)) hl fun _=>rfl⟩
 have Y21:Callee l.prog w K mg base CX0 27 "stairs_of" f21 _ ["tree","boxes"] (spSo 24):=⟨zaP F21 ⟨_,kj X G g_KIND⟩ ⟨_,kj X G g_PARTS⟩ Zs Y8 Y18 Y19 (kj X G a21) k21 (F21.binds fun _ _ _ _ _ _ us hl=>bl2 (p:=fun us=>bindArgs _ ⟨us,[]⟩=pure (vn _ us)) hl fun _ _=>rfl) 24,kj X G a21,k21,F21.binds fun _ _ _ _ _ _ us hl=>bl2 (p:=fun us=>bindArgs _ ⟨us,[]⟩=pure (vn _ us)) hl fun _ _=>rfl⟩
 have Y22:Callee l.prog w K mg base (CXE l.prog w) 28 "tree_stairs" f22 _ ["tree","texts"] (ZF C4 C6):=⟨zcH F22 Y16 Y21 Y20,kj X G a22,k22,F22.binds fun _ _ _ _ _ _ us hl=>bl2 (p:=fun us=>bindArgs _ ⟨us,[]⟩=pure (vn _ us)) hl fun _ _=>rfl⟩
 have Y23:Callee l.prog w K mg base CX0 1 "lowest" f23 _ ["stairs","wide"] Xg:=⟨zcM F23 ⟨_,kj X G g_WIDE⟩ ⟨_,kj X G g_HIGH⟩ (ko X G z_min),kj X G a23,k23,F23.binds fun _ _ _ _ _ _ us hl=>bl2 (p:=fun us=>bindArgs _ ⟨us,[]⟩=pure (vn _ us)) hl fun _ _=>rfl⟩
 have Y24:Callee l.prog w K mg base CX0 1 "narrowest" f24 _ ["stairs","high"] ZI:=⟨zbJ F24 ⟨_,kj X G g_WIDE⟩ ⟨_,kj X G g_HIGH⟩ (ko X G z_min),kj X G a24,k24,F24.binds fun _ _ _ _ _ _ us hl=>bl2 (p:=fun us=>bindArgs _ ⟨us,[]⟩=pure (vn _ us)) hl fun _ _=>rfl⟩
 have Y25:Callee l.prog w K mg base (CXE l.prog w) 29 "least_high" f25 _ ["tree","texts","wide"] (spLh C4 C6):=⟨zdn F25 Y22 Y23,kj X G a25,k25,F25.binds fun _ _ _ _ _ _ us hl=>bl3 (p:=fun us=>bindArgs _ ⟨us,[]⟩=pure (vn _ us)) hl fun _ _ _=>rfl⟩
 have Y26:Callee l.prog w K mg base (CXE l.prog w) 29 "least_wide" f26 _ ["tree","texts","high"] (Yc C4 C6):=⟨zaz F26 Y22 Y24,kj X G a26,k26,F26.binds fun _ _ _ _ _ _ us hl=>bl3 (p:=fun us=>bindArgs _ ⟨us,[]⟩=pure (vn _ us)) hl fun _ _ _=>rfl⟩
 have Y27:Callee l.prog w K mg base CX0 1 "edges" f27 _ ["first","last","lengths"] jT:=⟨zax F27,kj X G a27,k27,F27.binds fun _ _ _ _ _ _ us hl=>bl3 (p:=fun us=>bindArgs _ ⟨us,[]⟩=pure (vn _ us)) hl fun _ _ _=>rfl⟩
 have Y28:Callee l.prog w K mg base CX0 28 "pieces_across" f28 _ ["parts","stairs","piece"] spPa:=⟨zdp F28 ⟨_,kj X G g_LEFT⟩ ⟨_,kj X G g_TOP⟩ ⟨_,kj X G g_RIGHT⟩ ⟨_,kj X G g_BELOW⟩ (ko X G z_zip) Y24 Y21 Y27,kj X G a28,k28,F28.binds fun _ _ _ _ _ _ us hl=>bl3 (p:=fun us=>bindArgs _ ⟨us,[]⟩=pure (vn _ us)) hl fun _ _ _=>rfl⟩
 have Y29:Callee l.prog w K mg base CX0 28 "pieces_down" f29 _ ["parts","stairs","piece"] spPd:=⟨zdq F29 ⟨_,kj X G g_LEFT⟩ ⟨_,kj X G g_TOP⟩ ⟨_,kj X G g_RIGHT⟩ ⟨_,kj X G g_BELOW⟩ (ko X G z_zip) Y23 Y21 Y27,kj X G a29,k29,F29.binds fun _ _ _ _ _ _ us hl=>bl3 (p:=fun us=>bindArgs _ ⟨us,[]⟩=pure (vn _ us)) hl fun _ _ _=>rfl⟩
 have Y30:Callee l.prog w K mg base CX0 29 "pieces_of" f30 _ ["tree","stairs","piece"] spPo:=⟨zdr F30 ⟨_,kj X G g_KIND⟩ ⟨_,kj X G g_PARTS⟩ Zs Y28 Y29,kj X G a30,k30,F30.binds fun _ _ _ _ _ _ us hl=>bl3 (p:=fun us=>bindArgs _ ⟨us,[]⟩=pure (vn _ us)) hl fun _ _ _=>rfl⟩
 have Y31:Callee l.prog w K mg base CX0 54 "set_in" f31 _ ["tree","stairs","piece"] (jU 24):=⟨JD F31 ⟨_,kj X G g_PARTS⟩ (ko X G z_zip) Y8 Y30 (kj X G a31) k31 (F31.binds fun _ _ _ _ _ _ us hl=>bl3 (p:=fun us=>bindArgs _ ⟨us,[]⟩=pure (vn _ us)) hl fun _ _ _=>rfl) 24,kj X G a31,k31,F31.binds fun _ _ _ _ _ _ us hl=>bl3 (p:=fun us=>bindArgs _ ⟨us,[]⟩=pure (vn _ us)) hl fun _ _ _=>rfl⟩
 have Y32:Callee l.prog w K mg base (CXE l.prog w) 30 "height_in" f32 _ ["tree","texts","wide"] (Qy C4 C6 C7):=⟨zcO F32 ⟨kj X G C7m,ex7⟩ Y25,kj X G a32,k32,F32.binds fun _ _ _ _ _ _ us hl=>bl3 (p:=fun us=>bindArgs _ ⟨us,[]⟩=pure (vn _ us)) hl fun _ _ _=>rfl⟩
 have Y33:Callee l.prog w K mg base (CXE l.prog w) 55 "setting" f33 _ ["tree","texts","wide","high"] (Wj C4 C6 C7):=⟨zbN F33 ⟨kj X G C7m,ex7⟩ (ko X G z_sorted) Y32 Y31 Y20,kj X G a33,k33,F33.binds fun _ _ _ _ _ _ us hl=>bl4 (p:=fun us=>bindArgs _ ⟨us,[]⟩=pure (vn _ us)) hl fun _ _ _ _=>rfl⟩
 have Y34:Callee l.prog w K mg base CX0 1 "_law_cell_at" f34 _ ["script","k"] (qR K):=⟨Jm F34 (ko X G z_len),kj X G a34,k34,F34.binds fun _ _ _ _ _ _ us hl=>bl2 (p:=fun us=>bindArgs _ ⟨us,[]⟩=pure (vn _ us)) hl fun _ _=>rfl⟩
 have Y35:Callee l.prog w K mg base CX0 1 "_law_whole" f35 _ ["found"] y8:=⟨zct F35 Zt,kj X G a35,k35,F35.binds fun _ _ _ _ _ _ us hl=>bl1 (p:=fun us=>bindArgs _ ⟨us,[]⟩=pure (vn _ us)) hl fun _=>rfl⟩
 have Y36:Callee l.prog w K mg base CX0 1 "_law_join" f36 _ ["kind","one","other"] XW:=⟨zbl F36 Zt,kj X G a36,k36,F36.binds fun _ _ _ _ _ _ us hl=>bl3 (p:=fun us=>bindArgs _ ⟨us,[]⟩=pure (vn _ us)) hl fun _ _ _=>rfl⟩
 have Y37:Callee l.prog w K mg base CX0 2 "_law_tree" f37 _ ["cells"] Z2:=⟨zaf F37 Zt Y36,kj X G a37,k37,F37.binds fun _ _ _ _ _ _ us hl=>bl1 (p:=fun us=>bindArgs _ ⟨us,[]⟩=pure (vn _ us)) hl fun _=>rfl⟩
 have Y38:Callee l.prog w K mg base CX0 1 "_law_word" f38 _ ["cell","most"] Qu:=⟨zcI F38 (ko X G z_len) (ko X G z_range),kj X G a38,k38,F38.binds fun _ _ _ _ _ _ us hl=>bl2 (p:=fun us=>bindArgs _ ⟨us,[]⟩=pure (vn _ us)) hl fun _ _=>rfl⟩
 have Y39:Callee l.prog w K mg base CX0 1 "_law_rows" f39 _ ["words","wide"] jQ:=⟨zan F39 (ko X G z_len),kj X G a39,k39,F39.binds fun _ _ _ _ _ _ us hl=>bl2 (p:=fun us=>bindArgs _ ⟨us,[]⟩=pure (vn _ us)) hl fun _ _=>rfl⟩
 have Y40:Callee l.prog w K mg base CX0 2 "_law_short_texts" f40 _ ["script","many"] (Z6 K):=⟨zao F40 (ko X G z_range) Y34 Y38,kj X G a40,k40,F40.binds fun _ _ _ _ _ _ us hl=>bl2 (p:=fun us=>bindArgs _ ⟨us,[]⟩=pure (vn _ us)) hl fun _ _=>rfl⟩
 have Y41:Callee l.prog w K mg base CX0 1 "_law_beside" f41 _ ["one","other","most"] ZH:=⟨zby F41 (ko X G z_range) (ko X G z_max),kj X G a41,k41,F41.binds fun _ _ _ _ _ _ us hl=>bl3 (p:=fun us=>bindArgs _ ⟨us,[]⟩=pure (vn _ us)) hl fun _ _ _=>rfl⟩
 have Y42:Callee l.prog w K mg base CX0 26 "_law_heights" f42 _ ["tree","texts","most"] (jR 24):=⟨Ju F42 (ko X G z_range) (ko X G z_len) (ko X G z_max) (ko X G z_list) (ko X G z_zip) Y35 Y39 Y41 (kj X G a42) k42 (F42.binds fun _ _ _ _ _ _ us hl=>bl3 (p:=fun us=>bindArgs _ ⟨us,[]⟩=pure (vn _ us)) hl fun _ _ _=>rfl) 24,kj X G a42,k42,F42.binds fun _ _ _ _ _ _ us hl=>bl3 (p:=fun us=>bindArgs _ ⟨us,[]⟩=pure (vn _ us)) hl fun _ _ _=>rfl⟩
 have Y43:Callee l.prog w K mg base CX0 1 "_law_most" f43 _ ["texts"] Z7:=⟨zap F43 (ko X G z_len) (ko X G z_sum),kj X G a43,k43,F43.binds fun _ _ _ _ _ _ us hl=>bl1 (p:=fun us=>bindArgs _ ⟨us,[]⟩=pure (vn _ us)) hl fun _=>rfl⟩
 have Y44:Callee l.prog w K mg base CX0 2 "_law_is" f44 _ ["thing"] spIs:=⟨zds F44 Zt Y35,kj X G a44,k44,F44.binds fun _ _ _ _ _ _ us hl=>bl1 (p:=fun us=>bindArgs _ ⟨us,[]⟩=pure (vn _ us)) hl fun _=>rfl⟩
 have Y45:Callee l.prog w K mg base CX0 1 "_law_knots" f45 _ ["tree"] Yh:=⟨zaA F45 Zt,kj X G a45,k45,F45.binds fun _ _ _ _ _ _ us hl=>bl1 (p:=fun us=>bindArgs _ ⟨us,[]⟩=pure (vn _ us)) hl fun _=>rfl⟩
 have Y46:Callee l.prog w K mg base CX0 1 "_law_put" f46 _ ["tree","way","new"] Qz:=⟨zcP F46 (ko X G z_reversed),kj X G a46,k46,F46.binds fun _ _ _ _ _ _ us hl=>bl3 (p:=fun us=>bindArgs _ ⟨us,[]⟩=pure (vn _ us)) hl fun _ _ _=>rfl⟩
 have Y47:Callee l.prog w K mg base CX0 1 "_law_other" f47 _ ["here","many","cell"] Yj:=⟨zaC F47 Zt,kj X G a47,k47,F47.binds fun _ _ _ _ _ _ us hl=>bl3 (p:=fun us=>bindArgs _ ⟨us,[]⟩=pure (vn _ us)) hl fun _ _ _=>rfl⟩
 have Y48:Callee l.prog w K mg base CX0 2 "_law_wrong" f48 _ ["tree","cell"] Yk:=⟨zaD F48 (ko X G z_len) Y45 Y46 Y47,kj X G a48,k48,F48.binds fun _ _ _ _ _ _ us hl=>bl2 (p:=fun us=>bindArgs _ ⟨us,[]⟩=pure (vn _ us)) hl fun _ _=>rfl⟩
 have Y49:Callee l.prog w K mg base CX0 1 "_law_bad_texts" f49 _ ["texts","cell"] Wp:=⟨zbR F49 (ko X G z_len),kj X G a49,k49,F49.binds fun _ _ _ _ _ _ us hl=>bl2 (p:=fun us=>bindArgs _ ⟨us,[]⟩=pure (vn _ us)) hl fun _ _=>rfl⟩
 have Y50:Callee l.prog w K mg base CX0 56 "_law_caught" f50 _ ["way","tree","texts","wide","high"] qY:=⟨JI F50 (ko X G z_isinstance) ZK Y22 Y25 Y26 Y33,kj X G a50,k50,F50.binds fun _ _ _ _ _ _ us hl=>bl5 (p:=fun us=>bindArgs _ ⟨us,[]⟩=pure (vn _ us)) hl fun _ _ _ _ _=>rfl⟩
 have Y51:Callee l.prog w K mg base CX0 57 "_law_all_refuse" f51 _ ["tree","texts","wide","high","due"] Wq:=⟨zbV F51 (ko X G z_range) Y50,kj X G a51,k51,F51.binds fun _ _ _ _ _ _ us hl=>bl5 (p:=fun us=>bindArgs _ ⟨us,[]⟩=pure (vn _ us)) hl fun _ _ _ _ _=>rfl⟩
 exact zcZ F52 (ko X G z_len) (ko X G z_range) (ko X G z_min) (ko X G z_tuple) (ko X G z_list) Y34 Y37 Y40 Y42 Y43 Y49 Y51 Y48 Y44 Y50
end _JF
theorem PySem.W.Fast.tw14941678131650594177:True:=trivial
theorem PySem.W.Fast.te7408763814127822912:True:=trivial
theorem PySem.W.Fast.tw9026090083135201196:True:=trivial
theorem PySem.W.Fast.tw14920536101574927089:True:=trivial
theorem PySem.W.Fast.tw8518886277692517061:True:=trivial
theorem PySem.W.Fast.tw8639955340483571146:True:=trivial
theorem PySem.W.Fast.tw3155129400304393818:True:=trivial
theorem PySem.W.Fast.tw5836940908904840699:True:=trivial
theorem PySem.W.Fast.tw8022134566216165465:True:=trivial
theorem PySem.W.Fast.tw16293508544106799432:True:=trivial
theorem PySem.W.Fast.tw10296020865653653505:True:=trivial
theorem PySem.W.Fast.tw17646754985345627707:True:=trivial
theorem PySem.W.Fast.tw10068698445043689181:True:=trivial
theorem PySem.W.Fast.tw10391195592657787250:True:=trivial
theorem PySem.W.Fast.tw11450013374087023679:True:=trivial
theorem PySem.W.Fast.tw10130755665410015951:True:=trivial
theorem PySem.W.Fast.tw9005169731926476140:True:=trivial
theorem PySem.W.Fast.tw17561585294348423195:True:=trivial
theorem PySem.W.Fast.tw1346297083829131347:True:=trivial
theorem PySem.W.Fast.tw4970138988822310190:True:=trivial
theorem PySem.W.Fast.tw17837703453421821674:True:=trivial
theorem PySem.W.Fast.tw15151921628645258166:True:=trivial
theorem PySem.W.Fast.tw1377647324629442484:True:=trivial
theorem PySem.W.Fast.tw8012753801914104094:True:=trivial
theorem PySem.W.Fast.tw1479549079470077616:True:=trivial
theorem PySem.W.Fast.tw6855532987246294382:True:=trivial
theorem PySem.W.Fast.tw5699265803230741828:True:=trivial
theorem PySem.W.Fast.tw17407607048671138435:True:=trivial
theorem PySem.W.Fast.tw5354772832640681171:True:=trivial
theorem PySem.W.Fast.tw11759121173605526188:True:=trivial
theorem PySem.W.Fast.tw1197281714317167296:True:=trivial
theorem PySem.W.Fast.tw10580509699292545756:True:=trivial
theorem PySem.W.Fast.tw6527372201459460302:True:=trivial
theorem PySem.W.Fast.tw14980267585764038898:True:=trivial
theorem PySem.W.Fast.tw9759129931592353201:True:=trivial
theorem PySem.W.Fast.tw13260092958156138653:True:=trivial
theorem PySem.W.Fast.tw10981033633711587224:True:=trivial
theorem PySem.W.Fast.tw17047350608816769854:True:=trivial
theorem PySem.W.Fast.tw9071449306032234168:True:=trivial
theorem PySem.W.Fast.tw154239664692852747:True:=trivial
theorem PySem.W.Fast.tw9239388614329281601:True:=trivial
theorem PySem.W.Fast.tw7907281340853104809:True:=trivial
theorem PySem.W.Fast.tw17851270161242398933:True:=trivial
theorem PySem.W.Fast.tw2508465979832441053:True:=trivial
theorem PySem.W.Fast.tw17742634860841263644:True:=trivial
theorem PySem.W.Fast.tw3943773636271534437:True:=trivial
theorem PySem.W.Fast.tw8392471064794647936:True:=trivial
theorem PySem.W.Fast.tw318807791078267159:True:=trivial
theorem PySem.W.Fast.tw17831492958483306667:True:=trivial
theorem PySem.W.Fast.tw558261055250256417:True:=trivial
theorem PySem.W.Fast.tw14873960040946645:True:=trivial
theorem PySem.W.Fast.tw16861687034812338290:True:=trivial
theorem PySem.W.Fast.tw8082089961354831730:True:=trivial
theorem PySem.W.Fast.tw2266404518718526141:True:=trivial
theorem PySem.W.Fast.tw13699794802604402182:True:=trivial
theorem PySem.W.Fast.tw13179200955930914116:True:=trivial
theorem PySem.W.Fast.tw3037270879942439485:True:=trivial
theorem PySem.W.Fast.tw13136608247061978816:True:=trivial
theorem PySem.W.Fast.tw16829164698936645059:True:=trivial
theorem PySem.W.Fast.tw1323316387661444410:True:=trivial
theorem PySem.W.Fast.tw4000716542373826396:True:=trivial
theorem PySem.W.Fast.tw6907243946867634573:True:=trivial
theorem PySem.W.Fast.tw5008072286965312449:True:=trivial
theorem PySem.W.Fast.tw2165191881097588126:True:=trivial
theorem PySem.W.Fast.tw17297633751466509888:True:=trivial
theorem PySem.W.Fast.tw2363488275593702040:True:=trivial
theorem PySem.W.Fast.tw2289785349906702743:True:=trivial
theorem PySem.W.Fast.tw17525032858744282150:True:=trivial
theorem PySem.W.Fast.tw3253166415960576796:True:=trivial
theorem PySem.W.Fast.tw8074436410352399120:True:=trivial
theorem PySem.W.Fast.tw6806514461982200226:True:=trivial
theorem PySem.W.Fast.tw3468601307482191735:True:=trivial
theorem PySem.W.Fast.tw13853767223916655024:True:=trivial
theorem PySem.W.Fast.tw3212745361071206350:True:=trivial
theorem PySem.W.Fast.tw9825298877408707670:True:=trivial
theorem PySem.W.Fast.tw10622002809072050130:True:=trivial
theorem PySem.W.Fast.tw12727136349337909188:True:=trivial
theorem PySem.W.Fast.tw1745129492887201696:True:=trivial
theorem PySem.W.Fast.tw16034058876510251475:True:=trivial
theorem PySem.W.Fast.tw9870926298204954589:True:=trivial
theorem PySem.W.Fast.tw1613031995321832818:True:=trivial
theorem PySem.W.Fast.tw6890107520885312151:True:=trivial
theorem PySem.W.Fast.tw2703689803701917045:True:=trivial
theorem PySem.W.Fast.tw10002610479702310093:True:=trivial
theorem PySem.W.Fast.tw8066716371868332251:True:=trivial
theorem PySem.W.Fast.tw13303015107807471131:True:=trivial
theorem PySem.W.Fast.tw13509816461166676560:True:=trivial
theorem PySem.W.Fast.tw17354983669247436368:True:=trivial
theorem PySem.W.Fast.tw18368293931565303076:True:=trivial
theorem PySem.W.Fast.tw883694161721702307:True:=trivial
theorem PySem.W.Fast.tw6361999104374962483:True:=trivial
theorem PySem.W.Fast.tw8370799959356807159:True:=trivial
theorem PySem.W.Fast.tw3554040578434870564:True:=trivial
theorem PySem.W.Fast.tw14303907344974785769:True:=trivial
theorem PySem.W.Fast.tw13716880200591345447:True:=trivial
theorem PySem.W.Fast.tw9297230943099414132:True:=trivial
theorem PySem.W.Fast.tw13696855792729764457:True:=trivial
theorem PySem.W.Fast.tw8427147547053271037:True:=trivial
theorem PySem.W.Fast.tw12218037697461439370:True:=trivial
theorem PySem.W.Fast.tw1338913919481015913:True:=trivial
theorem PySem.W.Fast.tw5892244206302362071:True:=trivial
theorem PySem.W.Fast.tw5519323258613390479:True:=trivial
theorem PySem.W.Fast.tw10817191553243655738:True:=trivial
theorem PySem.W.Fast.tw11156050530464470242:True:=trivial
theorem PySem.W.Fast.tw10964310680615549356:True:=trivial
theorem PySem.W.Fast.tw1785378345520414051:True:=trivial
theorem PySem.W.Fast.tw10377860279416798274:True:=trivial
theorem PySem.W.Fast.tw2067722196410231111:True:=trivial
theorem PySem.W.Fast.tw120012641700225165:True:=trivial
theorem PySem.W.Fast.tw7065034530658260725:True:=trivial
theorem PySem.W.Fast.tw9482769370422284988:True:=trivial
theorem PySem.W.Fast.tw12127856739071525132:True:=trivial
theorem PySem.W.Fast.tw12589893873539140835:True:=trivial
theorem PySem.W.Fast.tw8379511552121701686:True:=trivial
theorem PySem.W.Fast.tw6469964479840319844:True:=trivial
theorem PySem.W.Fast.tw4080049278187988439:True:=trivial
theorem PySem.W.Fast.tw3968267160922914901:True:=trivial
theorem PySem.W.Fast.tw3496700331516153029:True:=trivial
theorem PySem.W.Fast.tw17303629998143560299:True:=trivial
theorem PySem.W.Fast.tw12487005443289977204:True:=trivial
theorem PySem.W.Fast.tw17763463890747403522:True:=trivial
theorem PySem.W.Fast.tw18172334842577323040:True:=trivial
theorem PySem.W.Fast.tw11394795169681347541:True:=trivial
theorem PySem.W.Fast.tw7390209793302570275:True:=trivial
theorem PySem.W.Fast.tw9942377354973637223:True:=trivial
theorem PySem.W.Fast.tw14871532066517940061:True:=trivial
theorem PySem.W.Fast.tw572332401342295070:True:=trivial
theorem PySem.W.Fast.tw4572817015697296830:True:=trivial
theorem PySem.W.Fast.tw11990320684203422542:True:=trivial
theorem PySem.W.Fast.tw1523751559075314293:True:=trivial
theorem PySem.W.Fast.tw2022558657148518334:True:=trivial
theorem PySem.W.Fast.tw17121370563464844749:True:=trivial
theorem PySem.W.Fast.tw10130485052604010538:True:=trivial
theorem PySem.W.Fast.tw9913556426512945319:True:=trivial
theorem PySem.W.Fast.tw12059832936061267102:True:=trivial
theorem PySem.W.Fast.tw2583434821176918009:True:=trivial
theorem PySem.W.Fast.tw8135578414340812585:True:=trivial
theorem PySem.W.Fast.tw737971212276939959:True:=trivial
theorem PySem.W.Fast.tw12100671705078566243:True:=trivial
theorem PySem.W.Fast.tw11819392334264943783:True:=trivial
theorem PySem.W.Fast.tw16401153802400833887:True:=trivial
theorem PySem.W.Fast.tw11470030415034698303:True:=trivial
theorem PySem.W.Fast.tw15625800344599524073:True:=trivial
theorem PySem.W.Fast.tw6088324866763731477:True:=trivial
theorem PySem.W.Fast.tw1211903396955052242:True:=trivial
theorem PySem.W.Fast.tw18045933215399680254:True:=trivial
theorem PySem.W.Fast.tw4452716223490980203:True:=trivial
theorem PySem.W.Fast.tw5105880801361039400:True:=trivial
theorem PySem.W.Fast.tw10979740836922063037:True:=trivial
theorem PySem.W.Fast.tw3952771644722072872:True:=trivial
theorem PySem.W.Fast.tw8491451117285162516:True:=trivial
theorem PySem.W.Fast.tw17126560473120966231:True:=trivial
theorem PySem.W.Fast.tw1445407102127899120:True:=trivial
theorem PySem.W.Fast.tw8511356352938271375:True:=trivial
theorem PySem.W.Fast.tw13245459377547572356:True:=trivial
theorem PySem.W.Fast.tw17808470838441369261:True:=trivial
theorem PySem.W.Fast.tw14548534438693891187:True:=trivial
theorem PySem.W.Fast.tw13432306213211638134:True:=trivial
theorem PySem.W.Fast.tw5742970132116135678:True:=trivial
theorem PySem.W.Fast.tw5293226274208689454:True:=trivial
theorem PySem.W.Fast.tw11689619624392882899:True:=trivial
theorem PySem.W.Fast.tw3756605406223132432:True:=trivial
theorem PySem.W.Fast.tw13237481002564375362:True:=trivial
theorem PySem.W.Fast.tw16441521524170655343:True:=trivial
theorem PySem.W.Fast.tw5749076049491117667:True:=trivial
theorem PySem.W.Fast.tw6717213543230779184:True:=trivial
theorem PySem.W.Fast.tw13483232584762525628:True:=trivial
theorem PySem.W.Fast.tw7229450823540744538:True:=trivial
theorem PySem.W.Fast.tw5638954211998125180:True:=trivial
theorem PySem.W.Fast.tw12510947154319914019:True:=trivial
theorem PySem.W.Fast.tw10155266815063142709:True:=trivial
theorem PySem.W.Fast.tw7915751077310175691:True:=trivial
theorem PySem.W.Fast.tw13749746059131710378:True:=trivial
theorem PySem.W.Fast.tw13045615428841843155:True:=trivial
theorem PySem.W.Fast.tw15672106261732962925:True:=trivial
theorem PySem.W.Fast.tw223155043740127867:True:=trivial
theorem PySem.W.Fast.tw16471882993320205135:True:=trivial
theorem PySem.W.Fast.tw2770304156009612131:True:=trivial
theorem PySem.W.Fast.tw6068465409043098846:True:=trivial
theorem PySem.W.Fast.tw3101158459983117948:True:=trivial
theorem PySem.W.Fast.tw12736663836904784721:True:=trivial
theorem PySem.W.Fast.tw6276939864394529249:True:=trivial
theorem PySem.W.Fast.tw14594017762882451443:True:=trivial
theorem PySem.W.Fast.tw3203838171157950149:True:=trivial
theorem PySem.W.Fast.tw17106804298517168912:True:=trivial
theorem PySem.W.Fast.tw6826528272995982117:True:=trivial
theorem PySem.W.Fast.tw9499525716068535929:True:=trivial
theorem PySem.W.Fast.tw13552121693738481717:True:=trivial
theorem PySem.W.Fast.tw13762253018117511797:True:=trivial
theorem PySem.W.Fast.tw8332444965911843603:True:=trivial
theorem PySem.W.Fast.tw16995585172325546757:True:=trivial
theorem PySem.W.Fast.tw1268872472923933734:True:=trivial
theorem PySem.W.Fast.tw14695601467310960105:True:=trivial
theorem PySem.W.Fast.tw9320826760920654847:True:=trivial
theorem PySem.W.Fast.tw1777073924006231492:True:=trivial
theorem PySem.W.Fast.tw18429427767234996920:True:=trivial
theorem PySem.W.Fast.tw14044556630588013111:True:=trivial
theorem PySem.W.Fast.tw4358465582806410279:True:=trivial
theorem PySem.W.Fast.tw3662936066904749508:True:=trivial
theorem PySem.W.Fast.tw15757360603259008809:True:=trivial
theorem PySem.W.Fast.tw18090982916145961146:True:=trivial
theorem PySem.W.Fast.tw2593949742308680240:True:=trivial
theorem PySem.W.Fast.tw14434104937990231125:True:=trivial
theorem PySem.W.Fast.tw18081302804824112858:True:=trivial
theorem PySem.W.Fast.tw3633935252685759353:True:=trivial
theorem PySem.W.Fast.tw3374466191528710733:True:=trivial
theorem PySem.W.Fast.tw13822296992020277908:True:=trivial
theorem PySem.W.Fast.tw3264479276743124345:True:=trivial
theorem PySem.W.Fast.tw18244388104550181810:True:=trivial
theorem PySem.W.Fast.tw10470436943676830980:True:=trivial
theorem PySem.W.Fast.tw1206361586975375061:True:=trivial
open PySem PySem.W PyProof.Rows
set_option maxRecDepth 100000 in
set_option maxHeartbeats 0 in
theorem PySem.Challenge.cw_pagepart_k65_trees_and_texts_refused_holds : PySem.Challenge.rw_pagepart_k65_trees_and_texts_refused.Holds := by
 w_on;o_law;k_head;(case hw=>w_witness2)
 k_fill
 refine _L2.JR (l:=PySem.Challenge.rw_pagepart_k65_trees_and_texts_refused) (n:=63) (k:=58) (x := "script") (CX:=_L2.CX0) (sp:=fun K=>_JF.QD K) rfl (by decide) rfl ⟨rfl,by decide,by decide⟩ (fun w h Y=>PySem.W.kIn_of Y) ?F (fun K H a ns hl hO hS=>⟨a,ns,rfl,hS,hl,fun _=>rfl⟩) fun _ _ _ _ z=>z
 case F =>
  intro w mg fa h KX G hmg
  refine' _root_._JF.all_mk KX G hmg  ?a0 ?l0 ?c0 ?k0 ?a1 ?l1 ?c1 ?k1 ?a2 ?l2 ?c2 ?k2 ?a3 ?l3 ?c3 ?k3 ?a4 ?l4 ?c4 ?k4 ?a5 ?l5 ?c5 ?k5 ?a6 ?l6 ?c6 ?k6 ?a7 ?l7 ?c7 ?k7 ?a8 ?l8 ?c8 ?k8 ?a9 ?l9 ?c9 ?k9 ?a10 ?l10 ?c10 ?k10 ?a11 ?l11 ?c11 ?k11 ?a12 ?l12 ?c12 ?k12 ?a13 ?l13 ?c13 ?k13 ?a14 ?l14 ?c14 ?k14 ?a15 ?l15 ?c15 ?k15 ?a16 ?l16 ?c16 ?k16 ?a17 ?l17 ?c17 ?k17 ?a18 ?l18 ?c18 ?k18 ?a19 ?l19 ?c19 ?k19 ?a20 ?l20 ?c20 ?k20 ?a21 ?l21 ?c21 ?k21 ?a22 ?l22 ?c22 ?k22 ?a23 ?l23 ?c23 ?k23 ?a24 ?l24 ?c24 ?k24 ?a25 ?l25 ?c25 ?k25 ?a26 ?l26 ?c26 ?k26 ?a27 ?l27 ?c27 ?k27 ?a28 ?l28 ?c28 ?k28 ?a29 ?l29 ?c29 ?k29 ?a30 ?l30 ?c30 ?k30 ?a31 ?l31 ?c31 ?k31 ?a32 ?l32 ?c32 ?k32 ?a33 ?l33 ?c33 ?k33 ?a34 ?l34 ?c34 ?k34 ?a35 ?l35 ?c35 ?k35 ?a36 ?l36 ?c36 ?k36 ?a37 ?l37 ?c37 ?k37 ?a38 ?l38 ?c38 ?k38 ?a39 ?l39 ?c39 ?k39 ?a40 ?l40 ?c40 ?k40 ?a41 ?l41 ?c41 ?k41 ?a42 ?l42 ?c42 ?k42 ?a43 ?l43 ?c43 ?k43 ?a44 ?l44 ?c44 ?k44 ?a45 ?l45 ?c45 ?k45 ?a46 ?l46 ?c46 ?k46 ?a47 ?l47 ?c47 ?k47 ?a48 ?l48 ?c48 ?k48 ?a49 ?l49 ?c49 ?k49 ?a50 ?l50 ?c50 ?k50 ?a51 ?l51 ?c51 ?k51 ?a52 ?l52 ?c52 ?k52 ?C0m ?C1m ?C2m ?C3m ?C4m ?C5m ?C6m ?C7m ?C8m ?C9m ?z_len ?z_range ?z_min ?z_max ?z_sum ?z_zip ?z_isinstance ?z_int ?z_bool ?z_str ?z_tuple ?z_list ?z_all ?z_any ?z_ord ?z_sorted ?z_reversed ?z_ValueError ?g_LEFT_OUT ?g_MOST_SIGNS ?g_KIND ?g_PARTS ?g_MOST_BOXES ?g_WIDE ?g_HIGH ?g_MOST_WORDS ?g_LEFT ?g_TOP ?g_RIGHT ?g_BELOW ?g_ACROSS ?ex4 ?ex6 ?ex7 ?e0a ?e0b ?e0c ?e0f ?e0g ?e0h ?e0i ?e4a ?e4b ?e4c ?e4f ?e4g ?e4h ?e4i ?e6a ?e6b ?e6c ?e6f ?e6g ?e6h ?e6i ?e7a ?e7b ?e7c ?e7f ?e7g ?e7h ?e7i ?ed ?ee ?hKINDS ?lkK ?kt0 ?kt1 ?kt2 ?kt3 ?kt4 ?kt5 ?kt6 ?kt7 ?kt8 ?kt9 ?kt10 ?q_int0 ?q_int1 ?q_int2 ?q_int3 ?q_int4 ?q_int5 ?q_int6 ?q_bool0 ?q_bool1 ?q_bool2 ?q_bool3 ?q_bool4 ?q_bool5 ?q_bool6 ?q_str0 ?q_str1 ?q_str2 ?q_str3 ?q_str4 ?q_str5 ?q_str6 ?q_tuple0 ?q_tuple1 ?q_tuple2 ?q_tuple3 ?q_tuple4 ?q_tuple5 ?q_tuple6 ?kt11 ?up4 ?qk44 ?qk46 ?qk47 ?qv4 ?qA4 ?up6 ?qk64 ?qk66 ?qk67 ?qv6 ?qA6 ?up7 ?qk74 ?qk76 ?qk77 ?qv7 ?qA7
  (case a0=>k_is)
  (case l0=>k_is)
  (case c0=>k_is)
  (case k0=>k_is)
  (case a1=>k_is)
  (case l1=>k_is)
  (case c1=>k_is)
  (case k1=>k_is)
  (case a2=>k_is)
  (case l2=>k_is)
  (case c2=>k_is)
  (case k2=>k_is)
  (case a3=>k_is)
  (case l3=>k_is)
  (case c3=>k_is)
  (case k3=>k_is)
  (case a4=>k_is)
  (case l4=>k_is)
  (case c4=>k_is)
  (case k4=>k_is)
  (case a5=>k_is)
  (case l5=>k_is)
  (case c5=>k_is)
  (case k5=>k_is)
  (case a6=>k_is)
  (case l6=>k_is)
  (case c6=>k_is)
  (case k6=>k_is)
  (case a7=>k_is)
  (case l7=>k_is)
  (case c7=>k_is)
  (case k7=>k_is)
  (case a8=>k_is)
  (case l8=>k_is)
  (case c8=>k_is)
  (case k8=>k_is)
  (case a9=>k_is)
  (case l9=>k_is)
  (case c9=>k_is)
  (case k9=>k_is)
  (case a10=>k_is)
  (case l10=>k_is)
  (case c10=>k_is)
  (case k10=>k_is)
  (case a11=>k_is)
  (case l11=>k_is)
  (case c11=>k_is)
  (case k11=>k_is)
  (case a12=>k_is)
  (case l12=>k_is)
  (case c12=>k_is)
  (case k12=>k_is)
  (case a13=>k_is)
  (case l13=>k_is)
  (case c13=>k_is)
  (case k13=>k_is)
  (case a14=>k_is)
  (case l14=>k_is)
  (case c14=>k_is)
  (case k14=>k_is)
  (case a15=>k_is)
  (case l15=>k_is)
  (case c15=>k_is)
  (case k15=>k_is)
  (case a16=>k_is)
  (case l16=>k_is)
  (case c16=>k_is)
  (case k16=>k_is)
  (case a17=>k_is)
  (case l17=>k_is)
  (case c17=>k_is)
  (case k17=>k_is)
  (case a18=>k_is)
  (case l18=>k_is)
  (case c18=>k_is)
  (case k18=>k_is)
  (case a19=>k_is)
  (case l19=>k_is)
  (case c19=>k_is)
  (case k19=>k_is)
  (case a20=>k_is)
  (case l20=>k_is)
  (case c20=>k_is)
  (case k20=>k_is)
  (case a21=>k_is)
  (case l21=>k_is)
  (case c21=>k_is)
  (case k21=>k_is)
  (case a22=>k_is)
  (case l22=>k_is)
  (case c22=>k_is)
  (case k22=>k_is)
  (case a23=>k_is)
  (case l23=>k_is)
  (case c23=>k_is)
  (case k23=>k_is)
  (case a24=>k_is)
  (case l24=>k_is)
  (case c24=>k_is)
  (case k24=>k_is)
  (case a25=>k_is)
  (case l25=>k_is)
  (case c25=>k_is)
  (case k25=>k_is)
  (case a26=>k_is)
  (case l26=>k_is)
  (case c26=>k_is)
  (case k26=>k_is)
  (case a27=>k_is)
  (case l27=>k_is)
  (case c27=>k_is)
  (case k27=>k_is)
  (case a28=>k_is)
  (case l28=>k_is)
  (case c28=>k_is)
  (case k28=>k_is)
  (case a29=>k_is)
  (case l29=>k_is)
  (case c29=>k_is)
  (case k29=>k_is)
  (case a30=>k_is)
  (case l30=>k_is)
  (case c30=>k_is)
  (case k30=>k_is)
  (case a31=>k_is)
  (case l31=>k_is)
  (case c31=>k_is)
  (case k31=>k_is)
  (case a32=>k_is)
  (case l32=>k_is)
  (case c32=>k_is)
  (case k32=>k_is)
  (case a33=>k_is)
  (case l33=>k_is)
  (case c33=>k_is)
  (case k33=>k_is)
  (case a34=>k_is)
  (case l34=>k_is)
  (case c34=>k_is)
  (case k34=>k_is)
  (case a35=>k_is)
  (case l35=>k_is)
  (case c35=>k_is)
  (case k35=>k_is)
  (case a36=>k_is)
  (case l36=>k_is)
  (case c36=>k_is)
  (case k36=>k_is)
  (case a37=>k_is)
  (case l37=>k_is)
  (case c37=>k_is)
  (case k37=>k_is)
  (case a38=>k_is)
  (case l38=>k_is)
  (case c38=>k_is)
  (case k38=>k_is)
  (case a39=>k_is)
  (case l39=>k_is)
  (case c39=>k_is)
  (case k39=>k_is)
  (case a40=>k_is)
  (case l40=>k_is)
  (case c40=>k_is)
  (case k40=>k_is)
  (case a41=>k_is)
  (case l41=>k_is)
  (case c41=>k_is)
  (case k41=>k_is)
  (case a42=>k_is)
  (case l42=>k_is)
  (case c42=>k_is)
  (case k42=>k_is)
  (case a43=>k_is)
  (case l43=>k_is)
  (case c43=>k_is)
  (case k43=>k_is)
  (case a44=>k_is)
  (case l44=>k_is)
  (case c44=>k_is)
  (case k44=>k_is)
  (case a45=>k_is)
  (case l45=>k_is)
  (case c45=>k_is)
  (case k45=>k_is)
  (case a46=>k_is)
  (case l46=>k_is)
  (case c46=>k_is)
  (case k46=>k_is)
  (case a47=>k_is)
  (case l47=>k_is)
  (case c47=>k_is)
  (case k47=>k_is)
  (case a48=>k_is)
  (case l48=>k_is)
  (case c48=>k_is)
  (case k48=>k_is)
  (case a49=>k_is)
  (case l49=>k_is)
  (case c49=>k_is)
  (case k49=>k_is)
  (case a50=>k_is)
  (case l50=>k_is)
  (case c50=>k_is)
  (case k50=>k_is)
  (case a51=>k_is)
  (case l51=>k_is)
  (case c51=>k_is)
  (case k51=>k_is)
  (case a52=>k_is)
  (case l52=>k_is)
  (case c52=>k_is)
  (case k52=>k_is)
  (case C0m=>k_is)
  (case C1m=>k_is)
  (case C2m=>k_is)
  (case C3m=>k_is)
  (case C4m=>k_is)
  (case C5m=>k_is)
  (case C6m=>k_is)
  (case C7m=>k_is)
  (case C8m=>k_is)
  (case C9m=>k_is)
  (case z_len=>k_is)
  (case z_range=>k_is)
  (case z_min=>k_is)
  (case z_max=>k_is)
  (case z_sum=>k_is)
  (case z_zip=>k_is)
  (case z_isinstance=>k_is)
  (case z_int=>k_is)
  (case z_bool=>k_is)
  (case z_str=>k_is)
  (case z_tuple=>k_is)
  (case z_list=>k_is)
  (case z_all=>k_is)
  (case z_any=>k_is)
  (case z_ord=>k_is)
  (case z_sorted=>k_is)
  (case z_reversed=>k_is)
  (case z_ValueError=>k_is)
  (case g_LEFT_OUT=>k_is)
  (case g_MOST_SIGNS=>k_is)
  (case g_KIND=>k_is)
  (case g_PARTS=>k_is)
  (case g_MOST_BOXES=>k_is)
  (case g_WIDE=>k_is)
  (case g_HIGH=>k_is)
  (case g_MOST_WORDS=>k_is)
  (case g_LEFT=>k_is)
  (case g_TOP=>k_is)
  (case g_RIGHT=>k_is)
  (case g_BELOW=>k_is)
  (case g_ACROSS=>k_is)
  (case ex4=>kernel_rfl)
  (case ex6=>kernel_rfl)
  (case ex7=>kernel_rfl)
  (case e0a=>k_is)
  (case e0b=>k_is)
  (case e0c=>k_is)
  (case e0f=>k_is)
  (case e0g=>k_is)
  (case e0h=>k_is)
  (case e0i=>kernel_rfl)
  (case e4a=>k_is)
  (case e4b=>k_is)
  (case e4c=>k_is)
  (case e4f=>k_is)
  (case e4g=>k_is)
  (case e4h=>k_is)
  (case e4i=>kernel_rfl)
  (case e6a=>k_is)
  (case e6b=>k_is)
  (case e6c=>k_is)
  (case e6f=>k_is)
  (case e6g=>k_is)
  (case e6h=>k_is)
  (case e6i=>kernel_rfl)
  (case e7a=>k_is)
  (case e7b=>k_is)
  (case e7c=>k_is)
  (case e7f=>k_is)
  (case e7g=>k_is)
  (case e7h=>k_is)
  (case e7i=>kernel_rfl)
  (case ed=>k_is)
  (case ee=>k_is)
  (case hKINDS=>k_is)
  (case lkK=>k_is)
  (case kt0=>kernel_rfl)
  (case kt1=>kernel_rfl)
  (case kt2=>kernel_rfl)
  (case kt3=>kernel_rfl)
  (case kt4=>kernel_rfl)
  (case kt5=>kernel_rfl)
  (case kt6=>kernel_rfl)
  (case kt7=>kernel_rfl)
  (case kt8=>kernel_rfl)
  (case kt9=>kernel_rfl)
  (case kt10=>kernel_rfl)
  (case q_int0=>kernel_rfl)
  (case q_int1=>kernel_rfl)
  (case q_int2=>kernel_rfl)
  (case q_int3=>kernel_rfl)
  (case q_int4=>kernel_rfl)
  (case q_int5=>kernel_rfl)
  (case q_int6=>kernel_rfl)
  (case q_bool0=>kernel_rfl)
  (case q_bool1=>kernel_rfl)
  (case q_bool2=>kernel_rfl)
  (case q_bool3=>kernel_rfl)
  (case q_bool4=>kernel_rfl)
  (case q_bool5=>kernel_rfl)
  (case q_bool6=>kernel_rfl)
  (case q_str0=>kernel_rfl)
  (case q_str1=>kernel_rfl)
  (case q_str2=>kernel_rfl)
  (case q_str3=>kernel_rfl)
  (case q_str4=>kernel_rfl)
  (case q_str5=>kernel_rfl)
  (case q_str6=>kernel_rfl)
  (case q_tuple0=>kernel_rfl)
  (case q_tuple1=>kernel_rfl)
  (case q_tuple2=>kernel_rfl)
  (case q_tuple3=>kernel_rfl)
  (case q_tuple4=>kernel_rfl)
  (case q_tuple5=>kernel_rfl)
  (case q_tuple6=>kernel_rfl)
  (case kt11=>kernel_rfl)
  (case up4=>k_is)
  (case qk44=>kernel_rfl)
  (case qk46=>kernel_rfl)
  (case qk47=>kernel_rfl)
  (case qv4=>kernel_rfl)
  (case qA4=>kernel_rfl)
  (case up6=>k_is)
  (case qk64=>kernel_rfl)
  (case qk66=>kernel_rfl)
  (case qk67=>kernel_rfl)
  (case qv6=>kernel_rfl)
  (case qA6=>kernel_rfl)
  (case up7=>k_is)
  (case qk74=>kernel_rfl)
  (case qk76=>kernel_rfl)
  (case qk77=>kernel_rfl)
  (case qv7=>kernel_rfl)
  (case qA7=>kernel_rfl)
#print axioms PySem.Challenge.cw_pagepart_k65_trees_and_texts_refused_holds
