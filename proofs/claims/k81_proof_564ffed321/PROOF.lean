import PyProof.Rows.All
import Wide.All
import OpenK.AllK
import Wide.FinOn
import Lean
import PyProof.EqAt
import PyProof.EqKinds
import PyProof.TupleCall
import PyProof.Draws
import PyProof.EnumMake
import PyProof.TupleIter
import PyProof.WalksMore
import PyProof.MinMaxWalk
import PyProof.SeqI3
import KE.KSortTup
import KE.KLam
import KE.KIsAll
import PyProof.Rows.CallKwBuiltin
import PyProof.SumWalk
import PyProof.CompFree
import PyProof.CompUse
import PyProof.ConsumeWalk
import PyProof.NeKinds
import PyProof.Rows.StrJoin2
import PyProof.Rows.SortShell
import PyProof.StrBlock2
import PyProof.StrWalks
import PyProof.FString5
import PyProof.ZipIter
import PyProof.Rows.StrSplitAre
import PyProof.StrLawsTight
import PyProof.SumWalkG
import KE.KRevIter
import PyProof.AutoSeq1
import PyProof.Rows.SortWalk
import PyProof.Rows.SeqMore
import PyProof.ListNew
import PyProof.CollectWalk
import PyProof.StrBlock
import PyProof.SliceStr2
import PyProof.DictTruth
import KE.KUnpack
import PySem.Challenge.RW_pagepart_k81_whole_least_page
open List renaming length_map→ka,getElem?_eq_getElem→kb,getElem?_eq_some_iff→kf,length_append→kg,mem_cons_self→kh,mem_cons_of_mem→kj,getD_eq_getElem?_getD→ko,mem_singleton→kq,size_toArray→kt,take_append_getElem→ky,map_append→kz,mem_of_getElem?→kE,replicate→kF,length_cons→kH,length_take→kL,take_length→kM,not_mem_nil→kN,mem_cons→kO,range→kQ,getElem?_map→kR,mem_append_right→kU,mem_map→kX,zip→kZ,length_replicate→va,mem_append→ve,map_cons→vf,flatten_cons→vg,length_drop→vh,length_range→vi,sum_cons→vn,length_singleton→vo,append_nil→vq,mem_range→vz,getElem_mem→vB,mem_append_left→vD,getElem?_eq_none→vF,replicate_succ→vH,getElem?_append_left→vI,lookup_cons→vJ,all_eq_true→vK,flatten_append→vM,getElem_map→vN,mem_iff_getElem→vO,nodup_cons→vT,map_map→vU,getElem_range→vX,length_eq_zero_iff→vY,ext_getElem→vZ,getElem?_append_right→v7,countP_cons→v8,dropLast_concat_getLast→ua,map_congr_left→ub,filter_cons→uc,getElem?_zip_eq_some→ud,append_assoc→ue,mem_of_mem_take→uh,replicate_succ'→ui,filterMap_cons→uj,take_of_length_le→uv,mem_filter→ux,find?_cons→uy,flatMap_cons→uB,length_dropLast→uC,drop_eq_getElem_cons→uE,eq_of_mem_replicate→uJ,length_set→uK,foldl_cons→uL,length_zip→uO,pairwise_singleton→uR,getElem?_cons_succ→uS,toArray→uV,foldl_append→uY,nodup_nil→uZ,flatten_singleton→u4,getElem_replicate→u5,getElem?_toArray→u6,perm_append_comm→u7,take_append_drop→u8,length_filter_le→u9,any_eq_true→bc,any_cons→bf,dropLast_concat→bg,mem_of_getLast?→bh,forIn_cons→bn,length_pos_iff→bv,length_reverse→bx,map_eq_nil_iff→bz,drop_zero→bC,lookup→bE,map_drop→bG
open Nat renaming le_refl→kc,le_trans→km,zero_le→kP,lt_of_lt_of_le→kY,lt_of_le_of_lt→vc,ne_of_lt→vt,succ_le_succ→vA,le_of_lt→vE,lt_irrefl→vL,lt_or_eq_of_le→vW,add_sub_cancel_left→v5,le_of_lt_succ→v9,le_of_succ_le→ug,lt_succ_self→um,le_succ→ur,ne_of_gt→ut,sub_le→uu,le_of_eq→uD,add_sub_cancel'→uF,not_lt_zero→uM,lt_of_le_of_ne→uP,le_zero→uQ,succ_pos→uU,zero_add→uW,lt_succ_of_lt→uX,not_lt→bb,le_antisymm→bi,min_eq_left→bp
open PySem.W renaming mg_of→ke,mg_none_of→ki,nsIn→kn,kitOne→kC,keepIn→kD,codeIn→kG,fnOf→kJ,excIn→uz,hideAll_get→bu,methodObj→bD
open Bool renaming false_ne_true→ku,and_eq_true→vj,eq_iff_iff→vQ,or_eq_true→uN,not_eq_true'→uT,true_and→bF
open PySem renaming boot_len→kK,mem_of_lookup→uk
open PyProof.Rows renaming boot_isinstance→kW,callWith_type1→vC,boot_tuple→vG,boot_all→vS,boot_list→uw,boot_max→uA,callWith_builtin1→ba
open PySem.F renaming plainAttrs_list→vd,slot_list_append→vv,type_list_append→vx,slot_list_extend→uH,type_list_extend→uI,plainAttrs_str→u3
open Option renaming map_eq_some_iff→vk,isSome_iff_exists→uG
open Int renaming toNat_natCast→vp,emod_lt_of_pos→vP,le_refl→vR,emod_nonneg→vV,le_trans→uf,eq_ofNat_of_zero_le→uo,le_antisymm→bj,natCast_add→br,le_of_lt→bA,zero_add→bB
set_option Elab.async false
set_option linter.all false
set_option maxHeartbeats 4000000
set_option maxRecDepth 100000
section
variable {A B C D F I J L M N O Q R S T U:Type} {G:Prop}
theorem E_1 {p:A->Prop}:(∃ a,p a)->(∀ a,p a->G)->G:=by rintro ⟨a,h⟩ k;exact k a h
theorem E_2 {p:A->B->Prop}:(∃ a b,p a b)->(∀ a b,p a b->G)->G:=by rintro ⟨a,b,h⟩ k;exact k a b h
theorem E_3 {p:A->B->C->Prop}:(∃ a b c,p a b c)->(∀ a b c,p a b c->G)->G:=by rintro ⟨a,b,c,h⟩ k;exact k a b c h
theorem E_4 {p:A->B->C->D->Prop}:(∃ a b c d,p a b c d)->(∀ a b c d,p a b c d->G)->G:=by rintro ⟨a,b,c,d,h⟩ k;exact k a b c d h
theorem I_4 {p:A->B->C->D->Prop} (a:A) (b:B) (c:C) (d:D) (h:p a b c d):∃ a b c d,p a b c d:=⟨a,b,c,d,h⟩
theorem E_5 {p:A->B->C->D->F->Prop}:(∃ a b c d f,p a b c d f)->(∀ a b c d f,p a b c d f->G)->G:=by rintro ⟨a,b,c,d,f,h⟩ k;exact k a b c d f h
theorem I_5 {p:A->B->C->D->F->Prop} (a:A) (b:B) (c:C) (d:D) (f:F) (h:p a b c d f):∃ a b c d f,p a b c d f:=⟨a,b,c,d,f,h⟩
theorem E_6 {p:A->B->C->D->F->I->Prop}:(∃ a b c d f i,p a b c d f i)->(∀ a b c d f i,p a b c d f i->G)->G:=by rintro ⟨a,b,c,d,f,i,h⟩ k;exact k a b c d f i h
theorem E_7 {p:A->B->C->D->F->I->J->Prop}:(∃ a b c d f i j,p a b c d f i j)->(∀ a b c d f i j,p a b c d f i j->G)->G:=by rintro ⟨a,b,c,d,f,i,j,h⟩ k;exact k a b c d f i j h
theorem I_7 {p:A->B->C->D->F->I->J->Prop} (a:A) (b:B) (c:C) (d:D) (f:F) (i:I) (j:J) (h:p a b c d f i j):∃ a b c d f i j,p a b c d f i j:=⟨a,b,c,d,f,i,j,h⟩
theorem E_8 {p:A->B->C->D->F->I->J->L->Prop}:(∃ a b c d f i j l,p a b c d f i j l)->(∀ a b c d f i j l,p a b c d f i j l->G)->G:=by rintro ⟨a,b,c,d,f,i,j,l,h⟩ k;exact k a b c d f i j l h
theorem E_9 {p:A->B->C->D->F->I->J->L->M->Prop}:(∃ a b c d f i j l m,p a b c d f i j l m)->(∀ a b c d f i j l m,p a b c d f i j l m->G)->G:=by rintro ⟨a,b,c,d,f,i,j,l,m,h⟩ k;exact k a b c d f i j l m h
theorem I_9 {p:A->B->C->D->F->I->J->L->M->Prop} (a:A) (b:B) (c:C) (d:D) (f:F) (i:I) (j:J) (l:L) (m:M) (h:p a b c d f i j l m):∃ a b c d f i j l m,p a b c d f i j l m:=⟨a,b,c,d,f,i,j,l,m,h⟩
theorem E_10 {p:A->B->C->D->F->I->J->L->M->N->Prop}:(∃ a b c d f i j l m n,p a b c d f i j l m n)->(∀ a b c d f i j l m n,p a b c d f i j l m n->G)->G:=by rintro ⟨a,b,c,d,f,i,j,l,m,n,h⟩ k;exact k a b c d f i j l m n h
theorem I_10 {p:A->B->C->D->F->I->J->L->M->N->Prop} (a:A) (b:B) (c:C) (d:D) (f:F) (i:I) (j:J) (l:L) (m:M) (n:N) (h:p a b c d f i j l m n):∃ a b c d f i j l m n,p a b c d f i j l m n:=⟨a,b,c,d,f,i,j,l,m,n,h⟩
theorem E_11 {p:A->B->C->D->F->I->J->L->M->N->O->Prop}:(∃ a b c d f i j l m n o,p a b c d f i j l m n o)->(∀ a b c d f i j l m n o,p a b c d f i j l m n o->G)->G:=by rintro ⟨a,b,c,d,f,i,j,l,m,n,o,h⟩ k;exact k a b c d f i j l m n o h
theorem I_11 {p:A->B->C->D->F->I->J->L->M->N->O->Prop} (a:A) (b:B) (c:C) (d:D) (f:F) (i:I) (j:J) (l:L) (m:M) (n:N) (o:O) (h:p a b c d f i j l m n o):∃ a b c d f i j l m n o,p a b c d f i j l m n o:=⟨a,b,c,d,f,i,j,l,m,n,o,h⟩
theorem E_12 {p:A->B->C->D->F->I->J->L->M->N->O->Q->Prop}:(∃ a b c d f i j l m n o q,p a b c d f i j l m n o q)->(∀ a b c d f i j l m n o q,p a b c d f i j l m n o q->G)->G:=by rintro ⟨a,b,c,d,f,i,j,l,m,n,o,q,h⟩ k;exact k a b c d f i j l m n o q h
end
section
variable {A B C D F I J L M N O Q R S T U V W X Y Z A21 A22 A23 G:Prop}
theorem A_2:A/\B->(A->B->G)->G:=by rintro ⟨a,b⟩ k;exact k a b
theorem A_3:A/\B/\C->(A->B->C->G)->G:=by rintro ⟨a,b,c⟩ k;exact k a b c
theorem A_4:A/\B/\C/\D->(A->B->C->D->G)->G:=by rintro ⟨a,b,c,d⟩ k;exact k a b c d
theorem A_5:A/\B/\C/\D/\F->(A->B->C->D->F->G)->G:=by rintro ⟨a,b,c,d,f⟩ k;exact k a b c d f
theorem A_6:A/\B/\C/\D/\F/\I->(A->B->C->D->F->I->G)->G:=by rintro ⟨a,b,c,d,f,i⟩ k;exact k a b c d f i
theorem A_7:A/\B/\C/\D/\F/\I/\J->(A->B->C->D->F->I->J->G)->G:=by rintro ⟨a,b,c,d,f,i,j⟩ k;exact k a b c d f i j
theorem A_8:A/\B/\C/\D/\F/\I/\J/\L->(A->B->C->D->F->I->J->L->G)->G:=by rintro ⟨a,b,c,d,f,i,j,l⟩ k;exact k a b c d f i j l
theorem A_9:A/\B/\C/\D/\F/\I/\J/\L/\M->(A->B->C->D->F->I->J->L->M->G)->G:=by rintro ⟨a,b,c,d,f,i,j,l,m⟩ k;exact k a b c d f i j l m
theorem A_10:A/\B/\C/\D/\F/\I/\J/\L/\M/\N->(A->B->C->D->F->I->J->L->M->N->G)->G:=by rintro ⟨a,b,c,d,f,i,j,l,m,n⟩ k;exact k a b c d f i j l m n
theorem A_11:A/\B/\C/\D/\F/\I/\J/\L/\M/\N/\O->(A->B->C->D->F->I->J->L->M->N->O->G)->G:=by rintro ⟨a,b,c,d,f,i,j,l,m,n,o⟩ k;exact k a b c d f i j l m n o
theorem A_12:A/\B/\C/\D/\F/\I/\J/\L/\M/\N/\O/\Q->(A->B->C->D->F->I->J->L->M->N->O->Q->G)->G:=by rintro ⟨a,b,c,d,f,i,j,l,m,n,o,q⟩ k;exact k a b c d f i j l m n o q
theorem A_13:A/\B/\C/\D/\F/\I/\J/\L/\M/\N/\O/\Q/\R->(A->B->C->D->F->I->J->L->M->N->O->Q->R->G)->G:=by rintro ⟨a,b,c,d,f,i,j,l,m,n,o,q,r⟩ k;exact k a b c d f i j l m n o q r
theorem A_16:A/\B/\C/\D/\F/\I/\J/\L/\M/\N/\O/\Q/\R/\S/\T/\U->(A->B->C->D->F->I->J->L->M->N->O->Q->R->S->T->U->G)->G:=by rintro ⟨a,b,c,d,f,i,j,l,m,n,o,q,r,s,t,u⟩ k;exact k a b c d f i j l m n o q r s t u
end
namespace _L2
open PySem PySem.Spec PyProof.Rows
abbrev Key:=Sum Int Str
noncomputable def qV:Key->Value->Bool
 | .inl k,v=>Value.isInt k v
 | .inr x,v=>Value.isStrOf x v
noncomputable def keyH (w:World):Key->Int
 | .inl k=>hashInt k
 | .inr x=>hashStr w x
theorem yu:∀ {k:Key} {v:Value},qV k v=true->(∃ i t,k=Sum.inl i/\v=Value.int i t)\/(∃ x t,k=Sum.inr x/\v=Value.str x t)
 | .inl i,v,h=>by
  obtain ⟨t,e⟩:=Value.isInt_shape (k:=i) (v:=v) h
  exact .inl ⟨i,t,rfl,e⟩
 | .inr x,v,h=>by
  obtain ⟨t,e⟩:=Value.isStrOf_shape (x:=x) (v:=v) h
  exact .inr ⟨x,t,rfl,e⟩
theorem Qf (i:Int) (t:Tok):qV (.inl i) (.int i t)=true:=by simp [qV,Value.isInt]
theorem Qg (x:Str) (t:Tok):qV (.inr x) (.str x t)=true:=by simp [qV,Value.isStrOf]
theorem zb6 (a b:Int):decide ((Sum.inl a:Key)=Sum.inl b)=(a == b):=by
 by_cases e:a=b
 ·subst e;simp
 ·have h:¬ (Sum.inl a:Key)=Sum.inl b:=fun q=>e (Sum.inl.inj q)
  rw [decide_eq_false h]
  exact (beq_eq_false_iff_ne.mpr e).symm
theorem zb7 (a b:Str):decide ((Sum.inr a:Key)=Sum.inr b)=decide (a=b):=by
 by_cases e:a=b
 ·subst e;simp
 ·have h:¬ (Sum.inr a:Key)=Sum.inr b:=fun q=>e (Sum.inr.inj q)
  rw [decide_eq_false h,decide_eq_false e]
theorem zb8 (a:Int) (b:Str):decide ((Sum.inl a:Key)=Sum.inr b)=false:=decide_eq_false (fun q=>nomatch q)
theorem zb9 (a:Str) (b:Int):decide ((Sum.inr a:Key)=Sum.inl b)=false:=decide_eq_false (fun q=>nomatch q)
noncomputable def yv (prog:Program) (w:World):PySem.KeyKind prog w Key where
 is:=qV
 hash:=keyH w
 inj:=fun v a b ha hb=>by
  rcases yu ha with ⟨i,t,rfl,rfl⟩ | ⟨x,t,rfl,rfl⟩
  ·rcases yu hb with ⟨j,u,rfl,e⟩ | ⟨y,u,rfl,e⟩
   ·injection e with e1 _;rw [e1]
   ·exact nomatch e
  ·rcases yu hb with ⟨j,u,rfl,e⟩ | ⟨y,u,rfl,e⟩
   ·exact nomatch e
   ·injection e with e1 _;rw [e1]
 byValue:=fun k v h=>by
  rcases yu h with ⟨i,t,rfl,rfl⟩ | ⟨x,t,rfl,rfl⟩<;>rfl
 pyHash:=fun hv h=>by
  rcases yu hv with ⟨i,t,rfl,rfl⟩ | ⟨x,t,rfl,rfl⟩
  ·exact wpAny_pyHash_int h
  ·exact wpAny_pyHash_str h
 eqBool:=fun hu hv h=>by
  rcases yu hu with ⟨i,t,rfl,rfl⟩ | ⟨x,t,rfl,rfl⟩
  ·rcases yu hv with ⟨j,u,rfl,rfl⟩ | ⟨y,u,rfl,rfl⟩
   ·rw [zb6] at h;exact wpAny_eqBool_int h
   ·rw [zb8] at h;exact SeqAt.EqAt.int_str i t y u _ _ _ _ h
  ·rcases yu hv with ⟨j,u,rfl,rfl⟩ | ⟨y,u,rfl,rfl⟩
   ·rw [zb9] at h;exact SeqAt.EqAt.str_int x t j u _ _ _ _ h
   ·rw [zb7] at h;exact wpAny_eqBool_str h
 «strs»:=fun k x t v h=>by
  rcases yu h with ⟨i,u,rfl,e⟩ | ⟨y,u,rfl,e⟩
  ·exact nomatch e
  ·injection e with e1 _
   subst e1
   cases v<;>rfl
theorem XT (prog:Program) (w:World) (i:Int) (t:Tok):(yv prog w).is (.inl i) (.int i t)=true:=Qf i t
theorem XU (prog:Program) (w:World) (x:Str) (t:Tok):(yv prog w).is (.inr x) (.str x t)=true:=Qg x t
end _L2
namespace _L2
open PySem PySem.Spec PyProof.Rows
inductive V where
 | non | bl (b:Bool) | int (i:Int) | str (x:Str) | byt (b:Array UInt8) | flt (b:UInt64) | ref (a:Addr) | ty (n:String)
 deriving DecidableEq
noncomputable def RelV:V->Value->Prop
 | .non,u=>u=Value.none
 | .bl b,u=>u=Value.bool b
 | .int i,u=>∃ t,u=Value.int i t
 | .str x,u=>∃ t,u=Value.str x t
 | .byt b,u=>∃ t,u=Value.bytes b t
 | .flt b,u=>∃ t,u=Value.float b t
 | .ref a,u=>u=Value.ref a
 | .ty n,u=>u=Value.type n
abbrev Vals:List V->List Value->Prop:=Paired RelV
theorem Vals.length {xs:List V} {us:List Value} (r:Vals xs us):xs.length=us.length:=Paired.length r
theorem Vals.get:∀ {xs:List V} {us:List Value} {i:Nat} {x:V},Vals xs us->xs[i]?=some x->∃ u,us[i]?=some u/\RelV x u
 | _,_,_,_,.nil,e=>by simp at e
 | _,_,0,_,.cons r _,e=>by simp at e;subst e;exact ⟨_,rfl,r⟩
 | _,_,i+1,x,.cons _ t,e=>by
  obtain ⟨u,h1,h2⟩:=Vals.get (i:=i) (x:=x) t (by simpa using e)
  exact ⟨u,by simpa using h1,h2⟩
theorem Vals.set {x:V} {u:Value} (r:RelV x u):∀ {xs:List V} {us:List Value} (i:Nat),Vals xs us->Vals (xs.set i x) (us.set i u)
 | _,_,_,.nil=>.nil
 | _,_,0,.cons _ t=>.cons r t
 | _,_,i+1,.cons q t=>.cons q (Vals.set r i t)
theorem Vals.append:∀ {xs ys:List V} {us ws:List Value},Vals xs us->Vals ys ws->Vals (xs++ys) (us++ws)
 | _,_,_,_,.nil,s=>s
 | _,_,_,_,.cons r t,s=>.cons r (Vals.append t s)
theorem Vals.take:∀ {xs:List V} {us:List Value} (n:Nat),Vals xs us->Vals (xs.take n) (us.take n)
 | _,_,0,_=>.nil
 | _,_,_+1,.nil=>.nil
 | _,_,n+1,.cons r t=>.cons r (Vals.take n t)
theorem Vals.drop:∀ {xs:List V} {us:List Value} (n:Nat),Vals xs us->Vals (xs.drop n) (us.drop n)
 | _,_,0,r=>r
 | _,_,_+1,.nil=>.nil
 | _,_,n+1,.cons _ t=>Vals.drop n t
noncomputable def RelO:Option V->Option Value->Prop
 | some v,some u=>RelV v u
 | none,none=>True
 | _,_=>False
noncomputable def KV {κ:Type}:List (κ×V)->List (κ×Value)->Prop:=Paired fun (p:κ×V) (q:κ×Value)=>p.1=q.1/\RelV p.2 q.2
noncomputable def kV:Key->V
 | .inl i=>.int i
 | .inr x=>.str x
inductive HO where
 /-- a list -/
 | lst (xs:List V)
 /-- a tuple (never changes) -/
 | tup (xs:List V)
 /-- a dict whose keys are ints and texts; one whose keys are tuples of ints and texts (the empty one is both) -/
 | dK (kvs:List (Key×V)) | dT (kvs:List (List Key×V))
 /-- a set of ints: its members,its size -/
 | set (S:Int->Bool) (n:Nat)
 /-- an instance of the class at C,its dict at dx,its attributes -/
 | ins (C dx:Addr) (fs:List (Str×V))
 /-- the dict of the instance at x -/
 | own (x:Addr)
 /-- the dict of an exception -/
 | xd (fs:List (Str×V))
 /-- a bound method,f of x -/
 | met (f x:Addr)
 /-- a range object lo,lo + 1,.. below hi -/
 | rng (lo hi:Int)
 /-- a thing that is known to the object (the script; a dict while a loop walks it): read,never written while it is so -/
 | frz (o:Obj) (u:HO)
 /-- a code object's table -/
 | tbl (ps:Array Value)
 /-- any other thing,by what is true of its one object (a def of one's own: SetO a S n := HO.ext fun h => ..) -/
 | ext (φ:Heap->Prop)
abbrev Hp:=Addr->Option HO
noncomputable def upd (H:Hp) (a:Addr) (o:HO):Hp:=fun b=>if b=a then some o else H b
theorem zc {H:Hp} {a:Addr} {o:HO}:upd H a o a=some o:=by unfold upd;rw [if_pos rfl]
theorem zy {H:Hp} {a b:Addr} {o:HO} (h:b≠a):upd H a o b=H b:=by unfold upd;rw [if_neg h]
theorem xI {H:Hp} {a b:Addr} {o u:HO} (h:H a=some o) (h':H b=some u) (d:o≠u):a≠b:=by
 intro e;subst e;rw [h] at h';exact d (Option.some.inj h')
theorem zK {H:Hp} {a b:Addr} {o:HO} (h:H a=some o) (h':H b=none):a≠b:=by
 intro e;subst e;rw [h] at h';cases h'
section
variable (P:Program) (w:World)
noncomputable def z8 (H:Hp) (h:Heap) (a:Addr):HO->Prop
 | .lst xs=>xs.length<=sizeLine/\∃ (its:List Value) (n:Nat),Vals xs its/\h.get? a=some {cls:=.type "list",data:=.seq its.toArray n}
 | .tup xs=>xs.length<=sizeLine/\∃ its:List Value,Vals xs its/\IsTup h a its.toArray
 | .dK kvs=>kvs.length<=sizeLine/\(a == sysModules)=false/\∃ vs,KV kvs vs/\h.DictOf (yv P w) a vs
 | .dT kvs=>kvs.length<=sizeLine/\(a == sysModules)=false/\∃ xs:List (List Key×Addr×Value),
   Paired (fun (p:List Key×V) (q:List Key×Addr×Value)=>p.1=q.1/\H q.2.1=some (.tup (p.1.map kV))/\RelV p.2 q.2.2) kvs xs /\
   ∃ o es ep,h.get? a=some o/\o.ExactDict/\o.data=.dict es ep/\es.toList=xs.map (entryOfKey (tupleKind (yv P w)))/\(xs.map (·.1)).Nodup
 | .set S n=>h.SetOf (intKind P w) a S n
 | .ins C dx fs=>H dx=some (.own a)/\fs.length<=1000/\dx≠a/\h.get? a=some (PySem.W.instObj C dx) /\
   ∃ mA,h.Ns1 dx mA/\(∀ f,RelO (fs.lookup f) (mA f))/\PySem.Within mA (fs.map (·.1))
 | .own _=>∃ o,h.get? a=some o
 | .xd fs=>∃ mA,h.Ns1 a mA/\∀ f,RelO (fs.lookup f) (mA f)
 | .rng lo hi=>∃ t u v,h.get? a=some {cls:=.type "range",data:=.fields #[.int lo t,.int hi u,.int 1 v]}
 | .frz o u=>h.get? a=some o/\z8 H h a u
 | .tbl ps=>h.get? a=some {cls:=.none,data:=.fields ps}
 | .met f x=>h.get? a=some (bD (.ref f) (.ref x))
 | .ext φ=>φ h/\(∃ o,h.get? a=some o)/\∀ h1 h2:Heap,φ h1->(∀ o,h1.get? a=some o->h2.get? a=some o)->φ h2
noncomputable def HOk (H:Hp) (h:Heap):Prop:=∀ a o,H a=some o->z8 P w H h a o
end
section
variable {P:Program} {w:World} {H H':Hp} {h h':Heap} {a:Addr} {o:HO}
theorem z8.lt (x:z8 P w H h a o):a<h.objs.size:=by
 cases o with
 | lst xs=>obtain ⟨_,_,_,_,e⟩:=x;exact Heap.lt_size e
 | tup xs=>obtain ⟨_,_,_,p⟩:=x;exact p.lt
 | dK kvs=>obtain ⟨_,_,_,_,o,_,_,e,_⟩:=x;exact Heap.lt_size e
 | dT kvs=>obtain ⟨_,_,_,_,o,_,_,e,_⟩:=x;exact Heap.lt_size e
 | set S n=>obtain ⟨o,_,_,_,e,_⟩:=x;exact Heap.lt_size e
 | ins C dx fs=>obtain ⟨_,_,_,e,_⟩:=x;exact Heap.lt_size e
 | own y=>obtain ⟨_,e⟩:=x;exact Heap.lt_size e
 | xd fs=>obtain ⟨_,⟨_,_,_,e,_⟩,_⟩:=x;exact Heap.lt_size e
 | rng lo hi=>obtain ⟨_,_,_,e⟩:=x;exact Heap.lt_size e
 | frz ob u=>obtain ⟨e,_⟩:=x;exact Heap.lt_size e
 | tbl ps=>exact Heap.lt_size (show h.get? a=some _ from x)
 | met f y=>exact Heap.lt_size (show h.get? a=some _ from x)
 | ext φ=>obtain ⟨_,⟨_,e⟩,_⟩:=x;exact Heap.lt_size e
theorem Paired.mapP {α β:Type} {F G:α->β->Prop}:∀ {l₁:List α} {l₂:List β},Paired F l₁ l₂->(∀ a b,F a b->G a b)->Paired G l₁ l₂
 | _,_,.nil,_=>.nil
 | _,_,.cons r t,f=>.cons (f _ _ r) (Paired.mapP t f)
theorem Paired.imp' {α β:Type} {F G:α->β->Prop} (f:∀ a b,F a b->G a b) {l₁:List α} {l₂:List β} (r:Paired F l₁ l₂):Paired G l₁ l₂:=Paired.mapP r f
theorem z8.stay (x:z8 P w H h a o) (k:∀ b u,(b=a\/H b=some (.own a))->h.get? b=some u->h'.get? b=some u)
  (ho:∀ b,H b=some (.own a)->H' b=some (.own a)) (ht:∀ b xs,H b=some (.tup xs)->H' b=some (.tup xs)):z8 P w H' h' a o:=by
 induction o with
 | lst xs=>obtain ⟨z,its,n,r,e⟩:=x;exact ⟨z,its,n,r,k _ _ (.inl rfl) e⟩
 | tup xs=>obtain ⟨z,its,r,ob,e,c⟩:=x;exact ⟨z,its,r,ob,k _ _ (.inl rfl) e,c⟩
 | dK kvs=>obtain ⟨z,y,vs,r,ob,es,ep,e,c⟩:=x;exact ⟨z,y,vs,r,ob,es,ep,k _ _ (.inl rfl) e,c⟩
 | dT kvs =>
  obtain ⟨z,y,xs,r,ob,es,ep,e,c⟩:=x
  exact ⟨z,y,xs,Paired.mapP r fun p q z=>⟨z.1,ht _ _ z.2.1,z.2.2⟩,ob,es,ep,k _ _ (.inl rfl) e,c⟩
 | set S n=>obtain ⟨ob,es,ep,t,e,c⟩:=x;exact ⟨ob,es,ep,t,k _ _ (.inl rfl) e,c⟩
 | ins C dx fs =>
  obtain ⟨d,z,ne,e,mA,⟨od,es,ep,e2,c⟩,r⟩:=x
  exact ⟨ho _ d,z,ne,k _ _ (.inl rfl) e,mA,⟨od,es,ep,k _ _ (.inr d) e2,c⟩,r⟩
 | own y=>obtain ⟨ob,e⟩:=x;exact ⟨ob,k _ _ (.inl rfl) e⟩
 | xd fs=>obtain ⟨mA,⟨od,es,ep,e,c⟩,r⟩:=x;exact ⟨mA,⟨od,es,ep,k _ _ (.inl rfl) e,c⟩,r⟩
 | rng lo hi=>obtain ⟨t,u,v,e⟩:=x;exact ⟨t,u,v,k _ _ (.inl rfl) e⟩
 | frz ob u ih=>obtain ⟨e,q⟩:=x;exact ⟨k _ _ (.inl rfl) e,ih q⟩
 | tbl ps =>
  have e:h.get? a=some {cls:=.none,data:=.fields ps}:=x
  show h'.get? a=some {cls:=.none,data:=.fields ps}
  exact k a _ (.inl rfl) e
 | met f y =>
  have e:h.get? a=some (bD (.ref f) (.ref y)):=x
  show h'.get? a=some (bD (.ref f) (.ref y))
  exact k a _ (.inl rfl) e
 | ext φ=>obtain ⟨p,⟨o,e⟩,st⟩:=x;exact ⟨st _ _ p fun o q=>k _ _ (.inl rfl) q,⟨o,k _ _ (.inl rfl) e⟩,st⟩
theorem HOk.lt (x:HOk P w H h) (e:H a=some o):a<h.objs.size:=(x a o e).lt
theorem HOk.fresh (x:HOk P w H h) (e:h.objs.size<=a):H a=none:=by
 cases q:H a with
 | none=>rfl
 | some u=>exact absurd (kY (x.lt q) e) (vL _)
theorem HOk.kept (x:HOk P w H h) (k:∀ b u,h.get? b=some u->h'.get? b=some u):HOk P w H h':=fun a o e =>
 (x a o e).stay (fun b u _ q=>k b u q) (fun _ q=>q) fun _ _ q=>q
theorem HOk.laid (x:HOk P w H h) (k:∀ b u,h.get? b=some u->h'.get? b=some u) (hp:h.objs.size<=a) (new:z8 P w (upd H a o) h' a o):HOk P w (upd H a o) h':=fun b u e=>by
 have hn:=x.fresh hp
 by_cases hb:b=a
 ·subst hb;rw [zc] at e;cases e;exact new
 ·rw [zy hb] at e
  exact (x b u e).stay (fun c v _ q=>k c v q) (fun c q=>by rw [zy (zK q hn)];exact q) fun c xs q=>by rw [zy (zK q hn)];exact q
end
noncomputable def Rd (H:Hp) (a:Addr) (u:HO):Prop:=H a=some u\/∃ o,H a=some (.frz o u)
theorem Rd.ok {P:Program} {w:World} {H:Hp} {h:Heap} {a:Addr} {u:HO} (r:Rd H a u) (x:HOk P w H h):z8 P w H h a u:=by
 rcases r with r | ⟨o,r⟩
 ·exact x a u r
 ·obtain ⟨_,q⟩:=x a _ r
  exact q
noncomputable def Mut:Option HO->Prop
 | some (.lst _)=>True
 | some (.dK _)=>True
 | some (.dT _)=>True
 | some (.set _ _)=>True
 | some (.ins _ _ _)=>True
 | some (.ext _)=>True
 | _=>False
section
variable {P:Program} {w:World} {H:Hp} {h h':Heap} {x e:Addr} {o':HO}
theorem HOk.write (ok:HOk P w H h) (mu:Mut (H x)) (he:e=x\/H e=some (.own x)) (k:∀ b u,b≠e->h.get? b=some u->h'.get? b=some u) (heo:∃ u,h'.get? e=some u)
  (new:z8 P w (upd H x o') h' x o'):HOk P w (upd H x o') h':=fun b u q=>by
 have nown:∀ c y,H c=some (.own y)->c≠x:=fun c y r z=>by subst z;rw [r] at mu;exact mu
 have ntup:∀ c xs,H c=some (.tup xs)->c≠x:=fun c xs r z=>by subst z;rw [r] at mu;exact mu
 by_cases hb:b=x
 ·subst hb;rw [zc] at q;cases q;exact new
 ·rw [zy hb] at q
  by_cases hbe:b=e
  ·have q':H b=some (.own x):=by
    rcases he with z | z
    ·exact absurd (hbe.trans z) hb
    ·rw [hbe];exact z
   rw [q] at q';cases q'
   obtain ⟨v,hv⟩:=heo
   exact ⟨v,by rw [hbe];exact hv⟩
  ·refine (ok b u q).stay (fun c v hc r=>k c v ?_ r) (fun c r=>by rw [zy (nown c b r)];exact r) fun c xs r=>by rw [zy (ntup c xs r)];exact r
   rcases hc with rfl | hc
   ·exact hbe
   ·rintro rfl
    rcases he with z | z
    ·exact nown c b hc z
    ·rw [hc] at z;cases z;exact hb rfl
end
structure Un (fs ex:List Addr) (H H':Hp) (h h':Heap):Prop where
 keep:∀ b o,h.get? b=some o->H b=none->b∉fs->b∉ex->h'.get? b=some o
 slot:∀ b o,h.get? b=some o->H b=none->b∈fs->b∉ex->∃ sl,h'.get? b=some {o with slots:=sl}
 free:∀ b o,h.get? b=some o->H b=none->b∉ex->H' b=none
 there:∀ b o,h.get? b=some o->b∉ex->∃ o',h'.get? b=some o'
 tups:∀ b xs,H b=some (.tup xs)->H' b=some (.tup xs)
 frzs:∀ b o u,H b=some (.frz o u)->H' b=some (.frz o u)
 tbls:∀ b ps,H b=some (.tbl ps)->∃ more,H' b=some (.tbl (ps++more))
section
variable {fs fs' ex ex':List Addr} {H H1 H2:Hp} {h h1 h2 h':Heap} {a x e:Addr} {o:HO}
theorem Un.any (u:Un fs ex H H1 h h1) {b:Addr} {ob:Obj} (q:h.get? b=some ob) (n:H b=none) (hx:b∉ex):∃ sl,h1.get? b=some {ob with slots:=sl}:=by
 by_cases hb:b∈fs
 ·exact u.slot b ob q n hb hx
 ·exact ⟨ob.slots,u.keep b ob q n hb hx⟩
theorem Un.kept (k:∀ b u,h.get? b=some u->h'.get? b=some u):Un fs ex H H h h' :=
 ⟨fun b ob q _ _ _=>k b ob q,fun b ob q _ _ _=>⟨ob.slots,k b ob q⟩,fun _ _ _ n _=>n,fun b ob q _=>⟨ob,k b ob q⟩,fun _ _ q=>q,fun _ _ _ q=>q,fun _ ps q=>⟨#[],by rw [q];simp⟩⟩
theorem Un.refl:Un fs ex H H h h:=Un.kept fun _ _ q=>q
theorem Un.laid (k:∀ b u,h.get? b=some u->h'.get? b=some u) (hp:h.objs.size<=a) (hn:H a=none):Un fs ex H (upd H a o) h h' where
 keep:=fun b u q _ _ _=>k b u q
 slot:=fun b u q _ _ _=>⟨u.slots,k b u q⟩
 free:=fun b u q n _=>by rw [zy (vt (kY (Heap.lt_size q) hp))];exact n
 there:=fun b u q _=>⟨u,k b u q⟩
 tups:=fun b xs q=>by rw [zy (zK q hn)];exact q
 frzs:=fun b u xs q=>by rw [zy (zK q hn)];exact q
 tbls:=fun b ps q=>⟨#[],by rw [zy (zK q hn),q];simp⟩
theorem Un.write (mu:Mut (H x)) (he:e=x\/H e=some (.own x)) (k:∀ b u,b≠e->h.get? b=some u->h'.get? b=some u) (heo:∃ u,h'.get? e=some u):Un fs ex H (upd H x o) h h':=by
 have hx:∀ b,H b=none->b≠x:=fun b n z=>by subst z;rw [n] at mu;exact mu
 have hb:∀ b,H b=none->b≠e:=fun b n z=>by
  subst z
  rcases he with r | r
  ·exact hx b n r
  ·rw [n] at r;cases r
 have hm:∀ b u,H b=some u->¬ Mut (some u)->b≠x:=fun b u q nm z=>by subst z;rw [q] at mu;exact nm mu
 refine ⟨fun b u q n _ _=>k b u (hb b n) q,fun b u q n _ _=>⟨u.slots,k b u (hb b n) q⟩,fun b u q n _=>by rw [zy (hx b n)];exact n,fun b u q _=>?_,
  fun b xs q=>by rw [zy (hm b _ q fun z=>z)];exact q,fun b u xs q=>by rw [zy (hm b _ q fun z=>z)];exact q,fun b ps q=>⟨#[],by rw [zy (hm b _ q fun z=>z),q];simp⟩⟩
 by_cases hbe:b=e
 ·subst hbe;exact heo
 ·exact ⟨u,k b u hbe q⟩
end
noncomputable def trk (h:Heap) (H:Hp):List Addr:=(kQ h.objs.size).filter fun a=>(H a).isSome
noncomputable def hidT (h:Heap) (H:Hp):Heap:=PySem.W.hideAll h (trk h H)
theorem Qh (h:Heap) (H:Hp):(hidT h H).objs.size=h.objs.size:=PySem.W.hideAll_size _ _
theorem JD {h:Heap} {H:Hp} {b:Addr} {o:Obj} (e:h.get? b=some o) (n:H b=none):(hidT h H).get? b=some o :=
 bu _ e fun hm=>by
  have q:(H b).isSome=true:=(ux.mp hm).2
  rw [n] at q;simp at q
theorem za0 {h:Heap} {H:Hp} {b:Addr} {o:Obj} (e:(hidT h H).get? b=some o):h.get? b=some o/\H b=none:=by
 have e':h.get? b=some o:=PySem.W.of_hideAll (trk h H) e
 refine ⟨e',?_⟩
 cases q:H b with
 | none=>rfl
 | some x =>
  have hm:b∈trk h H:=ux.mpr ⟨vz.mpr (Heap.lt_size e'),by simp [q]⟩
  have z:(hidT h H).get? b=none:=PySem.W.hideAll_none (trk h H) hm
  rw [z] at e;cases e
end _L2
namespace _L2
open PySem PySem.Spec PyProof.Rows
structure Mod (K:PySem.W.Frag) (mg:Str->Option Value) (base:Heap):Prop where
 kin:K.In base
 glob:base.Ns mainGlobals mg
 blt:∃ mb,base.Ns builtinsNs mb/\∀ x:Str,x ≠ "__name__" -> mb x=bootBuiltins x
 nolimit:base.NoLimit
structure Cx where
 prog:Program
 w:World
 K:PySem.W.Frag
 mg:Str->Option Value
 base:Heap
 A:Around
 N:List Str
 s₀:Shared
 H₀:Hp
 env:Env
 outer:List Env
 stack:List Env
 ex:List Addr
 fn:Str->Bool
 calm:Bool
 pn:List (Addr×Obj)
 xe:Value->Shared->Prop
noncomputable def frs (l:List Env):List Addr:=l.filterMap (·.frame)
noncomputable abbrev Cx.fs (X:Cx):List Addr:=frs X.outer
noncomputable def Vis (sc:Scope) (x:Str):Prop:=sc.names.lookup x=some .local\/sc.names.lookup x=some .cell\/sc.names.lookup x=some .free
noncomputable def Loc (sc:Scope) (x:Str):Prop:=sc.names.lookup x=some .local\/sc.names.lookup x=some .cell
noncomputable def Look (env:Env) (h:Heap) (m:Str->Option Value) (x:Str) (u:Value):Prop :=
 (env.kindOf x=some .local/\m x=some u)\/((env.kindOf x=some .cell\/env.kindOf x=some .free)/\∃ c,env.cells.lookup x=some c/\h.IsCell c (some u))
structure Cx.Ok (X:Cx):Prop where
 mod:Mod X.K X.mg X.base
 kind:X.env.scope.kind=.function
 glob:X.env.globals=mainGlobals
 blt:X.env.builtins=builtinsNs
 above:X.s₀.heap.objs.size<=X.env.locals
 inj:∀ x y c,X.env.cells.lookup x=some c->X.env.cells.lookup y=some c->x=y
 has:∀ x,(X.env.kindOf x=some .cell\/X.env.kindOf x=some .free)->∃ c,X.env.cells.lookup x=some c
 cab:∀ x c,X.fn x=true->X.env.cells.lookup x=some c->X.s₀.heap.objs.size<=c
 hd:X.calm=true->X.A.handled=none
 frames:X.A.frames=some X.stack
 stk:X.stack=X.outer\/(X.stack=X.env::X.outer/\X.env.frame=some X.env.locals)
 exf:∀ b∈X.ex,b≠X.env.locals/\∀ x c,X.env.cells.lookup x=some c->c≠b
 bs:∀ b o,X.base.get? b=some o->X.s₀.heap.get? b=some o/\X.H₀ b=none
 bsz:X.base.objs.size<=X.s₀.heap.objs.size
 noex:∀ b o,X.base.get? b=some o->b∉X.ex
 exfs:∀ b∈X.ex,b∉X.fs
 funs:X.s₀.heap.FunFrames X.base X.outer
 frf:∀ b∈X.fs,X.H₀ b=none
structure Inv (X:Cx) (pins:List (Addr×Obj)) (σ:List (Option V)) (H:Hp) (s:Shared):Prop where
 ok:X.Ok
 os:s.os=X.s₀.os
 bare:AllBare s.gens
 base:Un X.fs X.ex X.H₀ H X.s₀.heap s.heap
 loc:∃ m,s.heap.Ns X.env.locals m/\∀ (i:Nat) (x:Str) (v:V),X.N[i]?=some x->σ[i]?=some (some v)->Vis X.env.scope x->∃ u,RelV v u/\Look X.env s.heap m x u
 cell:∀ x c,X.env.cells.lookup x=some c->∃ v,s.heap.IsCell c v
 free:H X.env.locals=none
 freeC:∀ x c,X.env.cells.lookup x=some c->H c=none
 pin:∀ p∈X.pn++pins,s.heap.get? p.1=some p.2/\H p.1=none/\p.1≠X.env.locals/\p.1∉X.fs/\∀ v,p.2.data≠.cell v
 hok:HOk X.prog X.w H s.heap
 len:σ.length=X.N.length
section
variable {X:Cx} {pins:List (Addr×Obj)} {σ:List (Option V)} {H H':Hp} {s:Shared} {h':Heap}
theorem Cx.Ok.nofr (ok:X.Ok) {b:Addr} {o:Obj} (e:X.base.get? b=some o):b∉X.fs:=fun hb=>by
 have:=(ok.funs.mem hb).1
 rw [e] at this;cases this
theorem Inv.bs (I:Inv X pins σ H s):∀ b o,X.base.get? b=some o->s.heap.get? b=some o/\H b=none:=fun b o e =>
 ⟨I.base.keep b o (I.ok.bs b o e).1 (I.ok.bs b o e).2 (I.ok.nofr e) (I.ok.noex b o e),I.base.free b o (I.ok.bs b o e).1 (I.ok.bs b o e).2 (I.ok.noex b o e)⟩
theorem Inv.bk (I:Inv X pins σ H s):∀ b o,X.base.get? b=some o->s.heap.get? b=some o:=fun b o e=>(I.bs b o e).1
theorem Inv.mod (I:Inv X pins σ H s):Mod X.K X.mg X.base:=I.ok.mod
theorem Inv.kIn (I:Inv X pins σ H s):X.K.In s.heap:=I.ok.mod.kin.keeps I.bk
theorem Inv.lt (I:Inv X pins σ H s):X.env.locals<s.heap.objs.size:=let ⟨_,hn,_⟩:=I.loc;hn.lt
theorem Inv.sz (I:Inv X pins σ H s):X.s₀.heap.objs.size<=s.heap.objs.size:=km I.ok.above (vE I.lt)
theorem Inv.nofs (I:Inv X pins σ H s) {a:Addr} (h:s.heap.objs.size<=a):a∉X.fs:=fun hb=>by
 obtain ⟨_,o,ho,_⟩:=I.ok.funs.mem hb
 exact absurd (kY (Heap.lt_size ho) (km I.sz h)) (vL _)
theorem Inv.cne (I:Inv X pins σ H s):∀ x c,X.env.cells.lookup x=some c->c≠X.env.locals:=fun x c e z=>by
 obtain ⟨v,o,ho,hd⟩:=I.cell x c e
 obtain ⟨m,⟨o',es,ep,ho',hd',_⟩,_⟩:=I.loc
 rw [z,ho'] at ho;cases ho;rw [hd'] at hd;cases hd
theorem Inv.funs (I:Inv X pins σ H s):s.heap.FunFrames X.base X.outer:=by
 have all:∀ (l:List Env),(∀ b∈frs l,b∈X.fs)->X.s₀.heap.FunFrames X.base l->s.heap.FunFrames X.base l:=by
  intro l
  induction l with
  | nil=>intro _ _;trivial
  | cons env r ih =>
   intro hs hl
   obtain ⟨hk,⟨L,o,hf,hn,ho,hd⟩,hr⟩:=hl
   have hL:L∈X.fs:=hs L (by unfold frs;rw [uj,hf];exact kh)
   obtain ⟨sl,e⟩:=I.base.slot L o ho (I.ok.frf L hL) hL fun z=>I.ok.exfs L z hL
   exact ⟨hk,⟨L,_,hf,hn,e,hd⟩,ih (fun b hb=>hs b (by unfold frs;rw [uj,hf];exact kj _ hb)) hr⟩
 exact all X.outer (fun _ hb=>hb) I.ok.funs
theorem Inv.stack (I:Inv X pins σ H s):s.heap.FunFrames X.base X.stack:=by
 rcases I.ok.stk with e | ⟨e,hf⟩
 ·rw [e];exact I.funs
 ·rw [e]
  obtain ⟨m,hn,_⟩:=I.loc
  refine .cons (by rw [I.ok.kind];decide) hf hn ?_ I.funs
  exact Heap.get?_none_of_le (km I.ok.bsz I.ok.above)
theorem Inv.stkSub (I:Inv X pins σ H s):∀ b∈frs X.stack,b∈X.env.locals::X.fs:=fun b hb=>by
 rcases I.ok.stk with e | ⟨e,hf⟩
 ·rw [e] at hb;exact kj _ hb
 ·rw [e] at hb
  unfold frs at hb
  rw [uj,hf] at hb
  exact hb
theorem Inv.stkFree (I:Inv X pins σ H s):∀ b∈frs X.stack,H b=none:=fun b hb=>by
 rcases kO.mp (I.stkSub b hb) with e | hb
 ·rw [e];exact I.free
 ·obtain ⟨_,o,ho,_⟩:=I.ok.funs.mem hb
  exact I.base.free b o ho (I.ok.frf b hb) fun z=>I.ok.exfs b z hb
theorem Inv.step {g':Array GenState} {t':Nat} {d':Drawn} {ch:List Addr} (I:Inv X pins σ H s)
  (hch:∀ b∈ch,(b∈X.ex\/X.s₀.heap.objs.size<=b)/\b≠X.env.locals/\(∀ x c,X.env.cells.lookup x=some c->c≠b)/\∀ p∈X.pn++pins,p.1≠b)
  (keep:∀ b o,b≠X.env.locals->b∉X.fs->b∉ch->s.heap.get? b=some o->H b=none->h'.get? b=some o)
  (slot:∀ b o,b≠X.env.locals->b∈X.fs->b∉ch->s.heap.get? b=some o->H b=none->∃ sl,h'.get? b=some {o with slots:=sl}) (free:∀ b o,b∉ch->s.heap.get? b=some o->H b=none->H' b=none)
  (there:∀ b o,b∉ch->s.heap.get? b=some o->∃ o',h'.get? b=some o')
  (tups:∀ b xs,H b=some (.tup xs)->H' b=some (.tup xs)) (frzs:∀ b o u,H b=some (.frz o u)->H' b=some (.frz o u)) (tbls:∀ b ps,H b=some (.tbl ps)->∃ more,H' b=some (.tbl (ps++more)))
  (ns:∀ m,s.heap.Ns X.env.locals m->h'.Ns X.env.locals m) (hok:HOk X.prog X.w H' h') (hg:AllBare g') :
  Inv X pins σ H' {s with heap:=h',gens:=g',drawn:=d',toks:=t'}:=by
 have neL:∀ b o,X.s₀.heap.get? b=some o->b≠X.env.locals:=fun b o e=>vt (kY (Heap.lt_size e) I.ok.above)
 have neC:∀ b o,X.s₀.heap.get? b=some o->b∉X.ex->b∉ch:=fun b o e hx hb=>by
  rcases (hch b hb).1 with z | z
  ·exact hx z
  ·exact absurd (kY (Heap.lt_size e) z) (vL _)
 have cellK:∀ x c,X.env.cells.lookup x=some c->∀ v,s.heap.IsCell c v->h'.IsCell c v:=fun x c e v ⟨o,ho,hd⟩=>by
  have nch:c∉ch:=fun z=>(hch c z).2.2.1 x c e rfl
  by_cases hc:c∈X.fs
  ·obtain ⟨sl,q⟩:=slot c o (I.cne x c e) hc nch ho (I.freeC x c e)
   exact ⟨_,q,hd⟩
  ·exact ⟨o,keep c o (I.cne x c e) hc nch ho (I.freeC x c e),hd⟩
 refine ⟨I.ok,I.os,hg,⟨fun b o e n hb hx=>?_,fun b o e n hb hx=>?_,fun b o e n hx=>?_,fun b o e hx=>?_,fun b xs e=>tups b xs (I.base.tups b xs e),fun b o xs e=>frzs b o xs (I.base.frzs b o xs e),fun b ps e=>?_⟩,?_,fun x c e=>?_,?_,fun x c e=>?_,fun p hp=>?_,hok,I.len⟩
 ·exact keep b o (neL b o e) hb (neC b o e hx) (I.base.keep b o e n hb hx) (I.base.free b o e n hx)
 ·obtain ⟨sl,e1⟩:=I.base.slot b o e n hb hx
  obtain ⟨sl',e2⟩:=slot b _ (neL b o e) hb (neC b o e hx) e1 (I.base.free b o e n hx)
  exact ⟨sl',e2⟩
 ·obtain ⟨o',e1⟩:=I.base.there b o e hx
  exact free b o' (neC b o e hx) e1 (I.base.free b o e n hx)
 ·obtain ⟨o',e1⟩:=I.base.there b o e hx
  exact there b o' (neC b o e hx) e1
 ·obtain ⟨m1,e1⟩:=I.base.tbls b ps e
  obtain ⟨m2,e2⟩:=tbls b _ e1
  exact ⟨m1++m2,by rw [e2,Array.append_assoc]⟩
 ·obtain ⟨m,hn,hl⟩:=I.loc
  refine ⟨m,ns m hn,fun i x v e1 e2 e3=>?_⟩
  obtain ⟨u,r,l⟩:=hl i x v e1 e2 e3
  refine ⟨u,r,?_⟩
  rcases l with l | ⟨k,c,e,z⟩
  ·exact .inl l
  ·exact .inr ⟨k,c,e,cellK x c e _ z⟩
 ·obtain ⟨v,z⟩:=I.cell x c e
  exact ⟨v,cellK x c e v z⟩
 ·obtain ⟨m,⟨o,_,_,ho,_⟩,_⟩:=I.loc
  exact free _ o (fun z=>(hch _ z).2.1 rfl) ho I.free
 ·obtain ⟨v,o,ho,hd⟩:=I.cell x c e
  exact free c o (fun z=>(hch c z).2.2.1 x c e rfl) ho (I.freeC x c e)
 ·obtain ⟨e,n,ne,nf,d⟩:=I.pin p hp
  have nch:p.1∉ch:=fun z=>(hch p.1 z).2.2.2 p hp rfl
  exact ⟨keep p.1 p.2 ne nf nch e n,free p.1 p.2 nch e n,ne,nf,d⟩
theorem Inv.un {t':Nat} (I:Inv X pins σ H s) (u:Un X.fs [] H H' s.heap h') (hok:HOk X.prog X.w H' h'):Inv X pins σ H' {s with heap:=h',toks:=t'}:=by
 obtain ⟨m,⟨o,es,ep,ho,r⟩,_⟩:=id I.loc
 obtain ⟨sl,hL⟩:=u.any ho I.free (by simp)
 exact I.step (g':=s.gens) (d':=s.drawn) (ch:=[]) (fun _ z=>nomatch z) (fun b o _ hb _ e n=>u.keep b o e n hb (by simp)) (fun b o _ hb _ e n=>u.slot b o e n hb (by simp)) (fun b o _ e n=>u.free b o e n (by simp)) (fun b o _ e=>u.there b o e (by simp)) u.tups u.frzs u.tbls (fun m' hm=>by
  obtain ⟨o',es',ep',ho',r'⟩:=hm
  rw [ho] at ho';cases ho'
  exact ⟨_,es',ep',hL,r'⟩) hok I.bare
theorem Inv.call {g':Array GenState} {t':Nat} {d':Drawn} {ch:List Addr} (I:Inv X pins σ H s) (u:Un (frs X.stack) ch H H' s.heap h') (hok:HOk X.prog X.w H' h') (hg:AllBare g')
  (hch:∀ b∈ch,(b∈X.ex\/X.s₀.heap.objs.size<=b)/\b≠X.env.locals/\(∀ x c,X.env.cells.lookup x=some c->c≠b)/\∀ p∈X.pn++pins,p.1≠b) :
  Inv X pins σ H' {s with heap:=h',gens:=g',drawn:=d',toks:=t'}:=by
 obtain ⟨m,⟨o,es,ep,ho,r⟩,_⟩:=id I.loc
 obtain ⟨sl,hL⟩:=u.any ho I.free fun z=>(hch _ z).2.1 rfl
 exact I.step (ch:=ch) hch (fun b o hL hb hc e n=>u.keep b o e n (fun z=>(kO.mp (I.stkSub b z)).elim hL hb) hc) (fun b o _ _ hc e n=>u.any e n hc) (fun b o hc e n=>u.free b o e n hc) (fun b o hc e=>u.there b o e hc) u.tups u.frzs u.tbls (fun m' hm=>by
  obtain ⟨o',es',ep',ho',r'⟩:=hm
  rw [ho] at ho';cases ho'
  exact ⟨_,es',ep',hL,r'⟩) hok hg
theorem Inv.turned {t':Nat} {it:Addr} (I:Inv X pins σ H s) (k:∀ b o,b≠it->s.heap.get? b=some o->h'.get? b=some o) (hn:H it=none) (hL:it≠X.env.locals)
  (h1:it∈X.ex\/X.s₀.heap.objs.size<=it) (h2:∀ x c,X.env.cells.lookup x=some c->c≠it) (h3:∀ p∈X.pn++pins,p.1≠it):Inv X pins σ H {s with heap:=h',toks:=t'}:=by
 have nit:∀ b u,H b=some u->b≠it:=fun b u e z=>by rw [z,hn] at e;cases e
 refine I.step (g':=s.gens) (d':=s.drawn) (ch:=[it]) (fun b hb=>?_) (fun b o _ _ hc e _=>k b o (fun z=>hc (by simp [z])) e) (fun b o _ _ hc e _=>⟨o.slots,k b o (fun z=>hc (by simp [z])) e⟩) (fun _ _ _ _ n=>n)
  (fun b o hc e=>⟨o,k b o (fun z=>hc (by simp [z])) e⟩) (fun _ _ e=>e) (fun _ _ _ e=>e) (fun b ps e=>⟨#[],by rw [e];simp⟩) (fun m hm=>?_) (fun b u e=>?_) I.bare
 ·have e:b=it:=by simpa using hb
  subst e
  exact ⟨h1,hL,h2,h3⟩
 ·obtain ⟨o,es,ep,ho,r⟩:=hm
  exact ⟨o,es,ep,k _ o (Ne.symm hL) ho,r⟩
 ·refine (I.hok b u e).stay (fun c v hc q=>k c v ?_ q) (fun _ q=>q) fun _ _ q=>q
  rcases hc with z | z
  ·rw [z];exact nit b u e
  ·exact nit c _ z
theorem Inv.tok (I:Inv X pins σ H s) (t:Nat):Inv X pins σ H {s with toks:=t}:=I.un (h':=s.heap) (t':=t) Un.refl I.hok
theorem Inv.kept {t':Nat} (I:Inv X pins σ H s) (k:∀ b u,s.heap.get? b=some u->h'.get? b=some u):Inv X pins σ H {s with heap:=h',toks:=t'}:=I.un (Un.kept k) (I.hok.kept k)
theorem Inv.laid {a:Addr} {o:HO} {t':Nat} (I:Inv X pins σ H s) (k:∀ b u,s.heap.get? b=some u->h'.get? b=some u) (hp:s.heap.objs.size<=a) (new:z8 X.prog X.w (upd H a o) h' a o) :
  Inv X pins σ (upd H a o) {s with heap:=h',toks:=t'}:=I.un (Un.laid k hp (I.hok.fresh hp)) (I.hok.laid k hp new)
theorem Inv.write {x e:Addr} {o:HO} {t':Nat} (I:Inv X pins σ H s) (mu:Mut (H x)) (he:e=x\/H e=some (.own x)) (k:∀ b u,b≠e->s.heap.get? b=some u->h'.get? b=some u) (heo:∃ u,h'.get? e=some u)
  (new:z8 X.prog X.w (upd H x o) h' x o):Inv X pins σ (upd H x o) {s with heap:=h',toks:=t'}:=I.un (Un.write mu he k heo) (I.hok.write mu he k heo new)
theorem Inv.pins_of {pins':List (Addr×Obj)} (I:Inv X pins σ H s) (h:∀ p∈pins',s.heap.get? p.1=some p.2/\H p.1=none/\p.1≠X.env.locals/\p.1∉X.fs/\∀ v,p.2.data≠.cell v):Inv X pins' σ H s :=
 ⟨I.ok,I.os,I.bare,I.base,I.loc,I.cell,I.free,I.freeC,fun p hp=>(ve.mp hp).elim (fun z=>I.pin p (vD _ z)) (h p),I.hok,I.len⟩
theorem YH {N:List Str} (hN:N.Nodup) {i j:Nat} {x:Str} (a:N[i]?=some x) (b:N[j]?=some x):i=j:=by
 obtain ⟨h1,e1⟩:=kf.mp a
 obtain ⟨h2,e2⟩:=kf.mp b
 exact (List.getElem_inj hN).mp (e1.trans e2.symm)
theorem Qi {M:Model} {A:Around} {E:Value->Shared->Prop} {i:Nat} {x:Str} {v:V} {u:Value} {Q:Unit->Shared->Prop} (I:Inv X pins σ H s) (hN:X.N.Nodup) (hi:X.N[i]?=some x) (hx:Loc X.env.scope x) (r:RelV v u)
  (h:∀ s',Inv X pins (σ.set i (some v)) H s'->(∃ a,Heap.SameBut a s.heap s'.heap/\(a=X.env.locals\/X.env.cells.lookup x=some a))->Q () s') (hf:X.fn x=true\/X.env.scope.names.lookup x=some .local:=by first | exact .inl rfl | exact .inr rfl | assumption):wpAny M A (storeName X.env x u) Q E s:=by
 obtain ⟨m,hn,hl⟩:=id I.loc
 have hcls:(X.env.scope.kind == .class || (X.env.scope.kind == .module && X.env.locals != X.env.globals))=false:=by rw [I.ok.kind];rfl
 have hiσ:i<σ.length:=by rw [I.len];exact (kf.mp hi).1
 have cne:=I.cne
 have tracked:∀ {a:Addr} {h':Heap},(∃ o,s.heap.get? a=some o/\H a=none)->Heap.SameBut a s.heap h'->HOk X.prog X.w H h':=fun {a h'} ha hs b ob e=>by
  obtain ⟨_,_,hfree⟩:=ha
  refine (I.hok b ob e).stay (fun c w' hc q=>(hs.2 c ?_).trans q) (fun _ q=>q) fun _ _ q=>q
  rintro rfl
  rcases hc with rfl | hc
  ·rw [hfree] at e;cases e
  ·rw [hfree] at hc;cases hc
 rcases hx with hk | hk
 ·refine wpAny_storeName_local hk hn (fun h' hn' hs=>?_) hcls
  obtain ⟨oL,_,_,hoL,_⟩:=id hn
  refine h _ ⟨I.ok,I.os,I.bare,⟨fun b o e n hb hx=>?_,fun b o e n hb hx=>?_,I.base.free,fun b o e hx=>?_,I.base.tups,I.base.frzs,I.base.tbls⟩,⟨_,hn',fun j y v' e1 e2 e3=>?_⟩,fun y c e=>?_,I.free,I.freeC,fun p hp=>?_,tracked ⟨oL,hoL,I.free⟩ hs,by simpa using I.len⟩ ⟨_,hs,.inl rfl⟩
  ·exact (hs.2 b (vt (kY (Heap.lt_size e) I.ok.above))).trans (I.base.keep b o e n hb hx)
  ·obtain ⟨sl,e1⟩:=I.base.slot b o e n hb hx
   exact ⟨sl,(hs.2 b (vt (kY (Heap.lt_size e) I.ok.above))).trans e1⟩
  ·obtain ⟨o',e1⟩:=I.base.there b o e hx
   exact ⟨o',(hs.2 b (vt (kY (Heap.lt_size e) I.ok.above))).trans e1⟩
  ·by_cases hj:j=i
   ·subst hj
    rw [hi] at e1;cases e1
    rw [List.getElem?_set_self hiσ] at e2
    cases e2
    exact ⟨u,r,.inl ⟨hk,by simp⟩⟩
   ·rw [List.getElem?_set_ne (Ne.symm hj)] at e2
    obtain ⟨u',r',q⟩:=hl j y v' e1 e2 e3
    refine ⟨u',r',?_⟩
    rcases q with ⟨k,e⟩ | ⟨k,c,e,z⟩
    ·refine .inl ⟨k,?_⟩
     have:y≠x:=fun e=>hj (YH hN e1 (e ▸ hi))
     simp [this,e]
    ·exact .inr ⟨k,c,e,z.sameBut hs (cne y c e)⟩
  ·obtain ⟨w',z⟩:=I.cell y c e
   exact ⟨w',z.sameBut hs (cne y c e)⟩
  ·obtain ⟨e,n,ne,nf,d⟩:=I.pin p hp
   exact ⟨(hs.2 p.1 ne).trans e,n,ne,nf,d⟩
 ·have hfn:X.fn x=true:=by
   rcases hf with z | z
   ·exact z
   ·rw [z] at hk;cases hk
  obtain ⟨c,hc⟩:=I.ok.has x (.inl hk)
  obtain ⟨w',z⟩:=I.cell x c hc
  refine wpAny_storeName_cell I.ok.kind hk hc z (fun h' hc' hs=>?_)
  obtain ⟨oc,hoc,hocd⟩:=id z
  refine h {s with heap:=h'} ⟨I.ok,I.os,I.bare,⟨fun b o e n hb hx=>?_,fun b o e n hb hx=>?_,I.base.free,fun b o e hx=>?_,I.base.tups,I.base.frzs,I.base.tbls⟩,⟨m,hn.sameBut hs (Ne.symm (cne x c hc)),fun j y v' e1 e2 e3=>?_⟩,fun y c' e=>?_,I.free,I.freeC,fun p hp=>?_,tracked ⟨oc,hoc,I.freeC x c hc⟩ hs,by simpa using I.len⟩ ⟨c,hs,.inr hc⟩
  ·exact (hs.2 b (vt (kY (Heap.lt_size e) (I.ok.cab x c hfn hc)))).trans (I.base.keep b o e n hb hx)
  ·obtain ⟨sl,e1⟩:=I.base.slot b o e n hb hx
   exact ⟨sl,(hs.2 b (vt (kY (Heap.lt_size e) (I.ok.cab x c hfn hc)))).trans e1⟩
  ·obtain ⟨o',e1⟩:=I.base.there b o e hx
   exact ⟨o',(hs.2 b (vt (kY (Heap.lt_size e) (I.ok.cab x c hfn hc)))).trans e1⟩
  ·by_cases hj:j=i
   ·subst hj
    rw [hi] at e1;cases e1
    rw [List.getElem?_set_self hiσ] at e2
    cases e2
    exact ⟨u,r,.inr ⟨.inl hk,c,hc,hc'⟩⟩
   ·rw [List.getElem?_set_ne (Ne.symm hj)] at e2
    obtain ⟨u',r',q⟩:=hl j y v' e1 e2 e3
    refine ⟨u',r',?_⟩
    rcases q with q | ⟨k,c',e,z'⟩
    ·exact .inl q
    ·refine .inr ⟨k,c',e,z'.sameBut hs ?_⟩
     rintro rfl
     exact hj (YH hN e1 (I.ok.inj _ _ _ e hc ▸ hi))
  ·by_cases hcc:c'=c
   ·subst hcc;exact ⟨_,hc'⟩
   ·obtain ⟨w2,z2⟩:=I.cell y c' e
    exact ⟨w2,z2.sameBut hs hcc⟩
  ·obtain ⟨e,n,ne,nf,d⟩:=I.pin p hp
   refine ⟨(hs.2 p.1 ?_).trans e,n,ne,nf,d⟩
   intro q
   rw [q,hoc] at e
   have q':oc=p.2:=Option.some.inj e
   exact d w' (by rw [<- q'];exact hocd)
theorem jw {M:Model} {A:Around} {E:Value->Shared->Prop} {i:Nat} {x:Str} {v:V} {u:Value} {Q:Unit->Shared->Prop} (I:Inv X pins σ H s) (hN:X.N.Nodup) (hi:X.N[i]?=some x) (hx:Loc X.env.scope x) (r:RelV v u)
  (h:∀ s',Inv X pins (σ.set i (some v)) H s'->Q () s') (hf:X.fn x=true\/X.env.scope.names.lookup x=some .local:=by first | exact .inl rfl | exact .inr rfl | assumption):wpAny M A (storeName X.env x u) Q E s :=
 Qi I hN hi hx r (fun s' I' _=>h s' I') hf
theorem Inv.call' {s':Shared} {ch:List Addr} (I:Inv X pins σ H s) (ho:s'.os=s.os) (u:Un (frs X.stack) ch H H' s.heap s'.heap) (hok:HOk X.prog X.w H' s'.heap) (hg:AllBare s'.gens)
  (hch:∀ b∈ch,(b∈X.ex\/X.s₀.heap.objs.size<=b)/\b≠X.env.locals/\(∀ x c,X.env.cells.lookup x=some c->c≠b)/\∀ p∈X.pn++pins,p.1≠b):Inv X pins σ H' s':=by
 obtain ⟨h',g',d',t',o'⟩:=s'
 have e:o'=s.os:=ho
 subst e
 exact I.call (g':=g') (t':=t') (d':=d') u hok hg hch
end
abbrev XK:=Value->Option Addr->Hp->Prop
abbrev St:=List (Option V)
abbrev VK:=V->Hp->Prop
abbrev TE:=St->Hp->VK->Prop
abbrev TT:=St->Hp->(Bool->Hp->Prop)->Prop
abbrev TA:=St->Hp->(List V->Hp->Prop)->Prop
structure Ends where
 nx:St->Hp->Prop
 rt:VK
 bk:St->Hp->Prop:=fun _ _=>False
 ct:St->Hp->Prop:=fun _ _=>False
abbrev TS:=Ends->St->Hp->Prop
noncomputable def EP (X:Cx) (pins:List (Addr×Obj)) (σ:St) (Q:VK) (u:Value) (s':Shared):Prop:=∃ v H',Inv X pins σ H' s'/\RelV v u/\Q v H'
noncomputable def TP (X:Cx) (pins:List (Addr×Obj)) (σ:St) (Q:Bool->Hp->Prop) (b:Bool) (s':Shared):Prop:=∃ H',Inv X pins σ H' s'/\Q b H'
noncomputable def AP (X:Cx) (pins:List (Addr×Obj)) (σ:St) (Q:List V->Hp->Prop) (us:List Value) (s':Shared):Prop:=∃ vs H',Inv X pins σ H' s'/\Vals vs us/\Q vs H'
noncomputable def SP (X:Cx) (pins:List (Addr×Obj)) (D:Ends) (f:Flow) (s':Shared):Prop :=
 match f with
 | .next=>∃ σ' H',Inv X pins σ' H' s'/\D.nx σ' H'
 | .brk=>∃ σ' H',Inv X pins σ' H' s'/\D.bk σ' H'
 | .cont=>∃ σ' H',Inv X pins σ' H' s'/\D.ct σ' H'
 | .ret u=>∃ v σ' H',Inv X pins σ' H' s'/\RelV v u/\D.rt v H'
noncomputable def PE (X:Cx) (e:Expr) (t:TE):Prop :=
 ∀ (pins:List (Addr×Obj)) (s:Shared) (σ:St) (H:Hp) (Q:VK),Inv X pins σ H s->t σ H Q->wpAny (model X.prog X.w) X.A (eval e X.env) (EP X pins σ Q) X.xe s
noncomputable def PT (X:Cx) (e:Expr) (t:TT):Prop :=
 ∀ (pins:List (Addr×Obj)) (s:Shared) (σ:St) (H:Hp) (Q:Bool->Hp->Prop),Inv X pins σ H s->t σ H Q->wpAny (model X.prog X.w) X.A (isTrue e X.env (eval e X.env)) (TP X pins σ Q) X.xe s
noncomputable def PW (X:Cx) (e:Expr) (t:TT):Prop :=
 ∀ (whole:Sem Value) (pins:List (Addr×Obj)) (s:Shared) (σ:St) (H:Hp) (Q:Bool->Hp->Prop),Inv X pins σ H s->t σ H Q->wpAny (model X.prog X.w) X.A (isTrue e X.env whole) (TP X pins σ Q) X.xe s
theorem PW.pt {X:Cx} {e:Expr} {t:TT} (h:PW X e t):PT X e t:=h _
noncomputable def PA (X:Cx) (es:List Expr) (t:TA):Prop :=
 ∀ (pos:Pos) (pins:List (Addr×Obj)) (s:Shared) (σ:St) (H:Hp) (Q:List V->Hp->Prop),Inv X pins σ H s->t σ H Q->wpAny (model X.prog X.w) X.A (spliced (backTo pos (starEach es X.env))) (AP X pins σ Q) X.xe s
noncomputable def PS (X:Cx) (st:Stmt) (t:TS):Prop :=
 ∀ (pins:List (Addr×Obj)) (s:Shared) (σ:St) (H:Hp) (D:Ends),Inv X pins σ H s->t D σ H->wpAny (model X.prog X.w) X.A (exec st X.env) (SP X pins D) X.xe s
noncomputable def PSs (X:Cx) (st:List Stmt) (t:TS):Prop :=
 ∀ (pins:List (Addr×Obj)) (s:Shared) (σ:St) (H:Hp) (D:Ends),Inv X pins σ H s->t D σ H->wpAny (model X.prog X.w) X.A (execs st X.env) (SP X pins D) X.xe s
theorem thn {α:Type} {t:Sem α} {Q Q':α->Shared->Prop} {M:Model} {A:Around} {E:Value->Shared->Prop} {s:Shared} (h:wpAny M A t Q E s) (hQ:∀ a s,Q a s->Q' a s):wpAny M A t Q' E s:=wpAny_mono h hQ fun _ _ x=>x
end _L2
namespace _L2
open PySem PySem.Spec PyProof.Rows
section
variable {X:Cx}
noncomputable def tVar (i:Nat):TE:=fun σ H Q=>∃ v,σ[i]?=some (some v)/\Q v H
noncomputable def tC (v:V):TE:=fun _ H Q=>Q v H
theorem zca {i:Nat} {x:Str} {pos:Pos} (hN:X.N[i]?=some x) (hv:Vis X.env.scope x) (hd:(x == ("__debug__" : Str))=false:=by decide) (hcd:(x == ("__classdict__" : Str))=false:=by decide):PE X (.Name x pos) (tVar i):=by
 intro pins s σ H Q I h
 obtain ⟨v,e,h⟩:=h
 obtain ⟨m,hn,hl⟩:=I.loc
 obtain ⟨u,r,l⟩:=hl i x v hN e hv
 have fin:EP X pins σ Q u s:=⟨v,H,I,r,h⟩
 rcases l with ⟨hk,hm⟩ | ⟨hk,c,hc,hcell⟩
 ·exact wpAny_Name (wpAny_loadName_local I.ok.kind hk hn hm fin) hd
 ·rcases hk with hk | hk
  ·exact wpAny_Name (wpAny_loadName_cell I.ok.kind hk hc hcell fin) hd
  ·exact wpAny_Name (wpAny_loadName_free I.ok.kind hk hc hcell fin hcd) hd
theorem zi {i j pos}:PE X (.Constant (.int i) j pos) (tC (.int i)):=fun _ _ _ H _ I h=>wpAny_Constant_int ⟨.int i,H,I.tok _,⟨_,rfl⟩,h⟩
theorem xt {b j pos}:PE X (.Constant (.bool b) j pos) (tC (.bl b)):=fun _ _ _ H _ I h=>Constant_bool ⟨.bl b,H,I,rfl,h⟩
theorem yj {j pos}:PE X (.Constant .none j pos) (tC .non):=fun _ _ _ H _ I h=>Constant_none ⟨.non,H,I,rfl,h⟩
theorem yk {x j pos}:PE X (.Constant (.str x) j pos) (tC (.str x)):=fun _ _ _ H _ I h=>Calls.Constant_str ⟨.str x,H,I.tok _,⟨_,rfl⟩,h⟩
noncomputable def Gl (X:Cx) (x:Str):Prop:=X.env.kindOf x=some .globalImplicit
theorem Zn {E:Value->Shared->Prop} {pins:List (Addr×Obj)} {s:Shared} {σ:St} {H:Hp} {x:Str} {u:Value} {pos:Pos} {Q:Value->Shared->Prop} (I:Inv X pins σ H s) (hg:Gl X x) (hm:X.mg x=some u) (h:Q u s)
  (hd:(x == ("__debug__" : Str))=false:=by decide):wpAny (model X.prog X.w) X.A (eval (.Name x pos) X.env) Q E s :=
 Calls.Name_function_global I.ok.kind hg (Calls.loadGlobal_global (by rw [I.ok.glob];exact I.mod.glob.keeps I.bk) hm h) hd
theorem yK {E:Value->Shared->Prop} {pins:List (Addr×Obj)} {s:Shared} {σ:St} {H:Hp} {x:Str} {u:Value} {pos:Pos} {Q:Value->Shared->Prop} (I:Inv X pins σ H s) (hg:Gl X x) (hm:X.mg x=none) (hv:bootBuiltins x=some u) (h:Q u s)
  (hn:x ≠ "__name__" := by decide) (hd:(x == ("__debug__" : Str))=false:=by decide):wpAny (model X.prog X.w) X.A (eval (.Name x pos) X.env) Q E s:=by
 obtain ⟨mb,h1,h2⟩:=I.mod.blt
 exact Calls.Name_function_global I.ok.kind hg (Calls.loadGlobal_builtin (by rw [I.ok.glob];exact I.mod.glob.keeps I.bk) hm (by rw [I.ok.blt];exact h1.keeps I.bk) ((h2 x hn).trans hv) h) hd
theorem Zo {x:Str} {v:V} {u:Value} {pos:Pos} (hg:Gl X x) (hm:X.mg x=some u) (r:RelV v u) (hd:(x == ("__debug__" : Str))=false:=by decide):PE X (.Name x pos) (tC v) :=
 fun _ _ _ H _ I h=>Zn I hg hm ⟨v,H,I,r,h⟩ hd
theorem za1 {x:Str} {v:V} {u:Value} {pos:Pos} (hg:Gl X x) (hm:X.mg x=none) (hv:bootBuiltins x=some u) (r:RelV v u) (hn:x ≠ "__name__" := by decide) (hd:(x == ("__debug__" : Str))=false:=by decide):PE X (.Name x pos) (tC v) :=
 fun _ _ _ H _ I h=>yK I hg hm hv ⟨v,H,I,r,h⟩ hn hd
variable {a b:Expr} {ta tb:TE} {pos:Pos}
noncomputable def PC (X:Cx) (op:CmpOp) (a b:Expr) (t:TE):Prop :=
 ∀ (pins:List (Addr×Obj)) (s:Shared) (σ:St) (H:Hp) (Q:VK),Inv X pins σ H s->t σ H Q ->
  wpAny (model X.prog X.w) X.A (eval a X.env) (fun v s₁=>wpAny (model X.prog X.w) X.A (eval b X.env) (fun u s₂=>wpAny (model X.prog X.w) X.A (compareOp op v u) (EP X pins σ Q) X.xe s₂) X.xe s₁) X.xe s
theorem JE (b:Expr) {op:CmpOp} (h:op≠.In) (h2:op≠.NotIn):behindInMarks op b=false:=by
 have e1:(op == CmpOp.In)=false:=by cases op<;>first | rfl | exact absurd rfl h
 have e2:(op == CmpOp.NotIn)=false:=by cases op<;>first | rfl | exact absurd rfl h2
 cases b<;>simp [behindInMarks,e1,e2]
noncomputable def tB (t:TE):TT:=fun σ H Q=>t σ H fun x H1=>∃ c,x=.bl c/\Q c H1
theorem zcb {op:CmpOp} {t:TE} (h:PC X op a b t) (h1:behindInMarks op b=false:=by first | exact JE _ (by decide) (by decide) | rfl):PT X (.Compare a [op] [b] pos) (tB t):=by
 intro pins s σ H Q I hw
 refine wpAny_isTrue_Compare1 (thn (h pins s σ H _ I hw) fun v s1 h1=>thn h1 fun u s2 h2=>thn h2 fun c s3 ⟨x,H1,I1,r1,q1⟩=>?_) h1
 obtain ⟨d,rfl,q⟩:=q1
 cases r1
 exact wpAny_truthy_bool ⟨H1,I1,q⟩
theorem yc {e:Expr} {t:TE} (h:PE X e t) (he:∀ whole,isTrue e X.env whole=(do let v <- whole;standAt e.pos;holding [v] (truthy v)):=by intro _;rfl):PT X e (tB t):=by
 intro pins s σ H Q I hw
 refine isTrue_plain (thn (h pins s σ H _ I hw) fun v s1 ⟨x,H1,I1,r1,q1⟩=>?_) (he _)
 obtain ⟨d,rfl,q⟩:=q1
 cases r1
 exact wpAny_truthy_bool ⟨H1,I1,q⟩
variable {tA tB':TT} {rest:List Expr}
noncomputable def tAnd (t u:TT):TT:=fun σ H Q=>t σ H fun c H1=>if c=true then u σ H1 Q else Q false H1
noncomputable def tOr (t u:TT):TT:=fun σ H Q=>t σ H fun c H1=>if c=true then Q true H1 else u σ H1 Q
noncomputable def tNot (t:TT):TT:=fun σ H Q=>t σ H fun c H1=>Q (!c) H1
theorem xW (ha:PT X a tA):PW X (.BoolOp .And [a] pos) tA:=by
 intro wh pins s σ H Q I h
 refine isTrue_and (thn (ha pins s σ H Q I h) fun c s1 e=>?_)
 cases c with
 | true=>exact isTrue_and_nil e
 | false=>exact e
theorem yZ (ha:PT X a tA):PW X (.BoolOp .Or [a] pos) tA:=by
 intro wh pins s σ H Q I h
 refine isTrue_or (thn (ha pins s σ H Q I h) fun c s1 e=>?_)
 cases c with
 | false=>exact isTrue_or_nil e
 | true=>exact e
theorem wF (ha:PT X a tA) (hb:PW X (.BoolOp .And (b::rest) pos) tB'):PW X (.BoolOp .And (a::b::rest) pos) (tAnd tA tB'):=by
 intro wh pins s σ H Q I h
 refine isTrue_and (thn (ha pins s σ H _ I h) fun c s1 ⟨H1,I1,q1⟩=>?_)
 cases c with
 | true=>exact hb wh pins s1 σ H1 Q I1 q1
 | false=>exact ⟨H1,I1,q1⟩
theorem yR (ha:PT X a tA) (hb:PW X (.BoolOp .Or (b::rest) pos) tB'):PW X (.BoolOp .Or (a::b::rest) pos) (tOr tA tB'):=by
 intro wh pins s σ H Q I h
 refine isTrue_or (thn (ha pins s σ H _ I h) fun c s1 ⟨H1,I1,q1⟩=>?_)
 cases c with
 | true=>exact ⟨H1,I1,q1⟩
 | false=>exact hb wh pins s1 σ H1 Q I1 q1
theorem ye (ha:PT X a tA):PT X (.UnaryOp .Not a pos) (tNot tA):=by
 intro pins s σ H Q I h
 exact isTrue_not (ha pins s σ H (fun c H1=>Q (!c) H1) I h)
noncomputable def zdc (ta tb:TE):TE:=fun σ H Q=>ta σ H fun x H1=>∃ c,x=.bl c/\if c=true then tb σ H1 Q else Q (.bl false) H1
noncomputable def zdd (ta:TE):TE:=fun σ H Q=>ta σ H fun x H1=>∃ c,x=.bl c/\Q (.bl (!c)) H1
theorem xu {op} {t:TE} (h:PE X a t):PE X (.BoolOp op [a] pos) t:=fun pins s σ H Q I hw=>BoolOp_one (h pins s σ H Q I hw)
theorem y3 (ha:PE X a ta) (hb:PE X (.BoolOp .And (b::rest) pos) tb):PE X (.BoolOp .And (a::b::rest) pos) (zdc ta tb):=by
 intro pins s σ H Q I h
 refine BoolOp_and (thn (ha pins s σ H _ I h) fun v s1 h9=>?_)
 obtain ⟨x,H1,I1,r1,q1⟩:=h9
 obtain ⟨c,rfl,q1⟩:=q1
 cases r1
 refine wpAny_truthy_bool ?_
 cases c with
 | true=>exact hb pins s1 σ H1 Q I1 q1
 | false=>exact ⟨.bl false,H1,I1,rfl,q1⟩
theorem Qj (ha:PE X a ta):PE X (.UnaryOp .Not a pos) (zdd ta):=by
 intro pins s σ H Q I h
 refine UnaryOp_ (thn (ha pins s σ H _ I h) fun v s1 h9=>?_)
 obtain ⟨x,H1,I1,r1,q1⟩:=h9
 obtain ⟨c,rfl,q1⟩:=q1
 cases r1
 exact not_of (wpAny_truthy_bool ⟨.bl (!c),H1,I1,rfl,q1⟩)
noncomputable def tIf (t:TT) (ta tb:TE):TE:=fun σ H Q=>t σ H fun c H1=>if c=true then ta σ H1 Q else tb σ H1 Q
theorem YI {c:Expr} (hc:PT X c tA) (ha:PE X a ta) (hb:PE X b tb):PE X (.IfExp c a b pos) (tIf tA ta tb):=by
 intro pins s σ H Q I h
 refine wpAny_IfExp (thn (hc pins s σ H _ I h) fun d s1 ⟨H1,I1,q1⟩=>?_)
 cases d with
 | true=>exact ha pins s1 σ H1 Q I1 q1
 | false=>exact hb pins s1 σ H1 Q I1 q1
end
end _L2
namespace _L2
open PySem PySem.Spec PyProof.Rows
noncomputable def SqL (K:PySem.W.Frag) (H:Hp) (a:Addr) (xs:List V):Prop :=
 Rd H a (.lst xs) \/
  ∃ (o:Obj) (its:Array Value) (n:Nat),K.lookup a=some o/\o.cls=.type "list" /\ o.dict=none/\o.data=.seq its n/\its.size<=sizeLine/\Vals xs its.toList
noncomputable def SqT (K:PySem.W.Frag) (H:Hp) (a:Addr) (xs:List V):Prop :=
 Rd H a (.tup xs) \/
  ∃ (o:Obj) (its:Array Value) (n:Nat),K.lookup a=some o/\o.cls=.type "tuple" /\ o.data=.seq its n/\its.size<=sizeLine/\Vals xs its.toList
noncomputable def absV:Value->Option V
 | .none=>some .non
 | .bool b=>some (.bl b)
 | .int i _=>some (.int i)
 | .str x _=>some (.str x)
 | .bytes b _=>some (.byt b)
 | .float b _=>some (.flt b)
 | .ref a=>some (.ref a)
 | .type n=>some (.ty n)
 | _=>none
theorem RelV.abs {x:V} {u:Value} (r:RelV x u):absV u=some x:=by
 cases x with
 | non=>cases r;rfl
 | bl _=>cases r;rfl
 | int _=>obtain ⟨t,rfl⟩:=r;rfl
 | str _=>obtain ⟨t,rfl⟩:=r;rfl
 | byt _=>obtain ⟨t,rfl⟩:=r;rfl
 | flt _=>obtain ⟨t,rfl⟩:=r;rfl
 | ref _=>cases r;rfl
 | ty _=>cases r;rfl
theorem RelV.inj {x y:V} {u:Value} (r:RelV x u) (q:RelV y u):x=y:=Option.some.inj (r.abs.symm.trans q.abs)
theorem Vals.inj:∀ {xs ys:List V} {us:List Value},Vals xs us->Vals ys us->xs=ys
 | _,_,_,.nil,.nil=>rfl
 | _,_,_,.cons r t,.cons r' t'=>by rw [r.inj r',Vals.inj t t']
section
variable {X:Cx} {pins:List (Addr×Obj)} {σ:St} {H:Hp} {s:Shared} {a:Addr} {xs ys:List V}
theorem SqL.of {K:PySem.W.Frag} (h:H a=some (.lst xs)):SqL K H a xs:=.inl (.inl h)
theorem SqT.of {K:PySem.W.Frag} (h:H a=some (.tup xs)):SqT K H a xs:=.inl (.inl h)
theorem Inv.list (I:Inv X pins σ H s) (h:SqL X.K H a xs):∃ its:List Value,Vals xs its/\PlainL s.heap a its.toArray/\xs.length<=sizeLine:=by
 rcases h with h | ⟨o,its,n,hk,hc,hd,hs,hz,r⟩
 ·obtain ⟨z,its,n,r,e⟩:=h.ok I.hok
  exact ⟨its,r,⟨_,n,e,rfl,rfl,rfl⟩,z⟩
 ·refine ⟨its.toList,r,⟨o,n,I.kIn a o hk,hc,hd,by simpa using hs⟩,?_⟩
  have e:=r.length
  simp only [Array.length_toList] at e
  omega
theorem Inv.tuple (I:Inv X pins σ H s) (h:SqT X.K H a xs):∃ its:List Value,Vals xs its/\IsTup s.heap a its.toArray/\xs.length<=sizeLine:=by
 rcases h with h | ⟨o,its,n,hk,hc,hs,hz,r⟩
 ·obtain ⟨z,its,r,p⟩:=h.ok I.hok
  exact ⟨its,r,p,z⟩
 ·refine ⟨its.toList,r,⟨o,I.kIn a o hk,hc,n,by simpa using hs⟩,?_⟩
  have e:=r.length
  simp only [Array.length_toList] at e
  omega
theorem Inv.list_inj (I:Inv X pins σ H s) (h:SqL X.K H a xs) (h':SqL X.K H a ys):xs=ys:=by
 obtain ⟨its,r,⟨o,n,e,_,_,d⟩,_⟩:=I.list h
 obtain ⟨its',r',⟨o',n',e',_,_,d'⟩,_⟩:=I.list h'
 rw [e] at e';cases e'
 rw [d] at d'
 injection d' with d1 _
 have:its=its':=by simpa using congrArg Array.toList d1
 subst this
 exact r.inj r'
theorem Inv.tuple_inj (I:Inv X pins σ H s) (h:SqT X.K H a xs) (h':SqT X.K H a ys):xs=ys:=by
 obtain ⟨its,r,⟨o,e,_,n,d⟩,_⟩:=I.tuple h
 obtain ⟨its',r',⟨o',e',_,n',d'⟩,_⟩:=I.tuple h'
 rw [e] at e';cases e'
 rw [d] at d'
 injection d' with d1 _
 have:its=its':=by simpa using congrArg Array.toList d1
 subst this
 exact r.inj r'
end
abbrev Cx.wish (X:Cx) (E:Value->Shared->Prop):Cx:={X with xe:=E}
abbrev Cx.nox (X:Cx):Cx:=X.wish fun _ _=>False
theorem Cx.Ok.wish {X:Cx} (ok:X.Ok) (E:Value->Shared->Prop):(X.wish E).Ok :=
 ⟨ok.mod,ok.kind,ok.glob,ok.blt,ok.above,ok.inj,ok.has,ok.cab,ok.hd,ok.frames,ok.stk,ok.exf,ok.bs,ok.bsz,ok.noex,ok.exfs,ok.funs,ok.frf⟩
theorem Cx.Ok.unwish {X:Cx} {E:Value->Shared->Prop} (ok:(X.wish E).Ok):X.Ok :=
 ⟨ok.mod,ok.kind,ok.glob,ok.blt,ok.above,ok.inj,ok.has,ok.cab,ok.hd,ok.frames,ok.stk,ok.exf,ok.bs,ok.bsz,ok.noex,ok.exfs,ok.funs,ok.frf⟩
section
variable {X:Cx} {pins:List (Addr×Obj)} {σ:St} {H:Hp} {s:Shared} {E:Value->Shared->Prop}
theorem Inv.wish (I:Inv X pins σ H s) (E:Value->Shared->Prop):Inv (X.wish E) pins σ H s:=⟨I.ok.wish E,I.os,I.bare,I.base,I.loc,I.cell,I.free,I.freeC,I.pin,I.hok,I.len⟩
theorem Inv.unwish (I:Inv (X.wish E) pins σ H s):Inv X pins σ H s:=⟨I.ok.unwish,I.os,I.bare,I.base,I.loc,I.cell,I.free,I.freeC,I.pin,I.hok,I.len⟩
theorem SP.unwish {D:Ends} {f:Flow} {s':Shared} (h:SP (X.wish E) pins D f s'):SP X pins D f s':=by
 cases f with
 | next=>obtain ⟨σ',H',I,q⟩:=h;exact ⟨σ',H',I.unwish,q⟩
 | brk=>obtain ⟨σ',H',I,q⟩:=h;exact ⟨σ',H',I.unwish,q⟩
 | cont=>obtain ⟨σ',H',I,q⟩:=h;exact ⟨σ',H',I.unwish,q⟩
 | ret u=>obtain ⟨v,σ',H',I,r,q⟩:=h;exact ⟨v,σ',H',I.unwish,r,q⟩
theorem PSs.nox {st:List Stmt} {t:TS} (h:PSs X.nox st t):PSs X st t:=fun pins s σ H D I hw =>
 wpAny_mono (h pins s σ H D (I.wish _) hw) (fun _ _ q=>q.unwish) fun _ _ z=>False.elim z
end
section
variable {X:Cx} {st:Stmt} {rest:List Stmt} {t u:TS} {e:Expr} {te:TE} {pos:Pos}
noncomputable def zaI:TS:=fun D σ H=>D.nx σ H
noncomputable def tSeq (t u:TS):TS:=fun D σ H=>t {D with nx:=u D} σ H
theorem zF:PSs X [] zaI:=fun _ _ σ H _ I h=>wpAny_execs_nil ⟨σ,H,I,h⟩
theorem zd (h1:PS X st t) (h2:PSs X rest u):PSs X (st::rest) (tSeq t u):=by
 intro pins s σ H D I h
 refine wpAny_execs_cons (thn (h1 pins s σ H {D with nx:=u D} I h) fun f s1 q=>?_)
 cases f with
 | next =>
  obtain ⟨σ',H',I',q⟩:=q
  exact h2 pins s1 σ' H' D I' q
 | ret v=>exact q
 | brk=>exact q
 | cont=>exact q
theorem zg (h1:PS X st t):PSs X [st] t:=by
 intro pins s σ H D I h
 refine wpAny_execs_cons (thn (h1 pins s σ H D I h) fun f s1 q=>?_)
 cases f with
 | next=>exact wpAny_execs_nil q
 | ret v=>exact q
 | brk=>exact q
 | cont=>exact q
theorem Inv.quiet {pins:List (Addr×Obj)} {σ:St} {H:Hp} {s:Shared} (I:Inv X pins σ H s):interactive X.env=false:=by simp [interactive,I.ok.kind]
noncomputable def zde (te:TE):TS:=fun D σ H=>te σ H fun _ H1=>D.nx σ H1
theorem yi (he:PE X e te) (hs:swapsWith e none pos.line X.env=pure false:=by rfl):PS X (.Expr e pos) (zde te):=by
 intro pins s σ H D I h
 exact wpAny_Expr_any (thn (he pins s σ H _ I h) fun v s1 ⟨x,H1,I1,r1,q1⟩=>⟨σ,H1,I1,q1⟩) I.quiet hs
noncomputable def tRet (te:TE):TS:=fun D σ H=>te σ H D.rt
theorem zm (he:PE X e te):PS X (.Return (some e) pos) (tRet te):=by
 intro pins s σ H D I h
 exact wpAny_Return_some (thn (he pins s σ H _ I h) fun v s1 ⟨x,H1,I1,r1,q1⟩=>⟨x,σ,H1,I1,r1,q1⟩)
noncomputable def tIfS (c:TT) (t u:TS):TS:=fun D σ H=>c σ H fun b H1=>if b=true then t D σ H1 else u D σ H1
theorem zJ {c:Expr} {a b:List Stmt} {tc:TT} (hc:PT X c tc) (ha:PSs X a t) (hb:PSs X b u):PS X (.If c a b pos) (tIfS tc t u):=by
 intro pins s σ H D I h
 refine wpAny_If (thn (hc pins s σ H _ I h) fun d s1 ⟨H1,I1,q1⟩=>?_)
 cases d with
 | true=>exact ha pins s1 σ H1 D I1 q1
 | false=>exact hb pins s1 σ H1 D I1 q1
noncomputable def zcc:TS:=fun _ _ _=>False
theorem JF:PS X st zcc:=fun _ _ _ _ _ _ h=>h.elim
end
abbrev TG:=V->St->Hp->(St->Hp->Prop)->Prop
abbrev TGs:=List V->St->Hp->(St->Hp->Prop)->Prop
noncomputable def PG (X:Cx) (target:Expr) (t:TG):Prop :=
 ∀ (pins:List (Addr×Obj)) (s:Shared) (σ:St) (H:Hp) (v:V) (u:Value) (Q:St->Hp->Prop),Inv X pins σ H s->RelV v u->t v σ H Q ->
  wpAny (model X.prog X.w) X.A (assign target X.env u) (fun _ s'=>∃ σ' H',Inv X pins σ' H' s'/\Q σ' H') X.xe s
noncomputable def PGs (X:Cx) (ts:List Expr) (t:TGs):Prop :=
 ∀ (pins:List (Addr×Obj)) (s:Shared) (σ:St) (H:Hp) (vs:List V) (us:List Value) (Q:St->Hp->Prop),Inv X pins σ H s->Vals vs us->t vs σ H Q ->
  wpAny (model X.prog X.w) X.A (assignInOrder ((assignEach ts X.env).map (·.2)) us) (fun _ s'=>∃ σ' H',Inv X pins σ' H' s'/\Q σ' H') X.xe s
abbrev TSet:=V->V->V->Hp->(Hp->Prop)->Prop
noncomputable def PSet (X:Cx) (t:TSet):Prop :=
 ∀ (pins:List (Addr×Obj)) (s:Shared) (σ:St) (H:Hp) (o i v:V) (ov iv u:Value) (Q:Hp->Prop),Inv X pins σ H s->RelV o ov->RelV i iv->RelV v u->t o i v H Q ->
  wpAny (model X.prog X.w) X.A (setItem ov iv u) (fun _ s'=>∃ H',Inv X pins σ H' s'/\Q H') X.xe s
abbrev TIp:=V->V->Hp->VK->Prop
noncomputable def PIp (X:Cx) (op:Operator) (t:TIp):Prop :=
 ∀ (pins:List (Addr×Obj)) (s:Shared) (σ:St) (H:Hp) (x y:V) (v u:Value) (Q:VK),Inv X pins σ H s->RelV x v->RelV y u->t x y H Q ->
  wpAny (model X.prog X.w) X.A (inplaceOp op v u) (EP X pins σ Q) X.xe s
section
variable {X:Cx} {pos:Pos}
noncomputable def zW (i:Nat):TG:=fun v σ H Q=>Q (σ.set i (some v)) H
theorem zn {i:Nat} {x:Str} (hN:X.N.Nodup) (hi:X.N[i]?=some x) (hx:Loc X.env.scope x) (hf:X.fn x=true\/X.env.scope.names.lookup x=some .local:=by first | exact .inl rfl | exact .inr rfl | assumption):PG X (.Name x pos) (zW i):=by
 intro pins s σ H v u Q I r h
 exact wpAny_assign_Name (jw I hN hi hx r (fun s' I'=>⟨_,H,I',h⟩) hf)
noncomputable def gNil:TGs:=fun vs σ H Q=>vs=[]/\Q σ H
noncomputable def zdf (t:TG) (u:TGs):TGs:=fun vs σ H Q=>∃ v r,vs=v::r/\t v σ H fun σ' H'=>u r σ' H' Q
theorem yW:PGs X [] gNil:=by
 intro pins s σ H vs us Q I r h
 obtain ⟨e,h⟩:=h
 subst e
 cases r
 exact assignInOrder_nil ⟨σ,H,I,h⟩
theorem zY {e:Expr} {es:List Expr} {t:TG} {u:TGs} (h1:PG X e t) (h2:PGs X es u)
  (hs:(assignEach (e::es) X.env).map (·.2)=assign e X.env::(assignEach es X.env).map (·.2):=by rfl):PGs X (e::es) (zdf t u):=by
 intro pins s σ H vs us Q I r h
 obtain ⟨v,vr,e1,h⟩:=h
 subst e1
 cases r with
 | cons r rr =>
  rw [hs]
  refine assignInOrder_cons (thn (h1 pins s σ H _ _ _ I r h) fun _ s1 h9=>?_)
  obtain ⟨σ1,H1,I1,q1⟩:=h9
  exact h2 pins s1 σ1 H1 _ _ Q I1 rr q1
noncomputable def gTup (K:PySem.W.Frag) (n:Nat) (t:TGs):TG:=fun v σ H Q=>∃ a xs,v=.ref a/\SqT K H a xs/\xs.length=n/\t xs σ H Q
theorem jX {es:List Expr} {k:Nat} {t:TGs} {n:Nat} (hc:X.calm=true) (h:PGs X es t)
  (hn:(assignEach es X.env).length=n:=by rfl) (hst:(assignEach es X.env).findIdx? (·.1)=none:=by rfl):PG X (.Tuple es k pos) (gTup X.K n t):=by
 intro pins s σ H v u Q I r hw
 obtain ⟨a,xs,e1,hq,hl,hw⟩:=hw
 subst e1
 cases r
 obtain ⟨its,rv,ht,hz⟩:=I.tuple hq
 refine assign_Tuple_tuple (I.ok.hd hc) ht (by simp [hn,<- hl,rv.length]) hst fun h' hx=>?_
 have I1:Inv X pins σ H {s with heap:=h'}:=I.kept (t':=s.toks) fun b o e=>hx b o (vt (Heap.lt_size e)) e
 exact h pins _ σ H xs _ Q I1 (by simpa using rv) hw
noncomputable def gSub (to ti:TE) (t:TSet):TG:=fun v σ H Q=>to σ H fun o H1=>ti σ H1 fun i H2=>t o i v H2 fun H3=>Q σ H3
theorem qv {o i:Expr} {to ti:TE} {t:TSet} (ho:PE X o to) (hi:PE X i ti) (hs:PSet X t)
  (ha:∀ v,assign (.Subscript o i pos) X.env v=(do
   let ov <- holding [v] (eval o X.env)
   let iv <- holding [v,ov] (eval i X.env)
   standAt pos
   holding [v,ov,iv] (setItem ov iv v)
   release [v,ov,iv] []):=by intro _;rfl):PG X (.Subscript o i pos) (gSub to ti t):=by
 intro pins s σ H v u Q I r h
 rw [ha]
 refine wpAny_bind (wpAny_holding (thn (ho pins s σ H _ I h) fun ov s1 h9=>?_))
 obtain ⟨x,H1,I1,r1,q1⟩:=h9
 refine wpAny_bind (wpAny_holding (thn (hi pins s1 σ H1 _ I1 q1) fun iv s2 h9=>?_))
 obtain ⟨y,H2,I2,r2,q2⟩:=h9
 refine wpAny_bind (wpAny_standAt (wpAny_bind (wpAny_holding (thn (hs pins s2 σ H2 x y v ov iv u _ I2 r1 r2 r q2) fun _ s3 h9=>?_))))
 obtain ⟨H3,I3,q3⟩:=h9
 exact wpAny_release ⟨σ,H3,I3,q3⟩
noncomputable def tAsg (te:TE) (g:TG):TS:=fun D σ H=>te σ H fun x H1=>g x σ H1 D.nx
theorem wG {tg e:Expr} {te:TE} {g:TG} (he:PE X e te) (hg:PG X tg g) (hs:swapsWithSole [tg] e pos.line X.env=pure false:=by rfl) (hw:swappedStores [tg] e X.env=pure none:=by rfl)
  (h1:(assignEach [tg] X.env).map (·.2)=[assign tg X.env]:=by rfl):PS X (.Assign [tg] e pos) (tAsg te g):=by
 intro pins s σ H D I h
 refine wpAny_Assign_stores (thn (he pins s σ H _ I h) fun v s1 ⟨x,H1,I1,r1,q1⟩=>?_) hs hw
 rw [h1]
 exact thn (hg pins s1 σ H1 x v _ I1 r1 q1) fun _ s2 q=>q
theorem zt {i:Nat} {x:Str} {e:Expr} {te:TE} {pos':Pos} (hN:X.N.Nodup) (hi:X.N[i]?=some x) (hx:Loc X.env.scope x) (he:PE X e te) (hs:swapsWith e (some (.Name x pos')) pos.line X.env=pure false:=by rfl) (hf:X.fn x=true\/X.env.scope.names.lookup x=some .local:=by first | exact .inl rfl | exact .inr rfl | assumption) :
  PS X (.Assign [.Name x pos'] e pos) (tAsg te (zW i)):=by
 intro pins s σ H D I h
 refine wpAny_Assign_Name (thn (he pins s σ H _ I h) fun v s1 ⟨y,H1,I1,r1,q1⟩=>?_) hs
 exact jw I1 hN hi hx r1 (fun s2 I2=>⟨_,H1,I2,q1⟩) hf
noncomputable def tAug (i:Nat) (te:TE) (ti:TIp):TS:=fun D σ H=>∃ x,σ[i]?=some (some x)/\te σ H fun y H1=>ti x y H1 fun z H2=>D.nx (σ.set i (some z)) H2
theorem Qk {i:Nat} {x:Str} {e:Expr} {te:TE} {op:Operator} {ti:TIp} {pos':Pos} (hN:X.N.Nodup) (hi:X.N[i]?=some x) (hx:Loc X.env.scope x) (he:PE X e te) (ho:PIp X op ti) (hf:X.fn x=true\/X.env.scope.names.lookup x=some .local:=by first | exact .inl rfl | exact .inr rfl | assumption) :
  PS X (.AugAssign (.Name x pos') op e pos) (tAug i te ti):=by
 intro pins s σ H D I h
 obtain ⟨v,e1,h⟩:=h
 obtain ⟨m,hn,hl⟩:=I.loc
 have vis:Vis X.env.scope x:=by rcases hx with k | k;exact .inl k;exact .inr (.inl k)
 obtain ⟨u,r,l⟩:=hl i x v hi e1 vis
 refine wpAny_AugAssign_Name ?_
 have go:wpAny (model X.prog X.w) X.A (eval e X.env) (fun w s₂=>wpAny (model X.prog X.w) X.A (inplaceOp op u w) (fun r s₃=>wpAny (model X.prog X.w) X.A (storeName X.env x r) (fun _=>SP X pins D .next) X.xe s₃) X.xe s₂) X.xe s:=by
  refine thn (he pins s σ H _ I h) fun w s1 h9=>?_
  obtain ⟨y,H1,I1,r1,q1⟩:=h9
  refine thn (ho pins s1 σ H1 v y u w _ I1 r r1 q1) fun z s2 h9=>?_
  obtain ⟨zv,H2,I2,r2,q2⟩:=h9
  exact jw I2 hN hi hx r2 (fun s3 I3=>⟨_,H2,I3,q2⟩) hf
 rcases l with ⟨hk,hm⟩ | ⟨hk,c,hc,hcell⟩
 ·exact wpAny_loadName_local I.ok.kind hk hn hm go
 ·rcases hk with hk | hk
  ·exact wpAny_loadName_cell I.ok.kind hk hc hcell go
  ·rcases hx with k | k
   ·have:X.env.scope.names.lookup x=some .free:=hk
    rw [k] at this;cases this
   ·have:X.env.scope.names.lookup x=some .free:=hk
    rw [k] at this;cases this
noncomputable def ipI (f:Int->Int->Int):TIp:=fun x y H Q=>∃ i j,x=.int i/\y=.int j/\Q (.int (f i j)) H
theorem Ql:PIp X .Add (ipI fun i j=>i+j):=by
 intro pins s σ H x y v u Q I r1 r2 h
 obtain ⟨i,j,e1,e2,q⟩:=h
 subst e1;subst e2
 obtain ⟨t,rfl⟩:=r1
 obtain ⟨t',rfl⟩:=r2
 exact iadd_int ⟨.int _,H,I.tok _,⟨_,rfl⟩,q⟩
end
section
variable {X:Cx} {pos:Pos}
noncomputable def Qm (c:TT) (tb:TS):TS:=fun D σ H=>∃ W:Nat->St->Hp->Prop,(∃ m,W m σ H)/\∀ m σ H,W m σ H ->
 c σ H fun b H1=>if b=true then ∃ N:St->Hp->Prop,(∀ σ' H',N σ' H'->∃ m',m'<m/\W m' σ' H')/\tb {D with nx:=N,ct:=N,bk:=D.nx} σ H1 else D.nx σ H1
theorem jx {c:Expr} {body:List Stmt} {tc:TT} {tb:TS} (hp:PassesOwn (model X.prog X.w) X.A X.env X.xe) (hc:PT X c tc) (hb:PSs X body tb):PS X (.While c body [] pos) (Qm tc tb):=by
 intro pins s σ H D I h
 obtain ⟨W,⟨m0,w0⟩,turn⟩:=h
 refine wpAny_While (codeAny_whileLoop (fun n s'=>∃ σ' H',Inv X pins σ' H' s'/\W n σ' H') ?_ m0 ⟨σ,H,I,w0⟩)
 rintro n s1 ⟨σ1,H1,I1,w1⟩
 refine wpAny_passesOwn hp (thn (hc pins s1 σ1 H1 _ I1 (turn n σ1 H1 w1)) fun b s2 ⟨H2,I2,q2⟩=>?_)
 cases b with
 | true =>
  obtain ⟨N,hN,q2⟩:=q2
  rw [if_pos rfl]
  refine wpAny_passesOwn hp (thn (hb pins s2 σ1 H2 _ I2 q2) fun f s3 q3=>?_)
  cases f with
  | next =>
   obtain ⟨σ3,H3,I3,n3⟩:=q3
   obtain ⟨m',hm,w3⟩:=hN σ3 H3 n3
   exact ⟨m',hm,σ3,H3,I3,w3⟩
  | cont =>
   obtain ⟨σ3,H3,I3,n3⟩:=q3
   obtain ⟨m',hm,w3⟩:=hN σ3 H3 n3
   exact ⟨m',hm,σ3,H3,I3,w3⟩
  | brk=>exact q3
  | ret v=>exact q3
 | false =>
  rw [if_neg ku]
  exact wpAny_execs_nil ⟨σ1,H2,I2,q2⟩
end
structure It where
 go:Nat->Hp->Prop
 yld:Nat->Hp->V->Hp->Prop
 stop:Nat->Hp->Prop
noncomputable def FpOk (X:Cx) (pins:List (Addr×Obj)) (H:Hp) (b:Addr):Prop :=
 H b=none/\b≠X.env.locals/\b∉X.fs/\(b∈X.ex\/X.s₀.heap.objs.size<=b)/\(∀ x c,X.env.cells.lookup x=some c->c≠b)/\∀ p∈X.pn++pins,p.1≠b
theorem Inv.fpOk {X:Cx} {pins:List (Addr×Obj)} {σ:St} {H H':Hp} {s:Shared} {b:Addr} (I:Inv X pins σ H s) (hb:s.heap.objs.size<=b) (hn:H' b=none):FpOk X pins H' b:=by
 refine ⟨hn,ut (kY I.lt hb),I.nofs hb,.inr (km I.sz hb),fun x c e z=>?_,fun p hp z=>?_⟩
 ·obtain ⟨v,q⟩:=I.cell x c e
  exact absurd (kY q.lt (by rw [z];exact hb)) (vL _)
 ·exact absurd (kY (Heap.lt_size (I.pin p hp).1) (by rw [z];exact hb)) (vL _)
structure Turn (P:Program) (w:World) (K:PySem.W.Frag) (tg:Expr) (J:It) (fp:List Addr) (it:Addr) (tn:Nat->Heap->Prop):Prop where
 mem:it∈fp
 obj:∀ i h,tn i h->∀ b∈fp,∃ o,h.get? b=some o/\∀ v,o.data≠.cell v
 keep:∀ i h h',tn i h->(∀ b∈fp,∀ o,h.get? b=some o->h'.get? b=some o)->tn i h'
 item:∀ (X:Cx),X.prog=P->X.w=w->X.K=K->X.calm=true->∀ (i:Nat) (pins:List (Addr×Obj)) (s:Shared) (σ:St) (H:Hp) (E:Value->Shared->Prop),Inv X pins σ H s->(∀ b∈fp,FpOk X pins H b)->tn i s.heap->J.go i H ->
  wpAny (model P w) X.A (pyNext (.ref it)) (fun r s1=>∃ u,r=some u /\
   wpAny (model P w) X.A (letOwnedTupleGo tg (.ref it) u) (fun _ s2=>∃ x H',Inv X pins σ H' s2/\RelV x u/\J.yld i H x H'/\tn (i+1) s2.heap/\∀ b∈fp,H' b=none) E s1) E s
 done:∀ (X:Cx),X.prog=P->X.w=w->X.K=K->X.calm=true->∀ (i:Nat) (pins:List (Addr×Obj)) (s:Shared) (σ:St) (H:Hp) (E:Value->Shared->Prop),Inv X pins σ H s->(∀ b∈fp,FpOk X pins H b)->tn i s.heap->J.stop i H ->
  wpAny (model P w) X.A (pyNext (.ref it)) (fun r s1=>r=none/\Inv X pins σ H s1) E s
 self:∀ (A:Around) (i:Nat) (s:Shared) (Q:Value->Shared->Prop) (E:Value->Shared->Prop),tn i s.heap->Q (.ref it) s->wpAny (model P w) A (pyIter (.ref it)) Q E s
abbrev TI:=St->Hp->(It->Hp->Prop)->Prop
noncomputable def PIE (X:Cx) (pins:List (Addr×Obj)) (σ:St) (tg:Expr) (R:It->Hp->Prop) (itv:Value) (s2:Shared):Prop :=
 ∃ (it:Addr) (fp:List Addr) (tn:Nat->Heap->Prop) (J:It) (H':Hp),itv=.ref it/\Inv X pins σ H' s2/\Turn X.prog X.w X.K tg J fp it tn/\tn 0 s2.heap/\(∀ b∈fp,FpOk X pins H' b)/\R J H'
noncomputable def PI (X:Cx) (tg iter:Expr) (wi:TI):Prop :=
 ∀ (pins:List (Addr×Obj)) (s:Shared) (σ:St) (H:Hp) (R:It->Hp->Prop),Inv X pins σ H s->wi σ H R ->
  wpAny (model X.prog X.w) X.A (eval iter X.env) (fun v s1=>wpAny (model X.prog X.w) X.A (pyIter v) (PIE X pins σ tg R) X.xe s1) X.xe s
theorem jY {M:Model} {A:Around} {E:Value->Shared->Prop} {s:Shared} {tg:Expr} {it:Addr} {u:Value} {o:Obj} {n:String} {vs:Array Value} {Q:Unit->Shared->Prop} (ho:s.heap.get? it=some o) (hc:o.cls=.type n) (hd:o.data=.fields vs)
  (hn:["enumerate","zip","dict_itemiterator","dict_reverseitemiterator","odict_iterator","itertools.zip_longest","itertools.pairwise"].contains n=false) (hQ:Q () s):wpAny M A (letOwnedTupleGo tg (.ref it) u) Q E s:=by
 unfold letOwnedTupleGo
 cases tg<;>first
  | exact wpAny_pure hQ
  | (cases u<;>first
    | exact wpAny_pure hQ
    | (refine wpAny_bind (wpAny_load ho ?_)
       rw [hc,hd]
       show wpAny M A (if (["enumerate","zip","dict_itemiterator","dict_reverseitemiterator","odict_iterator","itertools.zip_longest","itertools.pairwise"].contains n && vs[0]? == some (rawInt _))=true then _ else _) Q E s
       rw [if_neg (by intro h;rw [hn,Bool.false_and] at h;cases h)]
       exact wpAny_pure hQ))
noncomputable def Itl (K:PySem.W.Frag) (a:Addr):It :=
 ⟨fun i H=>∃ xs x,SqL K H a xs/\xs[i]?=some x,fun i H x H'=>H'=H/\∀ xs,SqL K H a xs->xs[i]?=some x,fun i H=>∃ xs,SqL K H a xs/\xs.length<=i⟩
noncomputable def Itt (K:PySem.W.Frag) (a:Addr):It :=
 ⟨fun i H=>∃ xs x,SqT K H a xs/\xs[i]?=some x,fun i H x H'=>H'=H/\∀ xs,SqT K H a xs->xs[i]?=some x,fun i H=>∃ xs,SqT K H a xs/\xs.length<=i⟩
noncomputable def Itr (lo:Int) (n:Nat):It:=⟨fun i _=>i<n,fun i H x H'=>H'=H/\x=.int (lo+i),fun i _=>n<=i⟩
theorem Qn {P:Program} {w:World} {K:PySem.W.Frag} {tg:Expr} (a it:Addr):Turn P w K tg (Itl K a) [it] it (fun i h=>h.IsListIter it a i) where
 mem:=by simp
 obj:=fun i h st b hb=>by
  have e:b=it:=by simpa using hb
  subst e
  obtain ⟨o,e,c,d⟩:=st
  exact ⟨o,e,fun v z=>by rw [d] at z;cases z⟩
 keep:=fun i h h' st k=>st.at fun o e=>k it (by simp) o e
 item:=by
  intro X hP hw hK hc i pins s σ H E I hf st hg
  subst hP hw hK
  obtain ⟨xs,x,hq,hx⟩:=hg
  obtain ⟨its,rv,p,hz⟩:=I.list hq
  obtain ⟨u,hu,ru⟩:=rv.get hx
  obtain ⟨f0,f1,f2,f3,f4,f5⟩:=hf it (by simp)
  refine wpAny_pyNext_list_item st p.isList (x:=u) (by simpa using hu) fun h' st' sb=>?_
  have I1:Inv X pins σ H {s with heap:=h'}:=I.turned (t':=s.toks) (fun b o hb e=>(sb.2 b hb).trans e) f0 f1 f3 f4 f5
  obtain ⟨o,e,c,d⟩:=id st'
  exact ⟨u,rfl,jY (s:={s with heap:=h'}) e c d (by decide) ⟨x,H,I1,ru,⟨rfl,fun ys hy=>by rw [I.list_inj hy hq];exact hx⟩,st',fun b hb=>(hf b hb).1⟩⟩
 done:=by
  intro X hP hw hK hc i pins s σ H E I hf st hg
  subst hP hw hK
  obtain ⟨xs,hq,hx⟩:=hg
  obtain ⟨its,rv,p,hz⟩:=I.list hq
  obtain ⟨f0,f1,f2,f3,f4,f5⟩:=hf it (by simp)
  have hl:=rv.length
  exact wpAny_pyNext_list_end (I.ok.hd hc) st p.isList (by simp;omega) fun h' eb=>⟨rfl,I.turned (t':=s.toks) (fun b o hb e=>eb b o hb e) f0 f1 f3 f4 f5⟩
 self:=fun _ _ _ _ _ st h=>wpAny_pyIter_listiter st h
theorem WC {P:Program} {w:World} {K:PySem.W.Frag} {tg:Expr} (a it:Addr):Turn P w K tg (Itt K a) [it] it (fun i h=>h.IsTupleIter it a i) where
 mem:=by simp
 obj:=fun i h st b hb=>by
  have e:b=it:=by simpa using hb
  subst e
  obtain ⟨o,e,c,d⟩:=st
  exact ⟨o,e,fun v z=>by rw [d] at z;cases z⟩
 keep:=fun i h h' st k=>st.at fun o e=>k it (by simp) o e
 item:=by
  intro X hP hw hK hc i pins s σ H E I hf st hg
  subst hP hw hK
  obtain ⟨xs,x,hq,hx⟩:=hg
  obtain ⟨its,rv,p,hz⟩:=I.tuple hq
  obtain ⟨u,hu,ru⟩:=rv.get hx
  obtain ⟨f0,f1,f2,f3,f4,f5⟩:=hf it (by simp)
  refine wpAny_pyNext_tuple_item st (show s.heap.IsTuple a its.toArray from p) (x:=u) (by simpa using hu) fun h' st' sb=>?_
  have I1:Inv X pins σ H {s with heap:=h'}:=I.turned (t':=s.toks) (fun b o hb e=>(sb.2 b hb).trans e) f0 f1 f3 f4 f5
  obtain ⟨o,e,c,d⟩:=id st'
  exact ⟨u,rfl,jY (s:={s with heap:=h'}) e c d (by decide) ⟨x,H,I1,ru,⟨rfl,fun ys hy=>by rw [I.tuple_inj hy hq];exact hx⟩,st',fun b hb=>(hf b hb).1⟩⟩
 done:=by
  intro X hP hw hK hc i pins s σ H E I hf st hg
  subst hP hw hK
  obtain ⟨xs,hq,hx⟩:=hg
  obtain ⟨its,rv,p,hz⟩:=I.tuple hq
  obtain ⟨f0,f1,f2,f3,f4,f5⟩:=hf it (by simp)
  have hl:=rv.length
  exact wpAny_pyNext_tuple_end (I.ok.hd hc) st (show s.heap.IsTuple a its.toArray from p) (by simp;omega) fun h' eb=>⟨rfl,I.turned (t':=s.toks) (fun b o hb e=>eb b o hb e) f0 f1 f3 f4 f5⟩
 self:=fun _ _ _ _ _ st h=>wpAny_pyIter_tupleiter st h
theorem WD {P:Program} {w:World} {K:PySem.W.Frag} {tg:Expr} (it:Addr) (lo:Int) (n:Nat):Turn P w K tg (Itr lo n) [it] it (fun i h=>IsRangeIter h it (lo+(i:Nat)*1) ((n:Int)-(i:Nat)) 1) where
 mem:=by simp
 obj:=fun i h st b hb=>by
  have e:b=it:=by simpa using hb
  subst e
  exact ⟨_,st,fun v z=>by
   have z':Data.fields _=Data.cell v:=z
   cases z'⟩
 keep:=fun i h h' st k=>k it (by simp) _ st
 item:=by
  intro X hP hw hK hc i pins s σ H E I hf st hg
  subst hP hw hK
  obtain ⟨f0,f1,f2,f3,f4,f5⟩:=hf it (by simp)
  have W:=Walks.range (prog:=X.prog) (w:=X.w) (I.ok.hd hc) it lo 1 n
  refine W.item i s _ _ hg st fun v h' tk hv st' kk=>?_
  obtain ⟨t,rfl⟩:=hv
  have I1:Inv X pins σ H {s with heap:=h',toks:=tk}:=I.turned (fun b o hb e=>kk b o (by simpa using hb) e) f0 f1 f3 f4 f5
  refine ⟨_,rfl,jY (s:={s with heap:=h',toks:=tk}) (n := "range_iterator") st' rfl rfl (by decide) ⟨.int (lo+i),H,I1,⟨t,?_⟩,⟨rfl,rfl⟩,st',fun b hb=>(hf b hb).1⟩⟩
  rw [Int.mul_one]
 done:=by
  intro X hP hw hK hc i pins s σ H E I hf st hg
  subst hP hw hK
  obtain ⟨f0,f1,f2,f3,f4,f5⟩:=hf it (by simp)
  exact wpAny_pyNext_range_end (I.ok.hd hc) st (by have:n<=i:=hg;omega) fun h' eb=>⟨rfl,I.turned (t':=s.toks) (fun b o hb e=>eb b o hb e) f0 f1 f3 f4 f5⟩
 self:=fun _ _ _ _ _ st h=>wpAny_pyIter_rangeiter st h
end _L2
namespace _L2
open PySem PySem.Spec PyProof.Rows
section
variable {X:Cx} {tg:Expr}
noncomputable def zdg (K:PySem.W.Frag) (tl:TE):TI:=fun σ H R=>tl σ H fun x H1=>∃ a,x=.ref a/\(∃ xs,SqL K H1 a xs)/\R (Itl K a) H1
noncomputable def iTup (K:PySem.W.Frag) (tl:TE):TI:=fun σ H R=>tl σ H fun x H1=>∃ a,x=.ref a/\(∃ xs,SqT K H1 a xs)/\R (Itt K a) H1
theorem z7 {l:Expr} {tl:TE} (hl:PE X l tl):PI X tg l (zdg X.K tl):=by
 intro pins s σ H R I h
 refine thn (hl pins s σ H _ I h) fun v s1 h9=>?_
 obtain ⟨x,H1,I1,r1,q1⟩:=h9
 obtain ⟨a,e,⟨xs,hq⟩,q⟩:=q1
 subst e
 cases r1
 obtain ⟨its,rv,p,hz⟩:=I1.list hq
 refine wpAny_pyIter_list p.isList ?_
 refine I_5 s1.heap.objs.size [s1.heap.objs.size] _ _ H1 ⟨rfl,I1.kept (t':=s1.toks) fun b o e=>Heap.get?_push_of_some _ e,Qn a _,⟨_,Heap.get?_push_size _ rfl,rfl,rfl⟩,fun b hb=>?_,q⟩
 have e:b=s1.heap.objs.size:=by simpa using hb
 subst e
 exact I1.fpOk (kc _) (I1.hok.fresh (kc _))
theorem x9 {l:Expr} {tl:TE} (hl:PE X l tl):PI X tg l (iTup X.K tl):=by
 intro pins s σ H R I h
 refine thn (hl pins s σ H _ I h) fun v s1 h9=>?_
 obtain ⟨x,H1,I1,r1,q1⟩:=h9
 obtain ⟨a,e,⟨xs,hq⟩,q⟩:=q1
 subst e
 cases r1
 obtain ⟨its,rv,p,hz⟩:=I1.tuple hq
 refine wpAny_pyIter_tuple (show s1.heap.IsTuple a its.toArray from p) ?_
 refine I_5 s1.heap.objs.size [s1.heap.objs.size] _ _ H1 ⟨rfl,I1.kept (t':=s1.toks) fun b o e=>Heap.get?_push_of_some _ e,WC a _,⟨_,Heap.get?_push_size _ rfl,rfl,rfl⟩,fun b hb=>?_,q⟩
 have e:b=s1.heap.objs.size:=by simpa using hb
 subst e
 exact I1.fpOk (kc _) (I1.hok.fresh (kc _))
theorem YJ {pins:List (Addr×Obj)} {σ:St} {H:Hp} {s:Shared} {R:It->Hp->Prop} {E:Value->Shared->Prop} {lo hi:Int} {t u v:Tok} {tk:Nat} (I:Inv X pins σ H s) (h1:-(2^62)<=lo) (h2:lo<2^62) (h3:-(2^62)<=hi) (h4:hi<2^62)
  (q:R (Itr lo (hi-lo).toNat) H):wpAny (model X.prog X.w) X.A (pyIter (.ref s.heap.objs.size)) (PIE X pins σ tg R) E {s with heap:=s.heap.push {cls:=.type "range",data:=.fields #[.int lo t,.int hi u,.int 1 v]},toks:=tk}:=by
 refine wpAny_pyIter_range (IsRange.new ..) (small_one h1 h2 h3 h4) ?_
 have I1:Inv X pins σ H {s with heap:=s.heap.push {cls:=.type "range",data:=.fields #[.int lo t,.int hi u,.int 1 v]},toks:=tk}:=I.kept fun b o e=>Heap.get?_push_of_some _ e
 refine ⟨(s.heap.push {cls:=.type "range",data:=.fields #[.int lo t,.int hi u,.int 1 v]}).objs.size,[(s.heap.push {cls:=.type "range",data:=.fields #[.int lo t,.int hi u,.int 1 v]}).objs.size],_,_,H,rfl,
  I1.kept (t':=tk) fun b o e=>Heap.get?_push_of_some _ e,WD _ lo (hi-lo).toNat,?_,fun b hb=>?_,q⟩
 ·have e1:lo+((0:Nat):Int)*1=lo:=by simp
  have e2:(((hi-lo).toNat:Nat):Int)-((0:Nat):Int)=Builtin.Range.rangeSize lo hi 1:=by rw [rangeSize_one];split<;>omega
  show IsRangeIter _ _ (lo+((0:Nat):Int)*1) ((((hi-lo).toNat:Nat):Int)-((0:Nat):Int)) 1
  rw [e1,e2]
  exact Heap.get?_push_size _ rfl
 ·have e:b=(s.heap.push {cls:=.type "range",data:=.fields #[.int lo t,.int hi u,.int 1 v]}).objs.size:=by simpa using hb
  subst e
  exact I1.fpOk (kc _) (I1.hok.fresh (kc _))
noncomputable def zdh (ta:TA):TI:=fun σ H R=>ta σ H fun vs H1=>∃ j:Int,vs=[.int j] /\ -(2^62)<=j/\j<2^62/\R (Itr 0 j.toNat) H1
noncomputable def zdi (ta:TA):TI:=fun σ H R=>ta σ H fun vs H1=>∃ i j:Int,vs=[.int i,.int j]/\(-(2^62)<=i/\i<2^62 /\ -(2^62)<=j/\j<2^62)/\R (Itr i (j-i).toNat) H1
theorem xm {a:Expr} {ta:TA} {p pos:Pos} (hg:Gl X "range") (hm:X.mg "range" = none) (ha:PA X [a] ta) (hs:starEach [a] X.env=[(false,eval a X.env)]:=by rfl):PI X tg (.Call (.Name "range" p) [a] [] pos) (zdh ta):=by
 intro pins s σ H R I h
 refine Call_ (yK I hg hm boot_range (vC (thn (ha pos pins s σ H _ I h) fun us s1 ⟨vs,H1,I1,r1,q1⟩=>?_) hs rfl))
 obtain ⟨j,e,q1,q2,q⟩:=q1
 subst e
 cases r1 with
 | cons r rr =>
  cases rr
  obtain ⟨t,rfl⟩:=r
  exact call_range_1 (YJ I1 (by omega) (by omega) q1 q2 (by simpa using q))
theorem xL {a b:Expr} {ta:TA} {p pos:Pos} (hg:Gl X "range") (hm:X.mg "range" = none) (ha:PA X [a,b] ta) (hs:starEach [a,b] X.env=[(false,eval a X.env),(false,eval b X.env)]:=by rfl) (hs2:starEach [b] X.env=[(false,eval b X.env)]:=by rfl) :
  PI X tg (.Call (.Name "range" p) [a,b] [] pos) (zdi ta):=by
 intro pins s σ H R I h
 refine Call_ (yK I hg hm boot_range (vC (thn (ha pos pins s σ H _ I h) fun us s1 ⟨vs,H1,I1,r1,q1⟩=>?_) (by rw [hs,hs2]) (by rw [hs2];rfl)))
 obtain ⟨i,j,e,⟨q1,q2,q3,q4⟩,q⟩:=q1
 subst e
 cases r1 with
 | cons r rr =>
  cases rr with
  | cons r' rr =>
   cases rr
   obtain ⟨t,rfl⟩:=r
   obtain ⟨t',rfl⟩:=r'
   exact call_range_2 (YJ I1 q1 q2 q3 q4 q)
noncomputable def tFor (wi:TI) (g:TG) (tb:TS):TS:=fun D σ H=>wi σ H fun J H1=>∃ W:Nat->Nat->St->Hp->Prop,(∃ m,W 0 m σ H1)/\∀ i m σ H,W i m σ H ->
 (J.stop i H/\D.nx σ H)\/(J.go i H/\∃ N:St->Hp->Prop,(∀ σ' H',N σ' H'->∃ m',m'<m/\W (i+1) m' σ' H')/\∀ x H',J.yld i H x H'->g x σ H' fun σ2 H2=>tb {D with nx:=N,ct:=N,bk:=D.nx} σ2 H2)
noncomputable def xM (fp:List Addr) (h:Heap):List (Addr×Obj):=fp.filterMap fun b=>(h.get? b).map fun o=>(b,o)
theorem xT {fp:List Addr} {h:Heap} {b:Addr} {o:Obj} (hb:b∈fp) (e:h.get? b=some o):(b,o)∈xM fp h:=List.mem_filterMap.mpr ⟨b,hb,by rw [e];rfl⟩
theorem ZS {fp:List Addr} {h:Heap} {p:Addr×Obj} (hp:p∈xM fp h):p.1∈fp/\h.get? p.1=some p.2:=by
 obtain ⟨b,hb,e⟩:=List.mem_filterMap.mp hp
 cases q:h.get? b with
 | none=>rw [q] at e;cases e
 | some o =>
  rw [q] at e
  have e':(b,o)=p:=Option.some.inj e
  subst e'
  exact ⟨hb,q⟩
theorem Inv.pinned {pins:List (Addr×Obj)} {σ:St} {H:Hp} {s:Shared} {fp:List Addr} (I:Inv X pins σ H s) (hf:∀ b∈fp,FpOk X pins H b) (ho:∀ b∈fp,∃ o,s.heap.get? b=some o/\∀ v,o.data≠.cell v):Inv X (pins++xM fp s.heap) σ H s :=
 I.pins_of fun p hp=>(ve.mp hp).elim (fun z=>I.pin p (kU _ z)) fun z=>by
  obtain ⟨hb,e⟩:=ZS z
  obtain ⟨f0,f1,f2,_⟩:=hf p.1 hb
  obtain ⟨o,e',d⟩:=ho p.1 hb
  rw [e] at e';cases e'
  exact ⟨e,f0,f1,f2,d⟩
theorem Inv.unpinned {pins pl:List (Addr×Obj)} {σ:St} {H:Hp} {s:Shared} (I:Inv X (pins++pl) σ H s):Inv X pins σ H s:=I.pins_of fun p hp=>I.pin p (kU _ (vD _ hp))
theorem yp {iter:Expr} {body:List Stmt} {wi:TI} {g:TG} {tb:TS} {pos:Pos} (hp:PassesOwn (model X.prog X.w) X.A X.env X.xe) (hc:X.calm=true) (hi:PI X tg iter wi) (hg:PG X tg g) (hb:PSs X body tb)
  (hs:∀ x,foldedSetIterable iter X.env x=pure x:=by intro _;rfl):PS X (.For tg iter body [] pos) (tFor wi g tb):=by
 intro pins s σ H D I h
 refine wpAny_For (thn (hi pins s σ H _ I h) fun v s1 h1=>thn h1 fun itv s2 h2=>?_) hs
 obtain ⟨it,fp,tn,J,H2,e,I2,T,st2,f2,W,⟨m0,w0⟩,turn⟩:=h2
 subst e
 -- what stays true of the iterator's objects through the loop
 have stat:∀ {H':Hp},(∀ b∈fp,H' b=none)->∀ b∈fp,FpOk X pins H' b:=fun hn b hb=>⟨hn b hb,(f2 b hb).2⟩
 refine codeAny_forLoop_any (fun n s'=>∃ i σ' H',Inv X pins σ' H' s'/\tn i s'.heap/\(∀ b∈fp,H' b=none)/\W i n σ' H') ?_ m0 ⟨0,σ,H2,I2,st2,fun b hb=>(f2 b hb).1,w0⟩
 rintro n s3 ⟨i,σ3,H3,I3,st3,fr3,w3⟩
 rcases turn i n σ3 H3 w3 with ⟨stop,qn⟩ | ⟨go,N,hN,step⟩
 ·refine wpAny_passesOwn hp (thn (T.done X rfl rfl rfl hc i pins s3 σ3 H3 X.xe I3 (stat fr3) st3 stop) fun r s4 h9=>?_)
  obtain ⟨hr,I4⟩:=h9
  subst hr
  exact wpAny_execs_nil ⟨σ3,H3,I4,qn⟩
 ·refine wpAny_passesOwn hp (thn (T.item X rfl rfl rfl hc i pins s3 σ3 H3 X.xe I3 (stat fr3) st3 go) fun r s4 h9=>?_)
  obtain ⟨u,hr,h4⟩:=h9
  subst hr
  refine wpAny_passesOwn hp (thn h4 fun _ s5 h9=>?_)
  obtain ⟨x,H5,I5,r5,y5,st5,fr5⟩:=h9
  have I5':=I5.pinned (stat fr5) (T.obj _ _ st5)
  refine wpAny_passesOwn hp (thn (hg _ s5 σ3 H5 x u _ I5' r5 (step x H5 y5)) fun _ s6 h9=>?_)
  obtain ⟨σ6,H6,I6,q6⟩:=h9
  refine wpAny_passesOwn hp (thn (hb _ s6 σ6 H6 _ I6 q6) fun f s7 q7=>?_)
  have again:∀ {σ7:St} {H7:Hp},Inv X (pins++xM fp s5.heap) σ7 H7 s7->N σ7 H7->∃ m,m<n/\∃ i σ' H',Inv X pins σ' H' s7/\tn i s7.heap/\(∀ b∈fp,H' b=none)/\W i m σ' H':=fun {σ7 H7} I7 n7=>by
   obtain ⟨m',hm,w7⟩:=hN σ7 H7 n7
   refine ⟨m',hm,i+1,σ7,H7,I7.unpinned,T.keep _ _ _ st5 fun b hb o e=>(I7.pin (b,o) (kU _ (kU _ (xT hb e)))).1,fun b hb=>?_,w7⟩
   obtain ⟨o,e,d⟩:=T.obj _ _ st5 b hb
   exact (I7.pin (b,o) (kU _ (kU _ (xT hb e)))).2.1
  cases f with
  | next=>obtain ⟨σ7,H7,I7,n7⟩:=q7;exact again I7 n7
  | cont=>obtain ⟨σ7,H7,I7,n7⟩:=q7;exact again I7 n7
  | brk=>obtain ⟨σ7,H7,I7,q7⟩:=q7;exact ⟨σ7,H7,I7.unpinned,q7⟩
  | ret v=>obtain ⟨x7,σ7,H7,I7,r7,q7⟩:=q7;exact ⟨x7,σ7,H7,I7.unpinned,r7,q7⟩
end
theorem xA {K:PySem.W.Frag} {a:Addr} {xs:List V} {g:TG} {tb:TS} {D:Ends} {σ:St} {H:Hp} (Pv:Nat->St->Hp->Prop) (h0:Pv 0 σ H) (hl:∀ i σ H,i<=xs.length->Pv i σ H->SqL K H a xs)
  (hs:∀ i x σ H,xs[i]?=some x->Pv i σ H->g x σ H fun σ2 H2=>tb {D with nx:=Pv (i+1),ct:=Pv (i+1),bk:=D.nx} σ2 H2) (hd:∀ σ H,Pv xs.length σ H->D.nx σ H) :
  ∃ W:Nat->Nat->St->Hp->Prop,(∃ m,W 0 m σ H)/\∀ i m σ H,W i m σ H ->
   ((Itl K a).stop i H/\D.nx σ H)\/((Itl K a).go i H/\∃ N:St->Hp->Prop,(∀ σ' H',N σ' H'->∃ m',m'<m/\W (i+1) m' σ' H')/\∀ x H',(Itl K a).yld i H x H'->g x σ H' fun σ2 H2=>tb {D with nx:=N,ct:=N,bk:=D.nx} σ2 H2):=by
 refine ⟨fun i m σ H=>m=xs.length-i/\i<=xs.length/\Pv i σ H,⟨xs.length,by simp,kP _,h0⟩,?_⟩
 rintro i m σ H ⟨rfl,hi,p⟩
 have q:=hl i σ H hi p
 by_cases hlt:i<xs.length
 ·refine .inr ⟨⟨xs,xs[i],q,by simp [hlt]⟩,Pv (i+1),fun σ' H' p'=>⟨xs.length-(i+1),by omega,rfl,hlt,p'⟩,fun x H' y=>?_⟩
  obtain ⟨e,y⟩:=y
  subst e
  exact hs i x σ _ (y xs q) p
 ·have e:i=xs.length:=by omega
  subst e
  exact .inl ⟨⟨xs,q,kc _⟩,hd σ H p⟩
theorem X9 {K:PySem.W.Frag} {a:Addr} {xs:List V} {g:TG} {tb:TS} {D:Ends} {σ:St} {H:Hp} (Pv:Nat->St->Hp->Prop) (h0:Pv 0 σ H) (hl:∀ i σ H,i<=xs.length->Pv i σ H->SqT K H a xs)
  (hs:∀ i x σ H,xs[i]?=some x->Pv i σ H->g x σ H fun σ2 H2=>tb {D with nx:=Pv (i+1),ct:=Pv (i+1),bk:=D.nx} σ2 H2) (hd:∀ σ H,Pv xs.length σ H->D.nx σ H) :
  ∃ W:Nat->Nat->St->Hp->Prop,(∃ m,W 0 m σ H)/\∀ i m σ H,W i m σ H ->
   ((Itt K a).stop i H/\D.nx σ H)\/((Itt K a).go i H/\∃ N:St->Hp->Prop,(∀ σ' H',N σ' H'->∃ m',m'<m/\W (i+1) m' σ' H')/\∀ x H',(Itt K a).yld i H x H'->g x σ H' fun σ2 H2=>tb {D with nx:=N,ct:=N,bk:=D.nx} σ2 H2):=by
 refine ⟨fun i m σ H=>m=xs.length-i/\i<=xs.length/\Pv i σ H,⟨xs.length,by simp,kP _,h0⟩,?_⟩
 rintro i m σ H ⟨rfl,hi,p⟩
 have q:=hl i σ H hi p
 by_cases hlt:i<xs.length
 ·refine .inr ⟨⟨xs,xs[i],q,by simp [hlt]⟩,Pv (i+1),fun σ' H' p'=>⟨xs.length-(i+1),by omega,rfl,hlt,p'⟩,fun x H' y=>?_⟩
  obtain ⟨e,y⟩:=y
  subst e
  exact hs i x σ _ (y xs q) p
 ·have e:i=xs.length:=by omega
  subst e
  exact .inl ⟨⟨xs,q,kc _⟩,hd σ H p⟩
theorem yP {lo:Int} {n:Nat} {g:TG} {tb:TS} {D:Ends} {σ:St} {H:Hp} (Pv:Nat->St->Hp->Prop) (h0:Pv 0 σ H)
  (hs:∀ i σ H,i<n->Pv i σ H->g (.int (lo+i)) σ H fun σ2 H2=>tb {D with nx:=Pv (i+1),ct:=Pv (i+1),bk:=D.nx} σ2 H2) (hd:∀ σ H,Pv n σ H->D.nx σ H) :
  ∃ W:Nat->Nat->St->Hp->Prop,(∃ m,W 0 m σ H)/\∀ i m σ H,W i m σ H ->
   ((Itr lo n).stop i H/\D.nx σ H)\/((Itr lo n).go i H/\∃ N:St->Hp->Prop,(∀ σ' H',N σ' H'->∃ m',m'<m/\W (i+1) m' σ' H')/\∀ x H',(Itr lo n).yld i H x H'->g x σ H' fun σ2 H2=>tb {D with nx:=N,ct:=N,bk:=D.nx} σ2 H2):=by
 refine ⟨fun i m σ H=>m=n-i/\i<=n/\Pv i σ H,⟨n,by simp,kP _,h0⟩,?_⟩
 rintro i m σ H ⟨rfl,hi,p⟩
 by_cases hlt:i<n
 ·refine .inr ⟨hlt,Pv (i+1),fun σ' H' p'=>⟨n-(i+1),by omega,rfl,hlt,p'⟩,fun x H' y=>?_⟩
  obtain ⟨e,y⟩:=y
  subst e y
  exact hs i σ _ hlt p
 ·have e:i=n:=by omega
  subst e
  exact .inl ⟨kc _,hd σ H p⟩
end _L2
namespace _L2
open PySem PySem.Spec PyProof.Rows
abbrev R2:=V->V->Hp->VK->Prop
noncomputable def OpR (X:Cx) (f:Value->Value->Sem Value) (r:R2):Prop :=
 ∀ (pins:List (Addr×Obj)) (s:Shared) (σ:St) (H:Hp) (x y:V) (v u:Value) (Q:VK),Inv X pins σ H s->RelV x v->RelV y u->r x y H Q ->
  wpAny (model X.prog X.w) X.A (f v u) (EP X pins σ Q) X.xe s
noncomputable def UnR (X:Cx) (f:Value->Sem Value) (r:V->Hp->VK->Prop):Prop :=
 ∀ (pins:List (Addr×Obj)) (s:Shared) (σ:St) (H:Hp) (x:V) (v:Value) (Q:VK),Inv X pins σ H s->RelV x v->r x H Q ->
  wpAny (model X.prog X.w) X.A (f v) (EP X pins σ Q) X.xe s
noncomputable def yX (X:Cx) (f:Value) (r:List V->Hp->VK->Prop):Prop :=
 ∀ (pins:List (Addr×Obj)) (s:Shared) (σ:St) (H:Hp) (xs:List V) (us:List Value) (Q:VK),Inv X pins σ H s->Vals xs us->r xs H Q ->
  wpAny (model X.prog X.w) X.A (call f us) (EP X pins σ Q) X.xe s
noncomputable def TruR (X:Cx) (r:V->Hp->(Bool->Hp->Prop)->Prop):Prop :=
 ∀ (pins:List (Addr×Obj)) (s:Shared) (σ:St) (H:Hp) (x:V) (v:Value) (Q:Bool->Hp->Prop),Inv X pins σ H s->RelV x v->r x H Q ->
  wpAny (model X.prog X.w) X.A (truthy v) (TP X pins σ Q) X.xe s
noncomputable def tOp (r:R2) (ta tb:TE):TE:=fun σ H Q=>ta σ H fun x H1=>tb σ H1 fun y H2=>r x y H2 Q
noncomputable def tUn (r:V->Hp->VK->Prop) (ta:TE):TE:=fun σ H Q=>ta σ H fun x H1=>r x H1 Q
noncomputable def rI (C:Int->Int->Prop) (g:Int->Int->V):R2:=fun x y H Q=>∃ i j,x=.int i/\y=.int j/\C i j/\Q (g i j) H
noncomputable def rI0 (g:Int->Int->V):R2:=fun x y H Q=>∃ i j,x=.int i/\y=.int j/\Q (g i j) H
noncomputable def rU (g:Int->V):V->Hp->VK->Prop:=fun x H Q=>∃ i,x=.int i/\Q (g i) H
section
variable {X:Cx} {a b c:Expr} {ta tb tc:TE} {pos:Pos}
theorem binT (ha:PE X a ta) (hb:PE X b tb) {pins:List (Addr×Obj)} {s:Shared} {σ:St} {H:Hp} {R:V->V->Hp->Prop} (I:Inv X pins σ H s)
  (h:ta σ H fun x H1=>tb σ H1 fun y H2=>R x y H2) {Q:Value->Shared->Prop} {f:Value->Value->Sem Value}
  (hf:∀ v u s2 x y H2,Inv X pins σ H2 s2->RelV x v->RelV y u->R x y H2->wpAny (model X.prog X.w) X.A (f v u) Q X.xe s2) :
  wpAny (model X.prog X.w) X.A (eval a X.env) (fun v s₁=>wpAny (model X.prog X.w) X.A (eval b X.env) (fun u s₂=>wpAny (model X.prog X.w) X.A (f v u) Q X.xe s₂) X.xe s₁) X.xe s:=by
 refine thn (ha pins s σ H _ I h) fun v s1 h9=>?_
 obtain ⟨x,H1,I1,r1,q1⟩:=h9
 refine thn (hb pins s1 σ H1 _ I1 q1) fun u s2 h9=>?_
 obtain ⟨y,H2,I2,r2,q2⟩:=h9
 exact hf v u s2 x y H2 I2 r1 r2 q2
theorem zA {op:Operator} {r:R2} (ho:OpR X (binaryOp op) r) (ha:PE X a ta) (hb:PE X b tb):PE X (.BinOp a op b pos) (tOp r ta tb):=by
 intro pins s σ H Q I h
 exact wpAny_BinOp (binT ha hb I h fun v u s2 x y H2 I2 rx ry q=>ho pins s2 σ H2 x y v u Q I2 rx ry q)
theorem xU {op:UnaryOp} {r:V->Hp->VK->Prop} (ho:UnR X (unaryOp op) r) (ha:PE X a ta):PE X (.UnaryOp op a pos) (tUn r ta):=by
 intro pins s σ H Q I h
 exact UnaryOp_ (thn (ha pins s σ H _ I h) fun v s1 ⟨x,H1,I1,r1,q1⟩=>ho pins s1 σ H1 x v Q I1 r1 q1)
theorem opI {f:Value->Value->Sem Value} {C:Int->Int->Prop} {g:Int->Int->Int}
  (rule:∀ (i j:Int) (t u:Tok) (s:Shared) (Q:Value->Shared->Prop) (E:Value->Shared->Prop),C i j->Q (.int (g i j) s.toks) {s with toks:=s.toks+1}->wpAny (model X.prog X.w) X.A (f (.int i t) (.int j u)) Q E s) :
  OpR X f (rI C fun i j=>.int (g i j)):=by
 intro pins s σ H x y v u Q I rx ry h
 refine E_2 h fun i j n8=>A_4 n8 fun e9 n90 hc q=>?_;clear n8 h;subst e9;subst n90
 obtain ⟨t,rfl⟩:=rx
 obtain ⟨t',rfl⟩:=ry
 exact rule i j t t' s _ _ hc ⟨.int (g i j),H,I.tok _,⟨_,rfl⟩,q⟩
theorem opI0 {f:Value->Value->Sem Value} {g:Int->Int->Int}
  (rule:∀ (i j:Int) (t u:Tok) (s:Shared) (Q:Value->Shared->Prop) (E:Value->Shared->Prop),Q (.int (g i j) s.toks) {s with toks:=s.toks+1}->wpAny (model X.prog X.w) X.A (f (.int i t) (.int j u)) Q E s) :
  OpR X f (rI0 fun i j=>.int (g i j)):=by
 intro pins s σ H x y v u Q I rx ry h
 refine E_2 h fun i j n8=>A_3 n8 fun e9 n90 q=>?_;clear n8 h;subst e9;subst n90
 obtain ⟨t,rfl⟩:=rx
 obtain ⟨t',rfl⟩:=ry
 exact rule i j t t' s _ _ ⟨.int (g i j),H,I.tok _,⟨_,rfl⟩,q⟩
theorem opB0 {f:Value->Value->Sem Value} {g:Int->Int->Bool}
  (rule:∀ (i j:Int) (t u:Tok) (s:Shared) (Q:Value->Shared->Prop) (E:Value->Shared->Prop),Q (.bool (g i j)) s->wpAny (model X.prog X.w) X.A (f (.int i t) (.int j u)) Q E s) :
  OpR X f (rI0 fun i j=>.bl (g i j)):=by
 intro pins s σ H x y v u Q I rx ry h
 refine E_2 h fun i j n8=>A_3 n8 fun e9 n90 q=>?_;clear n8 h;subst e9;subst n90
 obtain ⟨t,rfl⟩:=rx
 obtain ⟨t',rfl⟩:=ry
 exact rule i j t t' s _ _ ⟨.bl (g i j),H,I,rfl,q⟩
noncomputable def CDiv (i j:Int):Prop:=0<j/\j<1073741824
noncomputable def CMul (i j:Int):Prop:=(-(2^64)<i/\i<2^64)\/(-(2^64)<j/\j<2^64)
theorem CMul.ok {i j:Int} (h:CMul i j):IntMulOk i j:=by
 rcases h with ⟨h1,h2⟩ | ⟨h1,h2⟩
 ·exact .of_left (intBits_le_64 h1 h2)
 ·exact .of_right (intBits_le_64 h1 h2)
theorem yl:OpR X (binaryOp .Add) (rI0 fun i j=>.int (i+j)):=opI0 fun _ _ _ _ _ _ _ q=>add_int q
theorem xv:OpR X (binaryOp .Sub) (rI0 fun i j=>.int (i-j)):=opI0 fun _ _ _ _ _ _ _ q=>sub_int q
theorem qw:OpR X (binaryOp .Mult) (rI CMul fun i j=>.int (i*j)):=opI fun _ _ _ _ _ _ _ hc q=>mul_int q hc.ok
theorem za2:OpR X (binaryOp .FloorDiv) (rI CDiv fun i j=>.int (i / j)):=opI fun i j _ _ _ _ _ hc q=>by
 have h1:(0:Int)<j:=hc.1
 have h2:j<1073741824:=hc.2
 exact floordiv_int (by omega) (by rw [Int.fdiv_eq_ediv_of_nonneg i (by omega)];exact q) (.inl (PyProof.noPylong_small (by omega)))
theorem yL:OpR X (binaryOp .Mod) (rI (fun _ j=>0<j) fun i j=>.int (i % j)):=opI fun i j _ _ _ _ _ hc q=>by
 have h1:(0:Int)<j:=hc
 exact mod_int' (by omega) (by rw [Int.fmod_eq_emod_of_nonneg i (by omega)];exact q)
theorem unI {f:Value->Sem Value} {g:Int->Int}
  (rule:∀ (i:Int) (t:Tok) (s:Shared) (Q:Value->Shared->Prop) (E:Value->Shared->Prop),Q (.int (g i) s.toks) {s with toks:=s.toks+1}->wpAny (model X.prog X.w) X.A (f (.int i t)) Q E s) :
  UnR X f (rU fun i=>.int (g i)):=by
 intro pins s σ H x v Q I rx h
 obtain ⟨i,rfl,q⟩:=h
 obtain ⟨t,rfl⟩:=rx
 exact rule i t s _ _ ⟨.int (g i),H,I.tok _,⟨_,rfl⟩,q⟩
theorem xw:UnR X (unaryOp .USub) (rU fun i=>.int (-i)):=unI fun _ _ _ _ _ q=>neg_int q
end
noncomputable def scal:V->V->Bool
 | .non,.non=>true | .non,.int _=>true | .int _,.non=>true | .non,.bl _=>true | .bl _,.non=>true | .non,.str _=>true | .str _,.non=>true
 | .int _,.int _=>true | .bl _,.bl _=>true | .str _,.str _=>true | .byt _,.byt _=>true
 | .int _,.str _=>true | .str _,.int _=>true | .bl _,.str _=>true | .str _,.bl _=>true
 | _,_=>false
noncomputable def rEq:R2:=fun x y H Q=>scal x y=true/\Q (.bl (decide (x=y))) H
noncomputable def rNe:R2:=fun x y H Q=>scal x y=true/\Q (.bl (!decide (x=y))) H
theorem qW {i j:Int}:decide (V.int i=V.int j)=(i == j):=by
 rw [vQ]
 simp
theorem Qo {i j:Bool}:decide (V.bl i=V.bl j)=(i == j):=by
 rw [vQ]
 simp
theorem Zp {i j:Str}:decide (V.str i=V.str j)=(i == j):=by
 rw [vQ]
 simp
theorem Wa {i j:Array UInt8}:decide (V.byt i=V.byt j)=(i.toList == j.toList):=by
 rw [vQ]
 cases i
 cases j
 simp
section
variable {X:Cx} {a b c:Expr} {ta tb tc:TE} {pos:Pos}
theorem zP {pins:List (Addr×Obj)} {σ:St} {H:Hp} {s:Shared} {Q:VK} {k k':Bool} (I:Inv X pins σ H s) (q:Q (.bl k) H) (e:k=k'):EP X pins σ Q (.bool k') s:=by
 subst e
 exact ⟨.bl k,H,I,rfl,q⟩
theorem xx:OpR X (compareOp .Eq) rEq:=by
 intro pins s σ H x y v u Q I rx ry h
 obtain ⟨hs,q⟩:=h
 cases x with
 | non =>
  cases rx
  cases y with
  | non=>cases ry;exact PySem.EqNone.eq_none_none (zP I q (by simp))
  | bl j=>cases ry;exact PySem.EqNone.eq_none_bool (zP I q (by simp))
  | int j=>obtain ⟨t',rfl⟩:=ry;exact PySem.EqNone.eq_none_int (zP I q (by simp))
  | str j=>obtain ⟨t',rfl⟩:=ry;exact PySem.EqNone.eq_none_str (zP I q (by simp))
  | _=>exact absurd (show false=true from hs) ku
 | bl i =>
  cases rx
  cases y with
  | non=>cases ry;exact PySem.EqNone.eq_bool_none (zP I q (by simp))
  | bl j=>cases ry;exact eq_bool (zP I q Qo)
  | str j=>obtain ⟨t',rfl⟩:=ry;exact PySem.EqMixed.eq_bool_str (zP I q (by simp))
  | _=>exact absurd (show false=true from hs) ku
 | int i =>
  obtain ⟨t,rfl⟩:=rx
  cases y with
  | non=>cases ry;exact PySem.EqNone.eq_int_none (zP I q (by simp))
  | int j=>obtain ⟨t',rfl⟩:=ry;exact eq_int (zP I q qW)
  | str j=>obtain ⟨t',rfl⟩:=ry;exact PySem.EqMixed.eq_int_str (zP I q (by simp))
  | _=>exact absurd (show false=true from hs) ku
 | str i =>
  obtain ⟨t,rfl⟩:=rx
  cases y with
  | non=>cases ry;exact PySem.EqNone.eq_str_none (zP I q (by simp))
  | bl j=>cases ry;exact PySem.EqMixed.eq_str_bool (zP I q (by simp))
  | int j=>obtain ⟨t',rfl⟩:=ry;exact PySem.EqMixed.eq_str_int (zP I q (by simp))
  | str j=>obtain ⟨t',rfl⟩:=ry;exact eq_str (zP I q Zp)
  | _=>exact absurd (show false=true from hs) ku
 | byt i =>
  obtain ⟨t,rfl⟩:=rx
  cases y with
  | byt j=>obtain ⟨t',rfl⟩:=ry;exact PySem.W.eq_bytes (zP I q Wa)
  | _=>exact absurd (show false=true from hs) ku
 | _=>cases y<;>exact absurd (show false=true from hs) ku
theorem wZ:OpR X (compareOp .NotEq) rNe:=by
 intro pins s σ H x y v u Q I rx ry h
 obtain ⟨hs,q⟩:=h
 cases x with
 | non =>
  cases rx
  cases y with
  | non=>cases ry;exact PySem.EqNone.ne_none_none (zP I q (by simp))
  | bl j=>cases ry;exact PySem.EqNone.ne_none_bool (zP I q (by simp))
  | int j=>obtain ⟨t',rfl⟩:=ry;exact PySem.EqNone.ne_none_int (zP I q (by simp))
  | str j=>obtain ⟨t',rfl⟩:=ry;exact PySem.EqNone.ne_none_str (zP I q (by simp))
  | _=>exact absurd (show false=true from hs) ku
 | bl i =>
  cases rx
  cases y with
  | non=>cases ry;exact PySem.EqNone.ne_bool_none (zP I q (by simp))
  | bl j=>cases ry;exact ne_bool (zP I q (congrArg not Qo))
  | str j=>obtain ⟨t',rfl⟩:=ry;exact PySem.EqMixed.ne_bool_str (zP I q (by simp))
  | _=>exact absurd (show false=true from hs) ku
 | int i =>
  obtain ⟨t,rfl⟩:=rx
  cases y with
  | non=>cases ry;exact PySem.EqNone.ne_int_none (zP I q (by simp))
  | int j=>obtain ⟨t',rfl⟩:=ry;exact ne_int (zP I q (congrArg not qW))
  | str j=>obtain ⟨t',rfl⟩:=ry;exact PySem.EqMixed.ne_int_str (zP I q (by simp))
  | _=>exact absurd (show false=true from hs) ku
 | str i =>
  obtain ⟨t,rfl⟩:=rx
  cases y with
  | non=>cases ry;exact PySem.EqNone.ne_str_none (zP I q (by simp))
  | bl j=>cases ry;exact PySem.EqMixed.ne_str_bool (zP I q (by simp))
  | int j=>obtain ⟨t',rfl⟩:=ry;exact PySem.EqMixed.ne_str_int (zP I q (by simp))
  | str j=>obtain ⟨t',rfl⟩:=ry;exact ne_str (zP I q (congrArg not Zp))
  | _=>exact absurd (show false=true from hs) ku
 | byt i =>
  obtain ⟨t,rfl⟩:=rx
  cases y with
  | byt j=>obtain ⟨t',rfl⟩:=ry;exact PySem.W.ne_bytes (zP I q (congrArg not Wa))
  | _=>exact absurd (show false=true from hs) ku
 | _=>cases y<;>exact absurd (show false=true from hs) ku
theorem y8:OpR X (compareOp .Lt) (rI0 fun i j=>.bl (decide (i<j))):=opB0 fun _ _ _ _ _ _ _ q=>lt_int q
theorem yS:OpR X (compareOp .LtE) (rI0 fun i j=>.bl (decide (i<=j))):=opB0 fun _ _ _ _ _ _ _ q=>le_int q
theorem w5:OpR X (compareOp .Gt) (rI0 fun i j=>.bl (decide (j<i))):=opB0 fun _ _ _ _ _ _ _ q=>gt_int q
theorem xc:OpR X (compareOp .Is) (fun x y H Q=>y=.non/\Q (.bl (decide (x=.non))) H):=by
 intro pins s σ H x y v u Q I rx ry h
 obtain ⟨rfl,q⟩:=h
 cases ry
 refine is_none_gen (zP I q ?_)
 cases x<;>first
  | (cases rx;rfl)
  | (obtain ⟨t,rfl⟩:=rx;rfl)
theorem Zq:OpR X (compareOp .IsNot) (fun x y H Q=>y=.non/\Q (.bl (!decide (x=.non))) H):=by
 intro pins s σ H x y v u Q I rx ry h
 obtain ⟨rfl,q⟩:=h
 cases ry
 refine isnot_none_gen (zP I q ?_)
 cases x<;>first
  | (cases rx;rfl)
  | (obtain ⟨t,rfl⟩:=rx;rfl)
theorem zE (b:Expr) {op:CmpOp} (h:op≠.In:=by decide) (h2:op≠.NotIn:=by decide):behindInMarks op b=false:=by
 have e1:(op == CmpOp.In)=false:=by cases op<;>first | rfl | exact absurd rfl h
 have e2:(op == CmpOp.NotIn)=false:=by cases op<;>first | rfl | exact absurd rfl h2
 cases b<;>simp [behindInMarks,e1,e2]
theorem yq {op:CmpOp} {r:R2} (ho:OpR X (compareOp op) r) (ha:PE X a ta) (hb:PE X b tb) (hm:behindInMarks op b=false):PE X (.Compare a [op] [b] pos) (tOp r ta tb):=by
 intro pins s σ H Q I h
 exact wpAny_Compare1 (binT ha hb I h fun v u s2 x y H2 I2 rx ry q=>ho pins s2 σ H2 x y v u Q I2 rx ry q) hm
noncomputable def ww (t:TE):TT:=fun σ H Q=>t σ H fun x H'=>∃ k,x=.bl k/\Q k H'
theorem zD {op:CmpOp} {r:R2} (ho:OpR X (compareOp op) r) (ha:PE X a ta) (hb:PE X b tb) (hm:behindInMarks op b=false):PT X (.Compare a [op] [b] pos) (ww (tOp r ta tb)):=by
 intro pins s σ H Q I h
 refine wpAny_isTrue_Compare1 (thn (ha pins s σ H _ I h) fun v s1 ⟨x,H1,I1,r1,q1⟩=>thn (hb pins s1 σ H1 _ I1 q1) fun u s2 ⟨y,H2,I2,r2,q2⟩ =>
  thn (ho pins s2 σ H2 x y v u _ I2 r1 r2 q2) fun c s3 ⟨z,H3,I3,r3,k,e,q3⟩=>?_) hm
 subst e
 cases r3
 exact wpAny_truthy_bool ⟨H3,I3,q3⟩
noncomputable def YK (r r':R2) (ta tb tc:TE):TE:=fun σ H Q=>ta σ H fun x H1=>tb σ H1 fun y H2=>r x y H2 fun z H3=>∃ k,z=.bl k /\
 (if k=true then tc σ H3 fun w' H4=>r' y w' H4 Q else Q (.bl false) H3)
theorem JG {op op':CmpOp} {r r':R2} (ho:OpR X (compareOp op) r) (ho':OpR X (compareOp op') r') (ha:PE X a ta) (hb:PE X b tb) (hc:PE X c tc)
  (hm:lastMarks [op,op'] [b,c]=false:=by with_unfolding_all rfl):PE X (.Compare a [op,op'] [b,c] pos) (YK r r' ta tb tc):=by
 intro pins s σ H Q I h
 refine Compare_chain (thn (ha pins s σ H _ I h) fun v s1 ⟨x,H1,I1,r1,q1⟩=>chain_link (thn (hb pins s1 σ H1 _ I1 q1) fun u s2 ⟨y,H2,I2,r2,q2⟩ =>
  thn (ho pins s2 σ H2 x y v u _ I2 r1 r2 q2) fun d s3 ⟨z,H3,I3,r3,k,e,q3⟩=>?_)) hm
 subst e
 cases r3
 refine wpAny_truthy_bool ?_
 cases k with
 | false=>exact ite_ff ⟨.bl false,H3,I3,rfl,q3⟩
 | true=>exact ite_tt (chain_last (thn (hc pins s3 σ H3 _ I3 q3) fun w' s4 ⟨z',H4,I4,r4,q4⟩=>ho' pins s4 σ H4 y z' u w' Q I4 r2 r4 q4))
theorem YL {op op':CmpOp} {r r':R2} (ho:OpR X (compareOp op) r) (ho':OpR X (compareOp op') r') (ha:PE X a ta) (hb:PE X b tb) (hc:PE X c tc)
  (hm:lastMarks [op,op'] [b,c]=false:=by with_unfolding_all rfl):PT X (.Compare a [op,op'] [b,c] pos) (ww (YK r r' ta tb tc)):=by
 intro pins s σ H Q I h
 refine isTrue_chain (thn (ha pins s σ H _ I h) fun v s1 ⟨x,H1,I1,r1,q1⟩=>test_link (thn (hb pins s1 σ H1 _ I1 q1) fun u s2 ⟨y,H2,I2,r2,q2⟩ =>
  thn (ho pins s2 σ H2 x y v u _ I2 r1 r2 q2) fun d s3 ⟨z,H3,I3,r3,k,e,q3⟩=>?_)) hm
 subst e
 cases r3
 refine wpAny_truthy_bool ?_
 cases k with
 | false =>
  obtain ⟨k',e',q'⟩:=q3
  cases e'
  exact ite_ff ⟨H3,I3,q'⟩
 | true =>
  refine ite_tt (test_last (thn (hc pins s3 σ H3 _ I3 q3) fun w' s4 ⟨z',H4,I4,r4,q4⟩=>thn (ho' pins s4 σ H4 y z' u w' _ I4 r2 r4 q4) fun d' s5 h9=>?_))
  obtain ⟨z2,H5,I5,r5,k2,e2,q5⟩:=h9
  subst e2
  cases r5
  exact wpAny_truthy_bool ⟨H5,I5,q5⟩
noncomputable def TruV (K:PySem.W.Frag) (x:V) (H:Hp) (k:Bool):Prop :=
 match x with
 | .non=>k=false
 | .bl b=>k=b
 | .int i=>k=(i != 0)
 | .str y=>y.length<=sizeLine/\k=((y.length:Int) != 0)
 | .byt y=>y.size<=sizeLine/\k=((y.size:Int) != 0)
 | .ref p=>(∃ xs,SqL K H p xs/\k=!xs.isEmpty)\/(∃ xs,SqT K H p xs/\k=!xs.isEmpty)\/∃ kvs,H p=some (.dK kvs)/\k=!kvs.isEmpty
 | _=>False
theorem WE {κ:Type} {kvs:List (κ×V)} {vs:List (κ×Value)} (r:KV kvs vs):(!vs.isEmpty)=!kvs.isEmpty:=by
 cases r<;>rfl
theorem jZ {xs:List V} {its:List Value} (r:Vals xs its):(!its.toArray.isEmpty)=!xs.isEmpty:=by
 cases r<;>simp
theorem wb:(sizeLine:Nat)<2^63:=by rw [sizeLine_eq];decide
theorem zcd:TruR X (fun x H Q=>∃ k,TruV X.K x H k/\Q k H):=by
 intro pins s σ H x v Q I rx h
 obtain ⟨k,e,q⟩:=h
 have hl:=wb
 have hs:sizeLine=16777216:=sizeLine_eq
 cases x with
 | non =>
  cases rx
  have e':k=false:=e
  subst e'
  exact truthy_none ⟨H,I,q⟩
 | bl b =>
  cases rx
  have e':k=b:=e
  subst e'
  exact wpAny_truthy_bool ⟨H,I,q⟩
 | int i =>
  obtain ⟨t,rfl⟩:=rx
  have e':k=(i != 0):=e
  subst e'
  exact PySem.P.truthy_int ⟨H,I,q⟩
 | str y =>
  obtain ⟨t,rfl⟩:=rx
  obtain ⟨hy,e'⟩ : y.length<=sizeLine/\k=((y.length:Int) != 0):=e
  subst e'
  exact PySem.P.truthy_str (by omega) ⟨H,I.tok _,q⟩
 | byt y =>
  obtain ⟨t,rfl⟩:=rx
  obtain ⟨hy,e'⟩ : y.size<=sizeLine/\k=((y.size:Int) != 0):=e
  subst e'
  exact PySem.W.truthy_bytes (by omega) ⟨H,I.tok _,q⟩
 | ref p =>
  cases rx
  have e':(∃ xs,SqL X.K H p xs/\k=!xs.isEmpty)\/(∃ xs,SqT X.K H p xs/\k=!xs.isEmpty)\/∃ kvs,H p=some (.dK kvs)/\k=!kvs.isEmpty:=e
  rcases e' with ⟨xs,hx,e'⟩ | ⟨xs,hx,e'⟩ | ⟨kvs,hx,e'⟩
  ·subst e'
   obtain ⟨its,r,pl,hz⟩:=I.list hx
   have hlen:=r.length
   exact wpAny_truthy_list pl.isList (by simp only [kt];omega) ⟨H,I.tok _,by rw [jZ r];exact q⟩
  ·subst e'
   obtain ⟨its,r,pl,hz⟩:=I.tuple hx
   have hlen:=r.length
   exact truthy_tuple pl (by simp only [kt];omega) ⟨H,I.tok _,by rw [jZ r];exact q⟩
  ·subst e'
   obtain ⟨hz,hS,vs,r,m⟩ : kvs.length<=sizeLine/\(p == sysModules)=false/\∃ vs,KV kvs vs/\s.heap.DictOf (yv X.prog X.w) p vs:=I.hok p _ hx
   have hlen:kvs.length=vs.length:=Paired.length r
   exact wpAny_truthy_dict hS m (by omega) ⟨H,I.tok _,by rw [WE r];exact q⟩
 | _=>exact (show False from e).elim
theorem jy (ha:PE X a ta) (he:∀ whole,isTrue a X.env whole=(do let v <- whole;standAt a.pos;holding [v] (truthy v))) :
  PT X a (fun σ H Q=>ta σ H fun x H'=>∃ k,TruV X.K x H' k/\Q k H'):=by
 intro pins s σ H Q I h
 exact isTrue_plain (thn (ha pins s σ H _ I h) fun v s1 ⟨x,H1,I1,r1,q1⟩=>zcd pins s1 σ H1 x v Q I1 r1 q1) (he _)
theorem yG:OpR X (binaryOp .Add) (fun x y H Q=>∃ i j,x=.str i/\y=.str j/\i.length+j.length<=sizeLine/\Q (.str (i++j)) H):=by
 intro pins s σ H x y v u Q I rx ry h
 refine E_2 h fun i j n8=>A_4 n8 fun e9 n90 hz q=>?_;clear n8 h;subst e9;subst n90
 obtain ⟨t,rfl⟩:=rx
 obtain ⟨t',rfl⟩:=ry
 exact add_str (fun t' tk=>⟨.str (i++j),H,I.tok _,⟨_,rfl⟩,q⟩) hz
theorem vals1 {x:V} {us:List Value} (r:Vals [x] us):∃ u,us=[u]/\RelV x u:=by
 cases r with
 | cons r1 r2=>cases r2;exact ⟨_,rfl,r1⟩
theorem vals2 {x y:V} {us:List Value} (r:Vals [x,y] us):∃ u w',us=[u,w']/\RelV x u/\RelV y w':=by
 cases r with
 | cons r1 r2 =>
  cases r2 with
  | cons r3 r4=>cases r4;exact ⟨_,_,rfl,r1,r3⟩
theorem qx (hc:X.calm=true):yX X (.builtin "max") (fun xs H Q=>∃ i j,xs=[.int i,.int j]/\Q (.int (if j>i then j else i)) H):=by
 intro pins s σ H xs us Q I r h
 refine E_2 h fun i j n8=>A_2 n8 fun e9 q=>?_;clear n8 h;subst e9
 obtain ⟨u,w',rfl,⟨t,rfl⟩,⟨t',rfl⟩⟩:=vals2 r
 refine max_two_ints (I.ok.hd hc) fun h' tk k=>⟨_,H,I.kept k,?_,q⟩
 by_cases hj:j>i
 ·rw [if_pos hj,if_pos hj];exact ⟨_,rfl⟩
 ·rw [if_neg hj,if_neg hj];exact ⟨_,rfl⟩
theorem JH:yX X (.builtin "ord") (fun xs H Q=>∃ x,xs=[.str x]/\x.length=1/\Q (.int (x.cps.getD 0 0:Nat)) H):=by
 intro pins s σ H xs us Q I r h
 refine E_1 h fun x n8=>A_3 n8 fun e9 hz q=>?_;clear n8 h;subst e9
 obtain ⟨u,rfl,t,rfl⟩:=vals1 r
 exact ord_of_one hz ⟨.int _,H,I.tok _,⟨_,rfl⟩,q⟩
end
end _L2
namespace _L2
open PySem PySem.Spec PyProof.Rows
structure ObjM (h:Heap) (x dx C:Addr) (mA:Str->Option Value):Prop where
 obj:h.get? x=some (PySem.W.instObj C dx)
 ns:h.Ns1 dx mA
 ne:dx≠x
theorem Qp {h:Heap} {dx:Addr} {mA:Str->Option Value} (n:h.Ns1 dx mA):∃ od,h.get? dx=some od/\∀ name,PySem.W.lookIn name od=some (mA name):=by
 obtain ⟨o,es,ep,ho,hd,hk,_,hm⟩:=n
 refine ⟨o,ho,fun name=>?_⟩
 have e:=hm name
 unfold nsFind findBy at e
 rw [<- Array.find?_toList] at e
 unfold PySem.W.lookIn
 rw [hd]
 dsimp only
 split
 ·rename_i y q
  rw [q] at e
  exact congrArg some e
 ·rename_i q
  rw [q] at e
  have a:es.toList.any (·.refKey)=false:=by
   rw [List.any_eq_false]
   intro y hy
   obtain ⟨z,t,hkey⟩:=hk y (Array.mem_toList_iff.mp hy)
   simp [DictEntry.refKey,hkey]
  have a':¬ es.toList.any (·.refKey)=true:=by rw [a];exact ku
  rw [if_neg a']
  exact congrArg some e
theorem ObjM.look {h:Heap} {x dx C:Addr} {mA:Str->Option Value} (I:ObjM h x dx C mA):∃ od,PySem.W.InstAt h x (PySem.W.instObj C dx) C (some od)/\∀ name,PySem.W.lookIn name od=some (mA name) :=
 let ⟨od,ho,hl⟩:=Qp I.ns
 ⟨od,⟨I.obj,rfl,rfl,ho⟩,hl⟩
section
variable {P:Program} {w:World} {H H':Hp} {h h':Heap} {a C dx:Addr} {fs fs':List (Str×V)}
theorem za3 (hok:HOk P w H h) (e:H a=some (.ins C dx fs)):∃ mA,ObjM h a dx C mA/\(∀ f,RelO (fs.lookup f) (mA f))/\PySem.Within mA (fs.map (·.1))/\fs.length<=1000/\H dx=some (.own a):=by
 obtain ⟨d,z,ne,ob,mA,n,r,q⟩:=(show z8 P w H h a (.ins C dx fs) from hok a _ e)
 exact ⟨mA,⟨ob,n,ne⟩,r,q,z,d⟩
end
structure Cls (K:PySem.W.Frag) (C:Addr):Prop where
 pg:PySem.W.plainGet K C Str.empty=true
 hd:PySem.W.hasDictIn K C=true
 po:PySem.W.plainOver K C=true
 sa:PySem.W.findIn K (.ref C) "__setattr__" = some (some (.builtin "object.__setattr__"))
theorem Cls.get {K:PySem.W.Frag} {C:Addr} (c:Cls K C) (f:Str):PySem.W.plainGet K C f=true:=c.pg
section
variable {X:Cx} {pins:List (Addr×Obj)} {σ:St} {H:Hp} {s:Shared} {A:Around} {E:Value->Shared->Prop} {Q:Value->Shared->Prop} {c:Value} {b:Bool}
inductive TyOf (K:PySem.W.Frag) (H:Hp):V->Value->Prop where
 | non:TyOf K H .non (.type "NoneType")
 | bl (x:Bool):TyOf K H (.bl x) (.type "bool")
 | int (i:Int):TyOf K H (.int i) (.type "int")
 | str (x:Str):TyOf K H (.str x) (.type "str")
 | flt (x:UInt64):TyOf K H (.flt x) (.type "float")
 | lst {a:Addr} {xs:List V} (e:H a=some (.lst xs)):TyOf K H (.ref a) (.type "list")
 | frz {a:Addr} {o:Obj} {xs:List V} (e:H a=some (.frz o (.lst xs))):TyOf K H (.ref a) (.type "list")
 | tup {a:Addr} {xs:List V} (e:H a=some (.tup xs)):TyOf K H (.ref a) (.type "tuple")
 | dK {a:Addr} {kvs:List (Key×V)} (e:H a=some (.dK kvs)):TyOf K H (.ref a) (.type "dict")
 | dT {a:Addr} {kvs:List (List Key×V)} (e:H a=some (.dT kvs)):TyOf K H (.ref a) (.type "dict")
 | ins {a C dx:Addr} {fs:List (Str×V)} (e:H a=some (.ins C dx fs)) (cl:Cls K C) (ha:PySem.W.findIn K (.ref C) "__class__" = some (some (.builtin "object.__class__")))
   (hn:PySem.W.specialIn K (.builtin "object.__class__") "__get__" = some (some (.builtin "getset_descriptor.__get__"))) (htk:PySem.W.takesIn K (.builtin "object.__class__")=some true)
   (hm:PySem.W.mroIn K C (.type "object")=some true):TyOf K H (.ref a) (.ref C)
end
end _L2
namespace _L2
open PySem PySem.Spec PyProof.Rows
structure Room (k:Nat) (A:Around):Prop where
 hd:A.handled=none
 dp:A.depth+3*k+5<recursionLimit
 un:A.units+16*k+200<cLine
theorem Room.mono {j k:Nat} {A:Around} (r:Room k A) (h:j<=k):Room j A:=⟨r.hd,by have:=r.dp;omega,by have:=r.un;omega⟩
theorem Room.deeper {k:Nat} {A:Around} (r:Room (k+1) A) (env:Env):Room k (A.deeper env) :=
 ⟨r.hd,by have:=r.dp;show A.depth+1+3*k+5<_;omega,by have:=r.un;show A.units+3+16*k+200<_;omega⟩
theorem Room.depth {k:Nat} {A:Around} (r:Room k A):A.depth<recursionLimit:=by have:=r.dp;omega
theorem Room.units {k:Nat} {A:Around} (r:Room k A):A.units+64<cLine:=by have:=r.un;omega
noncomputable def tNil:TA:=fun _ H Q=>Q [] H
noncomputable def xJ (ta:TE) (tr:TA):TA:=fun σ H Q=>ta σ H fun x H1=>tr σ H1 fun xs H2=>Q (x::xs) H2
section
variable {X:Cx} {e:Expr} {es:List Expr} {te:TE} {t:TA} {pos:Pos}
theorem zb:PA X [] tNil:=fun _ _ _ _ H Q I h=>Calls.spliced_nil ⟨[],H,I,.nil,h⟩
theorem za (ha:PE X e te) (hr:PA X es t) (hs:starEach (e::es) X.env=(false,eval e X.env)::starEach es X.env:=by rfl):PA X (e::es) (xJ te t):=by
 intro pos pins s σ H Q I h
 rw [hs]
 show wpAny _ _ (spliced ((false,eval e X.env)::backTo pos (starEach es X.env))) _ _ s
 refine Calls.spliced_cons (thn (ha pins s σ H _ I h) fun u s1 h9=>?_)
 obtain ⟨x,H1,I1,r1,q1⟩:=h9
 exact thn (hr pos pins s1 σ H1 _ I1 q1) fun us s2 ⟨xs,H2,I2,r2,q2⟩=>⟨x::xs,H2,I2,.cons r1 r2,q2⟩
noncomputable def tTup (t:TA):TE:=fun σ H Q=>t σ H fun xs H1=>xs.length<=sizeLine/\∀ p,H1 p=none->Q (.ref p) (upd H1 p (.tup xs))
noncomputable def tLst (t:TA):TE:=fun σ H Q=>t σ H fun xs H1=>xs.length<=sizeLine/\∀ p,H1 p=none->Q (.ref p) (upd H1 p (.lst xs))
theorem yH {x1} (h:PA X es t):PE X (.Tuple es x1 pos) (tTup t):=by
 intro pins s σ H Q I hq
 refine wpAny_Tuple_spliced (thn (h pos pins s σ H _ I hq) fun us s1 ⟨xs,H1,I1,r,z,q⟩=>⟨by rw [<- r.length];exact z,?_⟩)
 have hf:H1 s1.heap.objs.size=none:=I1.hok.fresh (kc _)
 refine ⟨.ref s1.heap.objs.size,upd H1 s1.heap.objs.size (.tup xs),I1.laid (t':=s1.toks) (fun b u e=>Heap.get?_push_of_some _ e) (kc _) ?_,rfl,q _ hf⟩
 exact ⟨z,us,r,⟨_,Heap.get?_push_size _ rfl,rfl,_,rfl⟩⟩
theorem z5 (h:PA X es t):PE X (.List es pos) (tLst t):=by
 intro pins s σ H Q I hq
 refine wpAny_List_spliced (thn (h pos pins s σ H _ I hq) fun us s1 ⟨xs,H1,I1,r,z,q⟩=>⟨by rw [<- r.length];exact z,?_⟩)
 have hf:H1 s1.heap.objs.size=none:=I1.hok.fresh (kc _)
 refine ⟨.ref s1.heap.objs.size,upd H1 s1.heap.objs.size (.lst xs),I1.laid (t':=s1.toks) (fun b u e=>Heap.get?_push_of_some _ e) (kc _) ?_,rfl,q _ hf⟩
 exact ⟨z,us,0,r,Heap.get?_push_size _ rfl⟩
end
abbrev Sp:=List V->Hp->VK->XK->Prop
abbrev CXT:=List Env->Hp->Shared->XK->Value->Shared->Prop
structure Env0 (P:Program) (w:World) (K:PySem.W.Frag) (mg:Str->Option Value) (base:Heap) (A:Around) (outer:List Env) (s:Shared) (H:Hp):Prop where
 frames:A.frames=some outer
 mod:Mod K mg base
 bs:∀ b o,base.get? b=some o->s.heap.get? b=some o/\H b=none
 bsz:base.objs.size<=s.heap.objs.size
 funs:s.heap.FunFrames base outer
 frf:∀ b∈frs outer,H b=none
 hok:HOk P w H s.heap
 bare:AllBare s.gens
noncomputable def CE (outer:List Env) (P:Program) (w:World) (H:Hp) (s:Shared) (Q:VK) (u:Value) (s':Shared):Prop :=
 ∃ v H',s'.os=s.os/\AllBare s'.gens/\Un (frs outer) [] H H' s.heap s'.heap/\HOk P w H' s'.heap/\RelV v u/\Q v H'
noncomputable def CR (CX:CXT) (outer:List Env) (P:Program) (w:World) (H:Hp) (s:Shared) (Q:VK) (E:XK) (r:Result) (s':Shared):Prop :=
 match r with
 | .ok (.ret u)=>CE outer P w H s Q u s'
 | .ok _=>False
 | .error e=>CX outer H s E e s'
structure FnOk (P:Program) (w:World) (K:PySem.W.Frag) (mg:Str->Option Value) (base:Heap) (CX:CXT) (k:Nat) (f:Addr) (fd:FuncData) (ps:List Str) (sp:Sp):Prop where
 len:∀ vs H Q E,sp vs H Q E->vs.length=ps.length
 run:∀ (A:Around) (outer:List Env) (s:Shared) (H:Hp) (args:Args) (us:List Value) (vs:List V) (Q:VK) (E:XK),Room k A->Env0 P w K mg base A outer s H->BindsTo s fd args (ps.zip us)->Vals vs us->sp vs H Q E ->
  codeAny (model P w) A (.call (.ref f) args) (CR CX outer P w H s Q E) s
section
variable {X:Cx} {pins:List (Addr×Obj)} {σ:St} {H:Hp} {s s':Shared}
theorem Inv.env0 (I:Inv X pins σ H s):Env0 X.prog X.w X.K X.mg X.base X.A X.stack s H :=
 ⟨I.ok.frames,I.ok.mod,I.bs,km I.ok.bsz I.sz,I.stack,I.stkFree,I.hok,I.bare⟩
theorem Inv.after {Q:VK} {u:Value} (I:Inv X pins σ H s) (h:CE X.stack X.prog X.w H s Q u s'):EP X pins σ Q u s':=by
 obtain ⟨v,H',os,bare,un,hok,r,q⟩:=h
 obtain ⟨hh,g,d,t,os'⟩:=s'
 obtain rfl:os'=s.os:=os
 exact ⟨v,H',I.call (h':=hh) (g':=g) (d':=d) (t':=t) (ch:=[]) un hok bare (fun b z=>absurd z (by simp)),r,q⟩
end
noncomputable def zdj (sp:Sp) (dvs:List V) (E:XK) (t:TA):TE:=fun σ H Q=>t σ H fun vs H1=>sp (vs++dvs) H1 Q E
noncomputable def Binds (K:PySem.W.Frag) (fd:FuncData) (ps:List Str) (ds:List Value):Prop :=
 ∀ (s:Shared) (us:List Value),K.In s.heap->(us++ds).length=ps.length->BindsTo s fd ⟨us,[]⟩ (ps.zip (us++ds))
theorem Binds.all {K:PySem.W.Frag} {fd:FuncData} {ps:List Str} (h:∀ us:List Value,us.length=ps.length->bindArgs fd ⟨us,[]⟩=pure (ps.zip us)):Binds K fd ps []:=fun s us _ hl=>by
 rw [vq] at hl ⊢
 exact .of_eq (h us hl)
noncomputable def qz (CX:CXT) (X:Cx) (E:XK):Prop:=∀ (pins:List (Addr×Obj)) (σ:St) (H:Hp) (s:Shared) (e:Value) (s':Shared),Inv X pins σ H s->CX X.stack H s E e s'->X.xe e s'
section
variable {X:Cx} {CX:CXT} {k:Nat} {f C:Addr} {fd:FuncData} {ps:List Str} {sp:Sp} {dvs:List V} {ds:List Value} {E:XK} {x m:Str} {p pos apos:Pos} {e o:Expr} {es:List Expr} {ta:TE} {t:TA}
theorem zce {pins:List (Addr×Obj)} {σ:St} {H:Hp} {s:Shared} {Q:VK} {us:List Value} {vs:List V} (F:FnOk X.prog X.w X.K X.mg X.base CX k f fd ps sp) (hr:Room k X.A) (hb:Binds X.K fd ps ds) (hd:Vals dvs ds) (hx:qz CX X E)
  (I:Inv X pins σ H s) (r:Vals vs us) (h:sp (vs++dvs) H Q E):wpAny (model X.prog X.w) X.A (call (.ref f) us) (EP X pins σ Q) X.xe s:=by
 have r2:Vals (vs++dvs) (us++ds):=r.append hd
 have hl:(us++ds).length=ps.length:=by rw [<- r2.length];exact F.len _ _ _ _ h
 refine wpAny_call (codeAny_mono (F.run X.A X.stack s H ⟨us,[]⟩ (us++ds) (vs++dvs) Q E hr I.env0 (hb s us I.kIn hl) r2 h) fun r s' hq=>?_)
 cases r with
 | error e=>exact hx pins σ H s e s' I hq
 | ok fl =>
  cases fl with
  | ret u=>exact I.after hq
  | next=>exact False.elim hq
  | brk=>exact False.elim hq
  | cont=>exact False.elim hq
theorem zj (F:FnOk X.prog X.w X.K X.mg X.base CX k f fd ps sp) (hr:Room k X.A) (hg:Gl X x) (hm:X.mg x=some (.ref f)) (hk:kD X.K (.ref f)=true) (hb:Binds X.K fd ps ds) (hd:Vals dvs ds) (hx:qz CX X E)
  (ha:PA X (e::es) t) (hdb:(x == ("__debug__" : Str))=false:=by decide) (he:starEach (e::es) X.env=(false,eval e X.env)::starEach es X.env:=by rfl) (hpl:(backTo pos (starEach es X.env)).any (·.1)=false:=by rfl) :
  PE X (.Call (.Name x p) (e::es) [] pos) (zdj sp dvs E t):=by
 intro pins s σ H Q I h
 refine wpAny_Call_Name_kw (Zn I hg hm ?_ hdb)
 refine PySem.W.callWith_K (h₀:=X.base) I.ok.mod.kin hk (thn (ha pos pins s σ H _ I h) fun us s1 ⟨vs,H1,I1,r,q⟩=>⟨I1.kIn,?_⟩) he hpl
 exact zce F hr hb hd hx I1 r q
end
noncomputable def PK (X:Cx) (kws:List Keyword) (t:TA):Prop :=
 ∀ (pos:Pos) (pins:List (Addr×Obj)) (s:Shared) (σ:St) (H:Hp) (Q:List V->Hp->Prop),Inv X pins σ H s->t σ H Q->wpAny (model X.prog X.w) X.A (evalAll ((backToKw pos (keywordEach kws X.env)).map (·.2))) (AP X pins σ Q) X.xe s
section
variable {X:Cx} {CX:CXT} {k:Nat} {f C:Addr} {fd:FuncData} {ps ks:List Str} {sp:Sp} {E:XK} {x m:Str} {p pos apos kpos:Pos} {e o:Expr} {es:List Expr} {kws:List Keyword} {te ta:TE} {t tk:TA} {nm:Option Str}
theorem Qq:PK X [] tNil:=fun _ _ _ _ H Q I h=>wpAny_evalAll_nil ⟨[],H,I,.nil,h⟩
theorem Wb (ha:PE X e te) (hr:PK X kws t):PK X (⟨nm,e,kpos⟩::kws) (xJ te t):=by
 intro pos pins s σ H Q I h
 show wpAny _ _ (evalAll ((do let v <- eval e X.env;standAt pos;pure v)::(backToKw pos (keywordEach kws X.env)).map (·.2))) _ _ s
 refine wpAny_evalAll_cons (wpAny_bind (thn (ha pins s σ H _ I h) fun u s1 ⟨x,H1,I1,r1,q1⟩=>wpAny_bind (wpAny_standAt (wpAny_pure ?_))))
 exact thn (hr pos pins s1 σ H1 _ I1 q1) fun us s2 ⟨xs,H2,I2,r2,q2⟩=>⟨x::xs,H2,I2,.cons r1 r2,q2⟩
end
structure zu (N P:List Str) (sc:Scope):Prop where
 kind:sc.kind=.function
 co:sc.isCoroutine=false
 gen:sc.isGenerator=false
 nd:N.Nodup
 pre:N.take P.length=P
 par:∀ x∈P,sc.names.lookup x=some .local\/sc.names.lookup x=some .cell
 nofree:∀ y∈sc.names,y.2≠.free
theorem ZT {kindOf:Str->Option NameKind} {x:Str}:∀ {binds:List (Str×Value)} {m:Str->Option Value},(∀ v,(x,v)∉binds)->bindL kindOf binds m x=m x
 | [],_,_=>rfl
 | (n,v)::r,m,h=>by
  unfold bindL
  rw [ZT fun w hw=>h w (kj _ hw)]
  split
  ·have:x≠n:=by rintro rfl;exact h v kh
   simp [this]
  ·rfl
theorem ZU {kindOf:Str->Option NameKind} {x:Str}:∀ {binds:List (Str×Value)} {m:Str->Option Value},(∀ v,(x,v)∉binds)->bindC kindOf binds m x=m x
 | [],_,_=>rfl
 | (n,v)::r,m,h=>by
  unfold bindC
  rw [ZU fun w hw=>h w (kj _ hw)]
  split
  ·rfl
  ·have:x≠n:=by rintro rfl;exact h v kh
   simp [this]
theorem ZV {kindOf:Str->Option NameKind} {x:Str} {v:Value}:∀ {P:List Str} {vs:List Value} {i:Nat} {m:Str->Option Value},P.Nodup->P[i]?=some x->vs[i]?=some v->kindOf x=some .local ->
  bindL kindOf (P.zip vs) m x=some v
 | [],_,_,_,_,h,_,_=>by simp at h
 | _::_,[],_,_,_,_,h,_=>by simp at h
 | p::P,w::vs,0,m,nd,h1,h2,hk=>by
  simp at h1 h2;subst h1;subst h2
  show bindL kindOf ((p,w)::P.zip vs) m p=_
  unfold bindL
  rw [ZT fun v hv=>(vT.mp nd).1 (List.of_mem_zip hv).1,if_pos hk]
  simp
 | p::P,w::vs,i+1,m,nd,h1,h2,hk=>by
  show bindL kindOf ((p,w)::P.zip vs) m x=_
  unfold bindL
  exact ZV (i:=i) (vT.mp nd).2 (by simpa using h1) (by simpa using h2) hk
theorem ZW {kindOf:Str->Option NameKind} {x:Str} {v:Value}:∀ {P:List Str} {vs:List Value} {i:Nat} {m:Str->Option Value},P.Nodup->P[i]?=some x->vs[i]?=some v->kindOf x≠some .local ->
  bindC kindOf (P.zip vs) m x=some v
 | [],_,_,_,_,h,_,_=>by simp at h
 | _::_,[],_,_,_,_,h,_=>by simp at h
 | p::P,w::vs,0,m,nd,h1,h2,hk=>by
  simp at h1 h2;subst h1;subst h2
  show bindC kindOf ((p,w)::P.zip vs) m p=_
  unfold bindC
  rw [ZU fun v hv=>(vT.mp nd).1 (List.of_mem_zip hv).1,if_neg hk]
  simp
 | p::P,w::vs,i+1,m,nd,h1,h2,hk=>by
  show bindC kindOf ((p,w)::P.zip vs) m x=_
  unfold bindC
  exact ZW (i:=i) (vT.mp nd).2 (by simpa using h1) (by simpa using h2) hk
noncomputable def start (N:List Str) (vs:List V):St:=vs.map some++kF (N.length-vs.length) none
noncomputable def cxOf (CX:CXT) (P:Program) (w:World) (K:PySem.W.Frag) (mg:Str->Option Value) (base:Heap) (N:List Str) (qual:Str) (scope:Scope) (f:Addr) (cd:Value) (A:Around) (outer:List Env) (s:Shared) (H:Hp) (E:XK):Cx where
 prog:=P
 w:=w
 K:=K
 mg:=mg
 base:=base
 A:=A.deeper (envOfC qual scope s.heap.objs.size f cd)
 N:=N
 s₀:=s
 H₀:=H
 env:=envOfC qual scope s.heap.objs.size f cd
 outer:=outer
 stack:=envOfC qual scope s.heap.objs.size f cd::outer
 ex:=[]
 calm:=true
 fn:=fun _=>true
 pn:=[]
 xe:=fun e s'=>wpAny (model P w) (A.deeper (envOfC qual scope s.heap.objs.size f cd)) (leaving (envOfC qual scope s.heap.objs.size f cd) e) (fun _ s''=>CX outer H s E e s'') (fun e' s''=>CX outer H s E e' s'') s'
theorem YM {sc:Scope} {n:Nat} {x:Str} (h:sc.names.lookup x=some .cell):∃ c,(cellsFrom n sc.names []).lookup x=some c:=by
 have q:=PySem.W.cellsFrom_some sc.names n [] (.inl h)
 exact uG.mp q
theorem Qr {CX:CXT} {P:Program} {w:World} {K:PySem.W.Frag} {mg:Str->Option Value} {base:Heap} {N ps:List Str} {qual:Str} {scope:Scope} {f:Addr} {cd:Value} {A:Around} {outer:List Env} {s s1:Shared} {H:Hp} {E:XK} {us:List Value} {vs:List V}
  (S:zu N ps scope) (hd:A.handled=none) (e0:Env0 P w K mg base A outer s H) (hl:vs.length=ps.length) (r:Vals vs us)
  (x:InCallC s s.heap.objs.size (bindL (envOfC qual scope s.heap.objs.size f cd).kindOf (ps.zip us) fun _=>none) (cellsFrom (s.heap.objs.size+1) scope.names []) (bindC (envOfC qual scope s.heap.objs.size f cd).kindOf (ps.zip us) fun _=>none) s1) :
  Inv (cxOf CX P w K mg base N qual scope f cd A outer s H E) [] (start N vs) H s1:=by
 have hpl:ps.length<=N.length:=by have:=congrArg List.length S.pre;rw [kL] at this;omega
 obtain ⟨h1,tk,rfl,hk⟩:=x.done
 have noA:∀ b:Addr,b∉(cxOf CX P w K mg base N qual scope f cd A outer s H E).ex:=fun b z=>absurd (show b∈([]:List Addr) from z) (by simp)
 refine ⟨⟨e0.mod,S.kind,rfl,rfl,kc _,fun y z c h1 h2=>?_,fun y hy=>?_,fun y c _ h=>?_,fun _=>hd,Around.frames_deeper e0.frames,.inr ⟨rfl,rfl⟩,fun b z=>absurd z (noA b),e0.bs,e0.bsz,fun b _ _=>noA b,fun b z=>absurd z (noA b),e0.funs,e0.frf⟩,
  rfl,e0.bare,Un.kept hk,⟨_,x.toInCall.ns,fun i y v h1 h2 h3=>?_⟩,fun y c h=>⟨_,x.cell y c h⟩,e0.hok.fresh (kc _),fun y c h=>?_,fun p hp=>absurd (show p∈([]:List (Addr×Obj)) from hp) (by simp),e0.hok.kept hk,?_⟩
 ·exact name_of_addr x.apart (uk h1) (uk h2)
 ·have hy:scope.names.lookup y=some .cell\/scope.names.lookup y=some .free:=hy
  rcases hy with hy | hy
  ·exact YM hy
  ·exact absurd rfl (S.nofree _ (uk hy))
 ·exact vE (x.above y c (uk h))
 ·have hi:i<vs.length:=by
   unfold start at h2
   by_cases hi:i<vs.length
   ·exact hi
   ·rw [v7 (by simpa using hi)] at h2
    rw [List.getElem?_replicate] at h2
    split at h2<;>cases h2
  have ha:vs[i]?=some v:=by
   unfold start at h2
   rw [vI (by simpa using hi),kR] at h2
   cases e:vs[i]? with
   | none=>rw [e] at h2;cases h2
   | some a=>rw [e] at h2;cases h2;rfl
  obtain ⟨u,hu,rv⟩:=r.get ha
  have hp:ps[i]?=some y:=by
   rw [<- S.pre,List.getElem?_take_of_lt (by omega)];exact h1
  have ndP:ps.Nodup:=by rw [<- S.pre];exact S.nd.sublist (List.take_sublist _ _)
  refine ⟨u,rv,?_⟩
  rcases S.par y (kE hp) with k | k
  ·exact .inl ⟨k,ZV ndP hp hu k⟩
  ·obtain ⟨c,e⟩:=YM (n:=s.heap.objs.size+1) k
   refine .inr ⟨.inl k,c,e,?_⟩
   have q:=x.cell y c e
   rw [ZW ndP hp hu (by show scope.names.lookup y≠_;rw [k];decide)] at q
   exact q
 ·exact e0.hok.fresh (vE (x.above y c (uk h)))
 ·unfold start
  show _=N.length
  rw [kg,ka,va]
  omega
theorem zaJ {CX:CXT} {P:Program} {w:World} {K:PySem.W.Frag} {mg:Str->Option Value} {base:Heap} {k:Nat} {f:Addr} {name qual:Str} {params:Arguments} {body:List Stmt} {scope:Scope} {dV kV doc pm cdv ct oc:Value} {an od:Option Addr}
  {osl:Array (Option Value)} {N ps:List Str} {sp:Sp} (lk:K.lookup f=some ⟨oc,od,.func (kJ name qual params body scope dV kV doc pm an cdv ct),osl⟩) (hcd:kG K cdv qual=true) (S:zu N ps scope)
  (len:∀ vs H Q E,sp vs H Q E->vs.length=ps.length)
  (hbody:∀ (A:Around) (outer:List Env) (s:Shared) (H:Hp) (vs:List V) (Q:VK) (E:XK),Room k (A.deeper (envOfC qual scope s.heap.objs.size f cdv))->sp vs H Q E ->
   ∃ t,PSs (cxOf CX P w K mg base N qual scope f cdv A outer s H E) body t/\t {nx:=fun _ H'=>Q .non H',rt:=Q} (start N vs) H) :
  FnOk P w K mg base CX (k+1) f (kJ name qual params body scope dV kV doc pm an cdv ct) ps sp:=by
 refine ⟨len,fun A outer s H args us vs Q E hr e0 hb r hsp=>?_⟩
 have hl:=len _ _ _ _ hsp
 have KX:K.In s.heap:=e0.mod.kin.keeps fun b o e=>(e0.bs b o e).1
 have lim:s.heap.NoLimit:=e0.mod.nolimit.keeps fun b o e=>(e0.bs b o e).1
 have hkind:∀ y∈ps.zip us,scope.names.lookup y.1=some .local\/(scope.names.lookup y.1=some .cell/\((cellsFrom (s.heap.objs.size+1) scope.names []).lookup y.1).isSome=true):=fun ⟨n,v⟩ hy=>by
  rcases S.par n (List.of_mem_zip hy).1 with q | q
  ·exact .inl q
  ·exact .inr ⟨q,PySem.W.cellsFrom_some _ _ _ (.inl q)⟩
 refine codeAny_call_function hr.depth (KX _ _ lk) rfl S.co S.gen rfl (PySem.W.codeRec_of KX hcd) (hb _ _ _ _ ?_)
 refine wpAny_newFunctionEnv_cells S.kind hkind fun env he s1 x=>?_
 subst he
 refine ⟨lim.keeps x.toInCall.keep,codeAny_func ?_⟩
 obtain ⟨t,ht,hq⟩:=hbody A outer s H vs Q E (hr.deeper _) hsp
 have I:Inv (cxOf CX P w K mg base N qual scope f cdv A outer s H E) [] (start N vs) H s1:=Qr S hr.hd e0 hl r x
 refine wpAny_mono (ht [] s1 (start N vs) H _ I hq) (fun fl s' hs=>?_) fun e s' hs=>hs
 have fin:∀ {σ':St} {H':Hp} {v:V} {u:Value},Inv (cxOf CX P w K mg base N qual scope f cdv A outer s H E) [] σ' H' s'->RelV v u->Q v H'->CE outer P w H s Q u s' :=
  fun {σ' H' v u} J rv q=>⟨v,H',J.os,J.bare,J.base,J.hok,rv,q⟩
 cases fl with
 | ret u =>
  obtain ⟨v,σ',H',J,rv,q⟩:=hs
  exact fin J rv q
 | next =>
  obtain ⟨σ',H',J,q⟩:=hs
  exact fin (v:=V.non) (u:=Value.none) J rfl q
 | brk =>
  obtain ⟨_,_,_,q⟩:=hs
  exact False.elim q
 | cont =>
  obtain ⟨_,_,_,q⟩:=hs
  exact False.elim q
end _L2
namespace _L2
open PySem PySem.Spec PyProof.Rows
section
variable {X:Cx} {x:Str} {p pos:Pos} {e:Expr} {es:List Expr} {t:TA} {id T:String} {r:List V->Hp->VK->Prop}
noncomputable def tCB (r:List V->Hp->VK->Prop) (t:TA):TE:=fun σ H Q=>t σ H fun vs H1=>r vs H1 Q
theorem zh (hc:yX X (.builtin id) r) (hg:Gl X x) (hm:X.mg x=none) (hv:bootBuiltins x=some (.builtin id)) (ha:PA X (e::es) t) (hn:x ≠ "__name__" := by decide) (hdb:(x == ("__debug__" : Str))=false:=by decide)
  (he:starEach (e::es) X.env=(false,eval e X.env)::starEach es X.env:=by rfl) (hpl:(backTo pos (starEach es X.env)).any (·.1)=false:=by rfl):PE X (.Call (.Name x p) (e::es) [] pos) (tCB r t):=by
 intro pins s σ H Q I h
 refine wpAny_Call_Name_kw (yK I hg hm hv ?_ hn hdb)
 exact ba (thn (ha pos pins s σ H _ I h) fun us s1 ⟨vs,H1,I1,r1,q1⟩=>hc pins s1 σ H1 vs us Q I1 r1 q1) he hpl
theorem qA (hc:yX X (.type T) r) (hg:Gl X x) (hm:X.mg x=none) (hv:bootBuiltins x=some (.type T)) (ha:PA X (e::es) t) (hn:x ≠ "__name__" := by decide) (hdb:(x == ("__debug__" : Str))=false:=by decide)
  (he:starEach (e::es) X.env=(false,eval e X.env)::starEach es X.env:=by rfl) (hpl:(backTo pos (starEach es X.env)).any (·.1)=false:=by rfl):PE X (.Call (.Name x p) (e::es) [] pos) (tCB r t):=by
 intro pins s σ H Q I h
 refine wpAny_Call_Name_kw (yK I hg hm hv ?_ hn hdb)
 exact vC (thn (ha pos pins s σ H _ I h) fun us s1 ⟨vs,H1,I1,r1,q1⟩=>hc pins s1 σ H1 vs us Q I1 r1 q1) he hpl
end
end _L2
namespace _HT
open PySem PyProof.Rows
section
variable {prog:Program} {w:World} {A:Around} {E:Value->Shared->Prop} {s:Shared}
noncomputable def sIx (n d:Nat):Option Int->Nat
 | none=>d
 | some v=>if v<0 then (v+(n:Int)).toNat else min v.toNat n
theorem xj (n d:Nat):sIx n d none=d:=rfl
theorem qX (n d k:Nat):sIx n d (some (k:Int))=min k n:=by
 show (if (k:Int)<0 then ((k:Int)+(n:Int)).toNat else min (k:Int).toNat n)=min k n
 rw [if_neg (by omega),vp]
theorem YN (n d:Nat) (hd:d<=n) (o:Option Int):sIx n d o<=n:=by
 cases o with
 | none=>exact hd
 | some v =>
  show (if v<0 then (v+(n:Int)).toNat else min v.toNat n)<=n
  by_cases hv:v<0
  ·rw [if_pos hv];omega
  ·rw [if_neg hv];exact Nat.min_le_right _ _
theorem Wc (v:Int) (n d:Nat):(if v<0 then max (v+(n:Int)) 0 else min v (n:Int))=((sIx n d (some v):Nat):Int):=by
 show (if v<0 then max (v+(n:Int)) 0 else min v (n:Int))=(((if v<0 then (v+(n:Int)).toNat else min v.toNat n):Nat):Int)
 by_cases hv:v<0
 ·simp only [if_pos hv];omega
 ·simp only [if_neg hv];omega
theorem WF (lo hi:Option Int) (n:Nat):Builtin.Slice.sliceAdjust lo hi 1 (n:Int)=(((sIx n 0 lo:Nat):Int),((sIx n n hi:Nat):Int)):=by
 have h1:¬ ((1:Int)<0):=by omega
 unfold Builtin.Slice.sliceAdjust
 simp only [h1,if_false]
 refine Prod.ext ?_ ?_
 ·cases lo with
  | none=>rfl
  | some v=>exact Wc v n 0
 ·cases hi with
  | none=>rfl
  | some v=>exact Wc v n n
theorem WG (i j:Nat):Builtin.Slice.slicePlaces (i:Int) (j:Int) 1=j-i:=by
 unfold Builtin.Slice.slicePlaces
 have h1:(1:Int)>0:=by omega
 simp only [h1,if_true,Int.ediv_one]
 split<;>omega
theorem j0 {v:Value} {o:Option Int} {Q:Option Int->Shared->Prop} (p:IsPart v o) (h:Q o s):wpAny (model prog w) A (Builtin.Slice.slicePartIndex v) Q E s:=by
 cases p with
 | none=>exact slicePart_none h
 | int i t=>exact slicePart_int h
theorem jz {sl:Addr} {vl vu:Value} {lo hi:Option Int} {n:Nat} {Q:Int×Int×Nat->Shared->Prop} (hs:s.heap.IsSliceOf sl vl vu .none) (pl:IsPart vl lo) (pu:IsPart vu hi)
  (h:Q (((sIx n 0 lo:Nat):Int),1,sIx n n hi-sIx n 0 lo) s):wpAny (model prog w) A (Builtin.Slice.sliceApplied (.ref sl) (pure (n:Int))) Q E s:=by
 obtain ⟨os,hos,hcs,hds⟩:=id hs
 unfold Builtin.Slice.sliceApplied Builtin.Slice.sliceFields
 refine wpAny_bind (wpAny_bind (wpAny_field hos hds (x:=vl) rfl (wpAny_bind (wpAny_field hos hds (x:=vu) rfl (wpAny_bind (wpAny_field hos hds (x:=.none) rfl (wpAny_pure ?_)))))))
 refine wpAny_bind (slicePart_none ?_)
 show wpAny _ _ (if ((1:Int) == 0)=true then _ else _) _ _ s
 rw [if_neg (by decide)]
 refine wpAny_bind (j0 pl (wpAny_bind (j0 pu (wpAny_bind (wpAny_pure ?_)))))
 show wpAny _ _ (match Builtin.Slice.sliceAdjust lo hi 1 (n:Int) with | (lo,hi)=>pure (lo,(1:Int),Builtin.Slice.slicePlaces lo hi 1)) _ _ s
 rw [WF lo hi n]
 show wpAny _ _ (pure (((sIx n 0 lo:Nat):Int),(1:Int),Builtin.Slice.slicePlaces ((sIx n 0 lo:Nat):Int) ((sIx n n hi:Nat):Int) 1)) _ _ s
 rw [WG]
 exact wpAny_pure h
theorem JI (xs:Array Value) (i k:Nat):((kQ k).filterMap fun (m:Nat)=>xs[((i:Int)+(m:Int)*1).toNat]?).toArray=((xs.toList.drop i).take k).toArray:=by
 have e:(fun (m:Nat)=>xs[((i:Int)+(m:Int)*1).toNat]?)=fun m=>xs[i+m]?:=by
  funext m
  have:((i:Int)+(m:Int)*1).toNat=i+m:=by omega
  rw [this]
 rw [e]
 have:=pick_run xs i k
 rw [List.filterMap_map] at this
 have e2:((fun x=>xs[x]?)∘fun x=>i+x)=fun m=>xs[i+m]?:=rfl
 rw [e2] at this
 rw [this]
theorem jq {t sl:Addr} {items:Array Value} {vl vu:Value} {lo hi:Option Int} {Q:Value->Shared->Prop} (ht:IsTup s.heap t items) (hs:s.heap.IsSliceOf sl vl vu .none) (pl:IsPart vl lo) (pu:IsPart vu hi)
  (hw:¬ (sIx items.size 0 lo=0/\sIx items.size items.size hi=items.size))
  (h:Q (.ref s.heap.objs.size) {s with heap:=s.heap.push {cls:=.type "tuple",data:=.seq ((items.toList.drop (sIx items.size 0 lo)).take (sIx items.size items.size hi-sIx items.size 0 lo)).toArray}})
  (hsz:items.size<=sizeLine):wpAny (model prog w) A (getItem (.ref t) (.ref sl)) Q E s:=by
 have htake:sizeOk (.seq ((items.toList.drop (sIx items.size 0 lo)).take (sIx items.size items.size hi-sIx items.size 0 lo)).toArray):=by
  show ((items.toList.drop (sIx items.size 0 lo)).take (sIx items.size items.size hi-sIx items.size 0 lo)).toArray.size<=sizeLine
  rw [kt,kL,vh,Array.length_toList]
  omega
 have hj:sIx items.size items.size hi<=items.size:=YN _ _ (kc _) hi
 obtain ⟨os,hos,hcs,hds⟩:=id hs
 have hTs:s.TypeIs (.ref sl) "slice" := ⟨os,hos,hcs⟩
 unfold getItem
 try with_reducible refine wpAny_holding ?_
 first | refine wpAny_bind (wpAny_pure ?_) | skip
 refine wpAny_bind (wpAny_sequenceKey ht.typeIs (by decide) ?_)
 refine wpAny_bind (wpAny_callSpecial?_slot (name:=Str.ofString "__getitem__") ht.typeIs PyProof.Rows.slot_tuple_getitem
  (wpAny_call_entry PyProof.Rows.slot_tuple_getitem ht.typeIs entry_tuple_getitem ?_ (args_tuple_getitem _ _)))
 show wpAny _ _ (Builtin.Tuple.tupleItemsOf (.ref t) >>= _) _ _ s
 refine wpAny_bind (tupleItemsOf_ ht ?_)
 refine wpAny_bind (wpAny_typeOf hTs ?_)
 rw [if_pos (by decide)]
 refine wpAny_bind (jz hs pl pu ?_)
 have hno:¬ ((((sIx items.size 0 lo:Nat):Int) == 0 && (1:Int) == 1 && (sIx items.size items.size hi-sIx items.size 0 lo) == items.size)=true):=by
  intro q
  rw [vj,vj] at q
  have q1:((sIx items.size 0 lo:Nat):Int)=0:=eq_of_beq q.1.1
  have q2:sIx items.size items.size hi-sIx items.size 0 lo=items.size:=eq_of_beq q.2
  exact hw ⟨by omega,by omega⟩
 show wpAny _ _ (if (((sIx items.size 0 lo:Nat):Int) == 0 && (1:Int) == 1 && (sIx items.size items.size hi-sIx items.size 0 lo) == items.size)=true then _ else _) _ _ s
 rw [if_neg hno,JI]
 first
  | exact wpAny_bind (m:=Builtin.Tuple.tupleExact _) (wpAny_newObj_type (wpAny_pure ⟨_,rfl,wpAny_pure h⟩) htake)
  | exact wpAny_bind (m:=Builtin.Tuple.tupleExact _) (wpAny_newObj_type (wpAny_bind (wpAny_pure (wpAny_pure ⟨_,rfl,wpAny_pure h⟩))) htake)
  | exact wpAny_bind (wpAny_bind (m:=Builtin.Tuple.tupleExact _) (wpAny_newObj_type (wpAny_pure (wpAny_pure ⟨_,rfl,wpAny_pure h⟩)) htake))
  | exact wpAny_bind (wpAny_bind (m:=Builtin.Tuple.tupleExact _) (wpAny_newObj_type (wpAny_pure ⟨_,rfl,wpAny_pure h⟩) htake))
end
end _HT
namespace _L2
open PySem PySem.Spec PyProof.Rows
abbrev TO:=St->Hp->(Option Int->Hp->Prop)->Prop
noncomputable def PO (X:Cx) (e:Option Expr) (t:TO):Prop :=
 ∀ (pins:List (Addr×Obj)) (s:Shared) (σ:St) (H:Hp) (Q:Option Int->Hp->Prop),Inv X pins σ H s->t σ H Q ->
  wpAny (model X.prog X.w) X.A (evalPart e X.env) (fun u s'=>∃ o H',Inv X pins σ H' s'/\IsPart u o/\Q o H') X.xe s
noncomputable def za4:TO:=fun _ H Q=>Q none H
noncomputable def zdk (t:TE):TO:=fun σ H Q=>t σ H fun x H1=>∃ i,x=.int i/\Q (some i) H1
section
variable {X:Cx} {e:Expr} {te:TE} {lo hi:Option Expr} {tl th:TO} {pos p2:Pos}
theorem xn:PO X none za4:=by
 intro pins s σ H Q I h
 rw [evalPart_none]
 exact wpAny_pure ⟨none,H,I,.none,h⟩
theorem yr (h:PE X e te):PO X (some e) (zdk te):=by
 intro pins s σ H Q I hw
 rw [evalPart_some]
 refine thn (h pins s σ H _ I hw) fun u s1 h9=>?_
 obtain ⟨x,H1,I1,r1,q1⟩:=h9
 obtain ⟨i,rfl,q⟩:=q1
 obtain ⟨t,rfl⟩:=r1
 exact ⟨some i,H1,I1,.int i t,q⟩
noncomputable def SlR (X:Cx) (r:V->Option Int->Option Int->Hp->VK->Prop):Prop :=
 ∀ (pins:List (Addr×Obj)) (s:Shared) (σ:St) (H:Hp) (x:V) (v vl vu:Value) (lo hi:Option Int) (sl:Addr) (Q:VK),Inv X pins σ H s->RelV x v->s.heap.IsSliceOf sl vl vu .none->IsPart vl lo->IsPart vu hi->r x lo hi H Q ->
  ∃ T id,typeLookup (.type T) "__getitem__" = pure (some (.builtin id))/\s.TypeIs v T/\wpAny (model X.prog X.w) X.A (getItem v (.ref sl)) (EP X pins σ Q) X.xe s
noncomputable def tSl (r:V->Option Int->Option Int->Hp->VK->Prop) (te:TE) (tl th:TO):TE:=fun σ H Q=>te σ H fun x H1=>tl σ H1 fun l H2=>th σ H2 fun u H3=>r x l u H3 Q
theorem yz {r:V->Option Int->Option Int->Hp->VK->Prop} (hr:SlR X r) (he:PE X e te) (hl:PO X lo tl) (hu:PO X hi th):PE X (.Subscript e (.Slice lo hi none p2) pos) (tSl r te tl th):=by
 intro pins s σ H Q I h
 refine Subscript_ (thn (he pins s σ H _ I h) fun v s1 h9=>?_)
 obtain ⟨x,H1,I1,r1,q1⟩:=h9
 refine wpAny_Slice (thn (hl pins s1 σ H1 _ I1 q1) fun vl s2 ⟨l,H2,I2,pl,q2⟩=>thn (hu pins s2 σ H2 _ I2 q2) fun vu s3 h9=>?_)
 obtain ⟨u,H3,I3,pu,q3⟩:=h9
 rw [evalPart_none]
 refine wpAny_pure ?_
 have I4:Inv X pins σ H3 {s3 with heap:=s3.heap.push {cls:=.type "slice",data:=.fields #[vl,vu,.none]}}:=I3.kept (t':=s3.toks) fun b ob q=>Heap.get?_push_of_some _ q
 obtain ⟨T,id,hT,ht,hg⟩:=hr pins {s3 with heap:=s3.heap.push {cls:=.type "slice",data:=.fields #[vl,vu,.none]}} σ H3 x v vl vu l u s3.heap.objs.size Q I4 r1 (Heap.IsSliceOf.new ..) pl pu q3
 show wpAny (model X.prog X.w) X.A (subscriptTail e (.Slice lo hi none p2) v (.ref s3.heap.objs.size)) (EP X pins σ Q) X.xe {s3 with heap:=s3.heap.push {cls:=.type "slice",data:=.fields #[vl,vu,.none]}}
 exact tail_any (ops:=[.ref s3.heap.objs.size,v]) ht hT hg (by with_unfolding_all rfl)
noncomputable def cutV (xs:List V) (lo hi:Option Int):List V:=(xs.drop (_HT.sIx xs.length 0 lo)).take (_HT.sIx xs.length xs.length hi-_HT.sIx xs.length 0 lo)
theorem jr (xs:List V) (lo hi:Option Int):(cutV xs lo hi).length<=xs.length:=by
 unfold cutV
 rw [kL,vh]
 omega
noncomputable def rSlT (K:PySem.W.Frag):V->Option Int->Option Int->Hp->VK->Prop:=fun x lo hi H Q=>∃ a xs,x=.ref a/\SqT K H a xs /\
 ¬ (_HT.sIx xs.length 0 lo=0/\_HT.sIx xs.length xs.length hi=xs.length)/\∀ p,H p=none->Q (.ref p) (upd H p (.tup (cutV xs lo hi)))
theorem Qt:SlR X (rSlT X.K):=by
 intro pins s σ H x v vl vu lo hi sl Q I rx hs pl pu h
 refine E_2 h fun a xs n8=>A_4 n8 fun e9 hx hw q=>?_;clear n8 h;subst e9
 cases rx
 obtain ⟨its,r,ht,hz⟩:=I.tuple hx
 have hlen:its.toArray.size=xs.length:=by rw [kt];exact r.length.symm
 refine ⟨"tuple",_,PyProof.Rows.slot_tuple_getitem.lookup,ht.typeIs,?_⟩
 refine _HT.jq ht hs pl pu (by rw [hlen];exact hw) ?_ (by rw [hlen];exact hz)
 rw [hlen]
 refine ⟨.ref s.heap.objs.size,_,I.laid (t':=s.toks) (o:=.tup (cutV xs lo hi)) (fun b ob q=>Heap.get?_push_of_some _ q) (kc _) ?_,rfl,q _ (I.hok.fresh (kc _))⟩
 exact ⟨km (jr xs lo hi) hz,_,(r.drop (_HT.sIx xs.length 0 lo)).take (_HT.sIx xs.length xs.length hi-_HT.sIx xs.length 0 lo),IsTup.new _ _⟩
end
end _L2
namespace _L2
open PySem PySem.Spec PyProof.Rows
noncomputable def ixN (n:Nat) (i:Int):Option Nat:=if 0<=i then (if i<n then some i.toNat else none) else if -(n:Int)<=i then some (i+n).toNat else none
noncomputable def atI {α:Type} (xs:List α) (i:Int):Option α:=(ixN xs.length i).bind fun j=>xs[j]?
theorem Wd {n:Nat} {i:Int} {j:Nat} (h:ixN n i=some j):seqIndex? i n=some j/\j<n /\ -(n:Int)<=i/\i<n:=by
 unfold ixN at h
 by_cases h0:0<=i
 ·rw [if_pos h0] at h
  by_cases h1:i<n
  ·rw [if_pos h1] at h
   have e:i.toNat=j:=Option.some.inj h
   exact ⟨by rw [seqIndex_of h0 h1,e],by omega,by omega,h1⟩
  ·rw [if_neg h1] at h;cases h
 ·rw [if_neg h0] at h
  by_cases h1:-(n:Int)<=i
  ·rw [if_pos h1] at h
   have e:(i+n).toNat=j:=Option.some.inj h
   exact ⟨by rw [seqIndex_neg (by omega) h1,e],by omega,h1,by omega⟩
  ·rw [if_neg h1] at h;cases h
theorem Zr {α:Type} {xs:List α} {i:Int} {v:α} (h:atI xs i=some v):∃ j,seqIndex? i xs.length=some j/\xs[j]?=some v/\j<xs.length /\ -(xs.length:Int)<=i/\i<xs.length:=by
 unfold atI at h
 cases e:ixN xs.length i with
 | none=>rw [e] at h;cases h
 | some j =>
  rw [e] at h
  obtain ⟨h1,h2,h3,h4⟩:=Wd e
  exact ⟨j,h1,h,h2,h3,h4⟩
theorem yw {α:Type} {xs:List α} {j:Nat} {v:α} (h:xs[j]?=some v):atI xs (j:Int)=some v:=by
 have hj:j<xs.length:=(kf.mp h).1
 have e:ixN xs.length (j:Int)=some j:=by
  unfold ixN
  rw [if_pos (by omega),if_pos (by omega)];simp
 unfold atI;rw [e];exact h
theorem jA {α:Type} (xs:List α) (v:α):atI (xs++[v]) (-1)=some v:=by
 have hl:(xs++[v]).length=xs.length+1:=by simp
 have e:ixN (xs++[v]).length (-1)=some xs.length:=by
  unfold ixN
  rw [hl,if_neg (by decide),if_pos (by omega)]
  congr 1
  omega
 unfold atI
 rw [e]
 show (xs++[v])[xs.length]?=some v
 simp
noncomputable def za5 (b:Expr):Prop:=∀ o i,subscripted b false o i=operate [o,i] (getItem o i)
noncomputable def IxR (X:Cx) (r:R2):Prop :=
 ∀ (value slice:Expr) (pins:List (Addr×Obj)) (s:Shared) (σ:St) (H:Hp) (x y:V) (v u:Value) (Q:VK),Inv X pins σ H s->RelV x v->RelV y u->r x y H Q ->
  subscripted slice false v u=operate [v,u] (getItem v u)->wpAny (model X.prog X.w) X.A (subscriptTail value slice v u) (EP X pins σ Q) X.xe s
noncomputable def MtR (X:Cx) (id:String) (r:V->List V->Hp->VK->Prop):Prop :=
 ∀ (pins:List (Addr×Obj)) (s:Shared) (σ:St) (H:Hp) (x:V) (xs:List V) (v:Value) (us:List Value) (Q:VK),Inv X pins σ H s->RelV x v->Vals xs us->r x xs H Q ->
  wpAny (model X.prog X.w) X.A (call (.builtin id) (v::us)) (EP X pins σ Q) X.xe s
section
variable {X:Cx} {a b:Expr} {ta tb:TE} {pos:Pos}
theorem zl {r:R2} (hr:IxR X r) (ha:PE X a ta) (hb:PE X b tb) (hs:za5 b):PE X (.Subscript a b pos) (tOp r ta tb):=by
 intro pins s σ H Q I h
 exact Subscript_ (binT ha hb I h fun v u s2 x y H2 I2 rx ry q=>hr a b pins s2 σ H2 x y v u Q I2 rx ry q (hs _ _))
noncomputable def rIxL (K:PySem.W.Frag):R2:=fun x y H Q=>∃ p xs i v,x=.ref p/\y=.int i/\SqL K H p xs/\atI xs i=some v/\Q v H
noncomputable def rIxT (K:PySem.W.Frag):R2:=fun x y H Q=>∃ p xs i v,x=.ref p/\y=.int i/\SqT K H p xs/\atI xs i=some v/\Q v H
noncomputable def rIxS:R2:=fun x y H Q=>∃ z i c,x=.str z/\y=.int i/\z.length<=sizeLine/\atI z.cps.toList i=some c/\Q (.str ⟨#[c]⟩) H
theorem zN:IxR X (rIxL X.K):=by
 intro value slice pins s σ H x y v u Q I rx ry h hs
 refine E_4 h fun p xs i z n8=>A_5 n8 fun e9 n90 hq he q=>?_;clear n8 h;subst e9;subst n90
 cases rx
 obtain ⟨t,rfl⟩:=ry
 obtain ⟨its,r,pl,hz⟩:=I.list hq
 obtain ⟨j,h1,h2,h3,h4,h5⟩:=Zr he
 obtain ⟨w,ew,rw'⟩:=r.get h2
 have hl:=r.length
 have hn:=wb
 have fin:EP X pins σ Q w s:=⟨z,H,I,rw',q⟩
 by_cases h0:0<=i
 ·have hj:i.toNat=j:=by
   rw [seqIndex_of h0 h5] at h1
   exact Option.some.inj h1
  exact item_listR pl.isList h0 (by omega) (by rw [hj];simpa using ew) fin hs
 ·have hj:(i+(its.toArray.size:Int)).toNat=j:=by
   rw [seqIndex_neg (by omega) h4] at h1
   rw [kt,<- hl]
   exact Option.some.inj h1
  exact subscriptTail_builtinR (x:=w) pl.isList.typeIs slot_list_getitem.lookup
   (wpAny_getItem_list_neg (Q:=fun r s'=>r=w/\EP X pins σ Q r s') pl.isList (by omega) (by rw [kt]<;>omega) (by omega) (by rw [hj];simpa using ew) ⟨rfl,fin⟩) hs
theorem zw:IxR X (rIxT X.K):=by
 intro value slice pins s σ H x y v u Q I rx ry h hs
 refine E_4 h fun p xs i z n8=>A_5 n8 fun e9 n90 hq he q=>?_;clear n8 h;subst e9;subst n90
 cases rx
 obtain ⟨t,rfl⟩:=ry
 obtain ⟨its,r,pl,hz⟩:=I.tuple hq
 obtain ⟨j,h1,h2,h3,h4,h5⟩:=Zr he
 obtain ⟨w,ew,rw'⟩:=r.get h2
 have hl:=r.length
 have hn:=wb
 have fin:EP X pins σ Q w s:=⟨z,H,I,rw',q⟩
 exact subscriptTail_builtinR (x:=w) pl.typeIs slot_tuple_getitem.lookup
  (getItem_tuple (j:=j) (Q:=fun r s'=>r=w/\EP X pins σ Q r s') pl (by omega) (by omega) (by rw [kt,<- hl];exact h1) (by simpa using ew) ⟨rfl,fin⟩) hs
theorem zcf:IxR X rIxS:=by
 intro value slice pins s σ H x y v u Q I rx ry h hs
 refine E_3 h fun z i c n8=>A_5 n8 fun e9 n90 hz he q=>?_;clear n8 h;subst e9;subst n90
 obtain ⟨t,rfl⟩:=rx
 obtain ⟨t',rfl⟩:=ry
 obtain ⟨j,h1,h2,h3,h4,h5⟩:=Zr he
 have hl:z.cps.toList.length=z.length:=by simp [Str.length]
 rw [hl] at h1 h4 h5
 have hn:=wb
 exact tail_any (typeIs_str s z t) slot_str_getitem.lookup (getItem_str (c:=c) (by
  have e1:decide (i < -(2^63:Int))=false:=decide_eq_false (by omega)
  have e2:decide (i≥2^63)=false:=decide_eq_false (by omega)
  rw [e1,e2,Bool.or_false]) (by rw [h1];simpa using h2) ⟨.str ⟨#[c]⟩,H,I.tok _,⟨_,rfl⟩,q⟩) hs
theorem WH (its:List Value) (n j:Nat) (u:Value):Obj.mapSeq (·.setIfInBounds j u) {cls:=.type "list",data:=.seq its.toArray n}={cls:=.type "list",data:=.seq (its.set j u).toArray n}:=by
 simp [Obj.mapSeq]
theorem Inv.lst {pins:List (Addr×Obj)} {σ:St} {H:Hp} {s:Shared} {p:Addr} {xs:List V} (I:Inv X pins σ H s) (h:H p=some (.lst xs)) :
  ∃ (its:List Value) (n:Nat),Vals xs its/\s.heap.get? p=some {cls:=.type "list",data:=.seq its.toArray n}/\xs.length<=sizeLine:=by
 obtain ⟨z,its,n,r,e⟩:=I.hok p _ h
 exact ⟨its,n,r,e,z⟩
theorem Inv.lstUpd {pins:List (Addr×Obj)} {σ:St} {H:Hp} {s:Shared} {p:Addr} {xs ys:List V} {its its':List Value} {n n':Nat} {f:Obj->Obj} (I:Inv X pins σ H s) (h:H p=some (.lst xs))
  (ho:s.heap.get? p=some {cls:=.type "list",data:=.seq its.toArray n}) (hf:f {cls:=.type "list",data:=.seq its.toArray n}={cls:=.type "list",data:=.seq its'.toArray n'}) (r:Vals ys its') (hz:ys.length<=sizeLine) (t:Nat) :
  Inv X pins σ (upd H p (.lst ys)) {s with heap:=s.heap.update p f,toks:=t}:=by
 have e:(s.heap.update p f).get? p=some {cls:=.type "list",data:=.seq its'.toArray n'}:=by
  rw [Heap.get?_update_self f ho (by rw [hf]<;>rfl),hf]
 refine I.write (x:=p) (e:=p) (by rw [h];trivial) (.inl rfl) (fun b u hb q=>(Heap.get?_update_other _ _ (Ne.symm hb)).trans q) ⟨_,e⟩ ?_
 exact ⟨hz,its',n',r,e⟩
noncomputable def zdl:V->V->V->Hp->(Hp->Prop)->Prop:=fun o i v H Q=>∃ p xs k j,o=.ref p/\i=.int k/\H p=some (.lst xs)/\ixN xs.length k=some j/\Q (upd H p (.lst (xs.set j v)))
theorem set_list:PSet X zdl:=by
 intro pins s σ H o i v ov iv u Q I ro ri rv h
 refine E_4 h fun p xs k j n8=>A_5 n8 fun e9 n90 hp hj q=>?_;clear n8 h;subst e9;subst n90
 cases ro
 obtain ⟨t,rfl⟩:=ri
 obtain ⟨its,n,r,ho,hz⟩:=I.lst hp
 obtain ⟨h1,h2,h3,h4⟩:=Wd hj
 have hl:=r.length
 have hn:=wb
 have I':Inv X pins σ (upd H p (.lst (xs.set j v))) {s with heap:=s.heap.update p (Obj.mapSeq (·.setIfInBounds j u))} :=
  I.lstUpd hp ho (WH its n j u) (r.set rv j) (by rw [uK];exact hz) s.toks
 by_cases h0:0<=k
 ·have hk:k.toNat=j:=by
   rw [seqIndex_of h0 h4] at h1
   exact Option.some.inj h1
  exact PySem.W.ki_setAt ho h0 (by omega) (by rw [kt,<- hl];exact h4) (by rw [hk];exact ⟨_,I',q⟩)
 ·have hk:(k+(its.toArray.size:Int)).toNat=j:=by
   rw [seqIndex_neg (by omega) h3] at h1
   rw [kt,<- hl]
   exact Option.some.inj h1
  exact PySem.W.ki_setBack ho (by omega) (by rw [kt,<- hl];exact h3) (by omega) (by rw [hk];exact ⟨_,I',q⟩)
theorem YO (lo hi:Option Int) (n:Nat):(sliceBounds lo hi none n).1=((_HT.sIx n 0 lo:Nat):Int)/\(sliceBounds lo hi none n).2.1=((_HT.sIx n n hi:Nat):Int)/\(sliceBounds lo hi none n).2.2=1:=by
 refine ⟨?_,?_,rfl⟩
 ·cases lo with
  | none=>simp [sliceBounds,_HT.sIx]
  | some i =>
   simp only [sliceBounds,_HT.sIx,Option.getD_none,show (1:Int)>0 by decide,if_true]
   by_cases h:i<0
   ·simp only [h,if_true]<;>omega
   ·simp only [h,if_false]<;>omega
 ·cases hi with
  | none=>simp [sliceBounds,_HT.sIx]
  | some i =>
   simp only [sliceBounds,_HT.sIx,Option.getD_none,show (1:Int)>0 by decide,if_true]
   by_cases h:i<0
   ·simp only [h,if_true]<;>omega
   ·simp only [h,if_false]<;>omega
theorem Ys (its:List Value) (lo hi:Option Int):slicePick its.toArray lo hi none=((its.drop (_HT.sIx its.length 0 lo)).take (_HT.sIx its.length its.length hi-_HT.sIx its.length 0 lo)).toArray:=by
 obtain ⟨h1,h2,h3⟩:=YO lo hi its.toArray.size
 unfold slicePick
 rw [h1,h2,h3]
 simp only [sliceRange_one,pick_run,kt]<;>rfl
noncomputable def rSlL (K:PySem.W.Frag):V->Option Int->Option Int->Hp->VK->Prop:=fun x lo hi H Q=>∃ a xs,x=.ref a/\SqL K H a xs/\∀ p,H p=none->Q (.ref p) (upd H p (.lst (cutV xs lo hi)))
theorem xB:SlR X (rSlL X.K):=by
 intro pins s σ H x v vl vu lo hi sl Q I rx hs pl pu h
 refine E_2 h fun a xs n8=>A_3 n8 fun e9 hx q=>?_;clear n8 h;subst e9
 cases rx
 obtain ⟨its,r,ht,hz⟩:=I.list hx
 have hlen:=r.length
 refine ⟨"list",_,slot_list_getitem.lookup,ht.isList.typeIs,?_⟩
 refine wpAny_getItem_list_slice ht.isList hs pl pu .none (by simp) ?_ (by rw [kt]<;>omega)
 rw [Ys,<- hlen]
 refine ⟨.ref s.heap.objs.size,_,I.laid (t':=s.toks) (o:=.lst (cutV xs lo hi)) (fun b ob q=>Heap.get?_push_of_some _ q) (kc _) ?_,rfl,q _ (I.hok.fresh (kc _))⟩
 exact ⟨km (jr xs lo hi) hz,_,0,(r.drop (_HT.sIx xs.length 0 lo)).take (_HT.sIx xs.length xs.length hi-_HT.sIx xs.length 0 lo),Heap.get?_push_size _ rfl⟩
noncomputable def xi:V->Bool
 | .non=>true
 | .bl _=>true
 | .int _=>true
 | .str _=>true
 | _=>false
noncomputable def eqV:V->V->Bool
 | .non,.non=>true
 | .bl a,.bl b=>a == b
 | .bl a,.int b=>(if a then 1 else 0) == b
 | .int a,.bl b=>a == (if b then 1 else 0)
 | .int a,.int b=>a == b
 | .str a,.str b=>a == b
 | _,_=>false
theorem Qu {A:Around} {s:Shared} {y x:V} {u v:Value} (ry:RelV y u) (rx:RelV x v) (fy:xi y=true) (fx:xi x=true):SeqAt.EqAt A s u v (eqV y x):=by
 cases y with
 | non =>
  cases ry
  cases x with
  | non=>cases rx;exact SeqAt.EqAt.same _
  | bl b=>cases rx;exact SeqAt.EqAt.none_bool b
  | int b=>obtain ⟨t,rfl⟩:=rx;exact SeqAt.EqAt.none_int b t
  | str b=>obtain ⟨t,rfl⟩:=rx;exact SeqAt.EqAt.none_str b t
  | _=>exact absurd (show false=true from fx) ku
 | bl a =>
  cases ry
  cases x with
  | non=>cases rx;exact SeqAt.EqAt.bool_none a
  | bl b=>cases rx;exact SeqAt.EqAt.bool_bool a b
  | int b=>obtain ⟨t,rfl⟩:=rx;exact SeqAt.EqAt.bool_int a b t
  | str b=>obtain ⟨t,rfl⟩:=rx;exact SeqAt.EqAt.bool_str a b t
  | _=>exact absurd (show false=true from fx) ku
 | int a =>
  obtain ⟨t',rfl⟩:=ry
  cases x with
  | non=>cases rx;exact SeqAt.EqAt.int_none a t'
  | bl b=>cases rx;exact SeqAt.EqAt.int_bool a t' b
  | int b=>obtain ⟨t,rfl⟩:=rx;exact SeqAt.EqAt.int_int a t' b t
  | str b=>obtain ⟨t,rfl⟩:=rx;exact SeqAt.EqAt.int_str a t' b t
  | _=>exact absurd (show false=true from fx) ku
 | str a =>
  obtain ⟨t',rfl⟩:=ry
  cases x with
  | non=>cases rx;exact SeqAt.EqAt.str_none a t'
  | bl b=>cases rx;exact SeqAt.EqAt.str_bool a t' b
  | int b=>obtain ⟨t,rfl⟩:=rx;exact SeqAt.EqAt.str_int a t' b t
  | str b=>obtain ⟨t,rfl⟩:=rx;exact SeqAt.EqAt.str_str a t' b t
  | _=>exact absurd (show false=true from fx) ku
 | _=>exact absurd (show false=true from fy) ku
noncomputable def eqU (x:V) (u:Value):Bool:=match u with
 | .none=>eqV .non x
 | .bool b=>eqV (.bl b) x
 | .int i _=>eqV (.int i) x
 | .str z _=>eqV (.str z) x
 | _=>false
theorem Qv {x y:V} {u:Value} (r:RelV y u) (f:xi y=true):eqU x u=eqV y x:=by
 cases y with
 | non=>cases r;rfl
 | bl b=>cases r;rfl
 | int i=>obtain ⟨t,rfl⟩:=r;rfl
 | str z=>obtain ⟨t,rfl⟩:=r;rfl
 | _=>exact absurd (show false=true from f) ku
theorem Zu {x:V}:∀ {xs:List V} {us:List Value},Vals xs us->xs.all xi=true->us.any (eqU x)=xs.any fun y=>eqV y x
 | _,_,.nil,_=>rfl
 | y::xs,u::us,.cons r t,f=>by
  rw [List.all_cons,vj] at f
  rw [bf,bf,Qv r f.1,Zu t f.2]
theorem jB {A:Around} {s:Shared} {x:V} {v:Value} (rx:RelV x v) (fx:xi x=true):∀ {xs:List V} {us:List Value},Vals xs us->xs.all xi=true->∀ u∈us,SeqAt.EqAt A s u v (eqU x u)
 | _,_,.nil,_=>fun u hu=>by cases hu
 | y::xs,u::us,.cons r t,f=>fun u' hu=>by
  rw [List.all_cons,vj] at f
  rcases kO.mp hu with rfl | hu
  ·rw [Qv r f.1];exact Qu r rx f.1 fx
  ·exact jB rx fx t f.2 u' hu
noncomputable def inV (x:V) (xs:List V):Bool:=xs.any fun y=>eqV y x
noncomputable def rIn (K:PySem.W.Frag) (neg:Bool):R2:=fun x y H Q=>∃ p xs,y=.ref p/\(SqL K H p xs\/SqT K H p xs)/\xi x=true/\xs.all xi=true/\Q (.bl (if neg then !inV x xs else inV x xs)) H
theorem Qw:OpR X (compareOp .In) (rIn X.K false):=by
 intro pins s σ H x y v u Q I rx ry h
 refine E_2 h fun p xs n8=>A_5 n8 fun e9 hq fx fs q=>?_;clear n8 h;subst e9
 cases ry
 rcases hq with hq | hq
 ·obtain ⟨its,r,pl,hz⟩:=I.list hq
  refine SeqAt.in_listAt (eqU x) pl.isList (fun w hw=>jB rx fx r fs w (by simpa using hw)) ⟨.bl _,H,I,rfl,?_⟩
  rw [show its.toArray.any (eqU x)=its.any (eqU x) by simp,Zu r fs]
  exact q
 ·obtain ⟨its,r,pl,hz⟩:=I.tuple hq
  refine SeqAt.in_tupleAt (eqU x) pl (fun w hw=>jB rx fx r fs w (by simpa using hw)) ⟨.bl _,H,I,rfl,?_⟩
  rw [show its.toArray.any (eqU x)=its.any (eqU x) by simp,Zu r fs]
  exact q
theorem zo:yX X (.builtin "len") (fun xs H Q=>∃ p ys,xs=[.ref p]/\(SqL X.K H p ys\/SqT X.K H p ys)/\Q (.int ys.length) H):=by
 intro pins s σ H xs us Q I r h
 refine E_2 h fun p ys n8=>A_3 n8 fun e9 hq q=>?_;clear n8 h;subst e9
 obtain ⟨u,rfl,rx⟩:=vals1 r
 cases rx
 have hn:=wb
 rcases hq with hq | hq
 ·obtain ⟨its,r',pl,hz⟩:=I.list hq
  have hlen:=r'.length
  exact Calls.call_len_list pl.isList (by simp only [kt]<;>omega) ⟨.int ys.length,H,I.tok _,⟨s.toks+1,by rw [kt,hlen]⟩,q⟩
 ·obtain ⟨its,r',pl,hz⟩:=I.tuple hq
  have hlen:=r'.length
  exact len_tuple pl (by simp only [kt]<;>omega) ⟨.int ys.length,H,I.tok _,⟨s.toks+1,by rw [kt,hlen]⟩,q⟩
theorem zZ:yX X (.builtin "len") (fun xs H Q=>∃ z,xs=[.str z]/\z.length<=sizeLine/\Q (.int z.length) H):=by
 intro pins s σ H xs us Q I r h
 refine E_1 h fun z n8=>A_3 n8 fun e9 hz q=>?_;clear n8 h;subst e9
 obtain ⟨u,rfl,t,rfl⟩:=vals1 r
 have hn:=wb
 exact len_str (by omega) ⟨.int z.length,H,I.tok _,⟨_,rfl⟩,q⟩
theorem xS:yX X (.type "tuple") (fun xs H Q=>∃ p ys,xs=[.ref p]/\((SqL X.K H p ys/\∀ l,H l=none->Q (.ref l) (upd H l (.tup ys)))\/(SqT X.K H p ys/\Q (.ref p) H))):=by
 intro pins s σ H xs us Q I r h
 revert h;intro n7;refine E_2 n7 fun p ys n8=>A_2 n8 fun e9 h=>?_;clear n8 n7;subst e9
 obtain ⟨u,rfl,rx⟩:=vals1 r
 cases rx
 rcases h with ⟨hq,q⟩ | ⟨hq,q⟩
 ·obtain ⟨its,r',pl,hz⟩:=I.list hq
  have hlen:=r'.length
  refine call_tuple_list pl.isList (fun h' kp=>?_) (by simp only [kt]<;>omega)
  have I1:Inv X pins σ H {s with heap:=h'}:=I.kept (t':=s.toks) kp
  have I2:Inv X pins σ (upd H h'.objs.size (.tup ys)) {s with heap:=h'.push {cls:=.type "tuple",data:=.seq its.toArray}} :=
   I1.laid (t':=s.toks) (fun b o e=>Heap.get?_push_of_some _ e) (kc _) (show z8 X.prog X.w _ _ _ (.tup ys) from ⟨hz,its,r',IsTup.new _ _⟩)
  exact ⟨.ref h'.objs.size,_,I2,rfl,q _ (I1.hok.fresh (kc _))⟩
 ·obtain ⟨its,r',pl,hz⟩:=I.tuple hq
  exact call_tuple_same pl ⟨.ref p,H,I,rfl,q⟩
noncomputable def tyV (K:PySem.W.Frag) (T:String) (x:V) (H:Hp):Prop:=match x with
 | .str _=>T = "str"
 | .int _=>T = "int"
 | .ref p=>(T = "list" /\ ∃ xs,SqL K H p xs)\/(T = "tuple" /\ ∃ o,K.lookup p=some o/\o.cls=.type "tuple" /\ o.dict=none) \/
   (T = "dict" /\ ((∃ kvs,H p=some (.dK kvs))\/∃ kvs,H p=some (.dT kvs)))\/(T = "set" /\ ∃ S n,H p=some (.set S n))
 | _=>False
theorem Qx {pins:List (Addr×Obj)} {σ:St} {H:Hp} {s:Shared} {T:String} {x:V} {v:Value} (I:Inv X pins σ H s) (r:RelV x v) (ty:tyV X.K T x H) :
  s.TypeIs v T/\∀ a,v=.ref a->∃ ob,s.heap.get? a=some ob/\ob.dict=none:=by
 cases x with
 | str z =>
  obtain ⟨t,rfl⟩:=r
  cases (show T = "str" from ty)
  exact ⟨typeIs_str s z t,fun _ e=>nomatch e⟩
 | int i =>
  obtain ⟨t,rfl⟩:=r
  cases (show T = "int" from ty)
  exact ⟨typeIs_int s i t,fun _ e=>nomatch e⟩
 | ref p =>
  cases r
  rcases ty with ⟨rfl,xs,hq⟩ | ⟨rfl,o,hk,hc,hd⟩ | ⟨rfl,hk⟩ | ⟨rfl,S,n,hk⟩
  ·obtain ⟨its,_,pl,_⟩:=I.list hq
   refine ⟨pl.isList.typeIs,fun a e=>?_⟩
   cases e
   obtain ⟨o,n,e,c,hd,_⟩:=pl
   exact ⟨o,e,hd⟩
  ·refine ⟨⟨o,I.kIn p o hk,hc⟩,fun a e=>?_⟩
   cases e
   exact ⟨o,I.kIn _ o hk,hd⟩
  ·have z:∃ o,s.heap.get? p=some o/\o.ExactDict:=by
    rcases hk with ⟨kvs,hk⟩ | ⟨kvs,hk⟩
    ·obtain ⟨_,_,_,_,o,_,_,e,ex,_⟩:=I.hok p _ hk
     exact ⟨o,e,ex⟩
    ·obtain ⟨_,_,_,_,o,_,_,e,ex,_⟩:=I.hok p _ hk
     exact ⟨o,e,ex⟩
   obtain ⟨o,e,ex⟩:=z
   refine ⟨⟨o,e,ex.1⟩,fun a e2=>?_⟩
   cases e2
   exact ⟨o,e,ex.2.1⟩
  ·obtain ⟨o,_,_,_,e,ex,_⟩:=I.hok p _ hk
   refine ⟨⟨o,e,ex.1⟩,fun a e2=>?_⟩
   cases e2
   exact ⟨o,e,ex.2.1⟩
 | _=>exact False.elim ty
noncomputable def tBM0 (K:PySem.W.Frag) (T:String) (r:V->List V->Hp->VK->Prop) (to:TE):TE:=fun σ H Q=>to σ H fun x H1=>tyV K T x H1/\r x [] H1 Q
noncomputable def tBM (K:PySem.W.Frag) (T:String) (r:V->List V->Hp->VK->Prop) (to:TE) (t:TA):TE:=fun σ H Q=>to σ H fun x H1=>tyV K T x H1/\t σ H1 fun xs H2=>r x xs H2 Q
variable {o e:Expr} {es:List Expr} {to:TE} {t:TA} {name:Str} {apos cpos:Pos} {T id:String} {r:V->List V->Hp->VK->Prop}
theorem zcg (pa:PlainAttrs T) (slot:Slot T name id) (hty:typeOf (.builtin id)=pure (.type "method_descriptor")) (hm:MtR X id r) (ho:PE X o to)
  (hbase:attributeBase o name X.env (eval o X.env)=eval o X.env:=by rfl) (hline:(apos.endLine == cpos.line)=true:=by rfl):PE X (.Call (.Attribute o name apos) [] [] cpos) (tBM0 X.K T r to):=by
 intro pins s σ H Q I h
 refine wpAny_Call_method0_late hbase hline (thn (ho pins s σ H _ I h) fun v s1 h9=>?_)
 obtain ⟨x,H1,I1,r1,ty,q1⟩:=h9
 obtain ⟨h1,h2⟩:=Qx I1 r1 ty
 exact ⟨T,id,pa,slot,hty,h1,h2,Calls.callWith_builtin rfl (PySem.evalArgs_none (hm pins s1 σ H1 x [] v [] Q I1 r1 .nil q1))⟩
theorem yI (pa:PlainAttrs T) (slot:Slot T name id) (hty:typeOf (.builtin id)=pure (.type "method_descriptor")) (hm:MtR X id r) (ho:PE X o to) (ha:PA X (e::es) t)
  (hbase:attributeBase o name X.env (eval o X.env)=eval o X.env:=by rfl)
  (hfew:((backTo cpos (starEach (e::es) X.env)).all (fun x=>!x.1) && (backToKw cpos (keywordEach [] X.env)).all (fun x=>x.1.isSome)
   && decide ((e::es).length+([]:List Keyword).length+(if ([]:List Keyword).isEmpty then 0 else 1)<30))=true:=by rfl)
  (hline:(apos.endLine == cpos.line)=true:=by rfl) (hs:starEach (e::es) X.env=(false,eval e X.env)::starEach es X.env:=by rfl) (hplain:(backTo cpos (starEach es X.env)).any (·.1)=false:=by rfl) :
  PE X (.Call (.Attribute o name apos) (e::es) [] cpos) (tBM X.K T r to t):=by
 intro pins s σ H Q I h
 refine wpAny_Call_method_late hbase hfew hline rfl (thn (ho pins s σ H _ I h) fun v s1 h9=>?_)
 obtain ⟨x,H1,I1,r1,ty,q1⟩:=h9
 obtain ⟨h1,h2⟩:=Qx I1 r1 ty
 refine ⟨T,id,pa,slot,hty,h1,h2,?_⟩
 have hA:=ha cpos pins s1 σ H1 _ I1 q1
 rw [hs] at hA ⊢
 refine Calls.callWith_builtin (by show (false || (backTo cpos (starEach es X.env)).any (·.1))=false;rw [hplain]<;>rfl) (Calls.evalArgs_plain ?_)
 exact thn hA fun us s2 ⟨vs,H2,I2,r2,q2⟩=>hm pins s2 σ H2 x vs v us Q I2 r1 r2 q2
end
end _L2
namespace _L2
open PySem PySem.Spec PyProof.Rows
noncomputable def MtM (X:Cx) (id:String) (r:V->List V->Hp->VK->Prop):Prop :=
 ∀ (pins:List (Addr×Obj)) (s:Shared) (σ:St) (H:Hp) (x:V) (xs:List V) (v:Value) (us:List Value) (Q:VK),Inv X pins σ H s->RelV x v->Vals xs us->r x xs H Q ->
  wpAny (model X.prog X.w) X.A (call (.builtin id) (v::us)) (EP X pins σ Q) X.xe s
theorem Vals.one:∀ {x:V} {us:List Value},Vals [x] us->∃ u,us=[u]/\RelV x u
 | _,_,.cons r .nil=>⟨_,rfl,r⟩
theorem Vals.zero:∀ {us:List Value},Vals [] us->us=[]
 | _,.nil=>rfl
theorem Vals.dropLast {xs:List V} {us:List Value} (h:Vals xs us):Vals xs.dropLast us.dropLast:=by
 induction h with
 | nil=>exact .nil
 | cons r t ih =>
  cases t with
  | nil=>exact .nil
  | cons q t'=>exact .cons r ih
theorem Vals.eraseIdx:∀ {xs:List V} {us:List Value} (i:Nat),Vals xs us->Vals (xs.eraseIdx i) (us.eraseIdx i)
 | _,_,_,.nil=>.nil
 | _,_,0,.cons _ t=>t
 | _,_,i+1,.cons r t=>.cons r (Vals.eraseIdx i t)
theorem Vals.rep {xs:List V} {us:List Value} (h:Vals xs us):∀ k:Nat,Vals (kF k xs).flatten (kF k us).flatten
 | 0=>.nil
 | k+1=>by
  rw [vH,vH,vg,vg]
  exact Vals.append h (Vals.rep h k)
theorem WI {α:Type} (l:List α):l.eraseIdx (l.length-1)=l.dropLast:=by
 induction l with
 | nil=>rfl
 | cons a r ih =>
  cases r with
  | nil=>rfl
  | cons b r =>
   have e:(a::b::r).length-1=((b::r).length-1)+1:=by
    have h1:(a::b::r).length=r.length+2:=rfl
    have h2:(b::r).length=r.length+1:=rfl
    omega
   rw [e,List.eraseIdx_cons_succ,ih]
   all_goals rfl
theorem ZX {α:Type}:∀ (l:List α) (i:Nat),(l.eraseIdx i).length<=l.length
 | [],_=>kc _
 | _::_,0=>ur _
 | _::r,i+1=>vA (ZX r i)
theorem foldl_rep (its:List Value):∀ (k:Nat) (acc:List Value),
  List.foldl (fun x1 x2=>x1++x2) acc.toArray (kF k its.toArray)=(acc++(kF k its).flatten).toArray
 | 0,acc=>by simp
 | k+1,acc=>by
  have e:acc.toArray++its.toArray=(acc++its).toArray:=by simp
  have e2:(acc++its)++(kF k its).flatten=acc++(kF (k+1) its).flatten:=by
   rw [vH,vg,ue]
  rw [<- e2,<- foldl_rep its k (acc++its),<- e,vH,uL]
section
variable {X:Cx} {pins:List (Addr×Obj)} {σ:St} {H:Hp} {s:Shared} {l b:Addr} {xs ys zs:List V}
theorem Inv.lset {its its':List Value} {n:Nat} {f:Array Value->Array Value} {t':Nat} (I:Inv X pins σ H s) (hH:H l=some (.lst xs))
  (e:s.heap.get? l=some {cls:=.type "list",data:=.seq its.toArray n}) (hf:f its.toArray=its'.toArray) (hv:Vals ys its') (hz:ys.length<=sizeLine) :
  Inv X pins σ (upd H l (.lst ys)) {s with heap:=s.heap.update l (Obj.mapSeq f),toks:=t'}:=by
 have q:=PySem.IsL.update e f
 rw [hf] at q
 refine I.write (x:=l) (e:=l) (by rw [hH];exact trivial) (.inl rfl) (fun b' u hb hu=>(Heap.get?_update_other s.heap (Obj.mapSeq f) (Ne.symm hb)).trans hu) ⟨_,q⟩ ?_
 exact ⟨hz,its',_,hv,q⟩
theorem Inv.lnew {its:List Value} {t':Nat} (I:Inv X pins σ H s) (hv:Vals ys its) (hz:ys.length<=sizeLine) :
  Inv X pins σ (upd H s.heap.objs.size (.lst ys)) {s with heap:=s.heap.push {cls:=.type "list",data:=.seq its.toArray},toks:=t'} :=
 I.laid (fun _ _ q=>Heap.get?_push_of_some _ q) (kc _) ⟨hz,its,0,hv,Heap.get?_push_size _ rfl⟩
theorem Inv.fresh (I:Inv X pins σ H s):H s.heap.objs.size=none:=I.hok.fresh (kc _)
theorem Inv.lstM (I:Inv X pins σ H s) (hH:H l=some (.lst xs)):xs.length<=sizeLine/\∃ (its:List Value) (n:Nat),Vals xs its/\xs.length=its.length/\s.heap.get? l=some {cls:=.type "list",data:=.seq its.toArray n}:=by
 obtain ⟨z,its,n,r,e⟩:=I.hok l _ hH
 exact ⟨z,its,n,r,r.length,e⟩
theorem jC {n:Nat} (h:n<=sizeLine):Builtin.List.listTooLong n=false:=by
 unfold Builtin.List.listTooLong
 exact decide_eq_false (by omega)
end
section
variable {X:Cx}
noncomputable def za6:V->List V->Hp->VK->Prop:=fun x vs H Q=>∃ l xs y,x=.ref l/\vs=[y]/\H l=some (.lst xs)/\xs.length<sizeLine/\Q .non (upd H l (.lst (xs++[y])))
theorem yE:MtM X "list.append" za6:=by
 intro pins s σ H x vs v us Q I rx rv h
 refine E_3 h fun l xs y n8=>A_5 n8 fun e9 n90 hH hz q=>?_;clear n8 h;subst e9;subst n90
 cases rx
 obtain ⟨u,rfl,ru⟩:=rv.one
 obtain ⟨z,its,n,r,hl,e⟩:=I.lstM hH
 refine call_meets F.slot_list_append ⟨_,e,rfl⟩ F.entry_list_append (F.args_list_append_2 _ _) (PySem.list_append l its.toArray n u (by rw [kt];omega)) ⟨e,?_⟩
 refine ⟨.non,_,I.lset (its':=its++[u]) hH e (by simp) (r.append (.cons ru .nil)) ?_,rfl,q⟩
 rw [kg,vo]
 omega
noncomputable def za7:V->List V->Hp->VK->Prop:=fun x vs H Q=>∃ l b xs zs,x=.ref l/\vs=[.ref b]/\H l=some (.lst xs)/\H b=some (.lst zs)/\xs.length+zs.length<=sizeLine/\Q .non (upd H l (.lst (xs++zs)))
theorem Qy:MtM X "list.extend" za7:=by
 intro pins s σ H x vs v us Q I rx rv h
 refine E_4 h fun l b xs zs n8=>A_6 n8 fun e9 n90 hH hB hz q=>?_;clear n8 h;subst e9;subst n90
 cases rx
 obtain ⟨u,rfl,ru⟩:=rv.one
 cases ru
 obtain ⟨z,its,n,r,hl,e⟩:=I.lstM hH
 obtain ⟨z2,its2,n2,r2,hl2,e2⟩:=I.lstM hB
 have hsz:its.toArray.size+its2.toArray.size<=sizeLine:=by rw [kt,kt];omega
 have hlong:¬ (!its.toArray.isEmpty && Builtin.List.listTooLong (its.toArray.size+its2.toArray.size))=true:=by
  rw [jC hsz,Bool.and_false]
  exact ku
 refine call_meets F.slot_list_extend ⟨_,e,rfl⟩ F.entry_list_extend (F.args_list_extend_2 _ _)
  (AutoSeq1.list_extend_list_list_0 l its.toArray n b its2.toArray n2 hlong (by rw [kt];omega) (by omega)) ⟨e,e2,?_⟩
 refine ⟨.non,_,I.lset (its':=its++its2) hH e (by simp) (r.append r2) ?_,rfl,q⟩
 rw [kg]
 omega
noncomputable def rPop:V->List V->Hp->VK->Prop:=fun x vs H Q=>∃ l xs y,x=.ref l/\vs=[]/\H l=some (.lst xs)/\xs[xs.length-1]?=some y/\Q y (upd H l (.lst xs.dropLast))
theorem zch:MtM X "list.pop" rPop:=by
 intro pins s σ H x vs v us Q I rx rv h
 refine E_3 h fun l xs y n8=>A_5 n8 fun e9 n90 hH hy q=>?_;clear n8 h;subst e9;subst n90
 cases rx
 have hus:=rv.zero
 subst hus
 obtain ⟨z,its,n,r,hl,e⟩:=I.lstM hH
 obtain ⟨u,hu,ru⟩:=r.get hy
 have hy':its.toArray[its.toArray.size-1]?=some u:=by
  show its.toArray[its.length-1]?=some u
  rw [<- Array.getElem?_toList,<- hl]
  exact hu
 refine call_meets F.slot_list_pop ⟨_,e,rfl⟩ F.entry_list_pop (F.args_list_pop_1 _) (MeetsSeq.list_pop_last l its.toArray n u hy' (by rw [kt];omega)) ⟨e,?_⟩
 refine ⟨y,_,I.lset (its':=its.dropLast) hH e ?_ r.dropLast ?_,ru,q⟩
 ·show its.toArray.eraseIdxIfInBounds (its.toArray.size-1)=its.dropLast.toArray
  rw [kt,List.eraseIdxIfInBounds_toArray,WI]
 ·rw [uC]
  omega
noncomputable def zci:V->List V->Hp->VK->Prop:=fun x vs H Q=>∃ l xs i k y,x=.ref l/\vs=[.int i]/\H l=some (.lst xs) /\ -(2^63)<=i/\i<2^63/\seqIndex? i xs.length=some k/\xs[k]?=some y/\Q y (upd H l (.lst (xs.eraseIdx k)))
theorem JJ:MtM X "list.pop" zci:=by
 intro pins s σ H x vs v us Q I rx rv h
 refine E_5 h fun l xs i k y n8=>A_8 n8 fun e9 n90 hH h1 h2 hk hy q=>?_;clear n8 h;subst e9;subst n90
 cases rx
 obtain ⟨u,rfl,ru⟩:=rv.one
 obtain ⟨t,rfl⟩:=ru
 obtain ⟨z,its,n,r,hl,e⟩:=I.lstM hH
 obtain ⟨w,hw,rw'⟩:=r.get hy
 refine call_meets F.slot_list_pop ⟨_,e,rfl⟩ F.entry_list_pop (F.args_list_pop_2 _ _)
  (MeetsSeq.list_pop_at l its.toArray n i t k w (fitsIndex_both h1 h2) (by rw [kt,<- hl];exact hk) (by rw [<- Array.getElem?_toList];exact hw) (by rw [kt];omega)) ⟨e,?_⟩
 refine ⟨y,_,I.lset (its':=its.eraseIdx k) hH e ?_ (r.eraseIdx k) ?_,rw',q⟩
 ·show its.toArray.eraseIdxIfInBounds k=(its.eraseIdx k).toArray
  rw [List.eraseIdxIfInBounds_toArray]
 ·have:=ZX xs k
  omega
noncomputable def rCat:R2:=fun x y H Q=>∃ l b xs zs,x=.ref l/\y=.ref b/\H l=some (.lst xs)/\H b=some (.lst zs)/\xs.length+zs.length<=sizeLine/\∀ p,H p=none->Q (.ref p) (upd H p (.lst (xs++zs)))
theorem j2:OpR X (binaryOp .Add) rCat:=by
 intro pins s σ H x y v u Q I rx ry h
 refine E_4 h fun l b xs zs n8=>A_6 n8 fun e9 n90 hH hB hz q=>?_;clear n8 h;subst e9;subst n90
 cases rx
 cases ry
 obtain ⟨z,its,n,r,hl,e⟩:=I.lstM hH
 obtain ⟨z2,its2,n2,r2,hl2,e2⟩:=I.lstM hB
 refine PySem.P.add_list e e2 ?_ (by rw [kt,kt];omega)
 have ea:its.toArray++its2.toArray=(its++its2).toArray:=by simp
 rw [ea]
 exact ⟨.ref _,_,I.lnew (t':=s.toks) (r.append r2) (by rw [kg];omega),rfl,q _ I.fresh⟩
noncomputable def rRep:R2:=fun x y H Q=>∃ l k xs,x=.ref l/\y=.int k/\H l=some (.lst xs) /\ -(2^63)<=k/\k<2^63/\xs.length*k.toNat<=sizeLine /\
 ∀ p,H p=none->Q (.ref p) (upd H p (.lst (kF k.toNat xs).flatten))
theorem len_rep {α:Type} (xs:List α) (k:Nat):(kF k xs).flatten.length=k*xs.length:=by
 induction k with
 | zero=>simp
 | succ k ih=>rw [vH,vg,kg,ih,Nat.succ_mul,Nat.add_comm]
theorem zcj:OpR X (binaryOp .Mult) rRep:=by
 intro pins s σ H x y v u Q I rx ry h
 refine E_3 h fun l k xs n8=>A_7 n8 fun e9 n90 hH h1 h2 hz q=>?_;clear n8 h;subst e9;subst n90
 cases rx
 obtain ⟨t,rfl⟩:=ry
 obtain ⟨z,its,n,r,hl,e⟩:=I.lstM hH
 have hlen:its.toArray.size*k.toNat<=sizeLine:=by rw [kt,<- hl];exact hz
 have hcap:¬ its.toArray.size*k.toNat>(2^63-1) / 8:=by
  have:(sizeLine:Nat)<=(2^63-1) / 8:=by decide
  omega
 have hfit:¬ (!Builtin.List.listFitsIndex k)=true:=by
  rw [fitsIndex_both h1 h2]
  exact ku
 have hlong:¬ Builtin.List.listTooLong (its.toArray.size*k.toNat)=true:=by
  rw [jC hlen]
  exact ku
 have hnew:List.foldl (fun x1 x2=>x1++x2) #[] (kF (if its.toArray.isEmpty=true then 0 else k.toNat) its.toArray)=(kF k.toNat its).flatten.toArray:=by
  have f0:∀ m:Nat,List.foldl (fun x1 x2=>x1++x2) #[] (kF m its.toArray)=(kF m its).flatten.toArray:=fun m=>by
   have:=foldl_rep its m []
   rw [List.nil_append] at this
   exact this
  rw [f0]
  cases its with
  | nil=>simp
  | cons a r'=>rw [if_neg (by simp)]
 refine wpAny_binaryOp_repeat_ref (T := "list") (U := "int") (by decide) ⟨_,e,rfl⟩ (fun s'=>typeIs_int s' k t) noFill_list_mul F.fills_int_mul F.slot_int_rmul repeat_list F.slot_int_index.lookup
  (call_meets F.slot_int_rmul (typeIs_int s k t) F.entry_int_rmul (F.args_int_rmul_2 _ _) (int___rmul___int_list k t l its.toArray n)
   ⟨e,rfl,⟨_,e,rfl⟩,call_meets F.slot_list_mul ⟨_,e,rfl⟩ F.entry_list_mul (F.args_list_mul_2 _ _) (AutoListH.list___mul___list_int_3 l its.toArray n k t hfit hcap hlong) ⟨e,?_⟩⟩)
 rw [hnew]
 exact ⟨.ref _,_,I.lnew (t':=s.toks) (r.rep k.toNat) (by rw [len_rep,Nat.mul_comm];exact hz),rfl,q _ I.fresh⟩
end
end _L2
namespace _Att
open PySem PySem.W PySem.Calls PyProof.Rows
theorem j3 {P:Params} {h:Heap}:∀ (ns:List Int) (vs:List Value),WellAll P h vs (ns.map WData.int)->IntsAre vs ns:=by
 intro ns
 induction ns with
 | nil =>
  intro vs w
  rw [List.map_nil] at w
  cases w
  exact .nil
 | cons n ns ih =>
  intro vs w
  rw [vf] at w
  cases w with
  | cons a b =>
   cases a
   exact .cons _ _ (ih _ b)
theorem Qz {l:OpenLaw} {n:Nat} (hn:l.most=some n) {P:Params} {h:Heap} {args:List WData} {vals:List Value}
  (hpre:l.row.toRowW.claim.pre args=true) (hwl:WellAll P h vals args) :
  ∃ a vs ns,vals=[Value.ref a]/\args=[WData.list (ns.map WData.int)]/\h.get? a=some {cls:=.type "list",data:=.seq vs.toArray}/\IntsAre vs ns/\ns.length<=n:=by
 have hsh:WShape.hasAll [] args [.list .int]=true:=(pre_splitW hpre).1
 have hc:l.pre.holds [] {args:=args}=true:=(pre_splitW hpre).2
 obtain ⟨d,r,rfl,h1,h2⟩:=hasAllW_cons hsh
 obtain rfl:=hasAllW_nil h2
 obtain ⟨xs,rfl,h3⟩:=hasW_list h1
 obtain ⟨ns,rfl⟩:=items_int h3
 have hlen:ns.length<=n:=by
  unfold OpenLaw.pre at hc
  have h4:(WTm.not (.lt (.lit (.int (n:Int))) (.len (.arg 0)))).holds [] {args:=[.list (ns.map .int)]}=true:=by
   have h4:=(holds_andW hc).1
   rw [hn] at h4
   exact h4
  have h5:=condW_of h4 (w_not (w_lt w_lit (w_len_list (w_arg rfl))))
  rw [ka] at h5
  refine Nat.le_of_not_lt fun q=>?_
  have q':(n:Int)<((ns.length:Nat):Int):=by omega
  first
   | (rw [decide_eq_true q'] at h5;exact absurd h5 (by decide))
   | (simp at h5;omega)
 cases hwl with
 | cons w1 w2 =>
  cases w2
  cases w1 with
  | list ho hall=>exact ⟨_,_,ns,rfl,rfl,ho,j3 ns _ hall,hlen⟩
theorem QA (l:OpenLaw) (args:List WData):l.row.toRowW.claim.post args (.bool true) args=true :=
 postW_of (r:=l.row.toRowW) (X:=(true == true))
  (show WShape.has [] (.bool true) .bool=true by first | rfl | decide | simp [WShape.has,WShape.arms,WShape.armsAll])
  (show (WTm.eq .res (.lit (.bool true))).value [] {args:=args,res:=some (.bool true),after:=args}=some (.bool (true == true)) from w_eq_bool (w_res rfl) w_lit) rfl
theorem XV {l:OpenLaw} {n:Nat} {q:Program} {loose:List Str} {XP:(Str->Option Value)->Heap->Prop} {YP:World->Heap->Prop} {d:DefRec}
  (hn:l.most=some n) (hdf:d.params.defaults=[])
  (call:∀ (w:World) (s₀ s₁:Shared) (mg mb:Str->Option Value) (fa:Addr) (o:Obj) (pm cd doc:Value) (a:Addr) (vs:List Value) (ns:List Int),
   Ground q loose [] XP w s₀ mg mb s₁.heap->YP w s₁.heap ->
   s₁.heap.get? fa=some o->o.data=.func (docDef d.name d.params d.body d.scope pm cd doc)->s₁.heap.CodeRec cd d.name->mg d.name=some (.ref fa) ->
   s₁.heap.get? a=some {cls:=.type "list",data:=.seq vs.toArray}->IntsAre vs ns->ns.length<=n->s₁.gens=#[] ->
   codeAny (model l.prog w) callerA (.call (.ref fa) ⟨[.ref a],[]⟩) (fun r s'=>r=.ok (.ret (.bool true))/\OldK s₁.heap s'.heap/\s'.os=s₁.os/\AllBare s'.gens) s₁) :
  WalkO q loose XP YP l.row.toRowW d [] (fun f vs=>PySem.call f vs):=by
 intro w s₀ s₁ mg mb G Y fa o pm cd doc dV kV ho hd hcd hD hmg hg args vals as hpre hlay hrd hwl hlo
 obtain rfl:dV=.none:=Dflts.none hD hdf
 obtain rfl:kV=.none:=Dflts.noKw hD
 obtain ⟨a,vs,ns,rfl,rfl,hobj,hints,hlen⟩:=Qz hn hpre hwl
 refine enter_call (codeAny_mono (call w s₀ s₁ mg mb fa o pm cd doc a vs ns G Y ho (fd_plain hd) hcd hmg hobj hints hlen hg) fun r s' hq=>?_)
 obtain ⟨rfl,h2,h3,h4⟩:=hq
 exact ⟨.inl ⟨.bool true,.bool true,[],rfl,fun _=>rfl,.bool true,QA l _,fun _=>⟨List.Pairwise.nil,fun _ hm=>(nomatch hm)⟩⟩,h2,h3,h4⟩
end _Att
namespace _L2
open PySem PySem.Spec PyProof.Rows
theorem ZY:∀ {vs:List Value} {ns:List Int},IntsAre vs ns->Vals (ns.map V.int) vs
 | _,_,.nil=>.nil
 | _,_,.cons n t h=>.cons ⟨t,rfl⟩ (ZY h)
noncomputable def Only (H:Hp):Prop:=∀ b,H b=none\/∃ o xs,H b=some (.frz o (.lst xs))
theorem JK {P:Program} {w:World} {K:PySem.W.Frag} {mg mb:Str->Option Value} {CX:CXT} {k:Nat} {fa a:Addr} {fd:FuncData} {x:Str} {sp:Sp} {s₁:Shared} {vs:List Value} {ns:List Int}
  (KX:K.In s₁.heap) (hns:s₁.heap.Ns mainGlobals mg) (hb:s₁.heap.Ns builtinsNs mb) (hbb:∀ x:Str,x ≠ "__name__" -> mb x=bootBuiltins x) (hlim:s₁.heap.NoLimit) (hg:s₁.gens=#[])
  (ha:s₁.heap.get? a=some {cls:=.type "list",data:=.seq vs.toArray}) (hi:IntsAre vs ns) (hl:ns.length<=sizeLine) (hr:Room k callerA)
  (F:∀ base:Heap,K.In base->base.Ns mainGlobals mg->FnOk P w K mg base CX k fa fd [x] sp) (hbind:∀ (s:Shared) (u:Value),BindsTo s fd ⟨[u],[]⟩ [(x,u)])
  (hsp:∀ H:Hp,Only H->SqL K H a (ns.map V.int)->sp [.ref a] H (fun v _=>v=.bl true) fun _ _ _=>False)
  (hCX:∀ H e s',CX [] H s₁ (fun _ _ _=>False) e s'->False) :
  codeAny (model P w) callerA (.call (.ref fa) ⟨[.ref a],[]⟩) (fun r s'=>r=.ok (.ret (.bool true))/\OldK s₁.heap s'.heap/\s'.os=s₁.os/\AllBare s'.gens) s₁:=by
 have rv:=ZY hi
 have lenV:=hi.length
 -- from an abstract heap in which nothing but the script may be tracked
 have core:∀ H:Hp,Only H->SqL K H a (ns.map V.int)->HOk P w H s₁.heap->(∀ b,H b≠none->b=a)->(H a≠none->K.lookup a=none) ->
   codeAny (model P w) callerA (.call (.ref fa) ⟨[.ref a],[]⟩) (fun r s'=>r=.ok (.ret (.bool true))/\OldK s₁.heap s'.heap/\s'.os=s₁.os/\AllBare s'.gens) s₁:=by
  intro H hO hS hok hA hK
  have base_of:∀ {b:Addr} {o:Obj},s₁.heap.get? b=some o->H b=none->(hidT s₁.heap H).get? b=some o:=fun e n=>JD e n
  have noA:∀ {b:Addr} {o:Obj} {es:Array DictEntry} {ep:Nat},s₁.heap.get? b=some o->o.data=.dict es ep->H b=none:=fun {b o es ep} e d=>by
   cases q:H b with
   | none=>rfl
   | some u =>
    have e':b=a:=hA b (by rw [q];simp)
    subst e'
    rw [ha] at e;cases e
    have d':Data.seq vs.toArray _=Data.dict es ep:=d
    cases d'
  have nsK:∀ {b:Addr} {m:Str->Option Value},s₁.heap.Ns b m->(hidT s₁.heap H).Ns b m:=fun {b m} ⟨o,es,ep,e,d,r⟩=>⟨o,es,ep,base_of e (noA e d),d,r⟩
  have hKb:K.In (hidT s₁.heap H):=fun b o e=>base_of (KX b o e) (by
   cases q:H b with
   | none=>rfl
   | some u =>
    have e':b=a:=hA b (by rw [q];simp)
    subst e'
    rw [hK (by rw [q];simp)] at e;cases e)
  have hM:Mod K mg (hidT s₁.heap H):=⟨hKb,nsK hns,⟨mb,nsK hb,hbb⟩,let ⟨mc,h1,h2⟩:=hlim;⟨mc,nsK h1,h2⟩⟩
  have e0:Env0 P w K mg (hidT s₁.heap H) callerA [] s₁ H:=⟨rfl,hM,fun b o e=>za0 e,uD (Qh _ _),trivial,fun b hb=>absurd (show b∈([]:List Addr) from hb) (by simp),hok,.of_eq hg⟩
  refine codeAny_mono ((F _ hKb (nsK hns)).run callerA [] s₁ H ⟨[.ref a],[]⟩ [.ref a] [.ref a] _ _ hr e0 (hbind s₁ (.ref a)) (.cons rfl .nil) (hsp H hO hS)) fun r s' h=>?_
  cases r with
  | error e=>exact (hCX H e s' h).elim
  | ok fl =>
   cases fl with
   | next=>exact False.elim h
   | brk=>exact False.elim h
   | cont=>exact False.elim h
   | ret u =>
    obtain ⟨v,H',os,bare,un,hok',r',q⟩:=h
    have q':v=.bl true:=q
    subst q'
    obtain rfl:u=Value.bool true:=r'
    refine ⟨rfl,OldK.of_keep fun b o e=>?_,os,bare⟩
    cases q:H b with
    | none=>exact un.keep b o e q (by intro z;exact absurd (show b∈([]:List Addr) from z) (by simp)) (by simp)
    | some u =>
     rcases hO b with z | ⟨ob,xs,z⟩
     ·rw [q] at z;cases z
     ·have z2:=un.frzs b ob _ z
      obtain ⟨e1,_⟩:=hok b _ z
      obtain ⟨e2,_⟩:=hok' b _ z2
      rw [e] at e1;cases e1
      exact e2
 cases hk:K.lookup a with
 | some o =>
  -- the script is one of the module's own objects
  have e:=KX a o hk
  rw [ha] at e
  cases e
  refine core (fun _=>none) (fun _=>.inl rfl) (.inr ⟨_,vs.toArray,_,hk,rfl,rfl,rfl,by rw [kt,lenV];exact hl,by simpa using rv⟩) (fun b u z=>by have z':(none:Option HO)=some u:=z;cases z') (fun b z=>absurd rfl z) fun z=>absurd rfl z
 | none =>
  refine core (fun b=>if b=a then some (.frz {cls:=.type "list",data:=.seq vs.toArray} (.lst (ns.map V.int))) else none) (fun b=>?_) (.inl (.inr ⟨{cls:=.type "list",data:=.seq vs.toArray},if_pos rfl⟩)) (fun b u z=>?_) (fun b z=>?_) fun _=>hk
  ·by_cases hb:b=a
   ·exact .inr ⟨_,_,if_pos hb⟩
   ·exact .inl (if_neg hb)
  ·by_cases hb:b=a
   ·have z':=(if_pos hb).symm.trans z
    cases z'
    subst hb
    exact ⟨ha,by rw [ka];exact hl,vs,_,rv,ha⟩
   ·have z':=(if_neg hb).symm.trans z
    cases z'
  ·by_cases hb:b=a
   ·exact hb
   ·exact absurd (if_neg hb) z
end _L2
namespace _L2
open PySem PySem.Spec PyProof.Rows
theorem za8 {l:PySem.W.OpenLaw} {n k:Nat} {q:Program} {loose:List Str} {XP:(Str->Option Value)->Heap->Prop} {YP:World->Heap->Prop} {d:DefRec} {K:Params->PySem.W.Frag} {CX:World->CXT} {sp:World->Sp} {x:Str}
  (hn:l.most=some n) (hn2:n<=sizeLine) (hdf:d.params.defaults=[]) (hr:Room k callerA)
  (hY:∀ (w:World) (h:Heap),YP w h->(K w.params).In h)
  (F:∀ (w:World) (mg:Str->Option Value) (fa:Addr) (h:Heap),(K w.params).In h->h.Ns mainGlobals mg->mg d.name=some (.ref fa) ->
   ∃ fd:FuncData,(∀ (s:Shared) (u:Value),BindsTo s fd ⟨[u],[]⟩ [(x,u)]) /\
    ∀ base:Heap,(K w.params).In base->base.Ns mainGlobals mg->FnOk l.prog w (K w.params) mg base (CX w) k fa fd [x] (sp w))
  (hsp:∀ (w:World) (H:Hp) (a:Addr) (ns:List Int),ns.length<=n->Only H->SqL (K w.params) H a (ns.map V.int)->sp w [.ref a] H (fun v _=>v=.bl true) fun _ _ _=>False)
  (hCX:∀ (w:World) (H:Hp) (s:Shared) (e:Value) (s':Shared),CX w [] H s (fun _ _ _=>False) e s'->False) :
  PySem.W.WalkO q loose XP YP l.row.toRowW d [] (fun f vs=>PySem.call f vs):=by
 refine _Att.XV hn hdf fun w s₀ s₁ mg mb fa o pm cd doc a vs ns G Y ho hd hcd hmg hobj hints hlen hg=>?_
 have KX:=hY w _ Y
 obtain ⟨fd,hb,hF⟩:=F w mg fa _ KX G.T.g hmg
 exact JK KX G.T.g G.T.b G.T.builtins G.T.nolimit hg hobj hints (km hlen hn2) hr hF hb (fun H hO hS=>hsp w H a ns hlen hO hS) fun H e s'=>hCX w H s₁ e s'
theorem JL {l:PySem.W.OpenLaw} {n k:Nat} {q:Program} {loose:List Str} {XP:(Str->Option Value)->Heap->Prop} {YP:World->Heap->Prop} {d:DefRec} {K:Params->PySem.W.Frag} {CX:CXT} {sp:PySem.W.Frag->Sp} {x:Str}
  (hn:l.most=some n) (hn2:n<=sizeLine) (hdf:d.params.defaults=[]) (hr:Room k callerA)
  (hY:∀ (w:World) (h:Heap),YP w h->(K w.params).In h)
  (F:∀ (w:World) (mg:Str->Option Value) (fa:Addr) (h:Heap),(K w.params).In h->h.Ns mainGlobals mg->mg d.name=some (.ref fa) ->
   ∃ fd:FuncData,(∀ (s:Shared) (u:Value),BindsTo s fd ⟨[u],[]⟩ [(x,u)]) /\
    ∀ base:Heap,(K w.params).In base->base.Ns mainGlobals mg->FnOk l.prog w (K w.params) mg base CX k fa fd [x] (sp (K w.params)))
  (hsp:∀ (K:PySem.W.Frag) (H:Hp) (a:Addr) (ns:List Int),ns.length<=n->Only H->SqL K H a (ns.map V.int)->sp K [.ref a] H (fun v _=>v=.bl true) fun _ _ _=>False)
  (hCX:∀ (H:Hp) (s:Shared) (e:Value) (s':Shared),CX [] H s (fun _ _ _=>False) e s'->False) :
  PySem.W.WalkO q loose XP YP l.row.toRowW d [] (fun f vs=>PySem.call f vs) :=
 za8 (K:=K) (CX:=fun _=>CX) (sp:=fun w=>sp (K w.params)) hn hn2 hdf hr hY F (fun w H a ns h1 h2 h3=>hsp (K w.params) H a ns h1 h2 h3) fun _ H s e s'=>hCX H s e s'
end _L2
namespace _L2
open PySem PySem.Spec PyProof.Rows
noncomputable def zr (s:Stmt):Arguments:=match s with
 | .FunctionDef _ a _ _ _ _ _ _ _ _=>a
 | _=>{posonlyargs:=[],args:=[],vararg:=none,kwonlyargs:=[],kw_defaults:=[],kwarg:=none,defaults:=[]}
noncomputable def zp (s:Stmt):List Stmt:=match s with
 | .FunctionDef _ _ b _ _ _ _ _ _ _=>b
 | _=>[]
noncomputable def ze (s:Stmt):Scope:=match s with
 | .FunctionDef _ _ _ _ _ _ sc _ _ _=>sc
 | _=>{kind:=.function,names:=[],isGenerator:=false,isCoroutine:=false}
abbrev CX0:CXT:=fun _ _ _ _ _ _=>False
abbrev E0:XK:=fun _ _ _=>False
theorem zx {X:Cx}:qz CX0 X E0:=fun _ _ _ _ _ _ _ h=>h.elim
structure Fun (K:PySem.W.Frag) (x qual:Str) (st:Stmt) (f:Addr) (fd:FuncData):Prop where
 ex:∃ (oc:Value) (od:Option Addr) (kV doc pm:Value) (an:Option Addr) (cdv ct:Value) (osl:Array (Option Value)),
  fd=kJ x qual (zr st) (zp st) (ze st) .none kV doc pm an cdv ct/\K.lookup f=some ⟨oc,od,.func fd,osl⟩/\kG K cdv qual=true
 kp:kD K (.ref f)=true
section
variable {P:Program} {w:World} {K:PySem.W.Frag} {mg:Str->Option Value} {base:Heap}
theorem Fun.ok {x qual:Str} {st:Stmt} {f:Addr} {fd:FuncData} {N ps:List Str} {k:Nat} {sp:Sp} (F:Fun K x qual st f fd) (S:zu N ps (ze st)) (len:∀ vs H Q E,sp vs H Q E->vs.length=ps.length)
  (hbody:∀ (cdv:Value) (A:Around) (outer:List Env) (s:Shared) (H:Hp) (vs:List V) (Q:VK) (E:XK),Room k (A.deeper (envOfC qual (ze st) s.heap.objs.size f cdv))->sp vs H Q E ->
   ∃ t,PSs (cxOf CX0 P w K mg base N qual (ze st) f cdv A outer s H E).nox (zp st) t/\t {nx:=fun _ H'=>Q .non H',rt:=Q} (start N vs) H):FnOk P w K mg base CX0 (k+1) f fd ps sp:=by
 obtain ⟨oc,od,kV,doc,pm,an,cdv,ct,osl,rfl,lk,hcd⟩:=F.ex
 refine zaJ lk hcd S len fun A outer s H vs Q E hr hsp=>?_
 obtain ⟨t,h,q⟩:=hbody cdv A outer s H vs Q E hr hsp
 exact ⟨t,h.nox,q⟩
theorem Fun.binds {x qual:Str} {st:Stmt} {f:Addr} {fd:FuncData} {ps:List Str} (F:Fun K x qual st f fd)
  (h:∀ (kV doc pm:Value) (an:Option Addr) (cdv ct:Value) (us:List Value),us.length=ps.length->bindArgs (kJ x qual (zr st) (zp st) (ze st) .none kV doc pm an cdv ct) ⟨us,[]⟩=pure (ps.zip us)):Binds K fd ps []:=by
 obtain ⟨oc,od,kV,doc,pm,an,cdv,ct,osl,rfl,lk,hcd⟩:=F.ex
 exact .all (h kV doc pm an cdv ct)
theorem zC {x qual:Str} {st:Stmt} {f:Addr} {oc:Value} {od an:Option Addr} {osl:Array (Option Value)} {kV doc pm cdv ct:Value} (l:K.lookup f=some ⟨oc,od,.func (kJ x qual (zr st) (zp st) (ze st) .none kV doc pm an cdv ct),osl⟩)
  (c:kG K cdv qual=true) (k:kD K (.ref f)=true):Fun K x qual st f (kJ x qual (zr st) (zp st) (ze st) .none kV doc pm an cdv ct):=⟨⟨oc,od,kV,doc,pm,an,cdv,ct,osl,rfl,l,c⟩,k⟩
end
section
variable {X:Cx}
theorem pv (i:Nat) {x:Str} {pos:Pos} (hN:X.N[i]?=some x:=by rfl) (hv:Vis X.env.scope x:=by first | exact Or.inl rfl | exact Or.inr (Or.inl rfl) | exact Or.inr (Or.inr rfl)) (hd:(x == ("__debug__" : Str))=false:=by decide)
  (hcd:(x == ("__classdict__" : Str))=false:=by decide):PE X (.Name x pos) (tVar i):=zca hN hv hd hcd
end
theorem iteF {A B:Prop} (h:B):if false=true then A else B:=by
 rw [if_neg ku]
 exact h
theorem iteT {A B:Prop} (h:A):if true=true then A else B:=by
 rw [if_pos rfl]
 exact h
theorem ite2 {c A B:Prop} [Decidable c] (h1:c->A) (h2:¬ c->B):if c then A else B:=by
 by_cases h:c
 ·rw [if_pos h]
  exact h1 h
 ·rw [if_neg h]
  exact h2 h
noncomputable def Same (H H':Hp):Prop:=∀ b o,H b=some o->H' b=some o
theorem Same.refl (H:Hp):Same H H:=fun _ _ h=>h
theorem Same.trans {H H1 H2:Hp} (a:Same H H1) (b:Same H1 H2):Same H H2:=fun c o h=>b c o (a c o h)
theorem Same.free {H H':Hp} (e:Same H H') {l:Addr} (h:H' l=Option.none):H l=Option.none:=by
 cases q:H l with
 | none=>rfl
 | some o =>
  rw [e l o q] at h
  cases h
theorem Same.seq {K:PySem.W.Frag} {H H':Hp} {a:Addr} {xs:List V} (e:Same H H') (h:SqL K H a xs):SqL K H' a xs:=by
 rcases h with (h | ⟨o,h⟩) | h
 ·exact .inl (.inl (e _ _ h))
 ·exact .inl (.inr ⟨o,e _ _ h⟩)
 ·exact .inr h
end _L2
namespace _L2
open PySem PySem.Spec PyProof.Rows
theorem PS.nox {X:Cx} {st:Stmt} {t:TS} (h:PS X.nox st t):PS X st t:=fun pins s σ H D I hw =>
 wpAny_mono (h pins s σ H D (I.wish _) hw) (fun _ _ q=>q.unwish) fun _ _ z=>False.elim z
theorem z8.some_ {P:Program} {w:World} {H:Hp} {h:Heap} {a:Addr} {o:HO} (x:z8 P w H h a o):∃ ob,h.get? a=some ob:=by
 cases o with
 | lst xs=>obtain ⟨_,_,_,_,e⟩:=x;exact ⟨_,e⟩
 | tup xs=>obtain ⟨_,_,_,ob,e,_⟩:=x;exact ⟨_,e⟩
 | dK kvs=>obtain ⟨_,_,_,_,o,_,_,e,_⟩:=x;exact ⟨_,e⟩
 | dT kvs=>obtain ⟨_,_,_,_,o,_,_,e,_⟩:=x;exact ⟨_,e⟩
 | set S n=>obtain ⟨o,_,_,_,e,_⟩:=x;exact ⟨_,e⟩
 | ins C dx fs=>obtain ⟨_,_,_,e,_⟩:=x;exact ⟨_,e⟩
 | own y=>obtain ⟨_,e⟩:=x;exact ⟨_,e⟩
 | xd fs=>obtain ⟨_,⟨_,_,_,e,_⟩,_⟩:=x;exact ⟨_,e⟩
 | rng lo hi=>obtain ⟨_,_,_,e⟩:=x;exact ⟨_,e⟩
 | frz ob u=>obtain ⟨e,_⟩:=x;exact ⟨_,e⟩
 | tbl ps=>exact ⟨_,(show h.get? a=some _ from x)⟩
 | met f y=>exact ⟨_,(show h.get? a=some _ from x)⟩
 | ext φ=>obtain ⟨_,⟨_,e⟩,_⟩:=x;exact ⟨_,e⟩
theorem Inv.there {X:Cx} {pins:List (Addr×Obj)} {σ:St} {H:Hp} {s:Shared} (I:Inv X pins σ H s) {a:Addr} {o:HO} (e:H a=some o):∃ ob,s.heap.get? a=some ob:=(I.hok a o e).some_
theorem Inv.none_of {X:Cx} {pins:List (Addr×Obj)} {σ:St} {H:Hp} {s:Shared} (I:Inv X pins σ H s) {a:Addr} (e:s.heap.get? a=none):H a=none:=by
 cases q:H a with
 | none=>rfl
 | some o =>
  obtain ⟨ob,z⟩:=I.there q
  rw [e] at z
  cases z
structure Fly (h0 h:Heap) (H:Hp) (C ea T:Addr):Prop where
 ob:∃ (oe:Obj) (vs:Array Value) (a0:Value) (oT:Obj) (ts:Array Value),h.get? ea=some oe/\oe.cls=.ref C/\oe.data=.fields vs/\vs[0]?=some a0/\vs[1]?=some (.ref T)/\h.get? T=some oT/\oT.data=.fields ts/\ts[3]?=some .none
 ne:T≠ea
 fe:H ea=none
 fT:H T=none
 ne0:h0.get? ea=none
 nT0:h0.get? T=none
noncomputable def CXE (P:Program) (w:World):CXT:=fun outer H s E e s'=>∃ (ea T C:Addr) (H':Hp),e=.ref ea/\s'.os=s.os/\AllBare s'.gens/\Un (frs outer) [] H H' s.heap s'.heap/\HOk P w H' s'.heap/\Fly s.heap s'.heap H' C ea T/\E (.ref C) none H'
theorem wc {P:Program} {w:World} {X:Cx}:qz (CXE P w) X E0:=fun _ _ _ _ _ _ _ ⟨_,_,_,_,_,_,_,_,_,_,z⟩=>z.elim
structure Exc (K:PySem.W.Frag) (mg:Str->Option Value) (x:Str) (C:Addr):Prop where
 bound:mg x=some (.ref C)
 ex:uz K C [.type "ValueError",.type "Exception",.type "BaseException",.type "object"] "ValueError.__new__" = true
theorem za9 {K:PySem.W.Frag} {h:Heap} {C:Addr} {bmB:List Value} {newId:String} (X:K.In h) (q:uz K C bmB newId=true) :
  ∃ bm N nm qn bs hdct sn sub ab col dd k0 k1 k2 k3 k5 mN,h.get? C=some (excClassObj nm qn C N bs bm hdct sn sub ab col dd k0 k1 k2 k3 k5 newId)/\h.Ns N mN/\mN "__init__" = none/\OwnTail h bmB bm:=by
 unfold uz at q
 split at q
 case h_2=>cases q
 case h_1 dd cd sl ho =>
  split at q
  case h_2=>cases q
  case h_1 C' bm k0 k1 k2 k3 n k5 hm hs =>
   simp only [vj,beq_iff_eq,uT] at q
   obtain ⟨⟨⟨⟨⟨e1,e2⟩,e3⟩,e4⟩,e5⟩,e6⟩:=q
   subst e1 e2
   cases cd with
   | mk nm bs mro ns qn hd sn sub ab col del =>
    have hsl:sl=#[k0,k1,k2,k3,some (.builtin n),k5]:=by rw [<- Array.toList_inj];exact hs
    simp only at hm e3 e5 e6
    subst hm e3 hsl
    exact ⟨bm,ns,nm,qn,bs,hd,sn,sub,ab,col,dd,k0,k1,k2,k3,k5,_,X _ _ ho,.of_isNs (PySem.W.isNs_of_in X e5),PySem.W.nsMap_none_of_in X e5 e6,PySem.W.tail_of_in X e4⟩
noncomputable def zck (C:Addr) (t:TA) (E:XK):TS:=fun _ σ H=>t σ H fun xs H1=>xs.length<=sizeLine/\E (.ref C) none H1
theorem Inv.hid {X:Cx} {pins:List (Addr×Obj)} {σ:St} {H:Hp} {s:Shared} (I:Inv X pins σ H s) (as:List Addr) (hs:∀ b∈frs X.stack,b∈as):s.heap.FunFrames (PySem.W.hideAll s.heap as) X.stack :=
 PySem.W.funFrames_hide I.stack fun env he a hf=>hs a (List.mem_filterMap.mpr ⟨env,he,hf⟩)
section
variable {P:Program} {w:World} {K:PySem.W.Frag} {mg:Str->Option Value} {base:Heap} {N:List Str} {qual:Str} {scope:Scope} {f:Addr} {cd:Value} {A:Around} {outer:List Env} {s₀:Shared} {H₀:Hp} {E:XK}
theorem XW {pins:List (Addr×Obj)} {σ:St} {H:Hp} {s:Shared} {C e:Addr} {vs:List Value} {h':Heap} (I:Inv (cxOf (CXE P w) P w K mg base N qual scope f cd A outer s₀ H₀ E) pins σ H s)
  (hx:Heap.MadeExcOf s.heap h' e (.ref C) vs) (q:E (.ref C) none H):(cxOf (CXE P w) P w K mg base N qual scope f cd A outer s₀ H₀ E).xe (.ref e) {s with heap:=h'}:=by
 have hin:∀ b∈frs (envOfC qual scope s₀.heap.objs.size f cd::outer),b∈frs (envOfC qual scope s₀.heap.objs.size f cd::outer):=fun _ z=>z
 have ff:=I.hid _ hin
 show wpAny _ _ (leaving _ _) _ _ _
 refine wpAny_leaves_madeW (base:=PySem.W.hideAll s.heap (frs (envOfC qual scope s₀.heap.objs.size f cd::outer))) (h:=s.heap) I.ok.frames rfl (fun b o z=>PySem.W.of_hideAll _ z) ff hx fun h2 t fl tt tn up=>?_
 have inB:∀ b o,b∉frs (envOfC qual scope s₀.heap.objs.size f cd::outer)->s.heap.get? b=some o->h2.get? b=some o:=fun b o nb z=>fl.1 b o (bu _ z nb)
 have upS:∀ b o,b∈frs (envOfC qual scope s₀.heap.objs.size f cd::outer)->s.heap.get? b=some o->∃ sl,h2.get? b=some {o with slots:=sl}:=fun b o nb z=>by
  obtain ⟨_,o',z',hd⟩:=I.stack.mem nb
  rw [z] at z'
  cases z'
  exact up b o (hx.keeps b o z) hd
 have notL:∀ b o,s₀.heap.get? b=some o->b∉frs outer->b∉frs (envOfC qual scope s₀.heap.objs.size f cd::outer):=fun b o z nb m=>by
  rcases kO.mp (I.stkSub b m) with z' | z'
  ·have:=Heap.lt_size z
   have z':b=s₀.heap.objs.size:=z'
   rw [z'] at this
   exact vL _ this
  ·exact nb z'
 have thr:∀ b o,s.heap.get? b=some o->∃ o',h2.get? b=some o':=fun b o z=>by
  by_cases hb:b∈frs (envOfC qual scope s₀.heap.objs.size f cd::outer)
  ·obtain ⟨sl,z'⟩:=upS b o hb z
   exact ⟨_,z'⟩
  ·exact ⟨o,inB b o hb z⟩
 obtain ⟨_,_,_,oe,vs',T,oT,ts,a1,⟨a2,a3⟩,a4,a5,a6,a7,a8,a9,a10⟩:=fl
 have noT:s.heap.get? T=none:=by
  cases z:s.heap.get? T with
  | none=>rfl
  | some o =>
   by_cases hb:T∈frs (envOfC qual scope s₀.heap.objs.size f cd::outer)
   ·obtain ⟨_,o',z',hd⟩:=I.stack.mem hb
    obtain ⟨sl,z2⟩:=upS T o hb z
    rw [z] at z'
    cases z'
    rw [a8] at z2
    cases z2
    exact absurd a9 (hd ts)
   ·rw [bu _ z hb] at a6
    cases a6
 have no0:∀ b,s.heap.get? b=none->s₀.heap.get? b=none:=fun b z=>by
  cases y:s₀.heap.get? b with
  | none=>rfl
  | some o =>
   obtain ⟨o',z'⟩:=I.base.there b o y (fun m=>nomatch m)
   rw [z] at z'
   cases z'
 refine ⟨e,T,C,H,rfl,I.os,I.bare,⟨fun b o z n nb _=>?_,fun b o z n nb _=>?_,fun b o z n _=>I.base.free b o z n (fun m=>nomatch m),fun b o z _=>?_,I.base.tups,I.base.frzs,I.base.tbls⟩,fun a o z=>?_,
  ⟨⟨oe,vs',.ref t,oT,ts,a1,a2,a4,a3,a5,a8,a9,a10⟩,a7,I.none_of hx.new,I.none_of noT,no0 _ hx.new,no0 _ noT⟩,q⟩
 ·exact inB b o (notL b o z nb) (I.base.keep b o z n nb (fun m=>nomatch m))
 ·obtain ⟨sl,z1⟩:=I.base.slot b o z n nb (fun m=>nomatch m)
  obtain ⟨sl',z2⟩:=upS b _ (by
   show b∈frs _
   unfold frs
   rw [uj]
   exact kj _ nb) z1
  exact ⟨sl',z2⟩
 ·obtain ⟨o',z'⟩:=I.base.there b o z (fun m=>nomatch m)
  exact thr b o' z'
 ·refine (I.hok a o z).stay (fun b u hb r=>?_) (fun _ y=>y) fun _ _ y=>y
  refine inB b u (fun m=>?_) r
  have:=I.stkFree b m
  rcases hb with rfl | hb
  ·rw [z] at this;cases this
  ·rw [hb] at this;cases this
theorem y4 {x:Str} {C:Addr} {e:Expr} {es:List Expr} {t:TA} {np cpos pos:Pos} (ex:Exc K mg x C) (hh:A.handled=none) (hg:Gl (cxOf (CXE P w) P w K mg base N qual scope f cd A outer s₀ H₀ E) x)
  (ha:PA (cxOf (CXE P w) P w K mg base N qual scope f cd A outer s₀ H₀ E) (e::es) t)
  (hs:starEach (e::es) (envOfC qual scope s₀.heap.objs.size f cd)=(false,eval e (envOfC qual scope s₀.heap.objs.size f cd))::starEach es (envOfC qual scope s₀.heap.objs.size f cd):=by rfl)
  (hpl:(backTo cpos (starEach es (envOfC qual scope s₀.heap.objs.size f cd))).any (·.1)=false:=by rfl) (hd:(x == ("__debug__" : Str))=false:=by decide) :
  PS (cxOf (CXE P w) P w K mg base N qual scope f cd A outer s₀ H₀ E) (.Raise (some (.Call (.Name x np) (e::es) [] cpos)) none pos) (zck C t E):=by
 intro pins s σ H D I h
 obtain ⟨bm,N',nm,qn,bs,hdct,sn,sub,ab,col,dd,k0,k1,k2,k3,k5,mN,hC,hN,hni,TL⟩:=za9 (h:=base) I.mod.kin ex.ex
 refine wpAny_Raise_call_subT (C:=C) (nm:=nm) (q:=qn) (N:=N') (bs:=bs) (bm:=bm) (hdct:=hdct) (sn:=sn) (sub:=sub) (ab:=ab) (col:=col) (dd:=dd) (k0:=k0) (k1:=k1) (k2:=k2) (k3:=k3) (k5:=k5)
  PySem.F.excBase_ValueError (mN:=mN) (TL.hasType PySem.F.excBase_ValueError.hasBase) hh (by
   show (backTo cpos (starEach (e::es) (envOfC qual scope s₀.heap.objs.size f cd))).any (·.1)=false
   rw [hs]
   show (false || (backTo cpos (starEach es (envOfC qual scope s₀.heap.objs.size f cd))).any (·.1))=false
   rw [hpl]
   rfl) hni (Zn I hg ex.bound ⟨rfl,?_⟩ hd)
 have h1:=ha cpos pins s σ H _ I h
 show wpAny _ _ (evalArgs (.ref C) true (backTo cpos (starEach (e::es) (envOfC qual scope s₀.heap.objs.size f cd))) []) _ _ _
 have h1:wpAny _ _ (spliced (backTo cpos (starEach (e::es) (envOfC qual scope s₀.heap.objs.size f cd)))) _ _ s:=h1
 rw [hs] at h1 ⊢
 refine Calls.evalArgs_plain (wpAny_mono h1 (fun us s2 ⟨xs,H2,I2,r,z,q⟩=>⟨rfl,?_,I2.bk _ _ hC,hN.keeps I2.bk,TL.keeps I2.bk,fun h' e' hx=>?_⟩) fun _ _ y=>y)
 ·rw [<- r.length];exact z
 ·exact XW I2 hx q
end
theorem Fun.okE {P:Program} {w:World} {K:PySem.W.Frag} {mg:Str->Option Value} {base:Heap} {x qual:Str} {st:Stmt} {f:Addr} {fd:FuncData} {N ps:List Str} {k:Nat} {sp:Sp} (F:Fun K x qual st f fd) (S:zu N ps (ze st)) (len:∀ vs H Q E,sp vs H Q E->vs.length=ps.length)
  (hbody:∀ (cdv:Value) (A:Around) (outer:List Env) (s:Shared) (H:Hp) (vs:List V) (Q:VK) (E:XK),Room k (A.deeper (envOfC qual (ze st) s.heap.objs.size f cdv))->A.handled=none->sp vs H Q E ->
   ∃ t,PSs (cxOf (CXE P w) P w K mg base N qual (ze st) f cdv A outer s H E) (zp st) t/\t {nx:=fun _ H'=>Q .non H',rt:=Q} (start N vs) H):FnOk P w K mg base (CXE P w) (k+1) f fd ps sp:=by
 obtain ⟨oc,od,kV,doc,pm,an,cdv,ct,osl,rfl,lk,hcd⟩:=F.ex
 exact zaJ lk hcd S len fun A outer s H vs Q E hr hsp=>hbody cdv A outer s H vs Q E hr hr.hd hsp
end _L2
namespace _L2
open PySem PySem.Spec PyProof.Rows
theorem Inv.track {X:Cx} {pins:List (Addr×Obj)} {σ:St} {H:Hp} {s:Shared} {p:Addr} {o:HO} (I:Inv X pins σ H s) (hn:H p=none) (h0:X.s₀.heap.get? p=none) (hl:p≠X.env.locals)
  (hc:∀ x c,X.env.cells.lookup x=some c->c≠p) (hp:∀ q∈X.pn++pins,q.1≠p) (new:z8 X.prog X.w (upd H p o) s.heap p o):Inv X pins σ (upd H p o) s where
 ok:=I.ok
 os:=I.os
 bare:=I.bare
 base:=⟨I.base.keep,I.base.slot,fun b ob e n hx=>by
   rw [zy (fun z=>by rw [z,h0] at e;cases e)]
   exact I.base.free b ob e n hx,I.base.there,
  fun b xs e=>by rw [zy (zK (I.base.tups b xs e) hn)];exact I.base.tups b xs e,
  fun b ob u e=>by rw [zy (zK (I.base.frzs b ob u e) hn)];exact I.base.frzs b ob u e,
  fun b ps e=>by
   obtain ⟨m,z⟩:=I.base.tbls b ps e
   exact ⟨m,by rw [zy (zK z hn)];exact z⟩⟩
 loc:=I.loc
 cell:=I.cell
 free:=by rw [zy hl.symm];exact I.free
 freeC:=fun x c e=>by rw [zy (hc x c e)];exact I.freeC x c e
 pin:=fun q m=>by
  obtain ⟨a,b,c⟩:=I.pin q m
  exact ⟨a,by rw [zy (hp q m)];exact b,c⟩
 hok:=fun b u e=>by
  by_cases hb:b=p
  ·subst hb
   rw [zc] at e
   cases e
   exact new
  ·rw [zy hb] at e
   exact (I.hok b u e).stay (fun _ _ _ q=>q) (fun c q=>by rw [zy (zK q hn)];exact q) fun c xs q=>by rw [zy (zK q hn)];exact q
 len:=I.len
theorem Inv.turned2 {X:Cx} {pins:List (Addr×Obj)} {σ:St} {H:Hp} {s:Shared} {h':Heap} {t':Nat} {i j:Addr} (I:Inv X pins σ H s) (k:∀ b o,b≠i->b≠j->s.heap.get? b=some o->h'.get? b=some o) (fi:FpOk X pins H i) (fj:FpOk X pins H j) :
  Inv X pins σ H {s with heap:=h',toks:=t'}:=by
 obtain ⟨a0,a1,a2,a3,a4,a5⟩:=fi
 obtain ⟨b0,b1,b2,b3,b4,b5⟩:=fj
 have nit:∀ b u,H b=some u->b≠i/\b≠j:=fun b u e=>⟨(fun z=>by rw [z,a0] at e;cases e),(fun z=>by rw [z,b0] at e;cases e)⟩
 have kk:∀ b o,b∉[i,j]->s.heap.get? b=some o->h'.get? b=some o:=fun b o m e=>k b o (fun z=>m (by simp [z])) (fun z=>m (by simp [z])) e
 refine I.step (g':=s.gens) (d':=s.drawn) (ch:=[i,j]) (fun b hb=>?_) (fun b o _ _ m e _=>kk b o m e) (fun b o _ _ m e _=>⟨o.slots,kk b o m e⟩) (fun _ _ _ _ n=>n) (fun b o m e=>⟨o,kk b o m e⟩) (fun _ _ e=>e) (fun _ _ _ e=>e)
  (fun b ps e=>⟨#[],by rw [e];simp⟩) (fun m hm=>?_) (fun b u e=>?_) I.bare
 ·rcases kO.mp hb with rfl | hb
  ·exact ⟨a3,a1,a4,a5⟩
  ·obtain rfl:=kq.mp hb
   exact ⟨b3,b1,b4,b5⟩
 ·obtain ⟨o,es,ep,ho,r⟩:=hm
  exact ⟨o,es,ep,k _ o a1.symm b1.symm ho,r⟩
 ·refine (I.hok b u e).stay (fun c v hc q=>k c v ?_ ?_ q) (fun _ q=>q) fun _ _ q=>q
  ·rcases hc with z | z
   ·rw [z];exact (nit b u e).1
   ·exact (nit c _ z).1
  ·rcases hc with z | z
   ·rw [z];exact (nit b u e).2
   ·exact (nit c _ z).2
end _L2
namespace _L2
open PySem PySem.Spec PyProof.Rows
theorem getD_at {α:Type} {xs:List α} {i:Nat} {d:α} (h:i<xs.length):xs.getD i d=xs[i]:=by
 rw [ko,kb h]
 rfl
section
variable {X:Cx}
theorem xX {ns:List Int} {its:List Value} (r:Vals (ns.map V.int) its):∀ (i:Nat) (v:Value),its.toArray[i]?=some v->∃ t,v=Value.int (ns.getD i 0) t:=by
 intro i v e
 rw [u6] at e
 have hl:=r.length
 have hi:i<its.length:=(kf.mp e).1
 rw [ka] at hl
 have hx:(ns.map V.int)[i]?=some (.int (ns.getD i 0)):=by
  rw [kR,kb (by omega)]
  simp [List.getD,show i<ns.length by omega]
 obtain ⟨u,hu,ru⟩:=r.get hx
 rw [e] at hu
 cases hu
 exact ru
theorem jD {ns:List Int} {k:Nat} (h:k<ns.length):ns.getD k 0∈ns:=by
 rw [getD_at h]
 exact vB h
theorem YQ {ns:List Int} {z:Int} (h:z∈ns):∃ j,j<ns.length/\ns.getD j 0=z:=by
 obtain ⟨j,hj,e⟩:=vO.mp h
 exact ⟨j,hj,by rw [getD_at hj];exact e⟩
theorem xf {xs:List V} {us:List Value} (r:Vals xs us) {j:Nat} (h1:j<us.length):RelV (xs.getD j .non) us[j]:=by
 have hl:=r.length
 obtain ⟨u,hu,ru⟩:=r.get (i:=j) (x:=xs.getD j .non) (by rw [kb (by omega),getD_at (by omega)])
 rw [kb h1] at hu
 cases hu
 exact ru
end
end _L2
namespace _Srt
open PySem.W PyProof.Rows
noncomputable def Run (key:Nat->Int) (n:Nat) {α:Type} (Q:α->Prop):KasT α->Prop
 | .ret a=>Q a
 | .ask i j k=>i<n/\j<n/\Run key n Q (k (decide (key i<key j)))
theorem Run.mono {key:Nat->Int} {n:Nat} {α:Type} {Q Q':α->Prop} (h:∀ a,Q a->Q' a):∀ (t:KasT α),Run key n Q t->Run key n Q' t
 | .ret a,x=>h a x
 | .ask _ _ k,⟨a,b,x⟩=>⟨a,b,Run.mono h _ x⟩
theorem Run.bind {key:Nat->Int} {n:Nat} {α β:Type} {Q:β->Prop} {f:α->KasT β}:∀ (t:KasT α),Run key n (fun a=>Run key n Q (f a)) t->Run key n Q (t.bind f)
 | .ret a,x=>x
 | .ask _ _ k,⟨a,b,x⟩=>⟨a,b,Run.bind _ x⟩
theorem n1 {m f n:Nat} (h:m+(f+1)<=n):m<n:=kY (Nat.lt_add_of_pos_right (uU f)) h
theorem n2 {m f n:Nat} (h:m+(f+1)<=n):m-1<n:=vc (uu m 1) (n1 h)
theorem n3 (m f:Nat):m+1+f=m+(f+1):=by rw [Nat.add_assoc,Nat.add_comm 1 f]
theorem n3' {m f n:Nat} (h:m+(f+1)<=n):m+1+f<=n:=(n3 m f).symm ▸ h
theorem n4 {i m:Nat} (h:i<m+1) (e:¬ i=m):i<m:=uP (v9 h) e
theorem n6 {r m f:Nat} (h:r<=m+1+f):r<=m+(f+1):=n3 m f ▸ h
theorem n7 {r m f:Nat} (h:r=m+1+f):r=m+(f+1):=n3 m f ▸ h
theorem n8 {i m:Nat} (a:m<=i) (b:i<m+1):i=m:=bi (v9 b) a
section
variable {key:Nat->Int} {n:Nat}
structure Ord (n:Nat) (p:Array Nat):Prop where
 sz:p.size=n
 pm:p.Perm (uV (kQ n))
theorem Ord.lt {p:Array Nat} (o:Ord n p) {i:Nat} (h:i<n):p.getD i 0<n:=by
 have hi:i<p.size:=by rw [o.sz];exact h
 have e:p.getD i 0=p[i]:=by simp [Array.getD,hi]
 have m:p[i]∈p:=Array.getElem_mem hi
 have m2:p[i]∈(uV (kQ n)):=(Array.Perm.mem_iff o.pm).mp m
 rw [e]
 simpa using m2
noncomputable def kv (key:Nat->Int) (p:Array Nat) (i:Nat):Int:=key (p.getD i 0)
theorem wf {p q:Array Nat} {i j:Nat} (h:p[i]?=q[j]?):kv key p i=kv key q j:=by
 unfold kv
 rw [Array.getD_eq_getD_getElem?,Array.getD_eq_getD_getElem?,h]
theorem Ord.rev {p:Array Nat} (o:Ord n p) (i j:Nat):Ord n (kas_rev p i j):=⟨by unfold kas_rev;rw [mirror_size];exact o.sz,(mirror_perm _ _ _ _).trans o.pm⟩
theorem Ord.bub {p:Array Nat} (o:Ord n p) (i j:Nat):Ord n (bubble p i j):=⟨by rw [bubble_size];exact o.sz,(bubble_perm _ _ _).trans o.pm⟩
theorem j4 {p:Array Nat} {i j:Nat} (hj:j<=p.size) (k:Nat):kv key (kas_rev p i j) k=if i<=k/\k<j then kv key p (i+j-1-k) else kv key p k:=by
 have e:=getElem?_mirror_all (i:=i) hj k
 unfold kas_rev
 by_cases h:i<=k/\k<j
 ·rw [if_pos h] at e ⊢;exact wf e
 ·rw [if_neg h] at e ⊢;exact wf e
theorem QB {p:Array Nat} {src d:Nat} (hs:src<p.size) (hd:d<=src) (k:Nat):kv key (bubble p src d) k=if k=src-d then kv key p src else if src-d<k/\k<=src then kv key p (k-1) else kv key p k:=by
 have e:=getElem?_bubble hs d hd k
 by_cases h1:k=src-d
 ·rw [if_pos h1] at e ⊢;exact wf e
 ·rw [if_neg h1] at e ⊢
  by_cases h2:src-d<k/\k<=src
  ·rw [if_pos h2] at e ⊢;exact wf e
  ·rw [if_neg h2] at e ⊢;exact wf e
noncomputable def Up (key:Nat->Int) (p:Array Nat) (m:Nat):Prop:=∀ i,1<=i->i<m->kv key p (i-1)<=kv key p i
noncomputable def Down (key:Nat->Int) (p:Array Nat) (m:Nat):Prop:=∀ i,1<=i->i<m->kv key p i<=kv key p (i-1)
theorem Up.le {p:Array Nat} {m:Nat} (u:Up key p m):∀ {i j:Nat},i<=j->j<m->kv key p i<=kv key p j:=by
 intro i j h hj
 induction j with
 | zero=>(have:i=0:=uQ.mp h;subst this;exact vR _)
 | succ j ih =>
  by_cases e:i=j+1
  ·subst e;exact vR _
  ·exact uf (ih (v9 (uP h e)) (Nat.lt_of_succ_lt hj)) (u (j+1) (vA (kP j)) hj)
theorem Down.le {p:Array Nat} {m:Nat} (u:Down key p m):∀ {i j:Nat},i<=j->j<m->kv key p j<=kv key p i:=by
 intro i j h hj
 induction j with
 | zero=>(have:i=0:=uQ.mp h;subst this;exact vR _)
 | succ j ih =>
  by_cases e:i=j+1
  ·subst e;exact vR _
  ·exact uf (u (j+1) (vA (kP j)) hj) (ih (v9 (uP h e)) (Nat.lt_of_succ_lt hj))
theorem Zv {p:Array Nat} (o:Ord n p):∀ (f m:Nat),1<=m->m+f<=n->Up key p m->Run key n (fun r=>m<=r/\r<=m+f/\Up key p r/\(r=m+f\/(r<n/\kv key p r<kv key p (r-1)))) (kas_asc p f m)
 | 0,m,h1,h2,u=>⟨kc _,kc _,u,.inl rfl⟩
 | f+1,m,h1,h2,u=>by
  refine ⟨o.lt (n1 h2),o.lt (n2 h2),?_⟩
  by_cases c:key (p.getD m 0)<key (p.getD (m-1) 0)
  ·rw [decide_eq_true c];dsimp only;(try rw [if_pos rfl])
   exact ⟨kc _,Nat.le_add_right _ _,u,.inr ⟨n1 h2,c⟩⟩
  ·rw [decide_eq_false c];dsimp only;(try rw [if_neg ku])
   have u':Up key p (m+1):=fun i i1 i2=>by
    by_cases e:i=m
    ·subst e;exact Int.not_lt.mp c
    ·exact u i i1 (n4 i2 e)
   refine Run.mono (fun r ⟨a,b,d,e⟩=>⟨ug a,n6 b,d,?_⟩) _ (Zv o f (m+1) (vA (kP m)) (n3' h2) u')
   rcases e with e | e
   ·exact .inl (n7 e)
   ·exact .inr e
noncomputable def Flat (key:Nat->Int) (p:Array Nat) (m q:Nat):Prop:=q+1<=m/\∀ i,m-(q+1)<=i->i<m->kv key p i=kv key p (m-1)
theorem YR {p:Array Nat} {m q:Nat} (hm:m<=p.size) (f:Flat key p m q) (k:Nat):kv key (kas_rev p (m-(q+1)) m) k=kv key p k:=by
 rw [j4 hm]
 split
 ·rename_i h
  rw [f.2 k h.1 h.2,f.2 _ (by omega) (by omega)]
 ·rfl
theorem w6:∀ (f:Nat) (p:Array Nat) (m q:Nat),Ord n p->m+f<=n->Down key p m->Flat key p m q ->
  Run key n (fun r=>Ord n r.1/\m<=r.2.1/\r.2.1<=n/\Down key r.1 r.2.1/\Flat key r.1 r.2.1 r.2.2) (kas_desc f p m q)
 | 0,p,m,q,o,h,d,fl=>⟨o,kc _,h,d,fl⟩
 | f+1,p,m,q,o,h,d,fl=>by
  have h1:1<=m:=km (vA (kP q)) fl.1
  refine ⟨o.lt (n1 h),o.lt (n2 h),?_⟩
  by_cases c:key (p.getD m 0)<key (p.getD (m-1) 0)
  ·rw [decide_eq_true c];dsimp only;(try rw [if_pos rfl])
   by_cases hq:q>0
   ·rw [if_pos hq]
    have kr:=YR (key:=key) (p:=p) (m:=m) (q:=q) (by rw [o.sz];exact vE (n1 h)) fl
    refine Run.mono (fun r h9=>by obtain ⟨a,b,e⟩:=h9;exact (⟨a,ug b,e⟩)) _ (w6 f _ (m+1) 0 (o.rev _ _) (n3' h) (fun i i1 i2=>?_) ⟨vA (kP m),fun i i1 i2=>?_⟩)
    ·rw [kr,kr]
     by_cases e:i=m
     ·subst e;exact bA c
     ·exact d i i1 (n4 i2 e)
    ·have:i=m:=n8 i1 i2
     subst this;rfl
   ·rw [if_neg hq]
    refine Run.mono (fun r h9=>by obtain ⟨a,b,e⟩:=h9;exact (⟨a,ug b,e⟩)) _ (w6 f _ (m+1) 0 o (n3' h) (fun i i1 i2=>?_) ⟨vA (kP m),fun i i1 i2=>?_⟩)
    ·by_cases e:i=m
     ·subst e;exact bA c
     ·exact d i i1 (n4 i2 e)
    ·have:i=m:=n8 i1 i2
     subst this;rfl
  ·rw [decide_eq_false c];dsimp only;(try rw [if_neg ku])
   refine ⟨o.lt (n2 h),o.lt (n1 h),?_⟩
   by_cases c2:key (p.getD (m-1) 0)<key (p.getD m 0)
   ·rw [decide_eq_true c2];dsimp only;(try rw [if_pos rfl])
    exact ⟨o,kc _,vE (n1 h),d,fl⟩
   ·rw [decide_eq_false c2];dsimp only;(try rw [if_neg ku])
    have ee:kv key p m=kv key p (m-1):=bj (Int.not_lt.mp c2) (Int.not_lt.mp c)
    refine Run.mono (fun r h9=>by obtain ⟨a,b,e⟩:=h9;exact (⟨a,ug b,e⟩)) _ (w6 f _ (m+1) (q+1) o (n3' h) (fun i i1 i2=>?_) ⟨vA fl.1,fun i i1 i2=>?_⟩)
    ·by_cases e:i=m
     ·subst e;rw [ee];exact vR _
     ·exact d i i1 (n4 i2 e)
    ·show kv key p i=kv key p m
     by_cases e:i=m
     ·subst e;rfl
     ·rw [ee];exact fl.2 i (by rw [Nat.succ_sub_succ] at i1;exact i1) (n4 i2 e)
noncomputable def Good (key:Nat->Int) (n:Nat) (r:Nat×Array Nat):Prop:=Ord n r.2/\1<=r.1/\r.1<=n/\Up key r.2 r.1
theorem ZZ {p:Array Nat} {m:Nat} (o:Ord n p) (h1:1<=m) (h:m<=n) (d:Down key p m):Run key n (Good key n) (kas_tail3 m n p):=by
 have e9:m+(n-m)=n:=uF h
 refine Run.bind _ (Run.mono (fun r h9=>by obtain ⟨a,b,e,_⟩:=h9;exact (⟨o.rev _ _,km h1 a,km b (uD e9),e⟩)) _ (Zv (o.rev 0 m) (n-m) m h1 (uD e9) fun i i1 i2=>?_))
 have i3:i-1<m:=vc (uu i 1) i2
 rw [j4 (by rw [o.sz];exact h),j4 (by rw [o.sz];exact h),if_pos ⟨kP _,i3⟩,if_pos ⟨kP _,i2⟩]
 exact d.le (Nat.sub_le_sub_left (uu i 1) _) (vc (uu _ _) (by rw [uW];exact Nat.sub_lt h1 Nat.one_pos))
theorem qC {p:Array Nat} {m:Nat} (o:Ord n p) (h1:1<=m) (h:m+1<=n) (d:Down key p (m+1)):Run key n (Good key n) (kas_descPart m n p):=by
 have fl0:Flat key p (m+1) 0:=⟨vA (kP m),fun i i1 i2=>by
  have e:i=m:=n8 i1 i2
  rw [e];rfl⟩
 refine Run.bind _ (Run.mono (fun r ⟨a,b,c,e,f⟩=>?_) _ (w6 (n-(m+1)) p (m+1) 0 o (by rw [uF h];exact kc _) d fl0))
 by_cases q:r.2.2>0
 ·rw [if_pos q]
  have kr:=YR (key:=key) (p:=r.1) (m:=r.2.1) (q:=r.2.2) (by rw [a.sz];exact c) f
  exact ZZ (a.rev _ _) (km (vA (kP m)) b) c fun i i1 i2=>by rw [kr,kr];exact e i i1 i2
 ·rw [if_neg q]
  exact ZZ a (km (vA (kP m)) b) c e
theorem QC {p:Array Nat} (o:Ord n p) (h:1<=n):Run key n (Good key n) (kas_count n p):=by
 refine Run.bind _ (Run.mono (fun r ⟨a,b,c,e⟩=>?_) _ (Zv o (n-1) 1 (kc _) (by rw [uF h];exact kc _) fun i i1 i2=>absurd i1 (Nat.not_le.mpr i2)))
 have h9:1+(n-1)=n:=uF h
 rw [h9] at b e
 by_cases q:(r == n)=true
 ·rw [if_pos q]
  exact ⟨o,a,b,c⟩
 ·rw [if_neg q]
  have q':r≠n:=fun z=>q (by rw [z];exact beq_self_eq_true n)
  have e':r<n/\kv key p r<kv key p (r-1):=by
   rcases e with e | e
   ·exact absurd e q'
   ·exact e
  split
  ·rename_i hr
   refine ⟨o.lt h,o.lt (vc (uu r 1) e'.1),?_⟩
   by_cases c2:key (p.getD 0 0)<key (p.getD (r-1) 0)
   ·rw [decide_eq_true c2];dsimp only;(try rw [if_pos rfl])
    exact ⟨o,a,b,c⟩
   ·rw [decide_eq_false c2];dsimp only;(try rw [if_neg ku])
    have fl:∀ i,i<r->kv key p i=kv key p 0:=fun i hi=>by
     have x1:=c.le (i:=0) (j:=i) (kP i) hi
     have x2:=c.le (i:=i) (j:=r-1) (Nat.le_sub_one_of_lt hi) (Nat.sub_lt a Nat.one_pos)
     have x3:kv key p (r-1)<=kv key p 0:=Int.not_lt.mp c2
     exact bj (uf x2 x3) x1
    have kr:∀ k,kv key (kas_rev p 0 r) k=kv key p k:=fun k=>by
     rw [j4 (by rw [o.sz];exact b)]
     split
     ·rename_i hk
      rw [fl _ (vc (uu _ k) (by rw [uW];exact Nat.sub_lt a Nat.one_pos)),fl k hk.2]
     ·rfl
    refine qC (o.rev _ _) a e'.1 fun i i1 i2=>?_
    rw [kr,kr]
    by_cases z:i=r
    ·subst z;exact bA e'.2
    ·rw [fl i (n4 i2 z),fl (i-1) (vc (uu i 1) (n4 i2 z))];exact vR _
  ·have hr:r=1:=by omega
   refine qC o a e'.1 fun i i1 i2=>?_
   have:i=r:=by omega
   subst this
   exact bA e'.2
theorem mid_ {l r:Nat} (h:l<r):(l+r) / 2<r/\l<=(l+r) / 2:=by omega
theorem zdm {l r f m:Nat} (a:m<r) (h:r-l<=f+1):m-l<=f:=by omega
theorem zdn {l r f m:Nat} (a:l<=m) (h:r-l<=f+1):r-(m+1)<=f:=by omega
theorem qD {p:Array Nat} {k:Nat} (o:Ord n p) (hk:k<n) (u:Up key p k):∀ (f l r:Nat),l<=r->r<=k->r-l<=f->(∀ i,i<l->kv key p i<=kv key p k)->(∀ i,r<=i->i<k->kv key p k<kv key p i) ->
  Run key n (fun m=>m<=k/\(∀ i,i<m->kv key p i<=kv key p k)/\(∀ i,m<=i->i<k->kv key p k<kv key p i)) (kas_place p k f l r)
 | 0,l,r,h1,h2,h3,a,b=>⟨km h1 h2,a,fun i i1 i2=>b i (km (Nat.le_of_sub_eq_zero (uQ.mp h3)) i1) i2⟩
 | f+1,l,r,h1,h2,h3,a,b=>by
  unfold kas_place
  by_cases c:l≥r
  ·rw [if_pos c]
   exact ⟨km h1 h2,a,fun i i1 i2=>b i (km c i1) i2⟩
  ·rw [if_neg c]
   have hm:(l+r) / 2<r/\l<=(l+r) / 2:=mid_ (Nat.not_le.mp c)
   have hmk:=kY hm.1 h2
   refine ⟨o.lt hk,o.lt (Nat.lt_trans hmk hk),?_⟩
   by_cases c2:key (p.getD k 0)<key (p.getD ((l+r) / 2) 0)
   ·rw [decide_eq_true c2];dsimp only;(try rw [if_pos rfl])
    refine qD o hk u f l _ hm.2 (vE hmk) (zdm hm.1 h3) a fun i i1 i2=>?_
    exact Int.lt_of_lt_of_le c2 (u.le i1 i2)
   ·rw [decide_eq_false c2];dsimp only;(try rw [if_neg ku])
    refine qD o hk u f _ r hm.1 h2 (zdn hm.2 h3) (fun i i1=>?_) b
    exact uf (u.le (j:=(l+r) / 2) (v9 i1) hmk) (Int.not_lt.mp c2)
theorem We:∀ (f:Nat) (p:Array Nat) (k:Nat),Ord n p->1<=k->k+f=n->Up key p k->Run key n (fun r=>Ord n r/\Up key r n) (kas_bin f p k)
 | 0,p,k,o,h1,h,u=>by
  have:k=n:=h
  subst this
  exact ⟨o,u⟩
 | f+1,p,k,o,h1,h,u=>by
  have hk:k<n:=n1 (uD h)
  refine Run.bind _ (Run.mono (fun m ⟨a,b,c⟩=>?_) _ (qD o hk u k 0 k (kP k) (kc _) (uu k 0) (fun i hi=>absurd hi (uM i)) fun i i1 i2=>absurd i1 (Nat.not_le.mpr i2)))
  refine We f _ (k+1) (o.bub _ _) (vA (kP k)) ((n3 k f).trans h) fun i i1 i2=>?_
  rw [QB (by rw [o.sz];exact hk) (uu k m),QB (by rw [o.sz];exact hk) (uu k m),Nat.sub_sub_self a]
  have ik:i<=k:=v9 i2
  have il:i-1<i:=Nat.sub_lt i1 Nat.one_pos
  rcases Nat.lt_trichotomy i m with q | q | q
  ·rw [if_neg (vt (Nat.lt_trans il q)),if_neg (fun z=>Nat.lt_asymm q (Nat.lt_trans z.1 il)),if_neg (vt q),if_neg (fun z=>Nat.lt_asymm q z.1)]
   exact u i i1 (kY q a)
  ·subst q
   rw [if_neg (vt il),if_neg (fun z=>Nat.lt_asymm il z.1),if_pos rfl]
   exact b _ il
  ·rw [if_neg (show ¬ i=m from ut q),if_pos (show m<i/\i<=k from ⟨q,ik⟩)]
   by_cases z:i-1=m
   ·rw [if_pos z,z]
    exact bA (c m (kc _) (kY q ik))
   ·have w:=uP (Nat.le_sub_one_of_lt q) (Ne.symm z)
    rw [if_neg z,if_pos ⟨w,vE (kY il ik)⟩]
    exact u (i-1) (km (vA (kP m)) w) (kY il ik)
theorem JM (h:1<=n):Run key n (fun r=>Ord n r/\Up key r n) (kas_sort n):=by
 refine Run.bind _ (Run.mono (fun r ⟨a,b,c,d⟩=>?_) _ (QC ⟨by simp,Array.Perm.refl _⟩ h))
 split
 ·have e:max r.1 1=r.1:=by omega
  rw [e]
  exact We _ _ _ a b (by omega) d
 ·have e:r.1=n:=by omega
  rw [e] at d
  exact ⟨a,d⟩
end
end _Srt
namespace _L2
open PySem PySem.Spec PyProof.Rows PySem.W
theorem Z1 {key:Nat->Int} {n:Nat} {α:Type} {cmp:Nat->Nat->(Bool->Shared->Prop)->Shared->Prop} {s:Shared} {Q:α->Prop}
  (hc:∀ i j C,i<n->j<n->C (decide (key i<key j)) s->cmp i j C s):∀ (t:KasT α),_Srt.Run key n Q t->t.kasWp cmp (fun a s'=>Q a/\s'=s) s
 | .ret a,x=>⟨x,rfl⟩
 | .ask i j k,⟨h1,h2,x⟩=>hc i j _ h1 h2 (Z1 hc _ x)
section
variable {X:Cx} {pins:List (Addr×Obj)} {σ:St} {H:Hp} {s:Shared}
structure j5 (X:Cx) (pins:List (Addr×Obj)) (b:Addr):Prop where
 lo:b≠X.env.locals
 fs:b∉X.fs
 ge:b∈X.ex\/X.s₀.heap.objs.size<=b
 ce:∀ x c,X.env.cells.lookup x=some c->c≠b
 pi:∀ p∈X.pn++pins,p.1≠b
theorem Inv.young (I:Inv X pins σ H s) {b:Addr} (hb:s.heap.objs.size<=b):j5 X pins b:=by
 obtain ⟨_,a1,a2,a3,a4,a5⟩:=I.fpOk (b:=b) hb (H':=fun _=>none) rfl
 exact ⟨a1,a2,a3,a4,a5⟩
theorem Inv.record (I:Inv X pins σ H s) {b:Addr} {h':Heap} (y:j5 X pins b) (hn:H b=none) (hs:Heap.SameBut b s.heap h'):Inv X pins σ H {s with heap:=h'} :=
 I.turned (t':=s.toks) (fun c o nc e=>(hs.2 c nc).trans e) hn y.lo y.ge y.ce y.pi
end
end _L2
namespace _L2
open PySem PySem.Spec PyProof.Rows PySem.W
end _L2
namespace _L2
open PySem PySem.Spec PyProof.Rows PySem.W Builtin.Getset_descriptor
noncomputable def wx (ea C:Addr):Heap->Prop:=fun h=>∃ o,h.get? ea=some o/\o.cls=.ref C
theorem wx.ty {M:Model} {h:Heap} {ea C:Addr} (x:wx ea C h):Looks M h (typeOf (.ref ea)) (.ref C):=by
 obtain ⟨o,e,c⟩:=x
 rw [<- c]
 exact (Looks.ld e).andThen .now
section
variable {prog:Program} {w:World} {A:Around} {E:Value->Shared->Prop} {K:Frag} {x C:Addr}
theorem Yt {s:Shared} {tp:Value} {R:Result->Shared->Prop} (X:K.In s.heap) (J:wx x C s.heap) (hm:mroIn K C (.type "object")=some true) (q:R (.ok (.ret (.ref C))) s) :
  codeAny (model prog w) A (.call (.builtin "getset_descriptor.__get__") ⟨[.builtin "object.__class__",.ref x,tp],[]⟩) R s:=by
 obtain ⟨h0,g0,d0,t0,o0⟩:=s
 have LT:=J.ty (M:=model prog w)
 have LM:=looks_mroIn (M:=model prog w) X hm
 refine codeAny_call_builtin KF.slot_gs.plain KF.entry_gs ?_
 refine KF.slot_gs.check _ _ _ _ _ _ _ _ KF.type_class (KF.args_gs _ _ _) ?_
 unfold Builtin.«getset_descriptor.__get__»
 unfold descrGet
 rw [dga_obj]
 refine wpAny_bind ?_
 refine wpAny_pure ?_
 unfold descrGetter
 unfold descrCheckInstance
 unfold descrNameAndClass
 unfold isInstance
 simp only [KF.owner_class]
 repeat lk
 refine ⟨Code.quiet_builtin _ (by decide +kernel),?_⟩
 refine codeAny_builtin KF.entry_class ?_
 unfold Builtin.«object.__class__»
 unfold shownTypeOf
 repeat lk
 exact q
structure qE (K:Frag) (C:Addr):Prop where
 ga:findIn K (.ref C) "__getattribute__" = some (some (.builtin "BaseException.__getattribute__"))
 gn:findIn K (.ref C) "__getattr__" = some none
 ha:findIn K (.ref C) "__class__" = some (some (.builtin "object.__class__"))
 hn:specialIn K (.builtin "object.__class__") "__get__" = some (some (.builtin "getset_descriptor.__get__"))
 tk:takesIn K (.builtin "object.__class__")=some true
 mo:mroIn K C (.type "object")=some true
 mb:mroIn K C (.type "BaseException")=some true
 ty:typeIn K (.ref C)=some (.type "type")
 cl:(clsIn K C).isSome=true
theorem JN {M:Model} {h:Heap} (X:K.In h) (J:wx x C h) (c:qE K C):Looks M h (Builtin.ObjectAttr.find (.ref x) (.ref C) "__class__") (.bind (.builtin "getset_descriptor.__get__") (.builtin "object.__class__")):=by
 have L1:=looks_findIn (M:=M) X c.ha
 have _L2:Looks M h (Builtin.ObjectAttr.getOf (some (.builtin "object.__class__"))) (some (.builtin "getset_descriptor.__get__")):=looks_specialIn X c.hn
 have L3:=looks_takesIn (M:=M) X c.tk
 exact L1.andThen (_L2.andThen ((show Looks M h (Builtin.ObjectAttr.dataDescriptor? (some (.builtin "object.__class__")) (some (.builtin "getset_descriptor.__get__"))) (some (.builtin "getset_descriptor.__get__",.builtin "object.__class__")) from L3.andThen .now).andThen (Looks.tag .now)))
theorem QD {s:Shared} {tk:Tok} {R:Result->Shared->Prop} (X:K.In s.heap) (J:wx x C s.heap) (c:qE K C) (q:R (.ok (.ret (.ref C))) s) :
  codeAny (model prog w) A (.call (.builtin "BaseException.__getattribute__") ⟨[.ref x,.str "__class__" tk],[]⟩) R s:=by
 obtain ⟨h0,g0,d0,t0,o0⟩:=s
 have LT:=J.ty (M:=model prog w)
 have LF:=JN (M:=model prog w) X J c
 have LB:=looks_mroIn (M:=model prog w) X c.mb
 refine codeAny_call_builtin PySem.F.attr_ValueError.ga.plain PySem.F.entry_bexc_ga ?_
 have hk:builtinKind "BaseException.__getattribute__" = some .slot:=by decide +kernel
 have hsp:splitId "BaseException.__getattribute__" = some ("BaseException","__getattribute__"):=by decide +kernel
 have hao:=PySem.F.args_bexc_ga (.ref x) (.str "__class__" tk)
 simp only [checkBuiltinCall,hk,hsp]
 refine wpAny_bind ?_
 unfold isInstance
 repeat (any_goals (first | assumption | with_reducible refine Looks.at (by assumption) ?_ | wp_step))
 refine Yt X J c.mo ?_
 repeat (any_goals (first | assumption | wp_step))
theorem JO {s:Shared} {Q:Option Value->Shared->Prop} (X:K.In s.heap) (J:wx x C s.heap) (c:qE K C) (q:Q (some (.ref C)) {s with toks:=s.toks+1}):wpAny (model prog w) A (getAttr? (.ref x) "__class__") Q E s:=by
 obtain ⟨h0,g0,d0,t0,o0⟩:=s
 have LT:=J.ty (M:=model prog w)
 have L1:=looks_findIn (M:=model prog w) X c.ga
 have _L2:=looks_findIn (M:=model prog w) X c.gn
 have f3:=PySem.F.attr_ValueError.ga.bind (.ref x)
 have hx2:(Value.builtin "BaseException.__getattribute__" == Value.builtin "object.__getattribute__")=false:=by decide +kernel
 have hx1:(onTheHeap (Value.ref C) && Value.builtin "BaseException.__getattribute__" == Value.builtin "object.__getattribute__")=false:=by rw [hx2];rfl
 unfold getAttr? getAttrBy?
 repeat (any_goals (first | assumption | with_reducible refine Looks.at (by assumption) ?_ | wp_step))
 refine QD X J c ?_
 repeat (any_goals (first | assumption | wp_step))
theorem JP (c:qE K C):KitX K (.ref x) (.ref C) (wx x C) where
 ty:=fun _ _ _ J=>J.ty
 it:=fun M h X _=>by
  obtain ⟨cd,hc⟩:=uG.mp c.cl
  unfold clsIn at hc
  split at hc
  ·rename_i a1 a2 a3 a4 ho
   intro A' Q' E' s' k z
   unfold isType loadHead
   exact wpAny_bind (wpAny_loadPart (k _ _ (X _ _ ho)) (wpAny_pure z))
  ·cases hc
 ne:=fun h tp dd its n sl X htp=>by
  obtain ⟨cd,hc⟩:=uG.mp c.cl
  refine Bool.eq_false_iff.mpr fun q=>?_
  obtain rfl:C=tp:=Value.ref.inj (beq_iff_eq.mp q)
  unfold clsIn at hc
  split at hc
  ·rename_i a1 a2 a3 a4 ho
   have z:=(X _ _ ho).symm.trans htp
   cases z
  ·cases hc
 ca:=fun X J k=>JO X J c k
end
end _L2
namespace _L2
open PySem PySem.Spec PyProof.Rows PySem.W
end _L2
namespace _L2
open PySem PySem.Spec PyProof.Rows
end _L2
namespace _L2
open PySem PySem.Spec PyProof.Rows
noncomputable def Evl (t:TE) (σ:St) (H:Hp) (v:V):Prop:=∀ Q:VK,Q v H->t σ H Q
noncomputable def Tst (t:TT) (σ:St) (H:Hp) (p:Prop) [Decidable p]:Prop:=∀ Q:Bool->Hp->Prop,Q (decide p) H->t σ H Q
section
variable {σ:St} {H:Hp} {ta tb tc:TE} {x y v:V} {i j k:Int} {K:PySem.W.Frag} {D:Ends} {n m:Nat}
theorem zk {i:Nat} (h:σ[i]?=some (some v)):Evl (tVar i) σ H v:=fun Q q=>⟨v,h,q⟩
theorem zI:Evl (tC v) σ H v:=fun Q q=>q
theorem zQ {g:Int->Int->V} (a:Evl ta σ H (.int i)) (b:Evl tb σ H (.int j)):Evl (tOp (rI0 g) ta tb) σ H (g i j):=fun Q q=>a _ (b _ ⟨i,j,rfl,rfl,q⟩)
theorem wy {C:Int->Int->Prop} {g:Int->Int->V} (a:Evl ta σ H (.int i)) (b:Evl tb σ H (.int j)) (c:C i j):Evl (tOp (rI C g) ta tb) σ H (g i j):=fun Q q=>a _ (b _ ⟨i,j,rfl,rfl,c,q⟩)
theorem Zw (a:Evl ta σ H (.int i)) (b:Evl tb σ H (.int j)):Evl (tOp rEq ta tb) σ H (.bl (decide (i=j))):=fun Q q=>a _ (b _ ⟨rfl,by
 have e:decide (V.int i=V.int j)=decide (i=j):=by
  rw [decide_eq_decide]
  exact ⟨fun z=>V.int.inj z,fun z=>by rw [z]⟩
 rw [e]
 exact q⟩)
theorem ya {p:Addr} {xs:List V} (a:Evl ta σ H (.ref p)) (b:Evl tb σ H (.int i)) (h:SqT K H p xs) (e:atI xs i=some v):Evl (tOp (rIxT K) ta tb) σ H v:=fun Q q=>a _ (b _ ⟨p,xs,i,v,rfl,rfl,h,e,q⟩)
theorem yM {p:Addr} {xs:List V} (a:Evl ta σ H (.ref p)) (b:Evl tb σ H (.int i)) (h:SqL K H p xs) (e:atI xs i=some v):Evl (tOp (rIxL K) ta tb) σ H v:=fun Q q=>a _ (b _ ⟨p,xs,i,v,rfl,rfl,h,e,q⟩)
theorem yA {p:Addr} {ys:List V} (a:Evl ta σ H (.ref p)) (h:SqL K H p ys):Evl (tCB (fun xs H Q=>∃ p ys,xs=[.ref p]/\(SqL K H p ys\/SqT K H p ys)/\Q (.int ys.length) H) (xJ ta tNil)) σ H (.int ys.length):=fun Q q=>a _ ⟨p,ys,rfl,.inl h,q⟩
theorem Z2 {g:Int->Int->V} (a:Evl ta σ H (.int i)) (b:Evl tb σ H (.int j)):Evl (tCB (fun xs H Q=>∃ i j,xs=[.int i,.int j]/\Q (g i j) H) (xJ ta (xJ tb tNil))) σ H (g i j):=fun Q q=>a _ (b _ ⟨i,j,rfl,q⟩)
theorem QE {f g:Int->Int->Bool} (a:Evl ta σ H (.int i)) (b:Evl tb σ H (.int j)) (c:Evl tc σ H (.int k)):Evl (YK (rI0 fun i j=>.bl (f i j)) (rI0 fun i j=>.bl (g i j)) ta tb tc) σ H (.bl (f i j && g j k)):=fun Q q=>a _ (b _ ⟨i,j,rfl,rfl,_,rfl,by
 cases e:f i j with
 | true =>
  rw [if_pos rfl]
  rw [e,bF] at q
  exact c _ ⟨j,k,rfl,rfl,q⟩
 | false =>
  rw [if_neg ku]
  rw [e,Bool.false_and] at q
  exact q⟩)
theorem z6 {p:Prop} [Decidable p] (a:Evl ta σ H (.bl (decide p))):Tst (ww ta) σ H p:=fun Q q=>a _ ⟨_,rfl,q⟩
theorem Zx {t u:TT} {p q:Prop} [Decidable p] [Decidable q] (a:Tst t σ H p) (b:Tst u σ H q):Tst (tAnd t u) σ H (p/\q):=fun Q z=>a _ (by
 by_cases h:p
 ·rw [decide_eq_true h,if_pos rfl]
  refine b _ ?_
  have e:decide (p/\q)=decide q:=by rw [decide_eq_decide];exact ⟨fun z=>z.2,fun z=>⟨h,z⟩⟩
  rw [<- e];exact z
 ·rw [decide_eq_false h,if_neg ku]
  have e:decide (p/\q)=false:=decide_eq_false fun z=>h z.1
  rw [<- e];exact z)
theorem YS {t u:TT} {p q:Prop} [Decidable p] [Decidable q] (a:Tst t σ H p) (b:Tst u σ H q):Tst (tOr t u) σ H (p\/q):=fun Q z=>a _ (by
 by_cases h:p
 ·rw [decide_eq_true h,if_pos rfl]
  have e:decide (p\/q)=true:=decide_eq_true (.inl h)
  rw [<- e];exact z
 ·rw [decide_eq_false h,if_neg ku]
  refine b _ ?_
  have e:decide (p\/q)=decide q:=by rw [decide_eq_decide];exact ⟨fun z=>z.resolve_left h,.inr⟩
  rw [<- e];exact z)
theorem Zy {t:TT} {p:Prop} [Decidable p] (a:Tst t σ H p):Tst (tNot t) σ H (¬ p):=fun Q z=>a _ (by
 have e:(!decide p)=decide (¬ p):=by simp
 show Q (!decide p) H
 rw [e];exact z)
theorem yU {t:TT} {a b:TS} {p:Prop} [Decidable p] (h:Tst t σ H p) (h1:p->a D σ H) (h2:¬ p->b D σ H):tIfS t a b D σ H:=h _ (by
 by_cases c:p
 ·rw [decide_eq_true c,if_pos rfl];exact h1 c
 ·rw [decide_eq_false c,if_neg ku];exact h2 c)
theorem qF {t:TT} {a b u:TS} {p:Prop} [Decidable p] (h:Tst t σ H p) (h1:p->a {D with nx:=u D} σ H) (h2:¬ p->b {D with nx:=u D} σ H):tSeq (tIfS t a b) u D σ H:=yU h h1 h2
theorem Wg {i:Nat} (h:Evl ta σ H v) (q:D.nx (σ.set i (some v)) H):tAsg ta (zW i) D σ H:=h _ q
theorem xC {i:Nat} {u:TS} (h:Evl ta σ H v) (q:u D (σ.set i (some v)) H):tSeq (tAsg ta (zW i)) u D σ H:=h _ q
theorem zba (h:Evl ta σ H v) (q:D.rt v H):tRet ta D σ H:=h _ q
theorem YT {t1 t2 t3 t4:TE} {v1 v2 v3 v4:V} {Q:VK} (h1:Evl t1 σ H v1) (h2:Evl t2 σ H v2) (h3:Evl t3 σ H v3) (h4:Evl t4 σ H v4) (q:∀ p,H p=none->Q (.ref p) (upd H p (.tup [v1,v2,v3,v4]))) :
  tTup (xJ t1 (xJ t2 (xJ t3 (xJ t4 tNil)))) σ H Q:=h1 _ (h2 _ (h3 _ (h4 _ ⟨by show 4<=sizeLine;decide,q⟩)))
theorem zS (h:D.nx σ H):zaI D σ H:=h
theorem run_seq {t u:TS} (h:t {D with nx:=u D} σ H):tSeq t u D σ H:=h
end
end _L2
namespace _L2
open PySem PySem.Spec PyProof.Rows PySem.W
inductive TyX (K:Frag) (H:Hp):V->Value->Prop where
 | of {x:V} {t:Value} (h:TyOf K H x t):TyX K H x t
 | exc {ea C:Addr} (e:H ea=some (.ext (wx ea C))) (c:qE K C):TyX K H (.ref ea) (.ref C)
noncomputable def clsV:V->Value
 | .ref a=>.ref a
 | .ty n=>.type n
 | _=>.none
noncomputable def zaK:V->Bool
 | .ref _=>true
 | .ty _=>true
 | _=>false
theorem JQ:∀ {c:V} {u:Value},zaK c=true->RelV c u->u=clsV c
 | .ref _,_,_,r=>r
 | .ty _,_,_,r=>r
section
variable {X:Cx}
theorem zbb {pins:List (Addr×Obj)} {σ:St} {H:Hp} {s:Shared} {x:V} {u t:Value} (I:Inv X pins σ H s) (rx:RelV x u) (ty:TyX X.K H x t):∃ J,KitX X.K u t J/\J s.heap/\u≠.builtin "__main__.__loader__#opaque" := by
 cases ty with
 | exc e c =>
  cases (show u=Value.ref _ from rx)
  obtain ⟨J,_⟩:=I.hok _ _ e
  exact ⟨_,JP c,J,fun z=>nomatch z⟩
 | of ty =>
  cases ty with
  | non=>cases (show u=Value.none from rx);exact ⟨_,kitx_none,True.intro,fun z=>nomatch z⟩
  | bl y=>cases (show u=Value.bool y from rx);exact ⟨_,kitx_bool,True.intro,fun z=>nomatch z⟩
  | int i=>obtain ⟨t,q⟩:=(show ∃ t,u=Value.int i t from rx);cases q;exact ⟨_,kitx_int,True.intro,fun z=>nomatch z⟩
  | str y=>obtain ⟨t,q⟩:=(show ∃ t,u=Value.str y t from rx);cases q;exact ⟨_,kitx_str,True.intro,fun z=>nomatch z⟩
  | flt y=>obtain ⟨t,q⟩:=(show ∃ t,u=Value.float y t from rx);cases q;exact ⟨_,kitx_float,True.intro,fun z=>nomatch z⟩
  | @lst a xs ea =>
   cases (show u=Value.ref a from rx)
   obtain ⟨_,_,n,_,h1⟩:=(show z8 X.prog X.w H s.heap a (.lst xs) from I.hok a _ ea)
   exact ⟨_,kitx_list,⟨_,h1,rfl⟩,fun z=>nomatch z⟩
  | @frz a ob xs ea =>
   cases (show u=Value.ref a from rx)
   obtain ⟨_,_,_,n,_,h1⟩:=(show z8 X.prog X.w H s.heap a (.frz ob (.lst xs)) from I.hok a _ ea)
   exact ⟨_,kitx_list,⟨_,h1,rfl⟩,fun z=>nomatch z⟩
  | @tup a xs ea =>
   cases (show u=Value.ref a from rx)
   obtain ⟨_,_,_,p⟩:=(show z8 X.prog X.w H s.heap a (.tup xs) from I.hok a _ ea)
   obtain ⟨o,h1,h2,_⟩:=p
   exact ⟨_,kitx_tuple,⟨o,h1,h2⟩,fun z=>nomatch z⟩
  | @dK a kvs ea =>
   cases (show u=Value.ref a from rx)
   obtain ⟨_,_,vs,_,p⟩:=(show z8 X.prog X.w H s.heap a (.dK kvs) from I.hok a _ ea)
   obtain ⟨o,es,ep,h1,h2,_⟩:=p
   exact ⟨_,kitx_dict,⟨o,h1,h2.1⟩,fun z=>nomatch z⟩
  | @dT a kvs ea =>
   cases (show u=Value.ref a from rx)
   obtain ⟨_,_,xs,_,o,es,ep,h1,h2,_⟩:=(show z8 X.prog X.w H s.heap a (.dT kvs) from I.hok a _ ea)
   exact ⟨_,kitx_dict,⟨o,h1,h2.1⟩,fun z=>nomatch z⟩
  | @ins a C dx fs ea cl ha hn htk hm =>
   cases (show u=Value.ref a from rx)
   obtain ⟨mA,O,_⟩:=za3 I.hok ea
   obtain ⟨od,J,_⟩:=O.look
   exact ⟨_,kitx_own (cl.get _) cl.hd ha hn htk hm,J,fun z=>nomatch z⟩
theorem yg:yX X (.builtin "isinstance") (fun xs H Q=>∃ x c t b,xs=[x,c]/\zaK c=true/\TyX X.K H x t/\kitOne X.K t (clsV c)=some b/\Q (.bl b) H):=by
 intro pins s σ H xs us Q I r h
 refine E_4 h fun x c t b n8=>A_5 n8 fun e9 hc ty e q=>?_;clear n8 h;subst e9
 obtain ⟨u,v,rfl,r1,r2⟩:=vals2 r
 rw [JQ hc r2]
 obtain ⟨J,Z,hJ,hx⟩:=zbb I r1 ty
 exact kia_one Z I.kIn hJ e hx fun tk=>⟨.bl b,H,I.tok tk,rfl,q⟩
end
end _L2
namespace _L2
open PySem PySem.Spec PyProof.Rows PySem.W
end _L2
namespace _L2
open PySem PySem.Spec PyProof.Rows
end _L2
namespace _L2
open PySem PySem.Spec PyProof.Rows
theorem zbc {A B:Prop} (h:if false=true then A else B):B:=by rwa [if_neg ku] at h
theorem zbd {A B:Prop} (h:if true=true then A else B):A:=by rwa [if_pos rfl] at h
noncomputable def yf (X:Cx) (Nc:List Str) (scope:Scope) (cl:List (Str×Addr)) (s:Shared) (H:Hp) (C:Addr) (fp:List Addr):Cx :=
 {X with N:=Nc,s₀:=s,H₀:=H,env:=compEnvC scope cl C X.env,outer:=X.stack,ex:=fp,fn:=fun _=>false,pn:=[],xe:=fun _ _=>False}
noncomputable def seen (ix:List (Option Nat)) (σ:St):St:=ix.map fun o=>match o with
 | some j=>(σ[j]?).getD none
 | none=>none
theorem WJ {scope:Scope} {env:Env} (h:∀ x∈scope.names,x.2=.free->∃ c,env.cells.lookup x.1=some c) :
  ∃ cl,closureFor scope env=pure cl/\(∀ x c,cl.lookup x=some c->env.cells.lookup x=some c)/\∀ x∈scope.names,x.2=.free->∃ c,cl.lookup x.1=some c:=by
 have go:∀ (ns:List (Str×NameKind)) (cs:List (Str×Addr)),(∀ x∈ns,x.2=.free->∃ c,env.cells.lookup x.1=some c)->(∀ x c,cs.lookup x=some c->env.cells.lookup x=some c) ->
   ∃ cl,(forIn ns cs fun (x:Str×NameKind) (r:List (Str×Addr))=>(if (x.2 == .free)=true then (do let c <- cellOf env x.1;pure (ForInStep.yield ((x.1,c)::r))) else pure (ForInStep.yield r):Sem _))=pure cl /\
    (∀ x c,cl.lookup x=some c->env.cells.lookup x=some c)/\(∀ x∈ns,x.2=.free->∃ c,cl.lookup x.1=some c)/\∀ x c,cs.lookup x=some c->∃ c',cl.lookup x=some c':=by
  intro ns
  induction ns with
  | nil=>intro cs _ h2;exact ⟨cs,rfl,h2,fun x hx=>(nomatch hx),fun x c e=>⟨c,e⟩⟩
  | cons p r ih =>
   obtain ⟨n,k⟩:=p
   intro cs h1 h2
   by_cases hk:k=.free
   ·subst hk
    obtain ⟨c,hc⟩:=h1 (n,.free) kh rfl
    have hcs:∀ x c',bE x ((n,c)::cs)=some c'->env.cells.lookup x=some c':=fun x c' e=>by
     rw [vJ] at e
     cases hx:x == n with
     | true=>rw [hx] at e;cases e;rw [eq_of_beq hx];exact hc
     | false=>rw [hx] at e;exact h2 x c' e
    obtain ⟨cl,e1,e2,e3,e4⟩:=ih ((n,c)::cs) (fun x hx=>h1 x (kj _ hx)) hcs
    refine ⟨cl,?_,e2,fun x hx hf=>?_,fun x c' e=>?_⟩
    ·rw [bn]
     have:cellOf env n=pure c:=by unfold cellOf;rw [hc]
     simp only [beq_self_eq_true,if_true,this,pure_bind]
     exact e1
    ·rcases kO.mp hx with rfl | hx
     ·exact e4 n c (by rw [vJ,beq_self_eq_true])
     ·exact e3 x hx hf
    ·cases hx:x == n with
     | true=>exact e4 x c (by rw [vJ,hx])
     | false=>exact e4 x c' (by rw [vJ,hx];exact e)
   ·obtain ⟨cl,e1,e2,e3,e4⟩:=ih cs (fun x hx=>h1 x (kj _ hx)) h2
    refine ⟨cl,?_,e2,fun x hx hf=>?_,e4⟩
    ·rw [bn]
     have hb:(k == NameKind.free)=false:=by simpa using hk
     simp only [hb,Bool.false_eq_true,if_false,pure_bind]
     exact e1
    ·rcases kO.mp hx with rfl | hx
     ·exact absurd hf hk
     ·exact e3 x hx hf
 obtain ⟨cl,e1,e2,e3,_⟩:=go scope.names [] h (fun x c e=>by cases e)
 refine ⟨cl,?_,e2,e3⟩
 unfold closureFor
 simp only [bind_pure]
 exact e1
noncomputable def PTs (X:Cx) (ifs:List Expr) (t:TT):Prop :=
 ∀ (pins:List (Addr×Obj)) (s:Shared) (σ:St) (H:Hp) (Q:Bool->Hp->Prop),Inv X pins σ H s->t σ H Q ->
  wpAny (model X.prog X.w) X.A (forIn ifs true fun c r=>if r=true then do let ok <- isTrue c X.env (eval c X.env);pure (ForInStep.yield ok) else pure (ForInStep.yield r)) (TP X pins σ Q) X.xe s
noncomputable def tYes:TT:=fun _ H Q=>Q true H
theorem zR {X:Cx}:PTs X [] tYes:=fun _ _ _ H _ I h=>wpAny_tests_nil ⟨H,I,h⟩
theorem Zz {X:Cx} {c:Expr} {t:TT} (h:PT X c t):PTs X [c] t:=fun pins s σ H Q I q=>wpAny_tests_one (h pins s σ H Q I q)
noncomputable def YU (wi:TI) (ix:List (Option Nat)) (g:TG) (tc:TT) (te:TE) (σ:St) (H:Hp) (R:List V->Hp->Prop):Prop:=wi σ H fun J H1=>∃ W:Nat->Nat->List V->St->Hp->Prop,(∃ m,W 0 m [] (seen ix σ) H1)/\∀ i m ys σ' H',W i m ys σ' H' ->
 (J.stop i H'/\ys.length<=sizeLine/\R ys H') \/
 (J.go i H'/\ys.length<=sizeLine/\∃ N:List V->St->Hp->Prop,(∀ ys' σ2 H2,N ys' σ2 H2->∃ m',m'<m/\W (i+1) m' ys' σ2 H2) /\
  ∀ x H2,J.yld i H' x H2->g x σ' H2 fun σ2 H3=>tc σ2 H3 fun b H4=>if b=true then te σ2 H4 fun y H5=>N (ys++[y]) σ2 H5 else N ys σ2 H4)
noncomputable def zdo (wi:TI) (ix:List (Option Nat)) (g:TG) (tc:TT) (te:TE):TE:=fun σ H Q=>YU wi ix g tc te σ H fun ys H'=>∀ l,H' l=none->Q (.ref l) (upd H' l (.lst ys))
noncomputable def j6 (scope outer:Scope) (N Nc:List Str) (ix:List (Option Nat)):Bool :=
 scope.names.all (fun y=>y.2 != .cell) && scope.kind == .function && scope.names.all (fun y=>y.2 != .local || scope.names.lookup y.1 == some .local) &&
 scope.names.all (fun y=>y.2 != .free || outer.names.lookup y.1 == some .cell || outer.names.lookup y.1 == some .free) && ix.length == Nc.length &&
 (kQ Nc.length).all fun i=>match ix[i]?,Nc[i]? with
  | some (some j),some x=>N[j]? == some x && (outer.names.lookup x == some .cell || outer.names.lookup x == some .free) && scope.names.lookup x == some .free
  | _,_=>true
theorem w9 {env:Env}:∀ {names:List (Str×NameKind)} {y:Str} {k:NameKind},(∀ z∈names,z.2≠.cell) ->
  (names.map fun (n,k)=>if (k == NameKind.free && env.scope.kind == .function && env.kindOf n == some .cell) then (n,NameKind.cell) else (n,k)).lookup y=some k->k=.cell\/k=.free->∃ z∈names,z.1=y/\z.2=.free
 | [],_,_,_,h,_=>by simp at h
 | (n,k0)::r,y,k,hc,h,hk=>by
  rw [vf] at h
  have h:bE y ((if (k0 == NameKind.free && env.scope.kind == .function && env.kindOf n == some .cell)=true then (n,NameKind.cell) else (n,k0))::_)=some k:=h
  cases hx:y == n with
  | true =>
   by_cases hb:(k0 == NameKind.free && env.scope.kind == .function && env.kindOf n == some .cell)=true
   ·simp only [vj,beq_iff_eq] at hb
    exact ⟨(n,k0),kh,(eq_of_beq hx).symm,hb.1.1⟩
   ·rw [if_neg hb,vJ,hx] at h
    cases h
    rcases hk with rfl | rfl
    ·exact absurd rfl (hc (n,.cell) kh)
    ·exact ⟨(n,.free),kh,(eq_of_beq hx).symm,rfl⟩
  | false =>
   have h':bE y (r.map fun (n,k)=>if (k == NameKind.free && env.scope.kind == .function && env.kindOf n == some .cell) then (n,NameKind.cell) else (n,k))=some k:=by
    by_cases hb:(k0 == NameKind.free && env.scope.kind == .function && env.kindOf n == some .cell)=true
    ·rw [if_pos hb,vJ,hx] at h;exact h
    ·rw [if_neg hb,vJ,hx] at h;exact h
   obtain ⟨z,hz,e1,e2⟩:=w9 (fun z hz=>hc z (kj _ hz)) h' hk
   exact ⟨z,kj _ hz,e1,e2⟩
theorem wg {env:Env}:∀ {names:List (Str×NameKind)} {y:Str},names.lookup y=some .free ->
  (names.map fun (n,k)=>if (k == NameKind.free && env.scope.kind == .function && env.kindOf n == some .cell) then (n,NameKind.cell) else (n,k)).lookup y=some .cell \/
  (names.map fun (n,k)=>if (k == NameKind.free && env.scope.kind == .function && env.kindOf n == some .cell) then (n,NameKind.cell) else (n,k)).lookup y=some .free
 | [],_,h=>by simp at h
 | (n,k0)::r,y,h=>by
  rw [vf]
  show bE y ((if (k0 == NameKind.free && env.scope.kind == .function && env.kindOf n == some .cell)=true then (n,NameKind.cell) else (n,k0))::_)=_\/bE y ((if (k0 == NameKind.free && env.scope.kind == .function && env.kindOf n == some .cell)=true then (n,NameKind.cell) else (n,k0))::_)=_
  cases hx:y == n with
  | true =>
   rw [vJ,hx] at h
   cases h
   by_cases hb:((NameKind.free == NameKind.free) && env.scope.kind == .function && env.kindOf n == some .cell)=true
   ·rw [if_pos hb,vJ,hx];exact .inl rfl
   ·rw [if_neg hb,vJ,hx];exact .inr rfl
  | false =>
   rw [vJ,hx] at h
   by_cases hb:(k0 == NameKind.free && env.scope.kind == .function && env.kindOf n == some .cell)=true
   ·rw [if_pos hb,vJ,hx];exact wg h
   ·rw [if_neg hb,vJ,hx];exact wg h
theorem Z3 {X:Cx} {elt tg iter:Expr} {ifs:List Expr} {scope:Scope} {pos ipos:Pos} {Nc:List Str} {ix:List (Option Nat)} {wi:TI} {g:TG} {tc:TT} {te:TE} {use:Option (Value->Sem Unit)} {Q':Value->Shared->Prop} {R:List V->Hp->Prop}
  {pins:List (Addr×Obj)} {σ:St} {H:Hp} {s:Shared} (hc:X.calm=true)
  (hcell:∀ y∈scope.names,y.2≠.cell) (hkind:scope.kind=.function) (hnames:∀ y∈scope.names,y.2=.local->scope.names.lookup y.1=some .local)
  (hfree:∀ y∈scope.names,y.2=.free->X.env.kindOf y.1=some .cell\/X.env.kindOf y.1=some .free) (hvis:∀ y k,(relabel scope X.env).names.lookup y=some k->k=.cell\/k=.free->∃ z∈scope.names,z.1=y/\z.2=.free)
  (hlen:ix.length=Nc.length) (hix:∀ (i:Nat) (x:Str) (j:Nat),Nc[i]?=some x->ix[i]?=some (some j)->X.N[j]?=some x/\Vis X.env.scope x/\(X.env.kindOf x=some .local->False)/\((relabel scope X.env).names.lookup x=some .cell\/(relabel scope X.env).names.lookup x=some .free))
  (hi:PI X tg iter wi) (hg:∀ cl s H C fp,PG (yf X Nc scope cl s H C fp) tg g) (hifs:∀ cl s H C fp,PTs (yf X Nc scope cl s H C fp) ifs tc) (he:∀ cl s H C fp,PE (yf X Nc scope cl s H C fp) elt te)
  (hs:∀ x,foldedSetIterable iter X.env x=pure x) (I:Inv X pins σ H s) (h:YU wi ix g tc te σ H R)
  (fin:∀ (D C:Addr) (oC:Obj) (ys:List V) (H3:Hp) (s4:Shared),(∃ m,∀ h':Heap,h'.get? C=some oC->h'.Ns C m)->H3 D=none->(upd H3 D (.lst ys)) C=none->j5 X pins C->Inv X (pins++[(C,oC)]) σ (upd H3 D (.lst ys)) s4->R ys H3 ->
   compPost (model X.prog X.w) X.A X.xe use Q' (.ref D) C (.ok .next) s4) :
  wpAny (model X.prog X.w) X.A (comprehension (.ListComp elt [⟨tg,iter,ifs,0⟩] scope pos) scope X.env ipos (newList []) false (eval iter X.env) use) Q' X.xe s:=by
 obtain ⟨cl,hclos,clX,clF⟩:=WJ (scope:=scope) (env:=X.env) fun x hx hf=>I.ok.has x.1 (hfree x hx hf)
 refine wpAny_comprehension_free (use:=use) rfl hs hclos hkind hnames (thn (hi pins s σ H _ I h) fun v s1 h1=>thn h1 fun itv s2 h2=>?_)
 obtain ⟨it,fp,tn,J,H1,rfl,I1,T,t0,hfp,W,⟨m0,w0⟩,turn⟩:=h2
 refine wpAny_newObj_type (wpAny_newFunctionEnv hcell (by intro y hy;simp at hy) (fun h₁ hns₁ hsb₁=>?_) hkind)
 dsimp only at hns₁ hsb₁ ⊢
 generalize hH2:s2.heap.push {cls:=.type "list",dict:=none,data:=.seq ([]:List Value).toArray}=H2 at hns₁ hsb₁ ⊢
 have hC:H2.objs.size=s2.heap.objs.size+1:=by rw [<- hH2,Heap.size_push]
 have hDC:s2.heap.objs.size≠H2.objs.size:=by rw [hC];exact vt (um _)
 have old:∀ b o,s2.heap.get? b=some o->h₁.get? b=some o:=fun b o e=>by
  have hb:=Heap.lt_size e
  exact hsb₁.extBut b o (by rw [hC];exact vt (uX hb)) (Heap.get?_push_of_some _ (hH2 ▸ Heap.get?_push_of_some _ e))
 obtain ⟨e0,hacc⟩ : ∃ e0,h₁.get? s2.heap.objs.size=some (seqObj "list" ([]:List Value).toArray e0):=⟨_,hsb₁.extBut _ _ hDC (Heap.get?_push_of_some _ (hH2 ▸ Heap.get?_push_size _ rfl))⟩
 generalize hCC:H2.objs.size=C at hns₁ hsb₁ hDC hC ⊢
 generalize hDD:s2.heap.objs.size=D at hDC hC hacc ⊢
 have hDle:s2.heap.objs.size<=D:=uD hDD
 have hCle:s2.heap.objs.size<=C:=by rw [hC,<- hDD];exact ur _
 have yD:=I1.young hDle
 have nD:H1 D=none:=I1.hok.fresh hDle
 have nC:H1 C=none:=I1.hok.fresh hCle
 have fpLt:∀ b∈fp,b<s2.heap.objs.size:=fun b hb=>by
  obtain ⟨o,e,_⟩:=T.obj 0 _ t0 b hb
  exact Heap.lt_size e
 have fpD:D∉fp:=fun hm=>absurd (fpLt _ hm) (bb.mpr hDle)
 have fpC:C∉fp:=fun hm=>absurd (fpLt _ hm) (bb.mpr hCle)
 have frN:∀ b∈frs X.stack,b<s2.heap.objs.size:=fun b hb=>by
  obtain ⟨_,o,ho,_⟩:=I1.stack.mem hb
  exact Heap.lt_size ho
 have frFp:∀ b∈fp,b∉frs X.stack:=fun b hb hm=>by
  rcases kO.mp (I1.stkSub b hm) with z | z
  ·exact (hfp b hb).2.1 z
  ·exact (hfp b hb).2.2.1 z
 -- the block's context
 have ok:(yf X Nc scope cl s2 H1 C fp).Ok :=
  ⟨I.ok.mod,(by show (relabel scope X.env).kind=_;exact hkind),I.ok.glob,I.ok.blt,hCle,(fun x y c e1 e2=>I.ok.inj x y c (clX x c e1) (clX y c e2)),
   (fun x hx=>by
    obtain ⟨z,hz,rfl,hf⟩ : ∃ z∈scope.names,z.1=x/\z.2=.free:=by
     rcases hx with hx | hx
     ·exact hvis x _ hx (.inl rfl)
     ·exact hvis x _ hx (.inr rfl)
    exact clF z hz hf),(fun x c z=>nomatch z),I.ok.hd,I.ok.frames,.inl rfl,
   (fun b hb=>⟨fun z=>fpC ((show b=C from z) ▸ hb),fun x c e=>(hfp b hb).2.2.2.2.1 x c (clX x c e)⟩),(fun b o e=>I1.bs b o e),km I.ok.bsz I1.sz,
   (fun b o e hb=>by
    rcases (hfp b hb).2.2.2.1 with z | z
    ·exact I.ok.noex b o e z
    ·have:=Heap.lt_size (I.ok.bs b o e).1
     exact absurd this (bb.mpr z)),
   frFp,I1.stack,I1.stkFree⟩
 have start:∀ tk,Inv (yf X Nc scope cl s2 H1 C fp) [(D,seqObj "list" ([]:List Value).toArray e0)] (seen ix σ) H1 {s2 with heap:=h₁,toks:=tk}:=fun tk=>by
  refine ⟨ok,rfl,I1.bare,Un.kept old,⟨_,hns₁,fun i x v e1 e2 e3=>?_⟩,fun x c e=>?_,nC,fun x c e=>I1.freeC x c (clX x c e),fun p hp=>?_,I1.hok.kept old,by show (seen ix σ).length=Nc.length;unfold seen;rw [ka];exact hlen⟩
  ·unfold seen at e2
   rw [kR] at e2
   cases ei:ix[i]? with
   | none=>rw [ei] at e2;cases e2
   | some o =>
    rw [ei] at e2
    cases o with
    | none=>cases e2
    | some j =>
     have e2':(σ[j]?).getD none=some v:=Option.some.inj e2
     have e2'':σ[j]?=some (some v):=by
      cases ej:σ[j]? with
      | none=>rw [ej] at e2';cases e2'
      | some z=>rw [ej] at e2';exact congrArg some e2'
     obtain ⟨n1,n2,n3,n4⟩:=hix i x j e1 ei
     obtain ⟨m,hm,hl⟩:=I1.loc
     obtain ⟨u,ru,lk⟩:=hl j x v n1 e2'' n2
     refine ⟨u,ru,.inr ⟨n4,?_⟩⟩
     rcases lk with ⟨k,_⟩ | ⟨_,c,ec,hc'⟩
     ·exact (n3 k).elim
     ·obtain ⟨z,hz,rfl,hf⟩ : ∃ z∈scope.names,z.1=x/\z.2=.free:=by
       rcases n4 with hx | hx
       ·exact hvis x _ hx (.inl rfl)
       ·exact hvis x _ hx (.inr rfl)
      obtain ⟨c',ec'⟩:=clF z hz hf
      have:c'=c:=Option.some.inj ((clX _ _ ec').symm.trans ec)
      subst this
      obtain ⟨o,ho,hd⟩:=hc'
      exact ⟨c',ec',o,old _ o ho,hd⟩
  ·obtain ⟨v,o,ho,hd⟩:=I1.cell x c (clX x c e)
   exact ⟨v,o,old _ o ho,hd⟩
  ·have hp':p=(D,seqObj "list" ([]:List Value).toArray e0):=by simpa [yf] using hp
   subst hp'
   exact ⟨hacc,nD,hDC,fun hm=>absurd (frN _ hm) (bb.mpr hDle),fun v z=>by cases z⟩
 have stat:∀ {ks:List Value} {e:Nat} {H':Hp},(∀ b∈fp,H' b=none)->∀ b∈fp,FpOk (yf X Nc scope cl s2 H1 C fp) [(D,seqObj "list" ks.toArray e)] H' b:=fun {ks e H'} hn b hb =>
  ⟨hn b hb,fun z=>fpC ((show b=C from z) ▸ hb),frFp b hb,.inl hb,fun x c ec=>(hfp b hb).2.2.2.2.1 x c (clX x c ec),fun p hp z=>by
   have hp':p=(D,seqObj "list" ks.toArray e):=by simpa [yf] using hp
   subst hp'
   exact fpD ((show b=D from z.symm) ▸ hb)⟩
 have loop:∀ tk,codeAny (model X.prog X.w) X.A (.compLoop (.ListComp elt [⟨tg,iter,ifs,0⟩] scope pos) 0 (.ref it) (.ref D) (compEnvC scope cl C X.env)) (compPost (model X.prog X.w) X.A X.xe use Q' (.ref D) C) {s2 with heap:=h₁,toks:=tk}:=fun tk=>by
  refine codeAny_loop rfl (fun n s'=>∃ i ys ks e σ' H',Inv (yf X Nc scope cl s2 H1 C fp) [(D,seqObj "list" ks.toArray e)] σ' H' s'/\Vals ys ks/\tn i s'.heap/\(∀ b∈fp,H' b=none)/\W i n ys σ' H') ?_ m0
   ⟨0,[],[],e0,_,H1,start tk,.nil,T.keep _ _ _ t0 fun b _ o e=>old b o e,fun b hb=>(hfp b hb).1,w0⟩
  rintro n s3 ⟨i,ys,ks,e,σ3,H3,I3,rv,st3,fr3,w3⟩
  show wpAny _ X.A ((compTurn (.ListComp elt [⟨tg,iter,ifs,0⟩] scope pos) 0 (.ref it) (.ref D) (compEnvC scope cl C X.env)).onRaise (fun x=>do noteFrame x (compEnvC scope cl C X.env);theTreesLotGoes x)) _ _ s3
  refine wpAny_noted ?_
  rw [compTurn_list]
  refine wpAny_bind (wpAny_standAt ?_)
  have lk:=rv.length
  rcases turn i n ys σ3 H3 w3 with ⟨stop,sz,q⟩ | ⟨go,sz,N,hN,step⟩
  ·refine wpAny_bind (thn (T.done (yf X Nc scope cl s2 H1 C fp) rfl rfl rfl hc i _ s3 σ3 H3 _ I3 (stat fr3) st3 stop) fun r s4 h9=>?_)
   obtain ⟨hr,I4⟩:=h9
   subst hr
   refine wpAny_pure ?_
   obtain ⟨m,⟨oC,esC,epC,hoC,hdC,rC⟩,_⟩:=I4.loc
   have hoC:s4.heap.get? C=some oC:=hoC
   have pD:=I4.pin (D,seqObj "list" ks.toArray e) (kU _ kh)
   have nC4:H3 C=none:=I4.free
   have yC:=I1.young hCle
   have I5:Inv X pins σ H3 s4:=I1.call' (ch:=fp) I4.os (show Un (frs X.stack) fp H1 H3 s2.heap s4.heap from I4.base) I4.hok I4.bare fun b hb=>⟨(hfp b hb).2.2.2.1,(hfp b hb).2.1,(hfp b hb).2.2.2.2.1,(hfp b hb).2.2.2.2.2⟩
   have I6:=I5.track (p:=D) (o:=.lst ys) pD.2.1 (Heap.get?_none_of_le (km I1.sz hDle)) yD.lo yD.ce yD.pi ⟨sz,ks,e,rv,pD.1⟩
   have nC6:(upd H3 D (.lst ys)) C=none:=by rw [zy hDC.symm];exact nC4
   have I7:Inv X (pins++[(C,oC)]) σ (upd H3 D (.lst ys)) s4:=I6.pins_of fun p hp=>by
    rcases ve.mp hp with hp | hp
    ·exact I6.pin p (kU _ hp)
    ·obtain rfl:=kq.mp hp
     exact ⟨hoC,nC6,yC.lo,yC.fs,fun v z=>by rw [hdC] at z;cases z⟩
   exact fin D C oC ys H3 s4 ⟨m,fun h' e'=>⟨oC,esC,epC,e',hdC,rC⟩⟩ pD.2.1 nC6 yC I7 q
  ·refine wpAny_bind (thn (T.item (yf X Nc scope cl s2 H1 C fp) rfl rfl rfl hc i _ s3 σ3 H3 _ I3 (stat fr3) st3 go) fun r s4 h9=>?_)
   obtain ⟨u,hr,h4⟩:=h9
   subst hr
   refine wpAny_bind (thn h4 fun _ s5 h9=>?_)
   obtain ⟨x,H5,I5,r5,y5,st5,fr5⟩:=h9
   have I5':=I5.pinned (stat fr5) (T.obj _ _ st5)
   refine wpAny_bind (wpAny_mono (hg cl s2 H1 C fp _ s5 σ3 H5 x u _ I5' r5 (step x H5 y5)) (fun _ s6 ⟨σ6,H6,I6,q6⟩=>?_) fun _ _ z=>False.elim z)
   refine wpAny_bind (wpAny_mono (hifs cl s2 H1 C fp _ s6 σ6 H6 _ I6 q6) (fun ok s7 ⟨H7,I7,q7⟩=>?_) fun _ _ z=>False.elim z)
   have fin:∀ {ks':List Value} {e':Nat} {ys':List V} {σ8:St} {H8:Hp} {s8:Shared},Inv (yf X Nc scope cl s2 H1 C fp) ([(D,seqObj "list" ks'.toArray e')]++xM fp s5.heap) σ8 H8 s8->Vals ys' ks'->N ys' σ8 H8 ->
     ∃ m,m<n/\∃ i ys ks e σ' H',Inv (yf X Nc scope cl s2 H1 C fp) [(D,seqObj "list" ks.toArray e)] σ' H' s8/\Vals ys ks/\tn i s8.heap/\(∀ b∈fp,H' b=none)/\W i m ys σ' H':=fun {ks' e' ys' σ8 H8 s8} I8 rv' n8=>by
    obtain ⟨m',hm,w8⟩:=hN _ σ8 H8 n8
    refine ⟨m',hm,i+1,ys',ks',e',σ8,H8,I8.unpinned,rv',T.keep _ _ _ st5 fun b hb o eo=>(I8.pin (b,o) (kU _ (kU _ (xT hb eo)))).1,fun b hb=>?_,w8⟩
    obtain ⟨o,eo,d⟩:=T.obj _ _ st5 b hb
    exact (I8.pin (b,o) (kU _ (kU _ (xT hb eo)))).2.1
   cases ok with
   | false =>
    have q7:=zbc q7
    exact wpAny_pure ⟨rfl,fin I7 rv q7⟩
   | true =>
    have q7:=zbd q7
    refine wpAny_bind (wpAny_bind (wpAny_mono (he cl s2 H1 C fp _ s7 σ6 H7 _ I7 q7) (fun y s8 ⟨vy,H8,I8,ry,n8⟩=>?_) fun _ _ z=>False.elim z))
    have pD:=I8.pin (D,seqObj "list" ks.toArray e) (kU _ (vD _ kh))
    refine wpAny_bind (wpAny_list_append_plain (hsz:=by rw [kt,<- lk];exact sz) ⟨e,pD.1⟩ fun h9 hl9 hs9=>?_)
    refine wpAny_pure (wpAny_pure ⟨rfl,?_⟩)
    obtain ⟨e9,hl9⟩:=hl9
    have ea:ks.toArray.push y=(ks++[y]).toArray:=by simp
    rw [ea] at hl9
    refine fin (ks':=ks++[y]) (e':=e9) (ys':=ys++[vy]) ?_ (Vals.append rv (.cons ry .nil)) n8
    have ne9:∀ p∈xM fp s5.heap,p.1≠D:=fun p hp z=>fpD (z ▸ (ZS hp).1)
    have yDb:j5 (yf X Nc scope cl s2 H1 C fp) (xM fp s5.heap) D:=⟨hDC,fun hm=>absurd (frN _ hm) (bb.mpr hDle),.inr hDle,fun x c ec=>yD.ce x c (clX x c ec),fun p hp=>ne9 p (by simpa [yf] using hp)⟩
    have I8a:Inv (yf X Nc scope cl s2 H1 C fp) (xM fp s5.heap) σ6 H8 s8:=I8.pins_of fun p hp=>I8.pin p (kU _ (kU _ hp))
    have I8b:=I8a.record yDb pD.2.1 hs9
    exact I8b.pins_of fun p hp=>by
     rcases ve.mp hp with hp | hp
     ·obtain rfl:=kq.mp hp
      exact ⟨hl9,pD.2.1,yDb.lo,yDb.fs,fun v z=>by cases z⟩
     ·exact I8b.pin p (kU _ hp)
 exact codeAny_compStart_list (loop _) (T.self _ 0 _ _ _ (T.keep _ _ _ t0 fun b _ o e=>old b o e) (loop _))
theorem j7 {X:Cx} {scope:Scope} {Nc:List Str} {ix:List (Option Nat)} (h:j6 scope X.env.scope X.N Nc ix=true):(∀ y∈scope.names,y.2≠.cell)/\scope.kind=.function/\(∀ y∈scope.names,y.2=.local->scope.names.lookup y.1=some .local) /\
  (∀ y∈scope.names,y.2=.free->X.env.kindOf y.1=some .cell\/X.env.kindOf y.1=some .free)/\ix.length=Nc.length /\
  ∀ (i:Nat) (x:Str) (j:Nat),Nc[i]?=some x->ix[i]?=some (some j)->X.N[j]?=some x/\Vis X.env.scope x/\(X.env.kindOf x=some .local->False)/\((relabel scope X.env).names.lookup x=some .cell\/(relabel scope X.env).names.lookup x=some .free):=by
 unfold j6 at h
 simp only [vj,beq_iff_eq,vK,uN,bne_iff_ne] at h
 obtain ⟨⟨⟨⟨⟨h1,h2⟩,h3⟩,h4⟩,h5⟩,h6⟩:=h
 refine ⟨h1,h2,fun y hy e=>?_,fun y hy e=>?_,h5,fun i x j e1 e2=>?_⟩
 ·rcases h3 y hy with z | z
  ·exact absurd e z
  ·exact z
 ·rcases h4 y hy with (z | z) | z
  ·exact absurd e z
  ·exact .inl z
  ·exact .inr z
 ·have q:=h6 i (vz.mpr (kf.mp e1).1)
  rw [e1,e2] at q
  simp only [vj,beq_iff_eq,uN] at q
  obtain ⟨⟨q1,q2⟩,q3⟩:=q
  refine ⟨q1,?_,fun z=>?_,wg q3⟩
  ·rcases q2 with z | z
   ·exact .inr (.inl z)
   ·exact .inr (.inr z)
  ·have z':X.env.scope.names.lookup x=some .local:=z
   rcases q2 with y | y
   ·rw [y] at z';cases z'
   ·rw [y] at z';cases z'
theorem zV {X:Cx} {elt tg iter:Expr} {ifs:List Expr} {scope:Scope} {pos:Pos} {Nc:List Str} {ix:List (Option Nat)} {wi:TI} {g:TG} {tc:TT} {te:TE} (hc:X.calm=true) (hok:j6 scope X.env.scope X.N Nc ix=true)
  (hi:PI X tg iter wi) (hg:∀ cl s H C fp,PG (yf X Nc scope cl s H C fp) tg g) (hifs:∀ cl s H C fp,PTs (yf X Nc scope cl s H C fp) ifs tc) (he:∀ cl s H C fp,PE (yf X Nc scope cl s H C fp) elt te)
  (hs:∀ x,foldedSetIterable iter X.env x=pure x:=by intro _;rfl):PE X (.ListComp elt [⟨tg,iter,ifs,0⟩] scope pos) (zdo wi ix g tc te):=by
 intro pins s σ H Q I h
 obtain ⟨h1,h2,h3,h4,h5,h6⟩:=j7 hok
 rw [eval_ListComp]
 refine Z3 (Q':=EP X pins σ Q) hc h1 h2 h3 h4 (fun y k e hk=>w9 h1 e hk) h5 h6 hi hg hifs he hs I h fun D C oC ys H3 s4 hN nD nC yC I4 q=>?_
 have pC:=I4.pin (C,oC) (kU _ (kU _ kh))
 obtain ⟨m,hm⟩:=hN
 exact ⟨m,hm _ pC.1,fun h' hsb=>⟨.ref D,_,I4.unpinned.record yC nC hsb,rfl,q D nD⟩⟩
noncomputable def zdp (i:Nat) (wi:TI) (ix:List (Option Nat)) (g:TG) (tc:TT) (te:TE):TS:=fun D σ H=>YU wi ix g tc te σ H fun ys H'=>∀ l,H' l=none->D.nx (σ.set i (some (.ref l))) (upd H' l (.lst ys))
theorem wH {X:Cx} {i:Nat} {y:Str} {elt tg iter:Expr} {ifs:List Expr} {scope:Scope} {pos spos py:Pos} {Nc:List Str} {ix:List (Option Nat)} {wi:TI} {g:TG} {tc:TT} {te:TE} (hN:X.N.Nodup) (hi':X.N[i]?=some y) (hx:Loc X.env.scope y) (hc:X.calm=true) (hok:j6 scope X.env.scope X.N Nc ix=true)
  (hi:PI X tg iter wi) (hg:∀ cl s H C fp,PG (yf X Nc scope cl s H C fp) tg g) (hifs:∀ cl s H C fp,PTs (yf X Nc scope cl s H C fp) ifs tc) (he:∀ cl s H C fp,PE (yf X Nc scope cl s H C fp) elt te)
  (hs:∀ x,foldedSetIterable iter X.env x=pure x:=by intro _;rfl) (hsw:swapsWith (.ListComp elt [⟨tg,iter,ifs,0⟩] scope pos) (some (.Name y py)) spos.line X.env=pure true:=by rfl)
  (hf:X.fn y=true\/X.env.scope.names.lookup y=some .local:=by first | exact .inl rfl | exact .inr rfl | assumption):PS X (.Assign [.Name y py] (.ListComp elt [⟨tg,iter,ifs,0⟩] scope pos) spos) (zdp i wi ix g tc te):=by
 intro pins s σ H D I h
 obtain ⟨h1,h2,h3,h4,h5,h6⟩:=j7 hok
 rw [exec_Assign_Name_used _ _ _ _ hsw]
 refine wpAny_bind (wpAny_standAt (wpAny_bind ?_))
 show wpAny _ X.A (do let _ <- comprehension (.ListComp elt [⟨tg,iter,ifs,0⟩] scope pos) scope X.env _ (newList []) false (eval iter X.env) (some (assign (.Name y py) X.env))) _ _ s
 refine wpAny_bind (wpAny_mono (Z3 (Q':=fun _ s'=>SP X pins D .next s') hc h1 h2 h3 h4 (fun y k e hk=>w9 h1 e hk) h5 h6 hi hg hifs he hs I h fun Da C oC ys H3 s4 hN' nD nC yC I4 q=>?_)
  (fun _ s' hq=>wpAny_pure (wpAny_pure hq)) fun _ _ e=>e)
 show wpAny _ _ (assign (.Name y py) X.env (.ref Da)) _ _ s4
 refine thn (zn (i:=i) hN hi' hx hf _ s4 σ _ (.ref Da) (.ref Da) (fun σ' H'=>σ'=σ.set i (some (.ref Da))/\H'=upd H3 Da (.lst ys)) I4 rfl ⟨rfl,rfl⟩) fun _ s5 h9=>?_
 obtain ⟨σ5,H5,I5,e1,e2⟩:=h9
 subst e1 e2
 have pC:=I5.pin (C,oC) (kU _ (kU _ kh))
 obtain ⟨m,hm⟩:=hN'
 exact ⟨m,hm _ pC.1,fun h' hsb=>⟨_,_,I5.unpinned.record yC nC hsb,q Da nD⟩⟩
end _L2
namespace _L2
open PySem PySem.Spec PyProof.Rows
section
variable {X:Cx}
theorem wj {pins:List (Addr×Obj)} {σ:St} {H:Hp} {s:Shared} {a:Addr} {its:List Value} (I:Inv X pins σ H s) (tp:s.heap.IsList a its.toArray) (hc:X.calm=true) {Q:Value->Shared->Prop}
  (q:∀ s2:Shared,s2={s with heap:=s.heap.push {cls:=.type "list_iterator",data:=.fields #[.ref a,.int 0 0]}}->Walks X.prog X.w X.A.in1 s.heap.objs.size [s.heap.objs.size,a] [s.heap.objs.size] its.toArray.size (fun i v=>its.toArray[i]?=some v) (fun i h=>h.IsListIter s.heap.objs.size a i/\h.IsList a its.toArray) ->
   (s2.heap.IsListIter s.heap.objs.size a 0/\s2.heap.IsList a its.toArray)->(∀ b∈[s.heap.objs.size,a],b<s2.heap.objs.size)->Q (.ref s.heap.objs.size) s2):wpAny (model X.prog X.w) X.A.in1 (pyIter (.ref a)) Q X.xe s:=by
 have hlt:a<s.heap.objs.size:=by obtain ⟨_,e,_⟩:=tp;exact Heap.lt_size e
 refine wpAny_pyIter_list tp (q _ rfl (Walks.list (by exact I.ok.hd hc) _ _ (vt hlt) _) ⟨⟨_,Heap.get?_push_size _ rfl,rfl,rfl⟩,?_⟩ fun b hb=>?_)
 ·obtain ⟨o,e,r⟩:=tp
  exact ⟨o,Heap.get?_push_of_some _ e,r⟩
 ·show b<(s.heap.push _).objs.size
  rw [Heap.size_push]
  rcases kO.mp hb with rfl | hb
  ·exact um _
  ·rw [kq.mp hb]
   exact uX hlt
theorem YV {bs:List Bool} {its:List Value} (r:Vals (bs.map V.bl) its):∀ (i:Nat) (v:Value),its.toArray[i]?=some v->v=Value.bool (bs.getD i false):=by
 intro i v e
 rw [u6] at e
 have hl:=r.length
 have hi:i<its.length:=(kf.mp e).1
 rw [ka] at hl
 have hx:(bs.map V.bl)[i]?=some (.bl (bs.getD i false)):=by
  rw [kR,kb (by omega)]
  simp [List.getD,show i<bs.length by omega]
 obtain ⟨u,hu,ru⟩:=r.get hx
 rw [e] at hu
 cases hu
 exact ru
theorem all_range (bs:List Bool):(kQ bs.length).all (fun i=>bs.getD i false)=bs.all id:=by
 rw [vQ,vK,vK]
 constructor
 ·intro h b hb
  obtain ⟨i,hi,rfl⟩:=vO.mp hb
  have:=h i (vz.mpr hi)
  rwa [getD_at hi] at this
 ·intro h i hi
  have hi:=vz.mp hi
  rw [getD_at hi]
  exact h _ (vB hi)
theorem any_range (bs:List Bool):(kQ bs.length).any (fun i=>bs.getD i false)=bs.any id:=by
 rw [vQ,bc,bc]
 constructor
 ·rintro ⟨i,hi,h⟩
  have hi:=vz.mp hi
  rw [getD_at hi] at h
  exact ⟨_,vB hi,h⟩
 ·rintro ⟨b,hb,h⟩
  obtain ⟨i,hi,rfl⟩:=vO.mp hb
  exact ⟨i,vz.mpr hi,by rw [getD_at hi];exact h⟩
theorem y6 (hc:X.calm=true):yX X (.builtin "all") (fun xs H Q=>∃ (a:Addr) (bs:List Bool),xs=[.ref a]/\SqL X.K H a (bs.map V.bl)/\Q (.bl (bs.all id)) H):=by
 intro pins s σ H xs us Q I r h
 refine E_2 h fun a bs n8=>A_3 n8 fun e9 hq q=>?_;clear n8 h;subst e9
 obtain ⟨u,rfl,ru⟩:=vals1 r
 cases ru
 obtain ⟨its,rv,tp,hz⟩:=I.list hq
 have hl:=rv.length
 rw [ka] at hl
 refine call_all_walk (wj I tp.isList hc fun s2 e W st hfp=>?_)
 subst e
 refine ⟨_,_,_,_,_,_,fun i=>bs.getD i false,rfl,W,st,fun i v A' Q' E' hP hQ=>?_,fun h' tk hk=>?_⟩
 ·have:=YV rv i v hP
  subst this
  exact wpAny_truthy_bool hQ
 ·refine ⟨.bl _,H,I.kept (t':=tk) fun b o e=>hk b o (fun m=>?_) (Heap.get?_push_of_some _ e),?_,q⟩
  ·have:=Heap.lt_size e
   rw [kq.mp m] at this
   exact vL _ this
  ·show Value.bool _=Value.bool _
   rw [kt,<- hl,all_range]
theorem Z4 (hc:X.calm=true):yX X (.builtin "any") (fun xs H Q=>∃ (a:Addr) (bs:List Bool),xs=[.ref a]/\SqL X.K H a (bs.map V.bl)/\Q (.bl (bs.any id)) H):=by
 intro pins s σ H xs us Q I r h
 refine E_2 h fun a bs n8=>A_3 n8 fun e9 hq q=>?_;clear n8 h;subst e9
 obtain ⟨u,rfl,ru⟩:=vals1 r
 cases ru
 obtain ⟨its,rv,tp,hz⟩:=I.list hq
 have hl:=rv.length
 rw [ka] at hl
 refine call_any_walk (wj I tp.isList hc fun s2 e W st hfp=>?_)
 subst e
 refine ⟨_,_,_,_,_,_,fun i=>bs.getD i false,rfl,W,st,fun i v A' Q' E' hP hQ=>?_,fun h' tk hk=>?_⟩
 ·have:=YV rv i v hP
  subst this
  exact wpAny_truthy_bool hQ
 ·refine ⟨.bl _,H,I.kept (t':=tk) fun b o e=>hk b o (fun m=>?_) (Heap.get?_push_of_some _ e),?_,q⟩
  ·have:=Heap.lt_size e
   rw [kq.mp m] at this
   exact vL _ this
  ·show Value.bool _=Value.bool _
   rw [kt,<- hl,any_range]
theorem QF (hc:X.calm=true):yX X (.builtin "min") (fun xs H Q=>∃ (a:Addr) (ns:List Int),xs=[.ref a]/\SqL X.K H a (ns.map V.int)/\0<ns.length/\∀ M,M∈ns->(∀ z∈ns,M<=z)->Q (.int M) H):=by
 intro pins s σ H xs us Q I r h
 refine E_2 h fun a ns n8=>A_4 n8 fun e9 hq hn q=>?_;clear n8 h;subst e9
 obtain ⟨u,rfl,ru⟩:=vals1 r
 cases ru
 obtain ⟨its,rv,tp,hz⟩:=I.list hq
 have hl:=rv.length
 rw [ka] at hl
 refine call_min_walk (wj I tp.isList hc fun s2 e W st hfp=>?_)
 subst e
 refine I_7 _ _ _ _ _ _ _ ⟨rfl,W,st,hfp,by simp;omega,CmpOf.ints_lt (fun i=>ns.getD i 0) (xX rv),fun v h' tk hP hk=>?_⟩
 obtain ⟨t,rfl⟩:=xX rv _ _ hP
 obtain ⟨b1,b2⟩:=argBest_lt (fun i=>ns.getD i 0) (its.toArray.size-1)
 rw [kt] at b1 b2
 refine ⟨.int _,H,I.kept (t':=tk) fun b o e=>hk b o (fun m=>?_) (Heap.get?_push_of_some _ e),⟨t,rfl⟩,q _ (jD ?_) fun z hz=>?_⟩
 ·have:=Heap.lt_size e
  rw [kq.mp m] at this
  exact vL _ this
 ·rw [kt];omega
 ·obtain ⟨j,hj,e⟩:=YQ hz
  rw [<- e,kt]
  exact b2 j (by omega)
theorem QG (hc:X.calm=true):yX X (.builtin "max") (fun xs H Q=>∃ (a:Addr) (ns:List Int),xs=[.ref a]/\SqL X.K H a (ns.map V.int)/\0<ns.length/\∀ M,M∈ns->(∀ z∈ns,z<=M)->Q (.int M) H):=by
 intro pins s σ H xs us Q I r h
 refine E_2 h fun a ns n8=>A_4 n8 fun e9 hq hn q=>?_;clear n8 h;subst e9
 obtain ⟨u,rfl,ru⟩:=vals1 r
 cases ru
 obtain ⟨its,rv,tp,hz⟩:=I.list hq
 have hl:=rv.length
 rw [ka] at hl
 refine call_max_walk (wj I tp.isList hc fun s2 e W st hfp=>?_)
 subst e
 refine I_7 _ _ _ _ _ _ _ ⟨rfl,W,st,hfp,by simp;omega,CmpOf.ints_gt (fun i=>ns.getD i 0) (xX rv),fun v h' tk hP hk=>?_⟩
 obtain ⟨t,rfl⟩:=xX rv _ _ hP
 obtain ⟨b1,b2⟩:=argBest_gt (fun i=>ns.getD i 0) (its.toArray.size-1)
 rw [kt] at b1 b2
 refine ⟨.int _,H,I.kept (t':=tk) fun b o e=>hk b o (fun m=>?_) (Heap.get?_push_of_some _ e),⟨t,rfl⟩,q _ (jD ?_) fun z hz=>?_⟩
 ·have:=Heap.lt_size e
  rw [kq.mp m] at this
  exact vL _ this
 ·rw [kt];omega
 ·obtain ⟨j,hj,e⟩:=YQ hz
  rw [<- e,kt]
  exact b2 j (by omega)
end
end _L2
namespace _L2
open PySem PySem.Spec PyProof.Rows
inductive EqR (K:PySem.W.Frag) (H:Hp):Nat->V->V->Bool->Prop where
 | flat {n:Nat} {x y:V} (fx:xi x=true) (fy:xi y=true):EqR K H n x y (eqV x y)
 | tups {n:Nat} {a b:Addr} {xs ys:List V} {e:Nat->Bool} (ha:SqT K H a xs) (hb:SqT K H b ys) (he:∀ j,j<xs.length->j<ys.length->EqR K H n (xs.getD j .non) (ys.getD j .non) (e j)) :
   EqR K H (n+1) (.ref a) (.ref b) ((kQ (min xs.length ys.length)).all e && xs.length == ys.length)
 | lsts {n:Nat} {a b:Addr} {xs ys:List V} {e:Nat->Bool} (ha:SqL K H a xs) (hb:SqL K H b ys) (hl:xs.length=ys.length) (he:∀ j,j<xs.length->EqR K H n (xs.getD j .non) (ys.getD j .non) (e j)) :
   EqR K H (n+1) (.ref a) (.ref b) ((kQ xs.length).all e)
 | lens {n:Nat} {a b:Addr} {xs ys:List V} (ha:SqL K H a xs) (hb:SqL K H b ys) (hl:xs.length≠ys.length):EqR K H (n+1) (.ref a) (.ref b) false
theorem YW:∀ {x:V},xi x=true->eqV x x=true
 | .non,_=>rfl
 | .bl b,_=>beq_self_eq_true b
 | .int i,_=>beq_self_eq_true i
 | .str s,_=>beq_self_eq_true s
section
variable {X:Cx} {pins:List (Addr×Obj)} {σ:St} {H:Hp} {s:Shared}
theorem EqR.refl (I:Inv X pins σ H s) {n:Nat} {x y:V} {b:Bool} (h:EqR X.K H n x y b):x=y->b=true:=by
 induction h with
 | flat fx fy=>intro e;subst e;exact YW fx
 | @tups n a b xs ys e ha hb he ih =>
  intro z
  cases z
  have:=I.tuple_inj ha hb
  subst this
  rw [beq_self_eq_true,Bool.and_true,vK]
  intro j hj
  have hj:=vz.mp hj
  exact ih j (by omega) (by omega) rfl
 | @lsts n a b xs ys e ha hb hl he ih =>
  intro z
  cases z
  have:=I.list_inj ha hb
  subst this
  rw [vK]
  intro j hj
  exact ih j (vz.mp hj) rfl
 | @lens n a b xs ys ha hb hl =>
  intro z
  cases z
  exact absurd (by rw [I.list_inj ha hb]) hl
theorem EqR.at (I:Inv X pins σ H s) {n:Nat} {x y:V} {b:Bool} (h:EqR X.K H n x y b):∀ {A:Around} {u v:Value},RelV x u->RelV y v->A.units+n<cLine->SeqAt.EqAt A s u v b:=by
 induction h with
 | flat fx fy=>intro A u v ru rv _;exact Qu ru rv fx fy
 | @tups n a b xs ys e ha hb he ih =>
  intro A u v ru rv hu
  cases ru
  cases rv
  by_cases hab:a=b
  ·have:=EqR.refl I (EqR.tups (n:=n) ha hb he) (by rw [hab])
   rw [this,hab]
   exact SeqAt.EqAt.same _
  ·obtain ⟨i1,r1,p1,z1⟩:=I.tuple ha
   obtain ⟨i2,r2,p2,z2⟩:=I.tuple hb
   have l1:=r1.length
   have l2:=r2.length
   have:=SeqAt.RcAt.tuples (A:=A) (e:=e) (show s.heap.IsTuple a i1.toArray from p1) (show s.heap.IsTuple b i2.toArray from p2) (by omega) fun j h1 h2=>by
    have h1':j<i1.length:=by simpa using h1
    have h2':j<i2.length:=by simpa using h2
    have q:=ih j (by omega) (by omega) (A:=A.in1) (xf r1 h1') (xf r2 h2') (by show A.units+1+n<cLine;omega)
    simpa using q
   rw [kt,kt,<- l1,<- l2] at this
   exact SeqAt.EqAt.of_refs hab this
 | @lsts n a b xs ys e ha hb hl he ih =>
  intro A u v ru rv hu
  cases ru
  cases rv
  by_cases hab:a=b
  ·have:=EqR.refl I (EqR.lsts (n:=n) ha hb hl he) (by rw [hab])
   rw [this,hab]
   exact SeqAt.EqAt.same _
  ·obtain ⟨i1,r1,p1,z1⟩:=I.list ha
   obtain ⟨i2,r2,p2,z2⟩:=I.list hb
   have l1:=r1.length
   have l2:=r2.length
   have:=SeqAt.RcAt.lists (A:=A) (e:=e) p1.isList p2.isList (by simp;omega) (by omega) fun j h1 h2=>by
    have h1':j<i1.length:=by simpa using h1
    have h2':j<i2.length:=by simpa using h2
    have q:=ih j (by omega) (A:=A.in1) (xf r1 h1') (xf r2 h2') (by show A.units+1+n<cLine;omega)
    simpa using q
   rw [kt,<- l1] at this
   exact SeqAt.EqAt.of_refs hab this
 | @lens n a b xs ys ha hb hl =>
  intro A u v ru rv hu
  cases ru
  cases rv
  obtain ⟨i1,r1,p1,z1⟩:=I.list ha
  obtain ⟨i2,r2,p2,z2⟩:=I.list hb
  have l1:=r1.length
  have l2:=r2.length
  have hab:a≠b:=fun z=>by subst z;exact hl (by rw [I.list_inj ha hb])
  exact SeqAt.EqAt.of_refs hab (SeqAt.RcAt.lists_lengths p1.isList p2.isList (by simp;omega) (by omega))
noncomputable def rEqR (K:PySem.W.Frag) (neg:Bool):R2:=fun x y H Q=>∃ (a c:Addr) (n:Nat) (b:Bool),x=.ref a/\y=.ref c/\EqR K H n x y b/\n<=50/\Q (.bl (if neg then !b else b)) H
theorem QH (hu:X.A.units+64<cLine):OpR X (compareOp .Eq) (rEqR X.K false):=by
 intro pins s σ H x y v u Q I rx ry h
 refine E_4 h fun a c n b n8=>A_5 n8 fun e9 n90 e hn q=>?_;clear n8 h;subst e9;subst n90
 cases rx
 cases ry
 have fin:∀ {k:Bool},k=b->EP X pins σ Q (.bool k) s:=fun z=>⟨.bl b,H,I,by rw [z];rfl,q⟩
 cases e with
 | flat fx fy=>exact absurd (show false=true from fx) ku
 | @tups n _ _ xs ys e ha hb he =>
  obtain ⟨i1,r1,p1,z1⟩:=I.tuple ha
  obtain ⟨i2,r2,p2,z2⟩:=I.tuple hb
  have l1:=r1.length
  have l2:=r2.length
  refine SeqAt.eq_tupleAt (e:=e) (show s.heap.IsTuple a i1.toArray from p1) (show s.heap.IsTuple c i2.toArray from p2) (by omega) (fun j h1 h2=>?_) (fin ?_)
  ·have h1':j<i1.length:=by simpa using h1
   have h2':j<i2.length:=by simpa using h2
   have q:=(he j (by omega) (by omega)).at I (A:=X.A.in1) (xf r1 h1') (xf r2 h2') (by show X.A.units+1+n<cLine;omega)
   simpa using q
  ·rw [kt,kt,<- l1,<- l2]
 | @lsts n _ _ xs ys e ha hb hl he =>
  obtain ⟨i1,r1,p1,z1⟩:=I.list ha
  obtain ⟨i2,r2,p2,z2⟩:=I.list hb
  have l1:=r1.length
  have l2:=r2.length
  refine SeqAt.eq_listAt (e:=e) p1.isList p2.isList (by simp;omega) (by omega) (fun j h1 h2=>?_) (fin ?_)
  ·have h1':j<i1.length:=by simpa using h1
   have h2':j<i2.length:=by simpa using h2
   have q:=(he j (by omega)).at I (A:=X.A.in1) (xf r1 h1') (xf r2 h2') (by show X.A.units+1+n<cLine;omega)
   simpa using q
  ·rw [kt,<- l1]
 | @lens n _ _ xs ys ha hb hl =>
  obtain ⟨i1,r1,p1,z1⟩:=I.list ha
  obtain ⟨i2,r2,p2,z2⟩:=I.list hb
  have l1:=r1.length
  have l2:=r2.length
  exact SeqAt.eq_list_lengthsAt p1.isList p2.isList (by simp;omega) (by omega) (fin rfl)
end
end _L2
namespace _L2
open PySem PySem.Spec PyProof.Rows PySem.W
end _L2
namespace _L2
open PySem PySem.Spec PyProof.Rows
section
variable {g:TG} {tc:TT} {te:TE} {σ0:St} {H0:Hp} {R:List V->Hp->Prop} {K:PySem.W.Frag} {a:Addr} {xs:List V}
theorem xY {J:It} {n:Nat} (Pv:Nat->List V->St->Hp->Prop) (h0:Pv 0 [] σ0 H0) (hz:∀ i ys σ H,i<=n->Pv i ys σ H->ys.length<=sizeLine) (hst:∀ ys σ H,Pv n ys σ H->J.stop n H/\R ys H)
  (hgo:∀ i ys σ H,i<n->Pv i ys σ H->J.go i H/\∀ x H2,J.yld i H x H2->g x σ H2 fun σ2 H3=>tc σ2 H3 fun b H4=>if b=true then te σ2 H4 fun y H5=>Pv (i+1) (ys++[y]) σ2 H5 else Pv (i+1) ys σ2 H4) :
  ∃ W:Nat->Nat->List V->St->Hp->Prop,(∃ m,W 0 m [] σ0 H0)/\∀ i m ys σ' H',W i m ys σ' H' ->
   (J.stop i H'/\ys.length<=sizeLine/\R ys H') \/
   (J.go i H'/\ys.length<=sizeLine/\∃ N:List V->St->Hp->Prop,(∀ ys' σ2 H2,N ys' σ2 H2->∃ m',m'<m/\W (i+1) m' ys' σ2 H2) /\
    ∀ x H2,J.yld i H' x H2->g x σ' H2 fun σ2 H3=>tc σ2 H3 fun b H4=>if b=true then te σ2 H4 fun y H5=>N (ys++[y]) σ2 H5 else N ys σ2 H4):=by
 refine ⟨fun i m ys σ H=>m=n-i/\i<=n/\Pv i ys σ H,⟨n,by simp,kP _,h0⟩,?_⟩
 rintro i m ys σ H ⟨rfl,hi,p⟩
 by_cases hlt:i<n
 ·obtain ⟨go,turn⟩:=hgo i ys σ H hlt p
  exact .inr ⟨go,hz i ys σ H hi p,Pv (i+1),fun ys' σ' H' p'=>⟨n-(i+1),by omega,rfl,hlt,p'⟩,turn⟩
 ·have e:i=n:=by omega
  subst e
  obtain ⟨st,r⟩:=hst ys σ H p
  exact .inl ⟨st,hz i ys σ H hi p,r⟩
theorem yh (Pv:Nat->List V->St->Hp->Prop) (h0:Pv 0 [] σ0 H0) (hz:∀ i ys σ H,i<=xs.length->Pv i ys σ H->ys.length<=sizeLine/\SqL K H a xs) (hst:∀ ys σ H,Pv xs.length ys σ H->R ys H)
  (hgo:∀ i x ys σ H,xs[i]?=some x->Pv i ys σ H->g x σ H fun σ2 H3=>tc σ2 H3 fun b H4=>if b=true then te σ2 H4 fun y H5=>Pv (i+1) (ys++[y]) σ2 H5 else Pv (i+1) ys σ2 H4) :
  ∃ W:Nat->Nat->List V->St->Hp->Prop,(∃ m,W 0 m [] σ0 H0)/\∀ i m ys σ' H',W i m ys σ' H' ->
   ((Itl K a).stop i H'/\ys.length<=sizeLine/\R ys H') \/
   ((Itl K a).go i H'/\ys.length<=sizeLine/\∃ N:List V->St->Hp->Prop,(∀ ys' σ2 H2,N ys' σ2 H2->∃ m',m'<m/\W (i+1) m' ys' σ2 H2) /\
     ∀ x H2,(Itl K a).yld i H' x H2->g x σ' H2 fun σ2 H3=>tc σ2 H3 fun b H4=>if b=true then te σ2 H4 fun y H5=>N (ys++[y]) σ2 H5 else N ys σ2 H4) :=
 xY (n:=xs.length) Pv h0 (fun i ys σ H hi p=>(hz i ys σ H hi p).1) (fun ys σ H p=>⟨⟨xs,(hz _ ys σ H (kc _) p).2,kc _⟩,hst ys σ H p⟩)
  fun i ys σ H hi p=>⟨⟨xs,xs[i],(hz i ys σ H (vE hi) p).2,by simp [hi]⟩,fun x H2 y=>by
   obtain ⟨e,y⟩:=y
   subst e
   exact hgo i x ys σ _ (y xs (hz i ys σ _ (vE hi) p).2) p⟩
theorem wI (Pv:Nat->List V->St->Hp->Prop) (h0:Pv 0 [] σ0 H0) (hz:∀ i ys σ H,i<=xs.length->Pv i ys σ H->ys.length<=sizeLine/\SqT K H a xs) (hst:∀ ys σ H,Pv xs.length ys σ H->R ys H)
  (hgo:∀ i x ys σ H,xs[i]?=some x->Pv i ys σ H->g x σ H fun σ2 H3=>tc σ2 H3 fun b H4=>if b=true then te σ2 H4 fun y H5=>Pv (i+1) (ys++[y]) σ2 H5 else Pv (i+1) ys σ2 H4) :
  ∃ W:Nat->Nat->List V->St->Hp->Prop,(∃ m,W 0 m [] σ0 H0)/\∀ i m ys σ' H',W i m ys σ' H' ->
   ((Itt K a).stop i H'/\ys.length<=sizeLine/\R ys H') \/
   ((Itt K a).go i H'/\ys.length<=sizeLine/\∃ N:List V->St->Hp->Prop,(∀ ys' σ2 H2,N ys' σ2 H2->∃ m',m'<m/\W (i+1) m' ys' σ2 H2) /\
     ∀ x H2,(Itt K a).yld i H' x H2->g x σ' H2 fun σ2 H3=>tc σ2 H3 fun b H4=>if b=true then te σ2 H4 fun y H5=>N (ys++[y]) σ2 H5 else N ys σ2 H4) :=
 xY (n:=xs.length) Pv h0 (fun i ys σ H hi p=>(hz i ys σ H hi p).1) (fun ys σ H p=>⟨⟨xs,(hz _ ys σ H (kc _) p).2,kc _⟩,hst ys σ H p⟩)
  fun i ys σ H hi p=>⟨⟨xs,xs[i],(hz i ys σ H (vE hi) p).2,by simp [hi]⟩,fun x H2 y=>by
   obtain ⟨e,y⟩:=y
   subst e
   exact hgo i x ys σ _ (y xs (hz i ys σ _ (vE hi) p).2) p⟩
theorem qG {lo:Int} {n:Nat} (Pv:Nat->List V->St->Hp->Prop) (h0:Pv 0 [] σ0 H0) (hz:∀ i ys σ H,i<=n->Pv i ys σ H->ys.length<=sizeLine) (hst:∀ ys σ H,Pv n ys σ H->R ys H)
  (hgo:∀ i ys σ H,i<n->Pv i ys σ H->g (.int (lo+i)) σ H fun σ2 H3=>tc σ2 H3 fun b H4=>if b=true then te σ2 H4 fun y H5=>Pv (i+1) (ys++[y]) σ2 H5 else Pv (i+1) ys σ2 H4) :
  ∃ W:Nat->Nat->List V->St->Hp->Prop,(∃ m,W 0 m [] σ0 H0)/\∀ i m ys σ' H',W i m ys σ' H' ->
   ((Itr lo n).stop i H'/\ys.length<=sizeLine/\R ys H') \/
   ((Itr lo n).go i H'/\ys.length<=sizeLine/\∃ N:List V->St->Hp->Prop,(∀ ys' σ2 H2,N ys' σ2 H2->∃ m',m'<m/\W (i+1) m' ys' σ2 H2) /\
     ∀ x H2,(Itr lo n).yld i H' x H2->g x σ' H2 fun σ2 H3=>tc σ2 H3 fun b H4=>if b=true then te σ2 H4 fun y H5=>N (ys++[y]) σ2 H5 else N ys σ2 H4) :=
 xY (n:=n) Pv h0 hz (fun ys σ H p=>⟨kc _,hst ys σ H p⟩) fun i ys σ H hi p=>⟨hi,fun x H2 y=>by
  obtain ⟨e,y⟩:=y
  subst e y
  exact hgo i ys σ _ hi p⟩
end
end _L2
namespace _L2
open PySem PySem.Spec PyProof.Rows PySem.W
section
variable {X:Cx} {pins:List (Addr×Obj)} {σ:St} {H:Hp} {s:Shared}
theorem YX {E:Value->Shared->Prop} {Q:Value->Shared->Prop} (I:Inv X pins σ H s) {l:Addr} {xs:List V} (hl:SqL X.K H l xs) (h64:xs.length<64) (key:Nat->Int) (κ:SortKind)
  (kind:2<=xs.length->∀ (vs:List Value) (s':Shared) (pins':List (Addr×Obj)) (C:SortKind->Shared->Prop),Vals xs vs->Inv X pins' σ H s'->C κ s'->wpAny (model X.prog X.w) X.A.in1.in1 (keyKind' vs.toArray) C E s')
  (less:∀ (vs:List Value) (s':Shared) (pins':List (Addr×Obj)) (i j:Nat) (C:Bool->Shared->Prop),i<xs.length->j<xs.length->Vals xs vs->Inv X pins' σ H s'->C (decide (key i<key j)) s' ->
   wpAny (model X.prog X.w) X.A.in1.in1 (keyLt' κ (vs.getD i Value.none) (vs.getD j Value.none)) C (fun _ _=>False) s')
  (q:∀ (D:Addr) (p:Array Nat) (s':Shared),H D=none->_Srt.Ord xs.length p->_Srt.Up key p xs.length->Inv X pins σ (upd H D (.lst (p.toList.map fun i=>xs.getD i .non))) s'->Q (.ref D) s') :
  wpAny (model X.prog X.w) X.A (call (.builtin "sorted") [.ref l]) Q E s:=by
 obtain ⟨vs,rv,pl,hz⟩:=I.list hl
 have lv:=rv.length
 have hsm:vs.length<=sizeLine:=by omega
 refine Calls.call_function_entry kind_sorted plain_sorted entry_sorted (args_sorted1 _) ?_
 unfold Builtin.«sorted»
 refine wpAny_bind (m:=checkCount "sorted" 1 1 _) (wpAny_pure ?_)
 refine wpAny_bind (collect_list pl.isList ?_ hsm)
 refine wpAny_bind (wpAny_newList ?_ hsm)
 have z1:((s.heap.push (seqObj "list" #[] 0)).update s.heap.objs.size (Obj.mapSeq (·++vs.toArray))).objs.size=s.heap.objs.size+1:=by rw [Heap.size_update,size_push']
 have keep1:∀ b o,s.heap.get? b=some o->(((s.heap.push (seqObj "list" #[] 0)).update s.heap.objs.size (Obj.mapSeq (·++vs.toArray))).push (seqObj "list" vs.toArray 0)).get? b=some o:=fun b o e=>by
  have hlt:b<s.heap.objs.size:=Heap.lt_size e
  rw [Heap.get?_push_ne _ _ _ (by rw [z1];exact vt (uX hlt)),Heap.get?_update_ne _ _ _ _ (vt hlt),Heap.get?_push_ne _ _ _ (vt hlt)]
  exact e
 generalize hh1:((s.heap.push (seqObj "list" #[] 0)).update s.heap.objs.size (Obj.mapSeq (·++vs.toArray))).push (seqObj "list" vs.toArray 0)=h1' at keep1 ⊢
 have hD1:h1'.get? (s.heap.objs.size+1)=some (seqObj "list" vs.toArray 0):=by
  rw [<- hh1,<- z1];exact Heap.get?_push_size _ rfl
 show wpAny _ _ _ _ _ {s with heap:=h1'}
 rw [z1]
 clear hh1
 have yD:j5 X pins (s.heap.objs.size+1):=I.young (ur _)
 have nD0:H (s.heap.objs.size+1)=none:=I.hok.fresh (ur _)
 generalize hDD:s.heap.objs.size+1=D at hD1 yD nD0 ⊢
 have I1:Inv X pins σ H {s with heap:=h1'}:=I.kept (t':=s.toks) keep1
 refine wpAny_bind (wpAny_holding (wpAny_call_entry slot_list_sort ⟨_,hD1,rfl⟩ entry_list_sort ?body (args_list_sort _)))
 case body =>
  rw [list_sort_plain]
  refine wpAny_bind (listItems_at hD1 rfl ?_)
  refine wpAny_bind (listUpdate_at hD1 rfl ?_ (by rw [kt];omega) (kP _))
  have sb:=Heap.SameBut.update h1' D (Obj.mapSeq fun _=>(#[]:Array Value))
  obtain ⟨e1,hD2⟩ : ∃ e1,(h1'.update D (Obj.mapSeq fun _=>(#[]:Array Value))).get? D=some (seqObj "list" #[] e1):=⟨_,get?_update_seq hD1 fun _=>#[]⟩
  have I2:=I1.record (h':=h1'.update D (Obj.mapSeq fun _=>(#[]:Array Value))) yD nD0 sb
  generalize h1'.update D (Obj.mapSeq fun _=>(#[]:Array Value))=h2' at hD2 I2 ⊢
  refine wpAny_bind (seqEpoch_at hD2 rfl ?_)
  refine wpAny_bind (wpAny_newTuple ?_ hsm)
  refine wpAny_bind (wpAny_newList ?_ (kP _))
  refine wpAny_holding ?_
  have I3:Inv X pins σ H {s with heap:=(h2'.push {cls:=.type "tuple",data:=.seq vs.toArray}).push {cls:=.type "list",data:=.seq ([]:List Value).toArray}} :=
   I2.kept (t':=s.toks) fun b o e=>Heap.get?_push_of_some _ (Heap.get?_push_of_some _ e)
  have hD3:((h2'.push {cls:=.type "tuple",data:=.seq vs.toArray}).push {cls:=.type "list",data:=.seq ([]:List Value).toArray}).get? D=some (seqObj "list" #[] e1):=Heap.get?_push_of_some _ (Heap.get?_push_of_some _ hD2)
  dsimp only
  show wpAny _ _ _ _ _ {s with heap:=(h2'.push {cls:=.type "tuple",data:=.seq vs.toArray}).push {cls:=.type "list",data:=.seq ([]:List Value).toArray}}
  generalize (h2'.push {cls:=.type "tuple",data:=.seq vs.toArray}).push {cls:=.type "list",data:=.seq ([]:List Value).toArray}=h3' at I3 hD3 ⊢
  have tail:∀ (st:SortSt) (p:Array Nat),arrOf st=p.map (kas_item (vs.toArray.zip vs.toArray))->failedOf st=none->_Srt.Ord xs.length p->_Srt.Up key p xs.length ->
    wpAny (model X.prog X.w) X.A.in1.in1 (do
     let sorted:=(arrOf st).map (·.2)
     let touched:=(<- seqEpoch D) != e1
     Builtin.List.listUpdate (.ref D) fun _=>sorted
     if let some e:=failedOf st then rule "list.sort.comparison-raised"; throw e
     if touched then rule "list.sort.modified"; raiseError "ValueError" "list modified during sort"
     ret .none) (fun fin s''=>∃ v,fin=.done (.ret v)/\wpAny (model X.prog X.w) X.A.in1 (ret (.ref D)) (fun fin s3=>∃ v,fin=.done (.ret v)/\Q v s3) E s'') E {s with heap:=h3'}:=by
   intro st p ha hf po pu
   have out:=kat_snds (ks:=vs) (vs:=vs) rfl ha
   dsimp only
   rw [out,hf]
   have plen:(p.toList.map fun i=>vs.getD i Value.none).length=vs.length:=by rw [ka,Array.length_toList,po.sz,lv]
   refine wpAny_bind (seqEpoch_at hD3 rfl ?_)
   refine wpAny_bind (listUpdate_at hD3 rfl ?_ (kP _) (by rw [kt,plen];omega))
   have sb2:=Heap.SameBut.update h3' D (Obj.mapSeq fun _=>(p.toList.map fun i=>vs.getD i Value.none).toArray)
   have J2:=I3.record yD nD0 sb2
   obtain ⟨c3,hD5⟩ : ∃ c3,(h3'.update D (Obj.mapSeq fun _=>(p.toList.map fun i=>vs.getD i Value.none).toArray)).get? D=some (seqObj "list" (p.toList.map fun i=>vs.getD i Value.none).toArray c3):=⟨_,get?_update_seq hD3 _⟩
   generalize h3'.update D (Obj.mapSeq fun _=>(p.toList.map fun i=>vs.getD i Value.none).toArray)=h6 at J2 hD5 ⊢
   simp only [bne_self_eq_false,Bool.false_eq_true,if_false]
   have rel:Vals (p.toList.map fun i=>xs.getD i .non) (p.toList.map fun i=>vs.getD i Value.none):=by
    have:∀ (ls:List Nat),(∀ i∈ls,i<xs.length)->Vals (ls.map fun i=>xs.getD i .non) (ls.map fun i=>vs.getD i Value.none):=by
     intro ls
     induction ls with
     | nil=>intro _;exact .nil
     | cons a r ih =>
      intro h
      refine .cons ?_ (ih fun i hi=>h i (kj _ hi))
      have ha:=h a kh
      have:=xf rv (j:=a) (by omega)
      show RelV (xs.getD a .non) (vs.getD a Value.none)
      rw [getD_at (xs:=vs) (by omega:a<vs.length)]
      exact this
    refine this _ fun i hi=>?_
    have m:i∈p:=by simpa using hi
    have m2:i∈(uV (kQ xs.length)):=(Array.Perm.mem_iff po.pm).mp m
    simpa using m2
   have J3:=J2.track (p:=D) (o:=.lst (p.toList.map fun i=>xs.getD i .non)) nD0 (Heap.get?_none_of_le (by rw [<- hDD];have:=I.sz;omega)) yD.lo yD.ce yD.pi
    ⟨by rw [ka,Array.length_toList,po.sz];omega,_,c3,rel,hD5⟩
   exact wpAny_pure ⟨_,rfl,wpAny_pure ⟨_,rfl,q D p _ nD0 po pu J3⟩⟩
  by_cases h2:vs.toArray.size<2
  ·rw [if_pos h2,if_pos h2]
   rw [kt] at h2
   refine wpAny_bind (wpAny_pure ?_)
   rw [StateT.run_pure]
   refine wpAny_bind (wpAny_pure ?_)
   dsimp only
   refine tail _ (uV (kQ xs.length)) ?_ rfl ⟨by simp,Array.Perm.refl _⟩ fun i i1 i2=>by omega
   show vs.toArray.zip vs.toArray=_
   have e:=kas_range (vs.toArray.zip vs.toArray)
   rw [show (vs.toArray.zip vs.toArray).size=xs.length by simp;omega] at e
   exact e.symm
  ·rw [if_neg h2,if_neg h2]
   rw [kt] at h2
   refine wpAny_bind (kind (by omega) vs _ pins _ rv I3 ?_)
   have run:=Z1 (key:=key) (n:=vs.length) (cmp:=kas_ask X.prog X.w X.A.in1.in1 κ vs) (s:={s with heap:=h3'}) (Q:=fun r=>_Srt.Ord vs.length r/\_Srt.Up key r vs.length) (fun i j C hi hj hC=>?_) _ (_Srt.JM (n:=vs.length) (by omega))
   ·refine wpAny_bind (wpAny_mono (kat_run (Q:=fun st' s''=>∃ p,arrOf st'=p.map (kas_item (vs.toArray.zip vs.toArray))/\failedOf st'=none/\(_Srt.Ord vs.length p/\_Srt.Up key p vs.length)/\s''={s with heap:=h3'}) rfl (by omega) (by omega)
     (fun p st' s'' a1 a2 a3 a4=>⟨p,a2,a3,a4.1,a4.2⟩) run) ?_ fun _ _ x=>x)
    rintro ⟨⟨⟩,st'⟩ s'' ⟨p,a2,a3,⟨a4,a5⟩,rfl⟩
    dsimp only
    rw [<- lv] at a4 a5
    exact tail st' p a2 a3 a4 a5
   ·exact less vs _ pins i j C (by omega) (by omega) rv I3 hC
end
noncomputable def zcl (K:Frag) (tl:TE):TE:=fun σ H Q=>tl σ H fun x H1=>∃ (l:Addr) (xs:List V) (ns:List Int) (rest:List (List V)),x=.ref l/\SqL K H1 l xs/\xs.length<64/\ns.length=xs.length/\rest.length=xs.length/\ns.Nodup /\
 (∀ (i:Nat) (x:V) (n:Int) (r:List V),xs[i]?=some x->ns[i]?=some n->rest[i]?=some r->∃ p,x=.ref p/\H1 p=some (.tup (.int n::r))/\r.length=1) /\
 ∀ (D:Addr) (p:Array Nat),H1 D=none->_Srt.Ord xs.length p->_Srt.Up (fun i=>ns.getD i 0) p xs.length->Q (.ref D) (upd H1 D (.lst (p.toList.map fun i=>xs.getD i .non)))
theorem JR {X:Cx} {l:Expr} {tl:TE} {p pos:Pos} (hg:Gl X "sorted") (hm:X.mg "sorted" = none) (hl:PE X l tl) (hs:starEach [l] X.env=[(false,eval l X.env)]:=by rfl):PE X (.Call (.Name "sorted" p) [l] [] pos) (zcl X.K tl):=by
 intro pins s σ H Q I h
 refine wpAny_Call_Name_kw (yK I hg hm boot_sorted ?_ (by decide) (by decide))
 refine ba (thn ((za hl zb hs) pos pins s σ H (fun vs H1=>match vs with
  | [x]=>∃ (l:Addr) (xs:List V) (ns:List Int) (rest:List (List V)),x=.ref l/\SqL X.K H1 l xs/\xs.length<64/\ns.length=xs.length/\rest.length=xs.length/\ns.Nodup /\
   (∀ (i:Nat) (x:V) (n:Int) (r:List V),xs[i]?=some x->ns[i]?=some n->rest[i]?=some r->∃ p,x=.ref p/\H1 p=some (.tup (.int n::r))/\r.length=1) /\
   ∀ (D:Addr) (p:Array Nat),H1 D=none->_Srt.Ord xs.length p->_Srt.Up (fun i=>ns.getD i 0) p xs.length->Q (.ref D) (upd H1 D (.lst (p.toList.map fun i=>xs.getD i .non)))
  | _=>False) I h) fun us s1 ⟨vs,H1,I1,r1,q1⟩=>?_) (by rw [hs];rfl) (by rfl)
 match vs,q1 with
 | [x],q1 =>
 obtain ⟨u,rfl,ru⟩:=vals1 r1
 refine E_4 q1 fun la xs ns rest n8=>A_8 n8 fun e9 hL h64 hns hrs nd items q=>?_;clear n8 q1;subst e9
 cases (show u=Value.ref la from ru)
 have tupAt:∀ {pins':List (Addr×Obj)} {s':Shared} {vs:List Value},Vals xs vs->Inv X pins' σ H1 s'->∀ i,i<xs.length->∃ (p:Addr) (o:Obj) (m:Nat) (t:Tok) (w:Value),vs.getD i Value.none=.ref p/\s'.heap.get? p=some o/\o.cls=.type "tuple" /\ o.data=.seq #[.int (ns.getD i 0) t,w] m:=by
  intro pins' s' vs rv I' i hi
  have e1:xs[i]?=some xs[i]:=kb hi
  have e2:ns[i]?=some ns[i]:=kb (by omega)
  have e3:rest[i]?=some rest[i]:=kb (by omega)
  obtain ⟨p,hp,hH,hr⟩:=items i _ _ _ e1 e2 e3
  obtain ⟨_,its,r,⟨o,e,c,m,d⟩⟩:=I'.hok p _ hH
  have lv:=rv.length
  have ev:=xf rv (j:=i) (by omega)
  rw [getD_at hi,hp] at ev
  cases r with
  | cons r1 rr =>
   obtain ⟨t,rfl⟩:=r1
   generalize rest[i]=rs at rr hr
   cases rr with
   | nil=>simp at hr
   | @cons a b c' d' r2 rr =>
    cases rr with
    | nil =>
     refine ⟨p,o,m,t,b,?_,e,c,?_⟩
     ·rw [getD_at (by omega:i<vs.length)];exact ev
     ·rw [d,getD_at (by omega:i<ns.length)]
    | cons _ _=>simp at hr
 refine YX I1 hL h64 (fun i=>ns.getD i 0) (tuples' true) (fun h2 vs s' pins' C rv I' hC=>?_) (fun vs s' pins' i j C hi hj rv I' hC=>?_) fun D p s' hD po pu I'=>⟨.ref D,_,I',rfl,q D p hD po pu⟩
 ·have lv:=rv.length
  have KT:∀ (k:Nat),k<=vs.length->∃ fs:List Value,fs.length=vs.length-k/\KatTups s'.heap (vs.drop k) fs/\∀ v∈fs,∃ i t,v=Value.int i t:=by
   intro k hk
   generalize hd:vs.length-k=d
   induction d generalizing k with
   | zero =>
    refine ⟨[],rfl,?_,fun v hv=>nomatch hv⟩
    rw [List.drop_of_length_le (by omega)]
    exact KatTups.nil
   | succ d ih =>
    obtain ⟨fs,f1,f2,f3⟩:=ih (k+1) (by omega) (by omega)
    obtain ⟨p,o,m,t,w,g1,g2,g3,g4⟩:=tupAt rv I' k (by omega)
    rw [getD_at (by omega:k<vs.length)] at g1
    refine ⟨.int (ns.getD k 0) t::fs,by rw [kH,f1],?_,fun v hv=>?_⟩
    ·rw [<- List.getElem_cons_drop (show k<vs.length by omega),g1]
     exact KatTups.cons g2 g3 g4 rfl f2
    ·rcases kO.mp hv with rfl | hv
     ·exact ⟨_,_,rfl⟩
     ·exact f3 v hv
  obtain ⟨fs,f1,f2,f3⟩:=KT 0 (kP _)
  rw [bC] at f2
  refine kat_kind f2 (by omega) (T:=.type "int") (fun v hv=>?_) (by decide) ?_
  ·obtain ⟨i,t,rfl⟩:=f3 v hv
   exact Looks.of_pure rfl
  have hkind:(Value.type "int" != Value.type "tuple")=true:=by decide
  rw [hkind]
  exact hC
 ·obtain ⟨p1,o1,m1,t1,w1,a1,a2,_,a4⟩:=tupAt rv I' i hi
  obtain ⟨p2,o2,m2,t2,w2,b1,b2,_,b4⟩:=tupAt rv I' j hj
  rw [a1,b1]
  refine kat_lt a2 a4 b2 b4 ?_
  show KatLex _ _ _ true _ _ [(Value.int (ns.getD i 0) t1,Value.int (ns.getD j 0) t2),(w1,w2)] 0 s'
  refine kat_cons (wpAny_eqBool_int ?_)
  by_cases e:ns.getD i 0=ns.getD j 0
  ·have hij:i=j:=by
    have e':=e
    rw [getD_at (by omega:i<ns.length),getD_at (by omega:j<ns.length)] at e'
    exact (List.getElem_inj nd).mp e'
   subst hij
   rw [a1] at b1
   cases b1
   rw [a2] at b2
   cases b2
   rw [a4] at b4
   injection b4 with b4 _
   have b5:[Value.int (ns.getD i 0) t1,w1]=[Value.int (ns.getD i 0) t2,w2]:=congrArg Array.toList b4
   injection b5 with b6 b7
   injection b7 with b8 _
   subst b8
   rw [beq_self_eq_true]
   refine kat_yes (kat_cons (SeqAt.EqAt.same w1 _ _ _ _ ?_))
   refine kat_yes (kat_nil ?_)
   have z:decide (ns.getD i 0<ns.getD i 0)=false:=decide_eq_false (by omega)
   rw [z] at hC
   exact hC
  ·rw [beq_eq_false_iff_ne.mpr e]
   exact kat_no (oneLt_int hC)
end _L2
namespace _L2
open PySem PySem.Spec PyProof.Rows PySem.W
noncomputable def txt (l:List Nat):Str:=⟨l.toArray⟩
theorem zO (l:List Nat):(txt l).length=l.length:=by simp [txt,Str.length]
theorem ZA {a b:List Nat} (h:txt a=txt b):a=b:=by
 have:(txt a).cps.toList=(txt b).cps.toList:=by rw [h]
 simpa [txt] using this
theorem Z5 (c:Nat):∀ (n:Nat) (acc:Array Nat),(kF n (#[c]:Array Nat)).foldl (·++·) acc=acc++(kF n c).toArray
 | 0,acc=>by simp
 | n+1,acc=>by
  rw [vH,uL,Z5 c n (acc++#[c])]
  apply Array.toList_inj.mp
  simp [vH]
theorem YY {c:Nat} {n:Int} (h0:0<=n):Txt.mul (txt [c]) n=txt (kF n.toNat c):=by
 unfold Txt.mul
 by_cases h1:n<1
 ·rw [if_pos h1]
  have e:n.toNat=0:=by omega
  rw [e]
  rfl
 ·rw [if_neg h1]
  by_cases h2:n=1
  ·subst h2
   rfl
  ·have e:(n == 1 || (txt [c]).length == 0)=false:=by
    rw [beq_eq_false_iff_ne.mpr h2]
    rfl
   rw [e,if_neg ku]
   have:=Z5 c n.toNat #[]
   show (⟨(kF n.toNat (#[c]:Array Nat)).foldl (·++·) #[]⟩ : Str)=_
   rw [this]
   simp [txt]
section
variable {X:Cx}
theorem zbe:OpR X (binaryOp .Mult) (fun x y H Q=>∃ (c:Nat) (n:Int),x=.str (txt [c])/\y=.int n/\0<=n/\n<=1000000/\Q (.str (txt (kF n.toNat c))) H):=by
 intro pins s σ H x y v u Q I rx ry h
 refine E_2 h fun c n n8=>A_5 n8 fun e9 n90 h0 h1 q=>?_;clear n8 h;subst e9;subst n90
 obtain ⟨t,rfl⟩:=rx
 obtain ⟨t',rfl⟩:=ry
 have hl:(txt [c]).length=1:=rfl
 refine SB.mul ⟨?_,fun _ _=>?_,fun _ _=>?_⟩ fun tk k=>⟨.str _,H,I.tok k,⟨tk,by rw [YY h0]⟩,q⟩
 ·rw [decide_eq_false (by omega),decide_eq_false (by omega)]
  rfl
 ·rw [hl]
  have hn:0<n:=by omega
  intro z
  have z':(2^63-1) / n<1:=by simpa using z
  have:=(Int.ediv_lt_iff_lt_mul hn).mp z'
  omega
 ·rw [hl]
  unfold Builtin.Str.tooLong sizeLine
  rw [decide_eq_false_iff_not]
  omega
theorem Z6:∀ {zs:List Str} {us:List Value},Vals (zs.map V.str) us->StrsAre us zs
 | [],_,.nil=>.nil
 | z::zs,_,.cons ⟨t,e⟩ r=>by
  subst e
  exact .cons z t (Z6 r)
noncomputable def rIxC:R2:=fun x y H Q=>∃ (l:List Nat) (i:Int) (c:Nat),x=.str (txt l)/\y=.int i/\l.length<=1000000/\atI l i=some c/\Q (.str (txt [c])) H
theorem ZB:IxR X rIxC:=by
 intro value slice pins s σ H x y v u Q I rx ry h hs
 refine E_3 h fun l i c n8=>A_5 n8 fun e9 n90 hl hc q=>?_;clear n8 h;subst e9;subst n90
 exact zcf value slice pins s σ H _ _ v u Q I rx ry ⟨txt l,i,c,rfl,rfl,by rw [zO];exact km hl (by decide),by simpa [txt] using hc,q⟩ hs
end
end _L2
namespace _L2
open PySem PySem.Spec PyProof.Rows PySem.W
section
variable {X:Cx} {K:Frag}
theorem yF (hK:X.K=K):IxR X (rIxT K):=by subst hK;exact zw
theorem YZ (hK:X.K=K):IxR X (rIxL K):=by subst hK;exact zN
theorem xZ {es:List Expr} {k:Nat} {t:TGs} {n:Nat} {pos:Pos} (hK:X.K=K) (hc:X.calm=true) (h:PGs X es t)
  (hn:(assignEach es X.env).length=n:=by rfl) (hs:(assignEach es X.env).findIdx? (·.1)=none:=by rfl):PG X (.Tuple es k pos) (gTup K n t):=by
 subst hK
 exact jX hc h hn hs
end
end _L2
namespace _Lin
abbrev W:=List Nat
noncomputable def glue:List W->W
 | []=>[]
 | [a]=>a
 | a::b::r=>a++32::glue (b::r)
theorem Z7:∀ (ws:List W) (w:W),ws≠[]->glue (ws++[w])=glue ws++32::w
 | [],_,h=>absurd rfl h
 | [a],w,_=>rfl
 | a::b::r,w,_=>by
  have ih:glue (b::(r++[w]))=glue (b::r)++32::w:=Z7 (b::r) w (by simp)
  show a++32::glue (b::(r++[w]))=(a++32::glue (b::r))++32::w
  rw [ih]
  simp
theorem snoc_ind {P:List W->Prop} (h0:P []) (h1:∀ ws w,P ws->P (ws++[w])):∀ (n:Nat) (ws:List W),ws.length=n->P ws
 | 0,ws,h=>by rw [vY.mp h];exact h0
 | n+1,ws,h=>by
  have hn:ws≠[]:=fun z=>by rw [z] at h;cases h
  rw [<- ua hn]
  exact h1 _ _ (snoc_ind h0 h1 n _ (by rw [uC,h];rfl))
noncomputable def put (wide:Int) (rows:List W) (w:W):List W :=
 match rows.getLast? with
 | some r=>if (r.length:Int)+1+w.length<=wide then rows.dropLast++[r++32::w] else rows++[w]
 | none=>[w]
noncomputable def taken (wide:Int) (ws:List W):List W:=ws.foldl (put wide) []
theorem yT (wide:Int) (ws:List W) (w:W):taken wide (ws++[w])=put wide (taken wide ws) w:=by
 unfold taken
 rw [uY]
 rfl
theorem xV {rows:List W} {r:W} (h:rows.getLast?=some r):rows=rows.dropLast++[r]:=by
 have hn:rows≠[]:=fun z=>by rw [z] at h;cases h
 rw [List.getLast?_eq_some_getLast hn] at h
 rw [<- Option.some.inj h]
 exact (ua hn).symm
theorem zcm {wide:Int} {rows:List W} {w:W} (h:∀ r∈rows,(r.length:Int)<=wide) (hw:(w.length:Int)<=wide):∀ r∈put wide rows w,(r.length:Int)<=wide:=by
 intro r hr
 unfold put at hr
 split at hr
 ·rename_i q e
  split at hr
  ·rename_i c
   rcases ve.mp hr with m | m
   ·exact h r (List.dropLast_subset _ m)
   ·rw [kq.mp m,kg,kH]
    omega
  ·rcases ve.mp hr with m | m
   ·exact h r m
   ·rw [kq.mp m]
    exact hw
 ·rw [kq.mp hr]
  exact hw
theorem JS {wide:Int} (ws:List W):(∀ w∈ws,(w.length:Int)<=wide)->∀ r∈taken wide ws,(r.length:Int)<=wide :=
 snoc_ind (P:=fun ws=>(∀ w∈ws,(w.length:Int)<=wide)->∀ r∈taken wide ws,(r.length:Int)<=wide) (fun _ r hr=>(kN hr).elim)
  (fun ws w ih h=>by
   rw [yT]
   exact zcm (ih fun v hv=>h v (vD _ hv)) (h w (by simp))) _ ws rfl
theorem WK (wide:Int) (rows:List W) (w:W):(put wide rows w).length<=rows.length+1:=by
 unfold put
 split
 ·rename_i r e
  split
  ·have:=xV e
   have e2:rows.length=rows.dropLast.length+1:=by
    conv=>lhs;rw [this,kg]
    rfl
   rw [kg,vo]
   omega
  ·simp
 ·simp
theorem wk (wide:Int) (ws:List W):(taken wide ws).length<=ws.length :=
 snoc_ind (P:=fun ws=>(taken wide ws).length<=ws.length) (kc _) (fun ws w ih=>by
  rw [yT,kg,vo]
  exact km (WK _ _ _) (vA ih)) _ ws rfl
noncomputable def pos (ws:List W) (k:Nat):Int:=((ws.take k).map (fun w=>(w.length:Int)+1)).sum
theorem jE (ws:List W):pos ws 0=0:=rfl
theorem pos_succ {ws:List W} {k:Nat} {w:W} (h:ws[k]?=some w):pos ws (k+1)=pos ws k+w.length+1:=by
 obtain ⟨hk,e⟩:=kf.mp h
 unfold pos
 rw [<- ky hk,kz,List.sum_append,e]
 show _+(((w.length:Int)+1)+0)=_
 omega
theorem JU (ws:List W) (k:Nat):pos ws k<=pos ws (k+1):=by
 by_cases h:k<ws.length
 ·rw [pos_succ (kb h)]
  omega
 ·unfold pos
  rw [uv (by omega),uv (by omega)]
  exact vR _
theorem wm (ws:List W) {i:Nat}:∀ {j:Nat},i<=j->pos ws i<=pos ws j
 | 0,h=>by rw [uQ.mp h];exact vR _
 | j+1,h=>by
  rcases Nat.lt_or_ge i (j+1) with z | z
  ·exact uf (wm ws (v9 z)) (JU ws j)
  ·rw [bi h z]
   exact vR _
noncomputable def gr (ws:List W) (wide:Int):Nat->Nat×Nat
 | 0=>(0,0)
 | k+1=>if (gr ws wide k).1≠0/\pos ws (k+1)-pos ws (gr ws wide k).2-1<=wide then gr ws wide k else ((gr ws wide k).1+1,k)
section
variable {ws:List W} {wide:Int}
theorem wJ {k:Nat} (h:(gr ws wide k).1≠0/\pos ws (k+1)-pos ws (gr ws wide k).2-1<=wide):gr ws wide (k+1)=gr ws wide k:=by
 conv=>lhs;unfold gr
 rw [if_pos h]
theorem qa {k:Nat} (h:¬ ((gr ws wide k).1≠0/\pos ws (k+1)-pos ws (gr ws wide k).2-1<=wide)):gr ws wide (k+1)=((gr ws wide k).1+1,k):=by
 conv=>lhs;unfold gr
 rw [if_neg h]
theorem QI:∀ {k:Nat},0<k->0<(gr ws wide k).1
 | k+1,_=>by
  by_cases h:(gr ws wide k).1≠0/\pos ws (k+1)-pos ws (gr ws wide k).2-1<=wide
  ·rw [wJ h];omega
  ·rw [qa h];exact uU _
theorem zbf (k:Nat):(gr ws wide k).1<=(gr ws wide (k+1)).1/\(gr ws wide (k+1)).1<=(gr ws wide k).1+1:=by
 by_cases h:(gr ws wide k).1≠0/\pos ws (k+1)-pos ws (gr ws wide k).2-1<=wide
 ·rw [wJ h];omega
 ·rw [qa h];exact ⟨ur _,kc _⟩
theorem zaL:∀ k:Nat,(gr ws wide k).1<=k
 | 0=>kc _
 | k+1=>km (zbf k).2 (vA (zaL k))
theorem Xa:∀ {k:Nat},0<k->(gr ws wide k).2<k/\(gr ws wide k).1=(gr ws wide (gr ws wide k).2).1+1
 | k+1,_=>by
  by_cases h:(gr ws wide k).1≠0/\pos ws (k+1)-pos ws (gr ws wide k).2-1<=wide
  ·rw [wJ h]
   have hk:0<k:=Nat.pos_of_ne_zero fun z=>by
    rw [z] at h
    exact h.1 rfl
   have:=Xa hk
   exact ⟨uX this.1,this.2⟩
  ·rw [qa h]
   exact ⟨um _,rfl⟩
theorem zcn (hw:∀ w∈ws,(w.length:Int)<=wide):∀ {k:Nat},0<k->k<=ws.length->pos ws k-pos ws (gr ws wide k).2-1<=wide
 | k+1,_,hk=>by
  by_cases h:(gr ws wide k).1≠0/\pos ws (k+1)-pos ws (gr ws wide k).2-1<=wide
  ·rw [wJ h]
   exact h.2
  ·rw [qa h]
   have:=pos_succ (kb (show k<ws.length by omega))
   have:=hw _ (vB (show k<ws.length by omega))
   dsimp only
   omega
theorem qH {f k:Nat} (hf:pos ws k-pos ws f-1<=wide):∀ j,f<=j->j<=k->(gr ws wide j).1=(gr ws wide f).1\/((gr ws wide j).1=(gr ws wide f).1+1/\f<=(gr ws wide j).2)
 | 0,h,_=>by rw [uQ.mp h];exact .inl rfl
 | j+1,h,hk=>by
  rcases Nat.lt_or_ge j f with z | z
  ·rw [show f=j+1 by omega]
   exact .inl rfl
  ·by_cases c:(gr ws wide j).1≠0/\pos ws (j+1)-pos ws (gr ws wide j).2-1<=wide
   ·rw [wJ c]
    exact qH hf j z (ug hk)
   ·rcases qH hf j z (ug hk) with a | ⟨a,b⟩
    ·rw [qa c]
     exact .inr ⟨by rw [a],z⟩
    ·exfalso
     apply c
     refine ⟨by omega,?_⟩
     have:=wm ws hk
     have:=wm ws b
     omega
theorem zaM {f k:Nat} (hk:f<=k) (hf:pos ws k-pos ws f-1<=wide):(gr ws wide k).1<=(gr ws wide f).1+1:=by
 rcases qH hf k hk (kc _) with a | ⟨a,_⟩<;>omega
theorem Xb:∀ {k:Nat},k<=ws.length->(taken wide (ws.take k)).length=(gr ws wide k).1/\(0<k->∃ r,(taken wide (ws.take k)).getLast?=some r/\(r.length:Int)=pos ws k-pos ws (gr ws wide k).2-1)
 | 0,_=>⟨rfl,fun h=>absurd h (vL _)⟩
 | k+1,hk=>by
  have hk':k<ws.length:=hk
  obtain ⟨l,g⟩:=Xb (k:=k) (vE hk')
  have ps:=pos_succ (kb hk')
  rw [<- ky hk',yT]
  generalize ws[k]=w at ps
  by_cases h0:k=0
  ·subst h0
   have e:gr ws wide 1=(1,0):=by
    rw [qa (fun z=>z.1 rfl)]
    rfl
   rw [e]
   refine ⟨rfl,fun _=>⟨w,rfl,?_⟩⟩
   rw [jE] at ps
   have ps:pos ws 1=0+(w.length:Int)+1:=ps
   show (w.length:Int)=pos ws 1-0-1
   omega
  ·obtain ⟨r,er,lr⟩:=g (by omega)
   have sp:=xV er
   have n0:(gr ws wide k).1≠0:=ut (QI (by omega))
   unfold put
   rw [er]
   dsimp only
   by_cases c:(r.length:Int)+1+w.length<=wide
   ·rw [if_pos c,wJ ⟨n0,by omega⟩]
    refine ⟨?_,fun _=>⟨r++32::w,by simp,?_⟩⟩
    ·rw [<- l]
     conv=>rhs;rw [sp]
     simp
    ·rw [kg,kH]
     omega
   ·rw [if_neg c,qa (fun z=>c (by omega))]
    refine ⟨by rw [kg,l];rfl,fun _=>⟨w,by simp,?_⟩⟩
    dsimp only
    omega
end
end _Lin
namespace _L2
open PySem PySem.Spec PyProof.Rows PySem.W
theorem xD (a b:List Nat):txt a++txt b=txt (a++b):=by
 refine Str.ext' ?_
 rw [Str.cps_append]
 simp [txt]
noncomputable def Its (l:List Nat):It:=⟨fun i _=>i<l.length,fun i H x H'=>H'=H/\∃ c,l[i]?=some c/\x=.str (txt [c]),fun i _=>l.length<=i⟩
theorem WL {P:Program} {w:World} {K:PySem.W.Frag} {tg:Expr} (it:Addr) (l:List Nat) (t:Tok):Turn P w K tg (Its l) [it] it (fun i h=>h.IsStrIter it "str_ascii_iterator" (txt l) t i) where
 mem:=by simp
 obj:=fun i h st b hb=>by
  have e:b=it:=by simpa using hb
  subst e
  obtain ⟨o,e,c,d⟩:=st
  exact ⟨o,e,fun v z=>by rw [d] at z;cases z⟩
 keep:=fun i h h' st k=>let ⟨o,ho,r⟩:=st;⟨o,k it (by simp) o ho,r⟩
 item:=by
  intro X hP hw hK hc i pins s σ H E I hf st hg
  subst hP hw hK
  obtain ⟨f0,f1,f2,f3,f4,f5⟩:=hf it (by simp)
  have hg:i<l.length:=hg
  refine wpAny_pyNext_ascii_item st (c:=l[i]) (by simp [txt,hg]) fun h' st' sb=>?_
  have I1:Inv X pins σ H {s with heap:=h',toks:=s.toks+1}:=I.turned (t':=s.toks+1) (fun b o hb e=>(sb.2 b hb).trans e) f0 f1 f3 f4 f5
  obtain ⟨o,e,c,d⟩:=id st'
  exact ⟨_,rfl,jY (s:={s with heap:=h',toks:=s.toks+1}) e c d (by decide) ⟨.str (txt [l[i]]),H,I1,⟨_,rfl⟩,⟨rfl,l[i],kb hg,rfl⟩,st',fun b hb=>(hf b hb).1⟩⟩
 done:=by
  intro X hP hw hK hc i pins s σ H E I hf st hg
  subst hP hw hK
  obtain ⟨f0,f1,f2,f3,f4,f5⟩:=hf it (by simp)
  have hg:l.length<=i:=hg
  exact wpAny_pyNext_ascii_end (I.ok.hd hc) st (by simp [txt,hg]) fun h' eb=>⟨rfl,I.turned (t':=s.toks) (fun b o hb e=>eb b o hb e) f0 f1 f3 f4 f5⟩
 self:=fun _ _ _ _ _ st h=>wpAny_pyIter_striter_ascii st h
section
variable {X:Cx} {tg:Expr}
noncomputable def iTxt (tl:TE):TI:=fun σ H R=>tl σ H fun x H1=>∃ l:List Nat,x=.str (txt l)/\(∀ c∈l,c<128)/\R (Its l) H1
theorem zco {l:Expr} {tl:TE} (hl:PE X l tl):PI X tg l (iTxt tl):=by
 intro pins s σ H R I h
 refine thn (hl pins s σ H _ I h) fun v s1 h9=>?_
 obtain ⟨x,H1,I1,r1,q1⟩:=h9
 obtain ⟨l,e,ha,q⟩:=q1
 subst e
 obtain ⟨t,rfl⟩:=r1
 refine wpAny_pyIter_ascii (by simpa [txt] using ha) ?_
 refine I_5 s1.heap.objs.size [s1.heap.objs.size] _ _ H1 ⟨rfl,I1.kept (t':=s1.toks) fun b o e=>Heap.get?_push_of_some _ e,WL _ l t,⟨_,Heap.get?_push_size _ rfl,rfl,rfl⟩,fun b hb=>?_,q⟩
 have e:b=s1.heap.objs.size:=by simpa using hb
 subst e
 exact I1.fpOk (kc _) (I1.hok.fresh (kc _))
theorem Z8:OpR X (compareOp .LtE) (fun x y H Q=>∃ i j,x=.str i/\y=.str j/\Q (.bl (!decide (j.cps.toList<i.cps.toList))) H):=by
 intro pins s σ H x y v u Q I rx ry h
 refine E_2 h fun i j n8=>A_3 n8 fun e9 n90 q=>?_;clear n8 h;subst e9;subst n90
 obtain ⟨t,rfl⟩:=rx
 obtain ⟨t',rfl⟩:=ry
 exact PySem.P.le_str (zP I q rfl)
theorem wz:∀ (ls:List (List Nat)),Str.join (txt [32]) (ls.map txt)=txt (_Lin.glue ls)
 | []=>rfl
 | [a]=>rfl
 | a::b::r=>by
  have ih:=wz (b::r)
  show txt a++txt [32]++Str.join (txt [32]) ((b::r).map txt)=_
  rw [ih,xD,xD]
  simp [_Lin.glue]
theorem JV:MtR X "str.join" (fun x vs H Q=>∃ (a:Addr) (ls:List (List Nat)),x=.str " " /\ vs=[.ref a]/\SqL X.K H a (ls.map fun l=>V.str (txt l))/\(ls.map List.length).sum+ls.length<=1000000/\Q (.str (txt (_Lin.glue ls))) H):=by
 intro pins s σ H x xs v us Q I rx rxs h
 refine E_2 h fun a ls n8=>A_5 n8 fun e9 n90 hq hn q=>?_;clear n8 h;subst e9;subst n90
 obtain ⟨t,rfl⟩:=rx
 obtain ⟨u,rfl,ru⟩:=vals1 rxs
 cases ru
 obtain ⟨its,rv,tp,hz⟩:=I.list hq
 have rv':Vals ((ls.map txt).map V.str) its:=by rw [vU];exact rv
 refine join_list (ys:=ls.map txt) tp.isList (by simpa using Z6 rv') ?_ fun t' k=>⟨.str _,H,I.tok k,⟨t',?_⟩,q⟩
 ·rw [vU]
  have e1:(ls.map ((fun x=>x.length)∘txt))=ls.map List.length:=ub fun l _=>zO l
  rw [e1]
  have e2:(" " : Str).length=1:=rfl
  rw [e2,ka]
  omega
 ·show Value.str (Txt.join " " (ls.map txt)) t'=_
  have e:Txt.join " " (ls.map txt)=txt (_Lin.glue ls):=by
   unfold Txt.join
   rw [StrLaws.glued_eq_join]
   exact wz ls
  rw [e]
end
section
variable {g:TG} {tc:TT} {te:TE} {σ0:St} {H0:Hp} {R:List V->Hp->Prop} {l:List Nat}
theorem zbg (Pv:Nat->List V->St->Hp->Prop) (h0:Pv 0 [] σ0 H0) (hz:∀ i ys σ H,i<=l.length->Pv i ys σ H->ys.length<=sizeLine) (hst:∀ ys σ H,Pv l.length ys σ H->R ys H)
  (hgo:∀ i c ys σ H,l[i]?=some c->Pv i ys σ H->g (.str (txt [c])) σ H fun σ2 H3=>tc σ2 H3 fun b H4=>if b=true then te σ2 H4 fun y H5=>Pv (i+1) (ys++[y]) σ2 H5 else Pv (i+1) ys σ2 H4) :
  ∃ W:Nat->Nat->List V->St->Hp->Prop,(∃ m,W 0 m [] σ0 H0)/\∀ i m ys σ' H',W i m ys σ' H' ->
   ((Its l).stop i H'/\ys.length<=sizeLine/\R ys H') \/
   ((Its l).go i H'/\ys.length<=sizeLine/\∃ N:List V->St->Hp->Prop,(∀ ys' σ2 H2,N ys' σ2 H2->∃ m',m'<m/\W (i+1) m' ys' σ2 H2) /\
     ∀ x H2,(Its l).yld i H' x H2->g x σ' H2 fun σ2 H3=>tc σ2 H3 fun b H4=>if b=true then te σ2 H4 fun y H5=>N (ys++[y]) σ2 H5 else N ys σ2 H4) :=
 xY (n:=l.length) Pv h0 hz (fun ys σ H p=>⟨kc _,hst ys σ H p⟩) fun i ys σ H hi p=>⟨hi,fun x H2 y=>by
  obtain ⟨e,c,hc,ex⟩:=y
  subst e ex
  exact hgo i c ys σ _ hc p⟩
end
section
variable {σ:St} {H:Hp} {ta tb:TE}
theorem xk {w:List Nat} (a:Evl ta σ H (.str (txt w))) (h:w.length<=1000000):Evl (tCB (fun xs H Q=>∃ z:Str,xs=[.str z]/\z.length<=sizeLine/\Q (.int z.length) H) (xJ ta tNil)) σ H (.int (w.length:Nat)):=fun Q q =>
 a _ ⟨txt w,rfl,by rw [zO];exact km h (by decide),by rw [zO];exact q⟩
theorem qb {u w:List Nat} (a:Evl ta σ H (.str (txt u))) (b:Evl tb σ H (.str (txt w))) (h:u.length+w.length<=1000000):Evl (tOp (fun x y H Q=>∃ i j,x=.str i/\y=.str j/\i.length+j.length<=sizeLine/\Q (.str (i++j)) H) ta tb) σ H (.str (txt (u++w))):=fun Q q =>
 a _ (b _ ⟨txt u,txt w,rfl,rfl,by rw [zO,zO];exact km h (by decide),by rw [xD];exact q⟩)
theorem Xc {t u:TT} {p q:Prop} [Decidable p] [Decidable q] (a:Tst t σ H p) (b:p->Tst u σ H q):Tst (tAnd t u) σ H (p/\q):=fun Q z=>a _ (by
 by_cases h:p
 ·rw [decide_eq_true h,if_pos rfl]
  refine b h _ ?_
  have e:decide (p/\q)=decide q:=by rw [decide_eq_decide];exact ⟨fun z=>z.2,fun z=>⟨h,z⟩⟩
  rw [<- e];exact z
 ·rw [decide_eq_false h,if_neg ku]
  have e:decide (p/\q)=false:=decide_eq_false fun z=>h z.1
  rw [<- e];exact z)
theorem ZC {c:TT} {tb:TS} {D:Ends} (Pv:Nat->St->Hp->Prop) (m0:Nat) (h0:Pv m0 σ H)
  (hs:∀ m σ H,Pv m σ H->∃ (p:Prop) (_:Decidable p),Tst c σ H p/\(p->tb {D with nx:=fun σ' H'=>∃ m',m'<m/\Pv m' σ' H',ct:=fun σ' H'=>∃ m',m'<m/\Pv m' σ' H',bk:=D.nx} σ H)/\(¬ p->D.nx σ H)):Qm c tb D σ H:=by
 refine ⟨Pv,⟨m0,h0⟩,fun m σ H p=>?_⟩
 obtain ⟨q,dq,t,h1,h2⟩:=hs m σ H p
 refine t _ ?_
 by_cases z:q
 ·rw [decide_eq_true z,if_pos rfl]
  exact ⟨_,fun _ _ y=>y,h1 z⟩
 ·rw [decide_eq_false z,if_neg ku]
  exact h2 z
theorem Wh {t u:TS} {D:Ends} (R:St->Hp->Prop) (h3:∀ σ H,R σ H->u D σ H) (h:(∀ σ H,R σ H->u D σ H)->t {D with nx:=u D} σ H):tSeq t u D σ H:=h h3
theorem zB {i:Nat} {v:V} {Q:St->Hp->Prop} (h:Q (σ.set i (some v)) H):zW i v σ H Q:=h
theorem qY {t:TA} {i:Nat} {u:TS} {D:Ends} (h:t σ H fun xs H1=>xs.length<=sizeLine/\∀ p,H1 p=none->u D (σ.set i (some (.ref p))) (upd H1 p (.lst xs))):tSeq (tAsg (tLst t) (zW i)) u D σ H:=h
end
end _L2
namespace _L2
open PySem PySem.Spec PyProof.Rows PySem.W
section
variable {P:Program} {w:World} {K:PySem.W.Frag} {mg:Str->Option Value} {base:Heap} {N:List Str} {qual:Str} {scope:Scope} {f:Addr} {cd:Value} {A:Around} {outer:List Env} {s₀:Shared} {H₀:Hp} {E:XK}
theorem xg:qz (CXE P w) (cxOf (CXE P w) P w K mg base N qual scope f cd A outer s₀ H₀ E) E:=by
 intro pins σ H s e s' I q
 revert q;intro n7;refine E_4 n7 fun ea T C H' n8=>A_7 n8 fun e9 os bare un hok fly q=>?_;clear n8 n7;subst e9
 have I2:Inv (cxOf (CXE P w) P w K mg base N qual scope f cd A outer s₀ H₀ E) pins σ H' s':=I.call' (ch:=[]) os un hok bare (fun b z=>nomatch z)
 obtain ⟨oe,vs,a0,oT,ts,e1,e2,e3,e4,e5,e6,e7,e8⟩:=fly.ob
 have no0:∀ b,s.heap.get? b=none->s₀.heap.get? b=none:=fun b z=>by
  cases y:s₀.heap.get? b with
  | none=>rfl
  | some o =>
   obtain ⟨o',z'⟩:=I.base.there b o y (fun m=>nomatch m)
   rw [z] at z'
   cases z'
 have no2:∀ b,s'.heap.get? b=none->s₀.heap.get? b=none:=fun b z=>by
  cases y:s₀.heap.get? b with
  | none=>rfl
  | some o =>
   obtain ⟨o',z'⟩:=I2.base.there b o y (fun m=>nomatch m)
   rw [z] at z'
   cases z'
 have ff:s'.heap.FunFrames (hideAll s'.heap (ea::T::frs (envOfC qual scope s₀.heap.objs.size f cd::outer))) (envOfC qual scope s₀.heap.objs.size f cd::outer):=I2.hid _ fun b hb=>kj _ (kj _ hb)
 have fl:Heap.FlyingW (hideAll s'.heap (ea::T::frs (envOfC qual scope s₀.heap.objs.size f cd::outer))) (envOfC qual scope s₀.heap.objs.size f cd::outer) ea (.ref C) a0 s'.heap :=
  ⟨fun b o z=>of_hideAll _ z,hideAll_none _ kh,ff,oe,vs,T,oT,ts,e1,⟨e2,e4⟩,e3,e5,hideAll_none _ (kj _ kh),fly.ne,e6,e7,e8⟩
 show wpAny _ _ (leaving _ _) _ _ _
 refine wpAny_leaves_onW I2.ok.frames rfl fl fun h2 fl2 up=>?_
 have inB:∀ b o,b≠ea->b≠T->b∉frs (envOfC qual scope s₀.heap.objs.size f cd::outer)->s'.heap.get? b=some o->h2.get? b=some o:=fun b o n1 n2 nb z=>fl2.1 b o (hideAll_get _ z (by
  intro m
  rcases kO.mp m with m | m
  ·exact n1 m
  ·rcases kO.mp m with m | m
   ·exact n2 m
   ·exact nb m))
 have upS:∀ b o,b∈frs (envOfC qual scope s₀.heap.objs.size f cd::outer)->s'.heap.get? b=some o->∃ sl,h2.get? b=some {o with slots:=sl}:=fun b o nb z=>by
  obtain ⟨_,o',z',hd⟩:=I2.stack.mem nb
  rw [z] at z'
  cases z'
  exact up b o z hd
 have notL:∀ b o,s₀.heap.get? b=some o->b∉frs outer->b∉frs (envOfC qual scope s₀.heap.objs.size f cd::outer):=fun b o z nb m=>by
  rcases kO.mp (I2.stkSub b m) with z' | z'
  ·have:=Heap.lt_size z
   have z':b=s₀.heap.objs.size:=z'
   rw [z'] at this
   exact vL _ this
  ·exact nb z'
 have neE:∀ b o,s₀.heap.get? b=some o->b≠ea/\b≠T:=fun b o z=>⟨(fun y=>by rw [y,no0 _ fly.ne0] at z;cases z),(fun y=>by rw [y,no0 _ fly.nT0] at z;cases z)⟩
 obtain ⟨_,_,_,oe',vs',T',oT',ts',a1,⟨a2,a3⟩,a4,a5,a6,a7,a8,a9,a10⟩:=fl2
 have hT':T'=T\/s'.heap.get? T'=none:=by
  by_cases hTT:T'=T
  ·exact .inl hTT
  ·right
   cases z:s'.heap.get? T' with
   | none=>rfl
   | some o =>
    by_cases hb:T'∈frs (envOfC qual scope s₀.heap.objs.size f cd::outer)
    ·obtain ⟨_,o',z',hd⟩:=I2.stack.mem hb
     obtain ⟨sl,z2⟩:=upS T' o hb z
     rw [z] at z'
     cases z'
     rw [a8] at z2
     cases z2
     exact absurd a9 (hd ts')
    ·rw [hideAll_get _ z (by
      intro m
      rcases kO.mp m with m | m
      ·exact a7 m
      ·rcases kO.mp m with m | m
       ·exact hTT m
       ·exact hb m)] at a6
     cases a6
 have fT':H' T'=none:=by
  rcases hT' with e | e
  ·rw [e];exact fly.fT
  ·exact I2.none_of e
 have nT':s₀.heap.get? T'=none:=by
  rcases hT' with e | e
  ·rw [e];exact no0 _ fly.nT0
  ·exact no2 _ e
 refine ⟨ea,T',C,H',rfl,I2.os,I2.bare,⟨fun b o z n nb _=>?_,fun b o z n nb _=>?_,fun b o z n _=>I2.base.free b o z n (fun m=>nomatch m),fun b o z _=>?_,I2.base.tups,I2.base.frzs,I2.base.tbls⟩,fun a o z=>?_,
  ⟨⟨oe',vs',a0,oT',ts',a1,a2,a4,a3,a5,a8,a9,a10⟩,a7,fly.fe,fT',no0 _ fly.ne0,nT'⟩,q⟩
 ·exact inB b o (neE b o z).1 (neE b o z).2 (notL b o z nb) (I2.base.keep b o z n nb (fun m=>nomatch m))
 ·obtain ⟨sl,z1⟩:=I2.base.slot b o z n nb (fun m=>nomatch m)
  obtain ⟨sl',z2⟩:=upS b _ (by
   show b∈frs _
   unfold frs
   rw [uj]
   exact kj _ nb) z1
  exact ⟨sl',z2⟩
 ·obtain ⟨o',z'⟩:=I2.base.there b o z (fun m=>nomatch m)
  by_cases hb:b∈frs (envOfC qual scope s₀.heap.objs.size f cd::outer)
  ·obtain ⟨sl,z2⟩:=upS b o' hb z'
   exact ⟨_,z2⟩
  ·exact ⟨o',inB b o' (neE b o z).1 (neE b o z).2 hb z'⟩
 ·refine (I2.hok a o z).stay (fun b u hb r=>?_) (fun _ y=>y) fun _ _ y=>y
  have hbH:∃ x,H' b=some x:=by
   rcases hb with rfl | hb
   ·exact ⟨_,z⟩
   ·exact ⟨_,hb⟩
  obtain ⟨x,hx⟩:=hbH
  refine inB b u (fun m=>?_) (fun m=>?_) (fun m=>?_) r
  ·rw [m,fly.fe] at hx;cases hx
  ·rw [m,fly.fT] at hx;cases hx
  ·have:=I2.stkFree b m
   rw [hx] at this
   cases this
end
end _L2
namespace _L2
open PySem PySem.Spec PyProof.Rows
theorem Inv.turnedL {X:Cx} {pins:List (Addr×Obj)} {σ:St} {H:Hp} {s:Shared} {h':Heap} {t':Nat} {ch:List Addr} (I:Inv X pins σ H s) (k:∀ b o,b∉ch->s.heap.get? b=some o->h'.get? b=some o) (hf:∀ b∈ch,FpOk X pins H b) :
  Inv X pins σ H {s with heap:=h',toks:=t'}:=by
 have nit:∀ b u,H b=some u->b∉ch:=fun b u e m=>by rw [(hf b m).1] at e;cases e
 refine I.step (g':=s.gens) (d':=s.drawn) (ch:=ch) (fun b hb=>?_) (fun b o _ _ m e _=>k b o m e) (fun b o _ _ m e _=>⟨o.slots,k b o m e⟩) (fun _ _ _ _ n=>n) (fun b o m e=>⟨o,k b o m e⟩) (fun _ _ e=>e) (fun _ _ _ e=>e)
  (fun b ps e=>⟨#[],by rw [e];simp⟩) (fun m hm=>?_) (fun b u e=>?_) I.bare
 ·obtain ⟨a0,a1,a2,a3,a4,a5⟩:=hf b hb
  exact ⟨a3,a1,a4,a5⟩
 ·obtain ⟨o,es,ep,ho,r⟩:=hm
  exact ⟨o,es,ep,k _ o (fun m=>(hf _ m).2.1 rfl) ho,r⟩
 ·refine (I.hok b u e).stay (fun c v hc q=>k c v (fun m=>?_) q) (fun _ q=>q) fun _ _ q=>q
  rcases hc with z | z
  ·rw [z] at m
   exact nit b u e m
  ·exact nit c _ z m
theorem yV {h:Heap} {a c:Addr} {its:Array Value} {o:Obj} (hl:h.IsList a its) (hc:h.get? c=some o) (hn:o.cls≠.type "list"):a≠c:=fun z=>by
 obtain ⟨o',g1,g2,_⟩:=hl
 rw [z,hc] at g1
 cases g1
 exact hn g2
noncomputable def ItZ (K:PySem.W.Frag) (a b:Addr):It :=
 ⟨fun i H=>∃ xs ys x y,SqL K H a xs/\SqL K H b ys/\xs[i]?=some x/\ys[i]?=some y,
 fun i H x H'=>∃ p u v,H p=none/\x=.ref p/\H'=upd H p (.tup [u,v])/\(∀ xs,SqL K H a xs->xs[i]?=some u)/\∀ ys,SqL K H b ys->ys[i]?=some v,
 fun i H=>∃ xs ys,SqL K H a xs/\SqL K H b ys/\(xs.length<=i\/ys.length<=i)⟩
structure Dst (z TI TO i1 i2:Addr):Prop where
 TIz:TI≠z
 TOz:TO≠z
 i1z:i1≠z
 i2z:i2≠z
 TITO:TI≠TO
 TIi1:TI≠i1
 TIi2:TI≠i2
 TOi1:TO≠i1
 TOi2:TO≠i2
 i12:i1≠i2
theorem QJ (n:Nat):Dst (n+4) (n+2) (n+3) n (n+1):=by
 have ne:∀ {i j:Nat},i≠j->(show Nat from n+i)≠(show Nat from n+j):=fun h z=>h (Nat.add_left_cancel z)
 exact ⟨ne (i:=2) (j:=4) (by decide),ne (i:=3) (j:=4) (by decide),ne (i:=0) (j:=4) (by decide),ne (i:=1) (j:=4) (by decide),ne (i:=2) (j:=3) (by decide),ne (i:=2) (j:=0) (by decide),ne (i:=2) (j:=1) (by decide),ne (i:=3) (j:=0) (by decide),ne (i:=3) (j:=1) (by decide),ne (i:=0) (j:=1) (by decide)⟩
theorem Z9 {n c:Nat} (h:c=n+4\/c=n+2\/c=n+3\/c=n\/c=n+1):n<=c:=by omega
theorem Ya {h:Heap} {z TI TO i1 i2 a b:Addr} {xs ys:Array Value} {k1 k2:Nat} {f0 v u:Value} (D:Dst z TI TO i1 i2) (hz:IsZip h z TI TO f0) (hTO:IsPair h TO v u) (h1:h.IsListIter i1 a k1) (h2:h.IsListIter i2 b k2) (l1:h.IsList a xs) (l2:h.IsList b ys) :
  ZipApart z TI TO i1 i2 a b:=by
 obtain ⟨o1,e1,c1,_⟩:=h1
 obtain ⟨o2,e2,c2,_⟩:=h2
 have n1:o1.cls≠.type "list" := by rw [c1];decide
 have n2:o2.cls≠.type "list" := by rw [c2];decide
 have nz:Value.type "zip" ≠ .type "list" := by decide
 have nt:Value.type "tuple" ≠ .type "list" := by decide
 exact ⟨D.TIz,D.TOz,D.i1z,D.i2z,D.TITO,D.TIi1,D.TIi2,D.TOi1,D.TOi2,D.i12,yV l1 hz nz,yV l1 hTO nt,yV l1 e1 n1,yV l1 e2 n2,yV l2 hz nz,yV l2 hTO nt,yV l2 e1 n1,yV l2 e2 n2⟩
theorem JX {P:Program} {w:World} {K:PySem.W.Frag} {elts:List Expr} {kx:Nat} {px:Pos} (a b z TI TO i1 i2:Addr) (D:Dst z TI TO i1 i2) :
  Turn P w K (.Tuple elts kx px) (ItZ K a b) [z,TI,TO,i1,i2] z (fun i h=>IsZip h z TI TO .none/\IsPair h TI (.ref i1) (.ref i2)/\(∃ v u,IsPair h TO v u)/\h.IsListIter i1 a i/\h.IsListIter i2 b i) where
 mem:=by simp
 obj:=fun i h st c hc=>by
  obtain ⟨hz,hTI,⟨v,u,hTO⟩,⟨o1,e1,c1,d1⟩,⟨o2,e2,c2,d2⟩⟩:=st
  have hc:c=z\/c=TI\/c=TO\/c=i1\/c=i2:=by simpa using hc
  rcases hc with rfl | rfl | rfl | rfl | rfl
  ·exact ⟨_,hz,fun v y=>by have y':Data.fields _=Data.cell v:=y;cases y'⟩
  ·exact ⟨_,hTI,fun v y=>by have y':Data.seq _=Data.cell v:=y;cases y'⟩
  ·exact ⟨_,hTO,fun v y=>by have y':Data.seq _=Data.cell v:=y;cases y'⟩
  ·exact ⟨o1,e1,fun v y=>by rw [d1] at y;cases y⟩
  ·exact ⟨o2,e2,fun v y=>by rw [d2] at y;cases y⟩
 keep:=fun i h h' st k=>by
  obtain ⟨hz,hTI,⟨v,u,hTO⟩,h1,h2⟩:=st
  exact ⟨k z (by simp) _ hz,k TI (by simp) _ hTI,⟨v,u,k TO (by simp) _ hTO⟩,h1.at fun o q=>k i1 (by simp) o q,h2.at fun o q=>k i2 (by simp) o q⟩
 item:=by
  intro X hP hw hK hc i pins s σ H E I hf st hg
  subst hP hw hK
  obtain ⟨hz,hTI,⟨v0,u0,hTO⟩,h1,h2⟩:=st
  obtain ⟨xs,ys,x,y,hq1,hq2,hx,hy⟩:=hg
  obtain ⟨its,rv,tp,hz1⟩:=I.list hq1
  obtain ⟨jts,rw',tq,hz2⟩:=I.list hq2
  obtain ⟨u,hu,ru⟩:=rv.get hx
  obtain ⟨v,hv,rv'⟩:=rw'.get hy
  have Z:=Ya D hz hTO h1 h2 tp.isList tq.isList
  refine wpAny_pyNext_zip_item Z hz hTI hTO h1 h2 tp.isList tq.isList (x:=u) (y:=v) (by simpa using hu) (by simpa using hv) fun h' a1 a2 a3 a4 a5 a6 hk=>?_
  refine ⟨_,rfl,wpAny_letOwnedTupleGo_zip a1 fun h'' hz'' hs=>?_⟩
  have lt:∀ {c o},s.heap.get? c=some o->s.heap.objs.size≠c:=fun e=>ut (Heap.lt_size e)
  have ne1:=lt hz
  have k2:∀ c o,c∉[z,TO,i1,i2]->s.heap.get? c=some o->h''.get? c=some o:=fun c o m q=>by
   have m:c≠z/\c≠TO/\c≠i1/\c≠i2:=by simpa using m
   exact (hs.2 c m.1).trans (hk c o m.1 m.2.1 m.2.2.1 m.2.2.2 q)
  have I1:Inv X pins σ H {s with heap:=h'',toks:=s.toks}:=I.turnedL (t':=s.toks) k2 fun c m=>hf c (by
   have m:c=z\/c=TO\/c=i1\/c=i2:=by simpa using m
   rcases m with rfl | rfl | rfl | rfl<;>simp)
  have hn:H s.heap.objs.size=none:=I.hok.fresh (kc _)
  have FP:=I.fpOk (b:=s.heap.objs.size) (kc _) hn
  have hT2:h''.get? s.heap.objs.size=some {cls:=.type "tuple",data:=.seq #[u,v]}:=(hs.2 _ ne1).trans a5
  have I2:=I1.track (p:=s.heap.objs.size) (o:=.tup [x,y]) hn (Heap.get?_none_of_le I.sz) FP.2.1 FP.2.2.2.2.1 FP.2.2.2.2.2
   ⟨by show 2<=sizeLine;decide,[u,v],.cons ru (.cons rv' .nil),⟨_,hT2,rfl,_,rfl⟩⟩
  refine ⟨.ref s.heap.objs.size,_,I2,rfl,⟨_,x,y,hn,rfl,rfl,fun zs hy'=>?_,fun zs hy'=>?_⟩,⟨hz'',(hs.2 _ D.TIz).trans (hk _ _ D.TIz D.TITO D.TIi1 D.TIi2 hTI),⟨_,_,(hs.2 _ D.TOz).trans a2⟩,a3.at fun o q=>(hs.2 _ D.i1z).trans q,a4.at fun o q=>(hs.2 _ D.i2z).trans q⟩,fun c hc=>?_⟩
  ·rw [I.list_inj hy' hq1];exact hx
  ·rw [I.list_inj hy' hq2];exact hy
  ·have hb2:c≠s.heap.objs.size:=by
    have m:c=z\/c=TI\/c=TO\/c=i1\/c=i2:=by simpa using hc
    rcases m with rfl | rfl | rfl | rfl | rfl
    ·exact ne1.symm
    ·exact (lt hTI).symm
    ·exact (lt hTO).symm
    ·obtain ⟨o,g,_⟩:=h1
     exact (lt g).symm
    ·obtain ⟨o,g,_⟩:=h2
     exact (lt g).symm
   rw [zy hb2]
   exact (hf c hc).1
 done:=by
  intro X hP hw hK hc i pins s σ H E I hf st hg
  subst hP hw hK
  obtain ⟨hz,hTI,⟨v0,u0,hTO⟩,h1,h2⟩:=st
  obtain ⟨xs,ys,hq1,hq2,hx⟩:=hg
  obtain ⟨its,rv,tp,hz1⟩:=I.list hq1
  obtain ⟨jts,rw',tq,hz2⟩:=I.list hq2
  have l1:=rv.length
  have l2:=rw'.length
  have Z:=Ya D hz hTO h1 h2 tp.isList tq.isList
  refine wpAny_pyNext_zip_end (I.ok.hd hc) Z hz hTI hTO h1 h2 tp.isList tq.isList ?_ fun h' hk=>⟨rfl,I.turnedL (t':=s.toks) (ch:=[z,TO,i1,i2]) (fun c o m q=>?_) fun c m=>hf c ?_⟩
  ·rcases hx with hx | hx
   ·left;simp;omega
   ·right;simp;omega
  ·have m:c≠z/\c≠TO/\c≠i1/\c≠i2:=by simpa using m
   exact hk c o m.1 m.2.1 m.2.2.1 m.2.2.2 q
  ·have m:c=z\/c=TO\/c=i1\/c=i2:=by simpa using m
   rcases m with rfl | rfl | rfl | rfl<;>simp
 self:=fun _ _ _ _ _ st h=>wpAny_pyIter_zip st.1 h
noncomputable def iZip (K:PySem.W.Frag) (ta:TA):TI:=fun σ H R=>ta σ H fun vs H1=>∃ a b,vs=[.ref a,.ref b]/\(∃ xs,SqL K H1 a xs)/\(∃ ys,SqL K H1 b ys)/\R (ItZ K a b) H1
theorem qI {X:Cx} {l r:Expr} {ta:TA} {elts:List Expr} {kx:Nat} {px p pos:Pos} (hg:Gl X "zip") (hm:X.mg "zip" = none) (ha:PA X [l,r] ta) (hs:starEach [l,r] X.env=[(false,eval l X.env),(false,eval r X.env)]:=by rfl) (hs2:starEach [r] X.env=[(false,eval r X.env)]:=by rfl) :
  PI X (.Tuple elts kx px) (.Call (.Name "zip" p) [l,r] [] pos) (iZip X.K ta):=by
 intro pins s σ H R I h
 refine Call_ (yK I hg hm boot_zip (vC (thn (ha pos pins s σ H _ I h) fun us s1 ⟨vs,H1,I1,r1,q1⟩=>?_) (by rw [hs,hs2]) (by rw [hs2];rfl)))
 obtain ⟨a,b,e,⟨xs,hq1⟩,⟨ys,hq2⟩,q⟩:=q1
 subst e
 cases r1 with
 | cons r rr =>
  cases rr with
  | cons r' rr =>
   cases rr
   cases r
   cases r'
   obtain ⟨its,rv,tp,hz1⟩:=I1.list hq1
   obtain ⟨jts,rw',tq,hz2⟩:=I1.list hq2
   refine call_zip_2 tp.isList tq.isList fun h' a1 a2 a3 a4 a5 a6 hk=>?_
   refine wpAny_pyIter_zip a1 ?_
   refine ⟨s1.heap.objs.size+4,[s1.heap.objs.size+4,s1.heap.objs.size+2,s1.heap.objs.size+3,s1.heap.objs.size,s1.heap.objs.size+1],_,_,H1,rfl,I1.kept (t':=s1.toks) hk,
    JX a b _ _ _ _ _ (QJ _),⟨a1,a2,⟨_,_,a3⟩,a4,a5⟩,fun c hc=>?_,q⟩
   have m:c=s1.heap.objs.size+4\/c=s1.heap.objs.size+2\/c=s1.heap.objs.size+3\/c=s1.heap.objs.size\/c=s1.heap.objs.size+1:=by simpa using hc
   have le:s1.heap.objs.size<=c:=Z9 m
   exact I1.fpOk le (I1.hok.fresh le)
section
variable {g:TG} {tc:TT} {te:TE} {σ0:St} {H0:Hp} {R:List V->Hp->Prop} {K:PySem.W.Frag} {a b:Addr} {xs ys:List V}
theorem qZ (Pv:Nat->List V->St->Hp->Prop) (h0:Pv 0 [] σ0 H0) (hz:∀ i us σ H,i<=min xs.length ys.length->Pv i us σ H->us.length<=sizeLine/\SqL K H a xs/\SqL K H b ys) (hst:∀ us σ H,Pv (min xs.length ys.length) us σ H->R us H)
  (hgo:∀ i x y us σ H p,xs[i]?=some x->ys[i]?=some y->Pv i us σ H->H p=none->g (.ref p) σ (upd H p (.tup [x,y])) fun σ2 H3=>tc σ2 H3 fun c H4=>if c=true then te σ2 H4 fun u H5=>Pv (i+1) (us++[u]) σ2 H5 else Pv (i+1) us σ2 H4) :
  ∃ W:Nat->Nat->List V->St->Hp->Prop,(∃ m,W 0 m [] σ0 H0)/\∀ i m us σ' H',W i m us σ' H' ->
   ((ItZ K a b).stop i H'/\us.length<=sizeLine/\R us H') \/
   ((ItZ K a b).go i H'/\us.length<=sizeLine/\∃ N:List V->St->Hp->Prop,(∀ us' σ2 H2,N us' σ2 H2->∃ m',m'<m/\W (i+1) m' us' σ2 H2) /\
     ∀ x H2,(ItZ K a b).yld i H' x H2->g x σ' H2 fun σ2 H3=>tc σ2 H3 fun c H4=>if c=true then te σ2 H4 fun u H5=>N (us++[u]) σ2 H5 else N us σ2 H4) :=
 xY (n:=min xs.length ys.length) Pv h0 (fun i us σ H hi p=>(hz i us σ H hi p).1)
  (fun us σ H p=>⟨⟨xs,ys,(hz _ us σ H (kc _) p).2.1,(hz _ us σ H (kc _) p).2.2,by omega⟩,hst us σ H p⟩)
  fun i us σ H hi p=>⟨⟨xs,ys,xs[i]'(by omega),ys[i]'(by omega),(hz i us σ H (vE hi) p).2.1,(hz i us σ H (vE hi) p).2.2,kb _,kb _⟩,fun x H2 y=>by
   obtain ⟨q,u,v,hn,e,e2,y1,y2⟩:=y
   subst e e2
   have z:=hz i us σ H (vE hi) p
   exact hgo i u v us σ H q (y1 xs z.2.1) (y2 ys z.2.2) p hn⟩
end
end _L2
namespace _Lin
theorem Wj:∀ {a b:W} {x y:W},32∉a->32∉b->a++32::x=b++32::y->a=b/\x=y
 | [],[],x,y,_,_,h=>by cases h;exact ⟨rfl,rfl⟩
 | [],c::b,x,y,_,hb,h=>by
  cases h
  exact absurd kh hb
 | c::a,[],x,y,ha,_,h=>by
  cases h
  exact absurd kh ha
 | c::a,d::b,x,y,ha,hb,h=>by
  have h:c::(a++32::x)=d::(b++32::y):=h
  injection h with h1 h2
  obtain ⟨e1,e2⟩:=Wj (fun z=>ha (kj _ z)) (fun z=>hb (kj _ z)) h2
  exact ⟨by rw [h1,e1],e2⟩
theorem jF:∀ (A B:List W),A≠[]->B≠[]->(∀ a∈A,32∉a)->(∀ b∈B,32∉b)->glue A=glue B->A=B
 | [],_,h,_,_,_,_=>absurd rfl h
 | _,[],_,h,_,_,_=>absurd rfl h
 | [a],[b],_,_,_,_,h=>by
  have h:a=b:=h
  rw [h]
 | [a],b::c::r,_,_,ha,_,h=>by
  have h:a=b++32::glue (c::r):=h
  exact absurd (by rw [h];simp) (ha a kh)
 | a::c::r,[b],_,_,_,hb,h=>by
  have h:a++32::glue (c::r)=b:=h
  exact absurd (by rw [<- h];simp) (hb b kh)
 | a::c::r,b::d::t,_,_,ha,hb,h=>by
  have h:a++32::glue (c::r)=b++32::glue (d::t):=h
  obtain ⟨e1,e2⟩:=Wj (ha a kh) (hb b kh) h
  rw [e1,jF (c::r) (d::t) (by simp) (by simp) (fun z hz=>ha z (kj _ hz)) (fun z hz=>hb z (kj _ hz)) e2]
end _Lin
namespace _L2
open PySem PySem.Spec PyProof.Rows PySem.Builtin PySem.Builtin.Str _Lin
theorem j8 (p:Str):txt p.cps.toList=p:=by
 refine Str.ext' ?_
 simp [txt]
theorem WM {ws:List W} (hn:ws≠[]) (hw:∀ w∈ws,w≠[]/\32∉w):Txt.split (txt (glue ws)) (txt [32])=ws.map txt:=by
 have j:=StrLaws.join_split (txt (glue ws)) (txt [32])
 have fr:=StrLaws.split_free (txt (glue ws)) 32
 have fr:∀ p∈Txt.split (txt (glue ws)) (txt [32]),32∉p.cps.toList:=fr
 generalize Txt.split (txt (glue ws)) (txt [32])=ps at j fr
 have e:(ps.map fun p=>p.cps.toList).map txt=ps:=by
  rw [vU]
  conv=>rhs;rw [<- List.map_id ps]
  exact ub fun p _=>j8 p
 rw [<- e,wz] at j
 have j:=ZA j
 have ne:(ps.map fun p=>p.cps.toList)≠[]:=fun z=>by
  rw [z] at j
  match ws,hn,hw,j with
  | [a],_,hw,j=>exact (hw a kh).1 j.symm
  | a::b::r,_,hw,j =>
   have j:[]=a++32::glue (b::r):=j
   exact absurd j.symm (by simp)
 have q:=jF _ _ ne hn (fun a ha=>by
  obtain ⟨p,hp,rfl⟩:=kX.mp ha
  exact fr p hp) (fun b hb=>(hw b hb).2) j
 rw [<- q,e]
theorem qJ:∀ {l:List (Str×Tok)} {ws:List W},l.map (·.1)=ws.map txt->Vals (ws.map fun w=>V.str (txt w)) (strValues l)
 | [],[],_=>.nil
 | [],_::_,h=>nomatch h
 | _::_,[],h=>nomatch h
 | (x,t)::l,w::ws,h=>by
  injection h with h1 h2
  have h1:x=txt w:=h1
  subst h1
  exact .cons ⟨t,rfl⟩ (qJ h2)
section
variable {X:Cx}
theorem QK:MtR X "str.split" (fun x vs H Q=>∃ ws:List W,x=.str (txt (glue ws))/\vs=[.str " "]/\ws≠[]/\(∀ w∈ws,w≠[]/\32∉w)/\(glue ws).length<=1000000/\ws.length<=1000000/\∀ l,H l=none->Q (.ref l) (upd H l (.lst (ws.map fun w=>V.str (txt w))))):=by
 intro pins s σ H x xs v us Q I rx rxs h
 refine E_1 h fun ws n8=>A_7 n8 fun e9 n90 hn hw hl hl2 q=>?_;clear n8 h;subst e9;subst n90
 obtain ⟨t,rfl⟩:=rx
 obtain ⟨z,rfl,u,rfl⟩:=vals1 rxs
 have eb:(" " : Str)=txt [32]:=by decide +kernel
 rw [eb]
 have hs:=WM hn hw
 have hx:(txt (glue ws)).length<=1000000:=by rw [zO];exact hl
 have big:(1000002:Nat)<=sizeLine:=by decide
 generalize txt (glue ws)=x at hs hx
 have hy:((txt [32]).length == 0)=false:=by decide +kernel
 have fin:∀ (l:List (Str×Tok)) (k:Nat),l.map (·.1)=Txt.split x (txt [32])->EP X pins σ Q (.ref s.heap.objs.size) {s with heap:=s.heap.push {cls:=.type "list",data:=.seq (strValues l).toArray},toks:=k}:=fun l k e =>
  ⟨.ref s.heap.objs.size,_,I.laid (t':=k) (fun b u e=>Heap.get?_push_of_some _ e) (kc _) (show z8 X.prog X.w _ _ _ (.lst (ws.map fun w=>V.str (txt w))) from ⟨by rw [ka];omega,strValues l,_,qJ (e.trans hs),Heap.get?_push_size _ rfl⟩),rfl,q _ (I.hok.fresh (kc _))⟩
 have hnn:(partsBetween x (occurrences x (txt [32]) 0 x.length (x.length+1)) (txt [32]).length).length<=sizeLine:=by
  have e1:=StrLaws.occ_length_le x (txt [32]) 0 x.length (x.length+1)
  rw [length_partsBetween]
  omega
 cases h1:(decide (x.length<(txt [32]).length) || decide (strKind x<strKind (txt [32])))
 ·cases hf:(occurrences x (txt [32]) 0 x.length (x.length+1)).isEmpty
  ·refine call_meets F.slot_str_split (typeIs_str _ _ _) F.entry_str_split (F.args_str_split_2 _ _) (meets_str_split_sep x (txt [32]) t u h1 hy hf (by omega) hnn) ?_
   show wants _ _ _ {s with toks:=_,heap:=s.heap.push {cls:=.type "list",data:=.seq (strsFrom s.toks (partsBetween x (occurrences x (txt [32]) 0 x.length (x.length+1)) (txt [32]).length)).toArray}}
   rw [strsFrom_eq]
   exact fin (numbered s.toks _) _ ((numbered_texts _ _).trans ((if_neg (ne_true_of_eq_false h1)).trans (if_neg (ne_true_of_eq_false hf))).symm)
  ·exact call_meets F.slot_str_split (typeIs_str _ _ _) F.entry_str_split (F.args_str_split_2 _ _) (meets_str_split_not_found x (txt [32]) t u h1 hy hf)
    (fin [(x,t)] s.toks ((if_neg (ne_true_of_eq_false h1)).trans (if_pos hf)).symm)
 ·exact call_meets F.slot_str_split (typeIs_str _ _ _) F.entry_str_split (F.args_str_split_2 _ _) (meets_str_split_cannot_occur x (txt [32]) t u h1)
   (fin [(x,t)] s.toks (if_pos h1).symm)
end
end _L2
namespace _L2
open PySem PySem.Spec PyProof.Rows
end _L2
namespace _Lin
noncomputable def putG (wide:Int) (gs:List (List W)) (v:W):List (List W) :=
 match gs.getLast? with
 | some g=>if ((glue g).length:Int)+1+v.length<=wide then gs.dropLast++[g++[v]] else gs++[[v]]
 | none=>[[v]]
noncomputable def grp (wide:Int) (ws:List W):List (List W):=ws.foldl (putG wide) []
theorem xE (wide:Int) (ws:List W) (v:W):grp wide (ws++[v])=putG wide (grp wide ws) v:=by
 unfold grp
 rw [uY]
 rfl
theorem y7 (wide:Int) (R:List (List W)) (g:List W) (v:W):putG wide (R++[g]) v=if ((glue g).length:Int)+1+v.length<=wide then R++[g++[v]] else R++[g]++[[v]]:=by
 unfold putG
 rw [List.getLast?_concat,bg]
theorem xh {α:Type} (l:List α):l=[]\/∃ r a,l=r++[a]:=by
 by_cases h:l=[]
 ·exact .inl h
 ·exact .inr ⟨_,_,(ua h).symm⟩
theorem j9 (wide:Int) (ws:List W):(∀ g∈grp wide ws,g≠[])/\(ws≠[]->grp wide ws≠[]) :=
 snoc_ind (P:=fun ws=>(∀ g∈grp wide ws,g≠[])/\(ws≠[]->grp wide ws≠[])) ⟨fun g hg=>(kN hg).elim,fun h=>absurd rfl h⟩ (fun ws v ih=>by
  rw [xE]
  rcases xh (grp wide ws) with e | ⟨R,g,e⟩
  ·rw [e]
   exact ⟨fun g hg=>by rw [kq.mp hg];simp,fun _=>by simp [putG]⟩
  ·rw [e] at ih ⊢
   rw [y7]
   split
   ·refine ⟨fun h hh=>?_,fun _=>by simp⟩
    rcases ve.mp hh with m | m
    ·exact ih.1 h (vD _ m)
    ·rw [kq.mp m];simp
   ·refine ⟨fun h hh=>?_,fun _=>by simp⟩
    rcases ve.mp hh with m | m
    ·exact ih.1 h m
    ·rw [kq.mp m];simp) _ ws rfl
theorem jG (wide:Int) (ws:List W):(grp wide ws).map glue=taken wide ws :=
 snoc_ind (P:=fun ws=>(grp wide ws).map glue=taken wide ws) rfl (fun ws v ih=>by
  rw [xE,yT,<- ih]
  rcases xh (grp wide ws) with e | ⟨R,g,e⟩
  ·rw [e]
   rfl
  ·have gn:=(j9 wide ws).1 g (by rw [e];simp)
   rw [e,y7,kz]
   unfold put
   rw [show (List.map glue [g])=[glue g] from rfl,List.getLast?_concat,bg]
   dsimp only
   split
   ·rw [kz]
    show R.map glue++[glue (g++[v])]=_
    rw [Z7 _ _ gn]
   ·rw [kz,kz]
    rfl) _ ws rfl
theorem jH (wide:Int) (ws:List W):(grp wide ws).flatten=ws :=
 snoc_ind (P:=fun ws=>(grp wide ws).flatten=ws) rfl (fun ws v ih=>by
  rw [xE]
  conv=>rhs;rw [<- ih]
  rcases xh (grp wide ws) with e | ⟨R,g,e⟩
  ·rw [e]
   simp [putG]
  ·rw [e,y7]
   split<;>simp) _ ws rfl
theorem x4 (wide:Int) (ws:List W):(grp wide ws).length=(taken wide ws).length:=by rw [<- jG,ka]
noncomputable def val (g h:List W):Int:=((glue g).length:Int)+1+(h.headD []).length
noncomputable def vals:List (List W)->List Int
 | []=>[]
 | [_]=>[]
 | g::h::r=>val g h::vals (h::r)
theorem qK:∀ (R:List (List W)) (g h:List W),vals (R++[g]++[h])=vals (R++[g])++[val g h]
 | [],g,h=>rfl
 | [a],g,h=>rfl
 | a::b::r,g,h=>by
  have ih:=qK (b::r) g h
  show val a b::vals (b::r++[g]++[h])=val a b::vals (b::r++[g])++[val g h]
  rw [ih]
  rfl
theorem qL:∀ (R:List (List W)) (g g':List W),g.headD []=g'.headD []->vals (R++[g])=vals (R++[g'])
 | [],g,g',_=>rfl
 | [a],g,g',e=>by
  show [val a g]=[val a g']
  unfold val
  rw [e]
 | a::b::r,g,g',e=>by
  show val a b::vals (b::r++[g])=val a b::vals (b::r++[g'])
  rw [qL (b::r) g g' e]
theorem Yb {g:List W} (h:g≠[]) (v:W):(g++[v]).headD []=g.headD []:=by
 cases g with
 | nil=>exact absurd rfl h
 | cons a r=>rfl
theorem QL (wide:Int) (ws:List W):∀ z∈vals (grp wide ws),wide<z :=
 snoc_ind (P:=fun ws=>∀ z∈vals (grp wide ws),wide<z) (fun z hz=>(kN hz).elim) (fun ws v ih=>by
  rw [xE]
  rcases xh (grp wide ws) with e | ⟨R,g,e⟩
  ·rw [e]
   exact fun z hz=>(kN hz).elim
  ·have gn:=(j9 wide ws).1 g (by rw [e];simp)
   rw [e] at ih ⊢
   rw [y7]
   split
   ·rw [qL R _ g (Yb gn v)]
    exact ih
   ·rw [qK]
    intro z hz
    rcases ve.mp hz with m | m
    ·exact ih z m
    ·rw [kq.mp m]
     unfold val
     show wide<((glue g).length:Int)+1+(v.length:Int)
     omega) _ ws rfl
theorem Xd {wide v:Int} (hv:wide<=v) (ws:List W):(∀ z∈vals (grp wide ws),v<z)->grp v ws=grp wide ws :=
 snoc_ind (P:=fun ws=>(∀ z∈vals (grp wide ws),v<z)->grp v ws=grp wide ws) (fun _=>rfl) (fun ws x ih=>by
  rw [xE,xE]
  rcases xh (grp wide ws) with e | ⟨R,g,e⟩
  ·intro _
   rw [ih (by rw [e];exact fun z hz=>(kN hz).elim),e]
   rfl
  ·have gn:=(j9 wide ws).1 g (by rw [e];simp)
   rw [e] at ih ⊢
   rw [y7]
   split
   ·rw [qL R _ g (Yb gn x)]
    intro h
    rw [ih h,y7,if_pos (by omega)]
   ·rw [qK]
    intro h
    rw [ih (fun z hz=>h z (vD _ hz)),y7,if_neg]
    have:=h (val g [x]) (by simp)
    unfold val at this
    have:v<((glue g).length:Int)+1+(x.length:Int):=this
    omega) _ ws rfl
theorem qc:∀ gs:List (List W),(vals gs).length=gs.length-1
 | []=>rfl
 | [_]=>rfl
 | g::h::r=>by
  show (vals (h::r)).length+1=_
  rw [qc (h::r)]
  simp
noncomputable def cnt (ws:List W) (v:Int):Nat:=(gr ws v ws.length).1
theorem yJ (ws:List W) (v:Int):(taken v ws).length=cnt ws v:=by
 have:=(Xb (ws:=ws) (wide:=v) (kc _)).1
 rwa [kM] at this
theorem zbh {ws:List W} {v v':Int} (h:v<=v') (hw:∀ w∈ws,(w.length:Int)<=v):∀ k,k<=ws.length->(gr ws v' k).1<=(gr ws v k).1:=fun k=>Nat.strongRecOn k fun k ih hk=>by
 by_cases h0:k=0
 ·subst h0
  exact kc _
 ·obtain ⟨s1,s2⟩:=Xa (ws:=ws) (wide:=v) (k:=k) (by omega)
  have ft:=zcn hw (k:=k) (by omega) hk
  have up:=zaM (ws:=ws) (wide:=v') (f:=(gr ws v k).2) (k:=k) (by omega) (by omega)
  have:=ih _ s1 (by omega)
  omega
theorem wn {ws:List W} {v v':Int} (h:v<=v') (hw:∀ w∈ws,(w.length:Int)<=v):cnt ws v'<=cnt ws v:=zbh h hw _ (kc _)
theorem q8 {ws:List W} (h:ws≠[]) (v:Int):0<cnt ws v:=QI (bv.mpr h)
theorem QM (ws:List W) (v:Int):cnt ws v<=ws.length:=zaL _
noncomputable def total (ws:List W):Int:=pos ws ws.length-1
theorem Yc {ws:List W} (v:Int) (h:total ws<=v):cnt ws v<=1:=by
 have:=zaM (ws:=ws) (wide:=v) (f:=0) (k:=ws.length) (kP _) (by rw [jE];unfold total at h;omega)
 exact this
noncomputable def falls (c:Int->Nat) (lo:Int):Nat->List (Int×Nat)
 | 0=>[(lo,c lo)]
 | k+1=>if c (lo+(k+1:Nat))<c (lo+k) then falls c lo k++[(lo+(k+1:Nat),c (lo+(k+1:Nat)))] else falls c lo k
theorem qd {c:Int->Nat} {lo:Int} {a:Nat}:∀ {k:Nat},a<=k->(∀ j,a<=j->j<=k->c (lo+j)=c (lo+a))->falls c lo k=falls c lo a
 | 0,h,_=>by rw [uQ.mp h]
 | k+1,h,hc=>by
  rcases vW h with z | z
  ·have ih:=qd (c:=c) (lo:=lo) (a:=a) (k:=k) (by omega) fun j h1 h2=>hc j h1 (by omega)
   show (if c (lo+(k+1:Nat))<c (lo+k) then _ else falls c lo k)=_
   rw [if_neg,ih]
   have e1:=hc (k+1) (by omega) (kc _)
   have e2:=hc k (by omega) (by omega)
   omega
  ·rw [z]
theorem qM {c:Int->Nat} {lo:Int}:∀ {k:Nat} {p:Int×Nat},p∈falls c lo k->p=(lo,c lo)\/∃ j,j<k/\p=(lo+(j+1:Nat),c (lo+(j+1:Nat)))/\c (lo+(j+1:Nat))<c (lo+j)
 | 0,p,h=>.inl (kq.mp h)
 | k+1,p,h=>by
  have h:p∈(if c (lo+(k+1:Nat))<c (lo+k) then falls c lo k++[(lo+(k+1:Nat),c (lo+(k+1:Nat)))] else falls c lo k):=h
  split at h
  ·rcases ve.mp h with m | m
   ·rcases qM m with e | ⟨j,h1,h2⟩
    ·exact .inl e
    ·exact .inr ⟨j,by omega,h2⟩
   ·exact .inr ⟨k,um _,kq.mp m,by assumption⟩
  ·rcases qM h with e | ⟨j,h1,h2⟩
   ·exact .inl e
   ·exact .inr ⟨j,by omega,h2⟩
theorem qN {c:Int->Nat} {lo:Int}:∀ k:Nat,(falls c lo k).length<=k+1
 | 0=>kc _
 | k+1=>by
  show (if c (lo+(k+1:Nat))<c (lo+k) then falls c lo k++[(lo+(k+1:Nat),c (lo+(k+1:Nat)))] else falls c lo k).length<=_
  have:=qN (c:=c) (lo:=lo) k
  split
  ·rw [kg,vo]
   omega
  ·omega
end _Lin
namespace _Lin
noncomputable def wid:List W->Nat
 | []=>0
 | a::r=>max a.length (wid r)
theorem qO:∀ {ws:List W} {u:W},u∈ws->u.length<=wid ws
 | a::r,u,h=>by
  show u.length<=max a.length (wid r)
  rcases kO.mp h with e | e
  ·rw [e];exact Nat.le_max_left _ _
  ·exact km (qO e) (Nat.le_max_right _ _)
theorem wK:∀ {ws:List W},ws≠[]->∃ u,u∈ws/\u.length=wid ws
 | [],h=>absurd rfl h
 | [a],_=>⟨a,kh,(Nat.max_eq_left (kP _)).symm⟩
 | a::b::r,_=>by
  obtain ⟨u,hu,e⟩:=wK (ws:=b::r) (by simp)
  by_cases c:a.length<=wid (b::r)
  ·exact ⟨u,kj _ hu,by rw [e];exact (Nat.max_eq_right c).symm⟩
  ·exact ⟨a,kh,(Nat.max_eq_left (by omega)).symm⟩
theorem zcp {ws:List W} {M:Int} (hM:M∈ws.map fun u=>(u.length:Int)) (hle:∀ z∈ws.map fun u=>(u.length:Int),z<=M):M=(wid ws:Int):=by
 obtain ⟨u,hu,rfl⟩:=kX.mp hM
 obtain ⟨v,hv,e⟩:=wK (ws:=ws) (fun z=>by rw [z] at hu;exact (kN hu).elim)
 have h1:=qO hu
 have h2:=hle (v.length:Int) (kX.mpr ⟨v,hv,rfl⟩)
 omega
theorem zcq (ws:List W) (k:Nat):0<=pos ws k:=by
 have:=wm ws (kP k)
 rwa [jE] at this
theorem Yd {ws:List W} (h:ws≠[]):(wid ws:Int)<=total ws:=by
 obtain ⟨u,hu,e⟩:=wK h
 obtain ⟨i,hi,eu⟩:=vO.mp hu
 have ps:=pos_succ (kb hi)
 rw [eu] at ps
 have:=wm ws (show i+1<=ws.length by omega)
 have:=zcq ws i
 unfold total
 omega
noncomputable def xy (ws:List W):List (Int×Nat):=if ws=[] then [(1,1)] else falls (cnt ws) (wid ws) (total ws-wid ws).toNat
theorem QN {ws:List W} {w M v:Int} (hall:∀ z∈vals (grp w ws),M<=z) (h1:w<=v) (h2:v<M):cnt ws v=cnt ws w:=by
 have e:=Xd h1 ws fun z hz=>Int.lt_of_lt_of_le h2 (hall z hz)
 rw [<- yJ,<- yJ,<- x4,<- x4,e]
theorem WN {ws:List W} {lo w M:Int} (h1:lo<=w) (h2:w<M) (hst:∀ v,w<=v->v<M->cnt ws v=cnt ws w) :
  falls (cnt ws) lo (M-lo).toNat=if cnt ws M<cnt ws w then falls (cnt ws) lo (w-lo).toNat++[(M,cnt ws M)] else falls (cnt ws) lo (w-lo).toNat:=by
 obtain ⟨k,hk⟩ : ∃ k:Nat,(M-lo).toNat=k+1:=⟨(M-lo).toNat-1,by omega⟩
 rw [hk]
 show (if cnt ws (lo+(k+1:Nat))<cnt ws (lo+k) then falls (cnt ws) lo k++[(lo+(k+1:Nat),cnt ws (lo+(k+1:Nat)))] else falls (cnt ws) lo k)=_
 have eM:lo+((k+1:Nat):Int)=M:=by omega
 have e1:cnt ws (lo+(k:Int))=cnt ws w:=hst _ (by omega) (by omega)
 have e2:falls (cnt ws) lo k=falls (cnt ws) lo (w-lo).toNat:=qd (by omega) fun j h3 h4=>by
  rw [hst _ (by omega) (by omega),hst (lo+((w-lo).toNat:Int)) (by omega) (by omega)]
 rw [eM,e1,e2]
theorem QO {ws:List W} {lo w T:Int} (hn:ws≠[]) (hw:∀ u∈ws,(u.length:Int)<=lo) (h1:lo<=w) (h2:w<=T) (c1:cnt ws w<=1):falls (cnt ws) lo (T-lo).toNat=falls (cnt ws) lo (w-lo).toNat:=by
 refine qd (by omega) fun j h3 h4=>?_
 have hw':∀ u∈ws,(u.length:Int)<=w:=fun u hu=>uf (hw u hu) h1
 have a1:=wn (ws:=ws) (v:=w) (v':=lo+(j:Int)) (by omega) hw'
 have a2:=wn (ws:=ws) (v:=w) (v':=lo+((w-lo).toNat:Int)) (by omega) hw'
 have b1:=q8 hn (lo+(j:Int))
 have b2:=q8 hn (lo+((w-lo).toNat:Int))
 omega
theorem QP {ws:List W} {w:Int} (h1:w<=total ws) (c1:1<cnt ws w):∃ z,z∈vals (grp w ws)/\z<=total ws:=by
 apply Classical.byContradiction
 intro no
 have e:=Xd h1 ws fun z hz=>Int.not_le.mp fun y=>no ⟨z,hz,y⟩
 have e2:cnt ws (total ws)=cnt ws w:=by rw [<- yJ,<- yJ,<- x4,<- x4,e]
 have:=Yc (ws:=ws) (total ws) (vR _)
 omega
theorem Xe:∀ {gs:List (List W)} {i:Nat} {g h:List W},gs[i]?=some g->gs[i+1]?=some h->(vals gs)[i]?=some (val g h)
 | [],i,g,h,e,_=>by simp at e
 | [a],i,g,h,_,e=>by simp at e
 | a::b::r,0,g,h,e1,e2=>by
  simp at e1 e2
  subst e1 e2
  rfl
 | a::b::r,i+1,g,h,e1,e2=>by
  have:=Xe (gs:=b::r) (i:=i) (g:=g) (h:=h) (by simpa using e1) (by simpa using e2)
  simpa [vals] using this
theorem Wk (ws:List W):(ws.map fun u=>(u.length:Int)).sum+ws.length=pos ws ws.length:=by
 unfold pos
 rw [kM]
 induction ws with
 | nil=>rfl
 | cons a r ih =>
  rw [vf,vn,vf,vn,kH,<- ih]
  omega
end _Lin
namespace _L2
open PySem PySem.Spec PyProof.Rows
section
variable {κ:Type} [DecidableEq κ]
noncomputable def valV (kvs:List (κ×V)) (k:κ):Option V:=(kvs.find? fun kv=>decide (kv.1=k)).map (·.2)
noncomputable def putK (kvs:List (κ×V)) (k:κ) (v:V):List (κ×V) :=
 if (kvs.any fun kv=>decide (kv.1=k))=true then kvs.map (fun kv=>if kv.1=k then (kv.1,v) else kv) else kvs++[(k,v)]
theorem jI {p:κ×V} {r:List (κ×V)} {k:κ} (e:p.1=k):valV (p::r) k=some p.2:=by simp [valV,uy,e]
theorem jJ {p:κ×V} {r:List (κ×V)} {k:κ} (e:¬ p.1=k):valV (p::r) k=valV r k:=by simp [valV,uy,e]
theorem qf (k:κ):∀ kvs:List (κ×V),(kvs.any fun kv=>decide (kv.1=k))=(valV kvs k).isSome
 | []=>rfl
 | p::r=>by
  rw [bf]
  by_cases e:p.1=k
  ·simp only [jI e,decide_eq_true e,Bool.true_or,Option.isSome_some]
  ·rw [jJ e,decide_eq_false e,Bool.false_or];exact qf k r
theorem js (kvs:List (κ×V)) (k:κ) (v:V):(putK kvs k v).length<=kvs.length+1:=by
 unfold putK
 split
 ·rw [ka];omega
 ·rw [kg,kH,List.length_nil];omega
theorem JY {kvs:List (κ×V)} {k:κ} (v:V) (h:valV kvs k=none):putK kvs k v=kvs++[(k,v)]:=by
 unfold putK
 rw [qf,h]
 exact if_neg (by decide)
theorem RelO.isSome_eq {o:Option V} {u:Option Value} (r:RelO o u):o.isSome=u.isSome:=by
 cases o with
 | none=>cases u with
  | none=>rfl
  | some _=>exact (show False from r).elim
 | some _=>cases u with
  | none=>exact (show False from r).elim
  | some _=>rfl
theorem KV.val {kvs:List (κ×V)} {vs:List (κ×Value)} (r:KV kvs vs) (k:κ):RelO (valV kvs k) (valueAt vs k):=by
 unfold KV at r
 induction r with
 | nil=>exact True.intro
 | @cons p q ps qs h t ih =>
  obtain ⟨h1,h2⟩:=h
  by_cases e:p.1=k
  ·have e':q.1=k:=h1.symm.trans e
   have b:valueAt (q::qs) k=some q.2:=by simp [valueAt,uy,e']
   rw [jI e,b];exact h2
  ·have e':¬ q.1=k:=fun z=>e (h1.trans z)
   have b:valueAt (q::qs) k=valueAt qs k:=by simp [valueAt,uy,e']
   rw [jJ e,b];exact ih
theorem KV.any {kvs:List (κ×V)} {vs:List (κ×Value)} (r:KV kvs vs) (k:κ):(kvs.any fun kv=>decide (kv.1=k))=vs.any fun kv=>decide (kv.1=k):=by
 unfold KV at r
 induction r with
 | nil=>rfl
 | cons h t ih=>rw [bf,bf,ih,h.1]
theorem KV.repl {kvs:List (κ×V)} {vs:List (κ×Value)} (r:KV kvs vs) (k:κ) {y:V} {u:Value} (ry:RelV y u) :
  KV (kvs.map fun kv=>if kv.1=k then (kv.1,y) else kv) (vs.map fun kv=>if kv.1=k then (kv.1,u) else kv):=by
 unfold KV at r ⊢
 induction r with
 | nil=>exact .nil
 | @cons p q ps qs h t ih =>
  rw [vf,vf]
  refine .cons ?_ ih
  obtain ⟨h1,h2⟩:=h
  by_cases e:p.1=k
  ·rw [if_pos e,if_pos (h1.symm.trans e)];exact ⟨h1,ry⟩
  ·rw [if_neg e,if_neg (fun z=>e (h1.trans z))];exact ⟨h1,h2⟩
theorem KV.put {kvs:List (κ×V)} {vs:List (κ×Value)} (r:KV kvs vs) (k:κ) {y:V} {u:Value} (ry:RelV y u):KV (putK kvs k y) (stored vs k u):=by
 unfold putK stored
 rw [r.any k]
 by_cases e:(vs.any fun kv=>decide (kv.1=k))=true
 ·rw [if_pos e,if_pos e];exact r.repl k ry
 ·rw [if_neg e,if_neg e];exact Paired.snoc r ⟨rfl,ry⟩
theorem KV.length {kvs:List (κ×V)} {vs:List (κ×Value)} (r:KV kvs vs):kvs.length=vs.length:=Paired.length r
end
theorem WO {P:Program} {w:World} {k:Key} {u:Value} (r:RelV (kV k) u):(yv P w).is k u=true:=by
 cases k with
 | inl i=>obtain ⟨t,e⟩:=(show ∃ t,u=Value.int i t from r);subst e;exact XT P w i t
 | inr x=>obtain ⟨t,e⟩:=(show ∃ t,u=Value.str x t from r);subst e;exact XU P w x t
theorem Ye {P:Program} {w:World}:∀ {ks:List Key} {us:List Value},Vals (ks.map kV) us->ItemsAre (yv P w) ks us
 | [],_,r=>by rw [List.map_nil] at r;cases r;exact .nil
 | k::ks,_,r=>by
  rw [vf] at r
  cases r with
  | cons h t=>exact .cons (WO h) (Ye t)
abbrev KT (H:Hp):List (List Key×V)->List (List Key×Addr×Value)->Prop:=Paired fun p q=>p.1=q.1/\H q.2.1=some (.tup (p.1.map kV))/\RelV p.2 q.2.2
theorem KT.val {H:Hp} {kvs:List (List Key×V)} {xs:List (List Key×Addr×Value)} (r:KT H kvs xs) (k:List Key):RelO (valV kvs k) ((atKey xs k).map (·.2)):=by
 induction r with
 | nil=>exact True.intro
 | @cons p q ps qs h t ih =>
  obtain ⟨h1,_,h2⟩:=h
  by_cases e:p.1=k
  ·have e':q.1=k:=h1.symm.trans e
   have b:atKey (q::qs) k=some q.2:=by simp [atKey,uy,e']
   rw [jI e,b];exact h2
  ·have e':¬ q.1=k:=fun z=>e (h1.trans z)
   have b:atKey (q::qs) k=atKey qs k:=by simp [atKey,uy,e']
   rw [jJ e,b];exact ih
theorem KT.repl {H:Hp} {kvs:List (List Key×V)} {xs:List (List Key×Addr×Value)} (r:KT H kvs xs) (k:List Key) {y:V} {u:Value} (ry:RelV y u) :
  KT H (kvs.map fun kv=>if kv.1=k then (kv.1,y) else kv) (xs.map (putAt k u)):=by
 induction r with
 | nil=>exact .nil
 | @cons p q ps qs h t ih =>
  rw [vf,vf]
  refine .cons ?_ ih
  obtain ⟨h1,h2,h3⟩:=h
  unfold putAt
  by_cases e:p.1=k
  ·rw [if_pos e,if_pos (h1.symm.trans e)];exact ⟨h1,h2,ry⟩
  ·rw [if_neg e,if_neg (fun z=>e (h1.trans z))];exact ⟨h1,h2,h3⟩
theorem KT.put {H:Hp} {kvs:List (List Key×V)} {xs:List (List Key×Addr×Value)} (r:KT H kvs xs) (k:List Key) {b:Addr} {y:V} {u:Value} (hb:H b=some (.tup (k.map kV))) (ry:RelV y u) :
  KT H (putK kvs k y) (storedH xs k b u):=by
 have e:(kvs.any fun kv=>decide (kv.1=k))=(atKey xs k).isSome:=by
  rw [qf,(r.val k).isSome_eq,Option.isSome_map]
 unfold putK storedH
 rw [e]
 by_cases q:(atKey xs k).isSome=true
 ·rw [if_pos q,if_pos q];exact r.repl k ry
 ·rw [if_neg q,if_neg q];exact Paired.snoc r ⟨rfl,hb,ry⟩
theorem KT.keeps {H H':Hp} {kvs:List (List Key×V)} {xs:List (List Key×Addr×Value)} (r:KT H kvs xs) (ht:∀ b ys,H b=some (.tup ys)->H' b=some (.tup ys)):KT H' kvs xs :=
 Paired.mapP r fun _ _ z=>⟨z.1,ht _ _ z.2.1,z.2.2⟩
section
variable {P:Program} {w:World} {H:Hp} {h:Heap} {a:Addr}
theorem zaN {u:HO} (ok:HOk P w H h) (e:Rd H a u):z8 P w H h a u:=e.ok ok
theorem zaO {kvs:List (Key×V)} (ok:HOk P w H h) (e:Rd H a (.dK kvs)):kvs.length<=sizeLine/\(a == sysModules)=false/\∃ vs,KV kvs vs/\h.DictOf (yv P w) a vs :=
 show z8 P w H h a (.dK kvs) from zaN ok e
theorem zdq {kvs:List (Key×V)} (ok:HOk P w H h) (e:H a=some (.dK kvs)):kvs.length<=sizeLine/\(a == sysModules)=false/\∃ vs,KV kvs vs/\h.DictOf (yv P w) a vs:=zaO ok (.inl e)
theorem Xf {ks:List Key} (ok:HOk P w H h) (e:H a=some (.tup (ks.map kV))):(tupleKind (yv P w)).is h ks a:=by
 obtain ⟨_,its,r,o,h1,h2,n,h3⟩:=(show z8 P w H h a (.tup (ks.map kV)) from ok a _ e)
 exact ⟨o,its.toArray,n,h1,h2,h3,by simpa using Ye r⟩
theorem zaP {kvs:List (List Key×V)} (ok:HOk P w H h) (e:Rd H a (.dT kvs)):kvs.length<=sizeLine/\(a == sysModules)=false /\
  ∃ xs,KT H kvs xs/\h.DictOfH (tupleKind (yv P w)) a xs:=by
 obtain ⟨z,y,xs,r,o,es,ep,h1,h2,h3,h4,h5⟩:=(show z8 P w H h a (.dT kvs) from zaN ok e)
 refine ⟨z,y,xs,r,o,es,ep,h1,h2,h3,h4,fun x hx=>?_,h5⟩
 have all:∀ {l:List (List Key×V)} {m:List (List Key×Addr×Value)},KT H l m->∀ x∈m,(tupleKind (yv P w)).is h x.1 x.2.1:=by
  intro l m q
  induction q with
  | nil=>intro x hx;exact nomatch hx
  | @cons p q ps qs hq t ih =>
   intro x hx
   rcases kO.mp hx with e | hx
   ·subst e
    exact Xf ok (by rw [<- hq.1];exact hq.2.1)
   ·exact ih x hx
 exact all r x hx
theorem zaQ {kvs:List (List Key×V)} (ok:HOk P w H h) (e:H a=some (.dT kvs)):kvs.length<=sizeLine/\(a == sysModules)=false /\
  ∃ xs,KT H kvs xs/\h.DictOfH (tupleKind (yv P w)) a xs:=zaP ok (.inl e)
end
noncomputable def DGet (H:Hp) (a:Addr) (y:V) (r:Option V):Prop :=
 (∃ kvs k,Rd H a (.dK kvs)/\y=kV k/\r=valV kvs k)\/∃ kvs k b,Rd H a (.dT kvs)/\y=.ref b/\H b=some (.tup (k.map kV))/\r=valV kvs k
noncomputable def DPut (H:Hp) (a:Addr) (y v:V) (H':Hp):Prop :=
 (∃ kvs k,H a=some (.dK kvs)/\y=kV k/\kvs.length<sizeLine/\H'=upd H a (.dK (putK kvs k v))) \/
 ∃ kvs k b,H a=some (.dT kvs)/\y=.ref b/\H b=some (.tup (k.map kV))/\kvs.length<sizeLine/\H'=upd H a (.dT (putK kvs k v))
theorem DGet.t {H:Hp} {a b:Addr} {kvs:List (List Key×V)} {k:List Key} (e:H a=some (.dT kvs)) (eb:H b=some (.tup (k.map kV))):DGet H a (.ref b) (valV kvs k):=.inr ⟨kvs,k,b,.inl e,rfl,eb,rfl⟩
theorem DPut.t {H:Hp} {a b:Addr} {kvs:List (List Key×V)} {k:List Key} {v:V} (e:H a=some (.dT kvs)) (eb:H b=some (.tup (k.map kV))) (hl:kvs.length<sizeLine) :
  DPut H a (.ref b) v (upd H a (.dT (putK kvs k v))):=.inr ⟨kvs,k,b,e,rfl,eb,hl,rfl⟩
section
variable {X:Cx} {pins:List (Addr×Obj)} {σ:St} {H:Hp} {s:Shared} {a:Addr} {y v:V} {u r:Value} {o:Option V} {A:Around} {E:Value->Shared->Prop}
theorem Inv.big (I:Inv X pins σ H s):sysModules<s.heap.objs.size:=by
 have h:mainGlobals<s.heap.objs.size:=(I.mod.glob.keeps I.bk).lt
 exact Nat.lt_trans (by decide) h
theorem d_in {Q:Value->Shared->Prop} (hu:A.units+1<cLine) (I:Inv X pins σ H s) (g:DGet H a y o) (ry:RelV y u) (h:∀ s',Inv X pins σ H s'->Q (.bool o.isSome) s') :
  wpAny (model X.prog X.w) A (compareOp .In u (.ref a)) Q E s:=by
 rcases g with ⟨kvs,k,e,ey,l⟩ | ⟨kvs,k,b,e,ey,eb,l⟩
 ·subst ey
  obtain ⟨z,hd,vs,rel,dd⟩:=zaO I.hok e
  refine wpAny_in_of (WO ry) hd dd.mapOf ?_
  rw [<- (rel.val k).isSome_eq,<- l]
  exact h _ (I.tok _)
 ·subst ey
  cases (show u=Value.ref b from ry)
  obtain ⟨z,hd,xs,rel,dd⟩:=zaP I.hok e
  refine wpAny_in_heap (tupleKind_room_in1 hu) (Xf I.hok eb) hd dd ?_
  have q:=(rel.val k).isSome_eq
  rw [Option.isSome_map] at q
  rw [<- q,<- l]
  exact h _ (I.tok _)
theorem Wm {h':Heap} {t':Nat} {ob:HO} (I:Inv X pins σ H s) (mu:Mut (H a)) (hs:Heap.SameBut a s.heap h') (he:∃ q,h'.get? a=some q) (new:z8 X.prog X.w (upd H a ob) h' a ob) :
  Inv X pins σ (upd H a ob) {s with heap:=h',toks:=t'} :=
 I.write (x:=a) (e:=a) mu (.inl rfl) (fun b q hb z=>(hs.2 b hb).trans z) he new
theorem zcr {P:Program} {w:World} {H':Hp} {h':Heap} {kvs:List (Key×V)} {vs:List (Key×Value)} (z:kvs.length<=sizeLine) (hd:(a == sysModules)=false) (rel:KV kvs vs) (dd:h'.DictOf (yv P w) a vs) :
  z8 P w H' h' a (.dK kvs):=⟨z,hd,vs,rel,dd⟩
theorem QQ {H':Hp} {Q:Unit->Shared->Prop} (hu:A.units+1<cLine) (I:Inv X pins σ H s) (g:DPut H a y v H') (ry:RelV y u) (rv:RelV v r) (h:∀ s',Inv X pins σ H' s'->Q () s') :
  wpAny (model X.prog X.w) A (setItem (.ref a) u r) Q E s:=by
 rcases g with ⟨kvs,k,e,ey,l,eH⟩ | ⟨kvs,k,b,e,ey,eb,l,eH⟩
 ·subst ey eH
  obtain ⟨z,hd,vs,rel,dd⟩:=zdq I.hok e
  have hz:vs.length<=sizeLine:=by rw [<- rel.length];exact z
  have hl:(putK kvs k v).length<=sizeLine:=by have:=js kvs k v;omega
  refine wpAny_setItem_pairs (hsz:=hz) (WO ry) dd fun h' dd' hs=>h _ ?_
  have he:∃ q,h'.get? a=some q:=let ⟨q,_,_,hq,_⟩:=dd';⟨q,hq⟩
  exact Wm I (by rw [e];exact True.intro) hs he (zcr hl hd (rel.put k rv) dd')
 ·subst ey eH
  cases (show u=Value.ref b from ry)
  obtain ⟨z,hd,xs,rel,dd⟩:=zaQ I.hok e
  have hz:xs.length<=sizeLine:=by rw [<- Paired.length rel];exact z
  have hl:(putK kvs k v).length<=sizeLine:=by have:=js kvs k v;omega
  refine wpAny_setItem_heap (hsz:=hz) (tupleKind_room_in1 hu) (Xf I.hok eb) dd fun h' dd' hs=>h _ ?_
  obtain ⟨q,es,ep,hq,h2,h3,h4,_,h5⟩:=dd'
  refine Wm I (by rw [e];exact True.intro) hs ⟨q,hq⟩ ⟨hl,hd,_,(rel.put k eb rv).keeps fun c ys ec=>?_,q,es,ep,hq,h2,h3,h4,h5⟩
  rw [zy (xI ec e (fun z=>nomatch z))]
  exact ec
end
noncomputable def tDIn (ty td:TE):TE:=fun σ H Q=>ty σ H fun y H1=>td σ H1 fun x H2=>∃ a o,x=.ref a/\DGet H2 a y o/\Q (.bl o.isSome) H2
noncomputable def zdr (td ty tv:TE):TS:=fun D σ H=>tv σ H fun v H1=>td σ H1 fun x H2=>ty σ H2 fun y H3=>∃ a H4,x=.ref a/\DPut H3 a y v H4/\D.nx σ H4
section
variable {X:Cx} {o i e value:Expr} {pos pos' tpos:Pos} {td ty tv:TE}
theorem zcs (hu:X.A.units+1<cLine) (hi:PE X i ty) (ho:PE X o td):PC X .In i o (tDIn ty td):=by
 intro pins s σ H Q I h
 refine thn (hi pins s σ H _ I h) fun iv s1 ⟨y,H1,I1,ry,q1⟩=>thn (ho pins s1 σ H1 _ I1 q1) fun u s2 h9=>?_
 obtain ⟨x,H2,I2,rx,a,ov,ex,g,q2⟩:=h9
 subst ex
 obtain rfl:u=Value.ref a:=rx
 exact d_in hu I2 g ry fun s3 I3=>⟨.bl ov.isSome,H2,I3,rfl,q2⟩
theorem zbi (hu:X.A.units+1<cLine) (ho:PE X o td) (hi:PE X i ty) (hv:PE X value tv) (hs:swapsWith value (some (.Subscript o i pos')) pos.line X.env=pure false) :
  PS X (.Assign [.Subscript o i pos'] value pos) (zdr td ty tv):=by
 intro pins s σ H D I h
 refine wpAny_Assign_Subscript (thn (hv pins s σ H _ I h) fun r s1 ⟨v,H1,I1,rv,q1⟩=>thn (ho pins s1 σ H1 _ I1 q1) fun u s2 ⟨x,H2,I2,rx,q2⟩=>thn (hi pins s2 σ H2 _ I2 q2) fun iv s3 ⟨y,H3,I3,ry,a,H4,ex,g,q3⟩=>?_) hs
 subst ex
 obtain rfl:u=Value.ref a:=rx
 exact QQ hu I3 g ry rv fun s4 I4=>⟨σ,H4,I4,q3⟩
end
theorem JZ {P:Program} {w:World} {H:Hp} (h:Heap) (hb:sysModules<h.objs.size):z8 P w H (h.push {cls:=.type "dict",data:=.dict #[]}) h.objs.size (.dT []) :=
 ⟨kP _,beq_eq_false_iff_ne.mpr (Ne.symm (vt hb)),[],.nil,_,#[],0,Heap.get?_push_size _ rfl,⟨rfl,rfl,rfl⟩,rfl,rfl,uZ⟩
noncomputable def zct:TE:=fun _ H Q=>∀ p,H p=none->Q (.ref p) (upd H p (.dT []))
section
variable {X:Cx} {pos:Pos}
theorem J0:PE X (.Dict [] [] pos) zct:=fun pins s σ H Q I h =>
 wpAny_Dict_empty ⟨.ref s.heap.objs.size,_,I.laid (a:=s.heap.objs.size) (o:=.dT []) (t':=s.toks) (fun _ _ q=>Heap.get?_push_of_some _ q) (kc _) (JZ s.heap I.big),rfl,h _ (I.hok.fresh (kc _))⟩
end
section
variable {κ:Type} [DecidableEq κ]
theorem zbj {kvs:List (κ×V)} {k:κ} {v:V} (h:valV kvs k=some v):k∈kvs.map (·.1):=by
 have q:(kvs.any fun kv=>decide (kv.1=k))=true:=by
  rw [qf,h]
  all_goals rfl
 obtain ⟨p,hp,e⟩:=bc.mp q
 exact kX.mpr ⟨p,hp,of_decide_eq_true e⟩
end
end _L2
namespace _L2
open PySem
noncomputable def GI (mg:Str->Option Value) (x:Str) (n:Int):Prop:=∃ t,mg x=some (.int n t)
theorem zG {X:Cx} {x:Str} {n:Int} {pos:Pos} (hg:Gl X x) (h:GI X.mg x n) (hd:(x == ("__debug__" : Str))=false:=by decide):PE X (.Name x pos) (tC (.int n)):=by
 obtain ⟨t,h⟩:=h
 exact Zo hg h ⟨t,rfl⟩ hd
theorem zcu {X:Cx} {x:Str} {C:Addr} {pos:Pos} (hg:Gl X x) (hm:X.mg x=some (.ref C)) (hd:(x == ("__debug__" : Str))=false:=by decide):PE X (.Name x pos) (tC (.ref C)):=Zo hg hm rfl hd
theorem yB {X:Cx} {x:Str} {T:String} {pos:Pos} (hg:Gl X x) (hm:X.mg x=none) (hv:bootBuiltins x=some (.type T)) (hn:x ≠ "__name__" := by decide) (hd:(x == ("__debug__" : Str))=false:=by decide):PE X (.Name x pos) (tC (.ty T)):=za1 hg hm hv rfl hn hd
end _L2
namespace _JJ
open PySem _L2 _Lin
noncomputable def top (i:Nat):Stmt:=PySem.Challenge.pw_pagepart_k81_whole_least_page.main.body.getD i (.Pass ⟨0,0,0,0⟩)
noncomputable abbrev q9:Stmt:=top 9
noncomputable abbrev ja:Stmt:=top 10
noncomputable abbrev sAre:Stmt:=top 11
noncomputable abbrev x5:Stmt:=top 12
noncomputable abbrev wL:Stmt:=top 13
noncomputable abbrev wM:Stmt:=top 14
noncomputable abbrev jb:Stmt:=top 15
noncomputable abbrev wN:Stmt:=top 16
noncomputable abbrev x6:Stmt:=top 17
noncomputable abbrev x8:Stmt:=top 68
noncomputable abbrev sLw:Stmt:=top 70
noncomputable abbrev sLaw:Stmt:=top 79
noncomputable abbrev wO:Stmt:=top 26
noncomputable abbrev sHas:Stmt:=top 33
noncomputable abbrev sBr:Stmt:=top 34
noncomputable abbrev sNum:Stmt:=top 35
noncomputable abbrev jc:Stmt:=top 36
noncomputable abbrev jd:Stmt:=top 37
noncomputable abbrev wP:Stmt:=top 38
noncomputable abbrev sPrn:Stmt:=top 64
noncomputable abbrev sWof:Stmt:=top 65
noncomputable abbrev sWin:Stmt:=top 66
noncomputable abbrev je:Stmt:=top 41
noncomputable abbrev sRTx:Stmt:=top 42
noncomputable abbrev sSbs:Stmt:=top 43
noncomputable abbrev sAll:Stmt:=top 44
noncomputable abbrev jf:Stmt:=top 45
noncomputable abbrev sBst:Stmt:=top 46
noncomputable abbrev sSo:Stmt:=top 47
noncomputable abbrev sLow:Stmt:=top 48
noncomputable abbrev jg:Stmt:=top 49
noncomputable abbrev sTst:Stmt:=top 50
noncomputable abbrev sLh:Stmt:=top 51
noncomputable abbrev wQ:Stmt:=top 53
noncomputable abbrev sPa:Stmt:=top 54
noncomputable abbrev sPd:Stmt:=top 55
noncomputable abbrev sPo:Stmt:=top 56
noncomputable abbrev xN:Stmt:=top 57
noncomputable abbrev sHin:Stmt:=top 58
noncomputable abbrev xF:Stmt:=top 59
noncomputable abbrev wR:Stmt:=top 69
noncomputable abbrev sPrd:Stmt:=top 63
noncomputable abbrev sLov:Stmt:=top 62
theorem fresh {H:Hp} {p:Addr} {o:HO} {R:Hp->Prop} (hn:H p=none) (k:∀ H1,Same H H1->H1 p=some o->R H1):R (upd H p o) :=
 k _ (fun b u e=>by rw [zy (zK e hn)];exact e) zc
structure Callee (P:Program) (w:World) (K:PySem.W.Frag) (mg:Str->Option Value) (base:Heap) (CX:CXT) (k:Nat) (x:Str) (f:Addr) (fd:FuncData) (ps:List Str) (sp:Sp):Prop where
 ok:FnOk P w K mg base CX k f fd ps sp
 bound:mg x=some (.ref f)
 kp:kD K (.ref f)=true
 bd:Binds K fd ps []
theorem QR {ns:List Int} {k:Int} (h0:0<=k) (h1:k<ns.length):atI (ns.map V.int) k=some (.int (ns.getD k.toNat 0)):=by
 obtain ⟨j,rfl⟩:=uo h0
 refine yw ?_
 rw [kR,kb (by omega)]
 simp [List.getD,show j<ns.length by omega]
theorem zU {H H1:Hp} {l:Addr} {o:HO} (S:Same H H1) (hn:H l=none):Same H (upd H1 l o):=fun b u e=>by
 rw [zy (zK e hn)]
 exact S b u e
theorem zf {H:Hp} {p:Addr} {o:HO} (hn:H p=none):Same H (upd H p o):=fun b u e=>by rw [zy (zK e hn)];exact e
theorem qg {σ:St} {H:Hp}:Evl (tUn (rU fun i=>V.int (-i)) (tC (V.int 1))) σ H (.int (-1)):=fun Q q=>⟨1,rfl,q⟩
noncomputable def tx (ws:List W):List V:=ws.map fun w=>V.str (txt w)
theorem zL (ws:List W):(tx ws).length=ws.length:=ka _
theorem zcv {ws:List W} {i:Nat} {w:W} (h:ws[i]?=some w):(tx ws)[i]?=some (V.str (txt w)):=by
 unfold tx
 rw [kR,h]
 rfl
theorem yN {ws:List W} {i:Nat} {x:V} (h:(tx ws)[i]?=some x):∃ w,ws[i]?=some w/\x=V.str (txt w):=by
 unfold tx at h
 rw [kR] at h
 cases e:ws[i]? with
 | none=>rw [e] at h;cases h
 | some w=>rw [e] at h;cases h;exact ⟨w,rfl,rfl⟩
theorem xo (ws:List W) (w:W):tx ws++[V.str (txt w)]=tx (ws++[w]):=by
 unfold tx
 rw [kz]
 rfl
noncomputable def good (c:Nat):Prop:=33<=c/\c<=126/\c≠37
noncomputable def okW (w:W):Prop:=1<=w.length/\w.length<=12/\∀ c∈w,good c
structure Nm (K:PySem.W.Frag) (mg:Str->Option Value):Prop where
 gOUT:GI mg "LEFT_OUT" 37
 gMOST:GI mg "MOST_SIGNS" 12
 ti:mg "isinstance" = none
 tstr:mg "str" = none
 tlist:mg "list" = none
 tl:mg "len" = none
 tall:mg "all" = none
 tany:mg "any" = none
 tord:mg "ord" = none
 kNs:kC K (.type "NoneType") (.type "str")=some false
 kBs:kC K (.type "bool") (.type "str")=some false
 kIs:kC K (.type "int") (.type "str")=some false
 kLs:kC K (.type "list") (.type "str")=some false
 kTs:kC K (.type "tuple") (.type "str")=some false
 kDs:kC K (.type "dict") (.type "str")=some false
 kNl:kC K (.type "NoneType") (.type "list")=some false
 kSl:kC K (.type "str") (.type "list")=some false
 kIl:kC K (.type "int") (.type "list")=some false
 kTl:kC K (.type "tuple") (.type "list")=some false
 kDl:kC K (.type "dict") (.type "list")=some false
 kBl:kC K (.type "bool") (.type "list")=some false
noncomputable def isG (c:Nat):Bool:=decide (33<=c) && (decide (c<=126) && decide (c≠37))
noncomputable def isW (l:W):Bool:=decide (1<=l.length) && (decide (l.length<=12) && l.all isG)
theorem Wp {c:Nat}:isG c=true↔good c:=by
 unfold isG good
 rw [vj,vj,decide_eq_true_eq,decide_eq_true_eq,decide_eq_true_eq]
theorem zbk {l:W}:isW l=true↔okW l:=by
 unfold isW okW
 rw [vj,vj,decide_eq_true_eq,decide_eq_true_eq,vK]
 exact and_congr Iff.rfl (and_congr Iff.rfl ⟨fun h c hc=>Wp.mp (h c hc),fun h c hc=>Wp.mpr (h c hc)⟩)
inductive NoS (H:Hp):V->Prop where
 | non:NoS H .non
 | bl (b:Bool):NoS H (.bl b)
 | int (i:Int):NoS H (.int i)
 | lst {a:Addr} {xs:List V} (e:H a=some (.lst xs)):NoS H (.ref a)
 | tup {a:Addr} {xs:List V} (e:H a=some (.tup xs)):NoS H (.ref a)
 | dK {a:Addr} {kvs:List (Key×V)} (e:H a=some (.dK kvs)):NoS H (.ref a)
inductive NoL (H:Hp):V->Prop where
 | non:NoL H .non
 | bl (b:Bool):NoL H (.bl b)
 | int (i:Int):NoL H (.int i)
 | str (x:Str):NoL H (.str x)
 | tup {a:Addr} {xs:List V} (e:H a=some (.tup xs)):NoL H (.ref a)
 | dK {a:Addr} {kvs:List (Key×V)} (e:H a=some (.dK kvs)):NoL H (.ref a)
theorem NoS.same {H H':Hp} (S:Same H H') {x:V} (h:NoS H x):NoS H' x:=by
 cases h with
 | non=>exact .non
 | bl b=>exact .bl b
 | int i=>exact .int i
 | lst e=>exact .lst (S _ _ e)
 | tup e=>exact .tup (S _ _ e)
 | dK e=>exact .dK (S _ _ e)
theorem NoL.same {H H':Hp} (S:Same H H') {x:V} (h:NoL H x):NoL H' x:=by
 cases h with
 | non=>exact .non
 | bl b=>exact .bl b
 | int i=>exact .int i
 | str x=>exact .str x
 | tup e=>exact .tup (S _ _ e)
 | dK e=>exact .dK (S _ _ e)
theorem NoS.ty {K:PySem.W.Frag} {mg:Str->Option Value} (Z:Nm K mg) {H:Hp} {x:V} (h:NoS H x):∃ t,TyX K H x t/\kC K t (.type "str")=some false:=by
 cases h with
 | non=>exact ⟨_,.of .non,Z.kNs⟩
 | bl b=>exact ⟨_,.of (.bl b),Z.kBs⟩
 | int i=>exact ⟨_,.of (.int i),Z.kIs⟩
 | lst e=>exact ⟨_,.of (.lst e),Z.kLs⟩
 | tup e=>exact ⟨_,.of (.tup e),Z.kTs⟩
 | dK e=>exact ⟨_,.of (.dK e),Z.kDs⟩
theorem NoL.ty {K:PySem.W.Frag} {mg:Str->Option Value} (Z:Nm K mg) {H:Hp} {x:V} (h:NoL H x):∃ t,TyX K H x t/\kC K t (.type "list")=some false:=by
 cases h with
 | non=>exact ⟨_,.of .non,Z.kNl⟩
 | bl b=>exact ⟨_,.of (.bl b),Z.kBl⟩
 | int i=>exact ⟨_,.of (.int i),Z.kIl⟩
 | str x=>exact ⟨_,.of (.str x),Z.kSl⟩
 | tup e=>exact ⟨_,.of (.tup e),Z.kTl⟩
 | dK e=>exact ⟨_,.of (.dK e),Z.kDl⟩
noncomputable def JW (H:Hp) (x:V) (b:Bool):Prop:=(∃ l:W,x=.str (txt l)/\(∀ c∈l,c<128)/\l.length<=1000/\b=isW l)\/(b=false/\NoS H x)
theorem JW.same {H H':Hp} (S:Same H H') {x:V} {b:Bool} (h:JW H x b):JW H' x b:=h.imp id fun h=>⟨h.1,h.2.same S⟩
noncomputable def JWs (H:Hp):List V->List Bool->Prop:=Paired (JW H)
theorem JWs.same {H H':Hp} (S:Same H H'):∀ {vs:List V} {bs:List Bool},JWs H vs bs->JWs H' vs bs
 | _,_,.nil=>.nil
 | _,_,.cons h t=>.cons (h.same S) (JWs.same S t)
theorem JWs.len {H:Hp} {vs:List V} {bs:List Bool} (h:JWs H vs bs):vs.length=bs.length:=Paired.length h
theorem JWs.get {H:Hp}:∀ {vs:List V} {bs:List Bool} {i:Nat} {v:V},JWs H vs bs->vs[i]?=some v->∃ b,bs[i]?=some b/\JW H v b
 | _,_,_,_,.nil,e=>by simp at e
 | _,_,0,_,.cons r _,e=>by simp at e;subst e;exact ⟨_,rfl,r⟩
 | _,_,i+1,v,.cons _ t,e=>by
  obtain ⟨p,h1,h2⟩:=JWs.get (i:=i) (v:=v) t (by simpa using e)
  exact ⟨p,by simpa using h1,h2⟩
theorem zbl {H:Hp} {u:W} (h:okW u):JW H (.str (txt u)) true:=.inl ⟨u,rfl,fun c hc=>by
 have:=h.2.2 c hc
 unfold good at this
 omega,by have:=h.2.1;omega,(zbk.mpr h).symm⟩
theorem jK {H:Hp}:∀ {ws:List W},(∀ u∈ws,okW u)->JWs H (tx ws) (kF ws.length true)
 | [],_=>.nil
 | u::r,h=>.cons (zbl (h u kh)) (jK (ws:=r) fun v hv=>h v (kj _ hv))
noncomputable def Bad (H:Hp) (x:V):Prop:=(∃ (a:Addr) (xs:List V) (bs:List Bool),x=.ref a/\H a=some (.lst xs)/\JWs H xs bs/\xs.length<=1000/\bs.all id=false)\/NoL H x
noncomputable def Xg:Sp:=fun vs H Q _=>∃ c:Nat,vs=[.str (txt [c])]/\Q (.bl (isG c)) H
noncomputable def Xh:Sp:=fun vs H Q _=>∃ (x:V) (b:Bool),vs=[x]/\JW H x b/\∀ H',Same H H'->Q (.bl b) H'
noncomputable def Yv:Sp:=fun vs H Q _=>∃ x:V,vs=[x]/\((∃ (a:Addr) (xs:List V) (bs:List Bool),x=.ref a/\H a=some (.lst xs)/\JWs H xs bs/\xs.length<=1000/\∀ H',Same H H'->Q (.bl (bs.all id)) H')\/(NoL H x/\Q (.bl false) H))
noncomputable def qh (C:Addr):Sp:=fun vs H Q E=>∃ x:V,vs=[x]/\((∃ (a:Addr) (ws:List W),x=.ref a/\H a=some (.lst (tx ws))/\(∀ w∈ws,okW w)/\ws.length<=1000/\∀ H',Same H H'->Q .non H')\/(Bad H x/\∀ H',Same H H'->E (.ref C) none H'))
noncomputable def jh:Sp:=fun vs H Q _=>∃ (a:Addr) (ws:List W) (wide:Int),vs=[.ref a,.int wide]/\H a=some (.lst (tx ws))/\(∀ w∈ws,okW w)/\ws.length<=1000 /\
 ∀ (l:Addr) (H':Hp),Same H H'->H l=none->H' l=some (.lst (tx (taken wide ws)))->Q (.ref l) H'
noncomputable def ZD (C:Addr):Sp:=fun vs H Q E=>∃ (x:V) (wide:Int),vs=[x,.int wide]/\((∃ (a:Addr) (ws:List W),x=.ref a/\H a=some (.lst (tx ws))/\(∀ w∈ws,okW w)/\ws.length<=1000/\(∀ w∈ws,(w.length:Int)<=wide) /\
 ∀ (l:Addr) (H':Hp),Same H H'->H l=none->H' l=some (.lst (tx (taken wide ws)))->Q (.ref l) H')\/(Bad H x/\∀ H',Same H H'->E (.ref C) none H'))
theorem QS (c d:Nat):decide ((txt [c]).cps.toList<(txt [d]).cps.toList)=decide (c<d):=by
 rw [decide_eq_decide]
 show ([c]:List Nat) < [d]↔c<d
 rw [List.cons_lt_cons_iff]
 constructor
 ·rintro (z | ⟨_,z⟩)
  ·exact z
  ·exact absurd z (List.not_lt_nil _)
 ·exact .inl
section
variable {P:Program} {w:World} {K:PySem.W.Frag} {mg:Str->Option Value} {base:Heap}
theorem zcw:zu ["sign"] ["sign"] (ze q9):=⟨rfl,rfl,rfl,by decide +kernel,rfl,by decide +kernel,by decide +kernel⟩
theorem zbm {f:Addr} {fd:FuncData} (F:Fun K "is_sign" "is_sign" q9 f fd) (Z:Nm K mg):FnOk P w K mg base CX0 1 f fd ["sign"] Xg:=by
 obtain ⟨gOUT,gMOST,ti,tstr,tlist,tl,tall,tany,tord,_,_,_,_,_,_,_,_,_,_,_,_⟩:=Z
 refine F.ok zcw (fun vs H Q E h=>?_) (fun cdv A outer s H vs Q E hr h=>?_)
 ·obtain ⟨c,rfl,_⟩:=h
  rfl
 ·obtain ⟨c,rfl,q⟩:=h
  refine ⟨_,(zg (zm (y3 (JG Z8 Z8 yk (pv 0) yk) (xu (yq wZ (zh JH (by rfl) tord PyProof.Rows.boot_ord (za (pv 0) zb)) (zG rfl gOUT) (zE _)))))),?_⟩
  have e1:("!" : Str)=txt [33]:=by decide +kernel
  have e2:("~" : Str)=txt [126]:=by decide +kernel
  refine ⟨_,rfl,_,_,rfl,rfl,_,rfl,?_⟩
  have d1:(!decide ((txt [c]).cps.toList<(("!" : Str)).cps.toList))=decide (33<=c):=by rw [e1,QS,<- decide_not,decide_eq_decide];omega
  rw [d1]
  unfold isG at q
  by_cases c1:33<=c
  ·rw [decide_eq_true c1] at q ⊢
   refine iteT ⟨_,_,rfl,rfl,_,rfl,?_⟩
   have d2:(!decide ((("~" : Str)).cps.toList<(txt [c]).cps.toList))=decide (c<=126):=by rw [e2,QS,<- decide_not,decide_eq_decide];omega
   rw [d2]
   by_cases c2:c<=126
   ·rw [decide_eq_true c2] at q ⊢
    refine iteT ⟨_,rfl,_,rfl,rfl,rfl,?_⟩
    have d3:(!decide (V.int (((txt [c]).cps.getD 0 0:Nat))=V.int 37))=decide (c≠37):=by
     have:(txt [c]).cps.getD 0 0=c:=rfl
     rw [this,qW]
     by_cases h:c=37
     ·subst h;rfl
     ·rw [decide_eq_true h];simp;omega
    rw [d3]
    exact q
   ·rw [decide_eq_false c2] at q ⊢
    exact iteF q
  ·rw [decide_eq_false c1] at q ⊢
   exact iteF ⟨_,rfl,iteF q⟩
end
end _JJ
namespace _JJ
open PySem _L2 _Lin
theorem wD (wide:Int) (ws:List W):(∀ w∈ws,w.length<=12)->∀ r∈taken wide ws,r.length<=13*ws.length :=
 snoc_ind (P:=fun ws=>(∀ w∈ws,w.length<=12)->∀ r∈taken wide ws,r.length<=13*ws.length) (fun _ r hr=>(kN hr).elim) (fun ws w ih h r hr=>by
  have ih:=ih fun v hv=>h v (vD _ hv)
  have hw:=h w (by simp)
  rw [yT] at hr
  rw [kg,vo]
  unfold put at hr
  split at hr
  ·rename_i q e
   have hq:=ih q (bh e)
   split at hr
   ·rcases ve.mp hr with m | m
    ·have:=ih r (List.dropLast_subset _ m)
     omega
    ·rw [kq.mp m,kg,kH]
     omega
   ·rcases ve.mp hr with m | m
    ·have:=ih r m
     omega
    ·rw [kq.mp m]
     omega
  ·rw [kq.mp hr]
   omega) _ ws rfl
theorem Xi (us:List V) (v u:V):ixN (us++[v]).length (-1)=some us.length/\(us++[v]).set us.length u=us++[u]:=by
 refine ⟨?_,?_⟩
 ·unfold ixN
  rw [kg,vo,if_neg (by omega),if_pos (by omega)]
  congr 1
  omega
 ·rw [List.set_append_right _ _ (kc _),Nat.sub_self]
  rfl
section
variable {P:Program} {w:World} {K:PySem.W.Frag} {mg:Str->Option Value} {base:Heap}
theorem zcx:zu ["thing"] ["thing"] (ze ja):=⟨rfl,rfl,rfl,by decide +kernel,rfl,by decide +kernel,by decide +kernel⟩
theorem zbn {f fS:Addr} {fd fdS:FuncData} (F:Fun K "is_word" "is_word" ja f fd) (Z:Nm K mg) (Si:Callee P w K mg base CX0 1 "is_sign" fS fdS ["sign"] Xg):FnOk P w K mg base CX0 2 f fd ["thing"] Xh:=by
 have Z':=Z
 obtain ⟨gOUT,gMOST,ti,tstr,tlist,tl,tall,tany,tord,_,_,_,_,_,_,_,_,_,_,_,_⟩:=Z
 refine F.ok zcx (fun vs H Q E h=>?_) (fun cdv A outer s H vs Q E hr h=>?_)
 ·refine E_2 h fun x b n8=>A_2 n8 fun e9 _=>?_;clear n8 h;subst e9
  rfl
 ·refine E_2 h fun x b n8=>A_3 n8 fun e9 hJ q=>?_;clear n8 h;subst e9
  refine ⟨_,(zd (zJ (PW.pt (yR (ye (yc (zh yg (by rfl) ti kW (za (pv 0) (za (yB rfl tstr PyProof.Rows.boot_str) zb))))) (yZ (ye (YL yS yS zi (zh zZ (by rfl) tl kK (za (pv 0) zb)) (zG rfl gMOST))))))
   (zg (zm xt))
   zF)
   (zg (zm (zh (y6 rfl) (by rfl) tall vS (za (zV (Nc:=["sign"]) (ix:=[none]) rfl rfl (by exact (zco (pv 0))) (fun _ _ _ _ _=>(zn (i:=0) (by show (["sign"]:List Str).Nodup;decide +kernel) rfl (Or.inl rfl))) (fun _ _ _ _ _=>zR) (fun _ _ _ _ _=>(zj Si.ok hr rfl Si.bound Si.kp Si.bd .nil zx (za (pv 0) zb)))) zb))))),?_⟩
  rcases hJ with ⟨l,rfl,asc,l1000,rfl⟩ | ⟨rfl,ns⟩
  ·refine ⟨_,rfl,_,_,_,_,rfl,rfl,.of (.str _),rfl,_,rfl,iteF ?_⟩
   refine ⟨_,rfl,txt l,rfl,(by rw [zO];exact km l1000 (by decide)),_,_,rfl,rfl,_,rfl,?_⟩
   rw [zO]
   have q0:=q H (Same.refl _)
   unfold isW at q q0
   by_cases c1:1<=l.length
   ·rw [decide_eq_true c1] at q q0
    have d1:decide ((1:Int)<=(l.length:Nat))=true:=decide_eq_true (by omega)
    rw [d1]
    refine iteT ⟨_,_,rfl,rfl,_,rfl,?_⟩
    by_cases c2:l.length<=12
    ·rw [decide_eq_true c2] at q q0
     have d2:decide (((l.length:Nat):Int)<=12)=true:=decide_eq_true (by omega)
     rw [d2]
     refine iteF ?_
     refine ⟨_,rfl,l,rfl,asc,zbg (l:=l) (fun i ys σ H'=>ys=((l.take i).map isG).map V.bl/\H'=H/\∃ o,σ=[o]) ⟨rfl,rfl,none,rfl⟩
      (fun i ys σ H' hi h9=>by obtain ⟨e,_⟩:=h9;exact (by rw [e,ka,ka,kL];exact km (show _<=1000 by omega) (by decide))) ?_ ?_⟩
     ·intro ys σ H' h8 la nl
      obtain ⟨e,rfl,_⟩:=h8
      rw [kM] at e
      subst e
      refine ⟨la,l.map isG,rfl,SqL.of zc,?_⟩
      rw [List.all_map]
      exact q _ (zf nl)
     ·intro i c ys σ H' hx h8
      obtain ⟨e,rfl,o,rfl⟩:=h8
      subst e
      obtain ⟨hil,ev⟩:=kf.mp hx
      dsimp only [zW,tYes]
      refine iteT ?_
      refine ⟨_,rfl,c,rfl,?_,rfl,_,rfl⟩
      rw [<- ky hil,ev,kz,kz]
      rfl
    ·rw [decide_eq_false c2] at q q0
     have d2:decide (((l.length:Nat):Int)<=12)=false:=decide_eq_false (by omega)
     rw [d2]
     exact iteT q0
   ·rw [decide_eq_false c1] at q q0
    have d1:decide ((1:Int)<=(l.length:Nat))=false:=decide_eq_false (by omega)
    rw [d1]
    exact iteF ⟨_,rfl,iteT q0⟩
  ·obtain ⟨t,ty,k⟩:=ns.ty Z'
   exact ⟨_,rfl,_,_,t,_,rfl,rfl,ty,k,_,rfl,iteT (iteT (q H (Same.refl _)))⟩
theorem zds:zu ["things"] ["things"] (ze sAre):=⟨rfl,rfl,rfl,by decide +kernel,rfl,by decide +kernel,by decide +kernel⟩
theorem zcy {f fS:Addr} {fd fdS:FuncData} (F:Fun K "are_words" "are_words" sAre f fd) (Z:Nm K mg) (Wo:Callee P w K mg base CX0 2 "is_word" fS fdS ["thing"] Xh):FnOk P w K mg base CX0 3 f fd ["things"] Yv:=by
 have Z':=Z
 obtain ⟨gOUT,gMOST,ti,tstr,tlist,tl,tall,tany,tord,_,_,_,_,_,_,_,_,_,_,_,_⟩:=Z
 refine F.ok zds (fun vs H Q E h=>?_) (fun cdv A outer s H vs Q E hr h=>?_)
 ·obtain ⟨x,rfl,_⟩:=h
  rfl
 ·obtain ⟨x,rfl,h⟩:=h
  refine ⟨_,(zg (zm (y3 (zh yg (by rfl) ti kW (za (pv 0) (za (yB rfl tlist uw) zb))) (xu (zh (y6 rfl) (by rfl) tall vS (za (zV (Nc:=["thing"]) (ix:=[none]) rfl rfl (by refine' z7 ?zz;case zz=>exact (pv 0)) (fun _ _ _ _ _=>(zn (i:=0) (by show (["thing"]:List Str).Nodup;decide +kernel) rfl (Or.inl rfl))) (fun _ _ _ _ _=>zR) (fun _ _ _ _ _=>(zj Wo.ok hr rfl Wo.bound Wo.kp Wo.bd .nil zx (za (pv 0) zb)))) zb)))))),?_⟩
  rcases h with ⟨a,xs,bs,rfl,ha,hJ,hn,q⟩ | ⟨nl,q⟩
  ·refine ⟨_,rfl,_,_,_,_,rfl,rfl,.of (.lst ha),rfl,_,rfl,iteT ?_⟩
   have lb:=hJ.len
   refine ⟨_,rfl,a,rfl,⟨_,SqL.of ha⟩,yh (K:=K) (a:=a) (xs:=xs) (fun i ys σ H'=>ys=(bs.take i).map V.bl/\Same H H'/\∃ o,σ=[o]) ⟨rfl,Same.refl _,none,rfl⟩
    (fun i ys σ H' hi h9=>by obtain ⟨e,S,_⟩:=h9;exact (⟨by rw [e,ka,kL];exact km (show _<=1000 by omega) (by decide),SqL.of (S _ _ ha)⟩)) ?_ ?_⟩
   ·rintro ys σ H' ⟨e,S,_⟩ la nl
    rw [lb,kM] at e
    subst e
    exact ⟨la,bs,rfl,SqL.of zc,q _ (S.trans (zf nl))⟩
   ·intro i x ys σ H' hx h8
    refine A_3 h8 fun e S n8=>E_1 n8 fun o e9=>?_;clear n8 h8;subst e9
    subst e
    obtain ⟨b,eb,hj⟩:=hJ.get hx
    obtain ⟨hil,ev⟩:=kf.mp eb
    dsimp only [zW,tYes]
    refine iteT ?_
    refine ⟨_,rfl,x,b,rfl,hj.same S,fun H2 S2=>⟨?_,S.trans S2,_,rfl⟩⟩
    rw [<- ky hil,ev,kz]
    rfl
  ·obtain ⟨t,ty,k⟩:=nl.ty Z'
   exact ⟨_,rfl,_,_,t,_,rfl,rfl,ty,k,_,rfl,iteF q⟩
theorem J1:zu ["things"] ["things"] (ze x5):=⟨rfl,rfl,rfl,by decide +kernel,rfl,by decide +kernel,by decide +kernel⟩
theorem QT {f fS C:Addr} {fd fdS:FuncData} (F:Fun K "refuse_no_words" "refuse_no_words" x5 f fd) (ex:Exc K mg "NoTexts" C) (Ar:Callee P w K mg base CX0 3 "are_words" fS fdS ["things"] Yv):FnOk P w K mg base (CXE P w) 4 f fd ["things"] (qh C):=by
 refine F.okE J1 (fun vs H Q E h=>?_) (fun cdv A outer s H vs Q E hr hh h=>?_)
 ·obtain ⟨x,rfl,_⟩:=h
  rfl
 ·obtain ⟨x,rfl,h⟩:=h
  refine ⟨_,(zg (zJ (ye (yc (zj Ar.ok hr rfl Ar.bound Ar.kp Ar.bd .nil zx (za (pv 0) zb))))
   (zg (y4 ex hh rfl (za yk zb)))
   zF)),?_⟩
  rcases h with ⟨a,ws,rfl,ha,hw,hn,q⟩ | ⟨bad,qe⟩
  ·refine ⟨_,rfl,_,rfl,.inl ⟨a,tx ws,_,rfl,ha,jK hw,by rw [zL];exact hn,fun H' S=>⟨_,rfl,?_⟩⟩⟩
   have e:(kF ws.length true).all id=true:=by simp
   rw [e]
   exact iteF (q H' S)
  ·rcases bad with ⟨a,xs,bs,rfl,ha,hJ,hn,hb⟩ | nl
   ·refine ⟨_,rfl,_,rfl,.inl ⟨a,xs,bs,rfl,ha,hJ,hn,fun H' S=>⟨_,rfl,?_⟩⟩⟩
    rw [hb]
    exact iteT ⟨by show 1<=sizeLine;decide,qe H' S⟩
   ·exact ⟨_,rfl,_,rfl,.inr ⟨nl,_,rfl,iteT ⟨by show 1<=sizeLine;decide,qe H (Same.refl _)⟩⟩⟩
theorem ZE:zu ["words","wide","rows","word"] ["words","wide"] (ze wL):=⟨rfl,rfl,rfl,by decide +kernel,rfl,by decide +kernel,by decide +kernel⟩
theorem J4 {f:Addr} {fd:FuncData} (F:Fun K "taken" "taken" wL f fd) (tl:mg "len" = none):FnOk P w K mg base CX0 1 f fd ["words","wide"] jh:=by
 refine F.ok ZE (fun vs H Q E h=>?_) (fun cdv A outer s H vs Q E hr h=>?_)
 ·refine E_3 h fun a ws wide n8=>A_2 n8 fun e9 _=>?_;clear n8 h;subst e9
  rfl
 ·refine E_3 h fun a ws wide n8=>A_5 n8 fun e9 ha hw hn q=>?_;clear n8 h;subst e9
  refine ⟨_,(zd (zt (i:=2) ZE.nd rfl (Or.inl rfl) (z5 zb))
   (zd (yp PassesOwn.never rfl (z7 (pv 0)) (zn (i:=3) ZE.nd rfl (Or.inl rfl))
   (zg (zJ (PW.pt (wF (jy (pv 2) (fun _=>rfl)) (xW (zD yS (zA yl (zA yl (zh zZ (by rfl) tl kK (za (zl zN (pv 2) (xU xw zi) (fun _ _=>rfl)) zb)) zi) (zh zZ (by rfl) tl kK (za (pv 3) zb))) (pv 1) (zE _)))))
    (zg (wG (zA yG (zA yG (zl zN (pv 2) (xU xw zi) (fun _ _=>rfl)) yk) (pv 3)) (qv (pv 2) (xU xw zi) set_list)))
    (zg (yi (yI vd vv vx yE (pv 2) (za (pv 3) zb)))))))
   (zg (zm (pv 2))))),?_⟩
  refine ⟨by show 0<=sizeLine;decide,fun l nl=>?_⟩
  refine fresh (R:=fun H1=>_) nl fun H1 S1 h1=>?_
  refine ⟨_,rfl,a,rfl,⟨_,SqL.of (S1 _ _ ha)⟩,?_⟩
  refine xA (K:=K) (a:=a) (xs:=tx ws) (fun i σ H2=>∃ o:Option V,σ=[some (.ref a),some (.int wide),some (.ref l),o]/\Same H H2/\H2 l=some (.lst (tx (taken wide (ws.take i)))))
   ⟨none,rfl,S1,h1⟩ (fun i σ H2 _ h9=>by obtain ⟨_,_,S,_⟩:=h9;exact (SqL.of (S _ _ ha))) ?_ ?_
  ·intro i x σ H2 hi h8
   refine E_1 h8 fun o n8=>A_3 n8 fun e9 S hl=>?_;clear n8 h8;subst e9
   obtain ⟨v,hv,rfl⟩:=yN hi
   obtain ⟨hil,ev⟩:=kf.mp hv
   have et:taken wide (ws.take (i+1))=put wide (taken wide (ws.take i)) v:=by rw [<- ky hil,ev,yT]
   rw [et]
   have bd:=wD wide (ws.take i) fun u hu=>(hw u (uh hu)).2.1
   have lb:=wk wide (ws.take i)
   rw [kL] at bd lb
   have vb:=(hw v (kE hv)).2.1
   generalize taken wide (ws.take i)=rows at hl bd lb ⊢
   refine zB ?_
   unfold put
   cases el:rows.getLast? with
   | none =>
    have e':rows=[]:=List.getLast?_eq_none_iff.mp el
    subst e'
    refine ⟨_,rfl,false,.inl ⟨[],SqL.of hl,rfl⟩,iteF ?_⟩
    exact ⟨_,rfl,.inl ⟨rfl,_,SqL.of hl⟩,_,rfl,l,_,_,rfl,rfl,hl,by show 0<sizeLine;decide,_,rfl,zU S nl,by rw [zc];rfl⟩
   | some r =>
    have sp:=xV el
    have rb:=bd r (bh el)
    have ers:tx rows=tx rows.dropLast++[V.str (txt r)]:=by
     conv=>lhs;rw [sp]
     rw [xo]
    have hl2:H2 l=some (.lst (tx rows.dropLast++[V.str (txt r)])):=by rw [<- ers];exact hl
    have ea:atI (tx rows.dropLast++[V.str (txt r)]) (-1)=some (V.str (txt r)):=jA _ _
    have rs:r.length<=100000:=by omega
    refine ⟨_,rfl,true,.inl ⟨_,SqL.of hl2,by simp⟩,iteT ?_⟩
    refine z6 (p:=(r.length:Int)+1+v.length<=wide) (zQ (zQ (zQ (xk (yM (zk rfl) qg (SqL.of hl2) ea) (by omega)) zI) (xk (zk rfl) (by omega))) (zk rfl)) _ ?_
    dsimp only
    refine ite2 (fun c=>?_) (fun c=>?_)
    ·have c:=of_decide_eq_true c
     rw [if_pos c]
     have sl:=Xi (tx rows.dropLast) (V.str (txt r)) (V.str (txt (r++32::v)))
     refine qb (w:=v) (qb (w:=[32]) (yM (zk rfl) qg (SqL.of hl2) ea) zI (by simp;omega)) (zk rfl) (by simp;omega) _ ?_
     refine ⟨_,rfl,_,rfl,l,_,_,_,rfl,rfl,hl2,sl.1,?_⟩
     refine ⟨_,rfl,zU S nl,?_⟩
     rw [zc]
     have e2:r++[32]++v=r++32::v:=by simp
     rw [e2,sl.2,xo]
    ·have c:¬ (r.length:Int)+1+v.length<=wide:=fun z=>c (decide_eq_true z)
     rw [if_neg c]
     refine ⟨_,rfl,.inl ⟨rfl,_,SqL.of hl⟩,_,rfl,l,_,_,rfl,rfl,hl,?_,_,rfl,zU S nl,by rw [zc,xo]⟩
     rw [zL]
     exact vc (show rows.length<=1000 by omega) (by decide)
  ·intro σ H2 h8
   refine E_1 h8 fun o n8=>A_3 n8 fun e9 S hl=>?_;clear n8 h8;subst e9
   rw [zL,kM] at hl
   exact ⟨_,rfl,q l H2 S nl hl⟩
theorem J5 (ws:List W) (wide:Int):(ws.map fun w=>decide (wide<(w.length:Int))).any id=!decide (∀ w∈ws,(w.length:Int)<=wide):=by
 rw [vQ]
 simp only [List.any_map,bc,Function.comp,id,decide_eq_true_eq,uT,decide_eq_false_iff_not,Classical.not_forall]
 constructor
 ·rintro ⟨u,hu,z⟩
  exact ⟨u,hu,by omega⟩
 ·rintro ⟨u,hu,z⟩
  exact ⟨u,hu,by omega⟩
end
end _JJ
namespace _JJ
open PySem _L2 _Lin
noncomputable def PrAt (H:Hp) (v:V) (p:Int×Nat):Prop:=∃ a,v=.ref a/\H a=some (.tup [.int p.1,.int (p.2:Nat)])
noncomputable def ym (H:Hp):List V->List (Int×Nat)->Prop:=Paired (PrAt H)
theorem PrAt.same {H H':Hp} (S:Same H H') {v:V} {p:Int×Nat} (h:PrAt H v p):PrAt H' v p:=let ⟨a,e,z⟩:=h;⟨a,e,S _ _ z⟩
theorem ym.imp {H H':Hp} (f:∀ v p,PrAt H v p->PrAt H' v p):∀ {vs:List V} {ps:List (Int×Nat)},ym H vs ps->ym H' vs ps
 | _,_,.nil=>.nil
 | _,_,.cons h t=>.cons (f _ _ h) (ym.imp f t)
theorem ym.same {H H':Hp} (S:Same H H') {vs:List V} {ps:List (Int×Nat)} (h:ym H vs ps):ym H' vs ps:=ym.imp (fun _ _=>PrAt.same S) h
theorem ym.len {H:Hp} {vs:List V} {ps:List (Int×Nat)} (h:ym H vs ps):vs.length=ps.length:=Paired.length h
theorem PrAt.upd {H:Hp} {l:Addr} {xs:List V} {o':HO} (hl:H l=some (.lst xs)) {v:V} {p:Int×Nat} (h:PrAt H v p):PrAt (upd H l o') v p:=by
 obtain ⟨a,e,z⟩:=h
 exact ⟨a,e,by rw [zy (xI z hl (by intro q;cases q))];exact z⟩
theorem ym.upd {H:Hp} {l:Addr} {xs:List V} {o':HO} (hl:H l=some (.lst xs)) {vs:List V} {ps:List (Int×Nat)} (h:ym H vs ps):ym (upd H l o') vs ps:=ym.imp (fun _ _=>PrAt.upd hl) h
theorem ym.snoc {H:Hp} {vs:List V} {ps:List (Int×Nat)} {v:V} {p:Int×Nat} (h:ym H vs ps) (r:PrAt H v p):ym H (vs++[v]) (ps++[p]):=Paired.snoc h r
theorem Xj {u:W} (h:okW u):u≠[]/\32∉u:=by
 refine ⟨fun z=>?_,fun z=>?_⟩
 ·have:=h.1
  rw [z] at this
  simp at this
 ·have:=(h.2.2 32 z).1
  omega
theorem Xk {gs:List (List W)}:∀ {g:List W},g∈gs->g.length<=gs.flatten.length:=by
 induction gs with
 | nil=>intro g h;exact (kN h).elim
 | cons a r ih =>
  intro g h
  rw [vg,kg]
  rcases kO.mp h with e | e
  ·rw [e];omega
  ·have:=ih e
   omega
theorem wA (xs:List V) (k:Nat) (h:k<=xs.length):cutV xs (some (k:Int)) none=xs.drop k:=by
 unfold cutV
 rw [_HT.xj,_HT.qX,bp h]
 exact uv (by rw [vh];exact kc _)
noncomputable def Xl:Sp:=fun vs H Q _=>∃ g h:List W,vs=[.str (txt (glue g)),.str (txt (glue h))]/\h≠[]/\(∀ u∈h,okW u)/\(glue g).length<=100000/\(glue h).length<=100000/\h.length<=1000/\∀ H',Same H H'->Q (.int (val g h)) H'
noncomputable def Xm:Sp:=fun vs H Q _=>∃ (a:Addr) (gs:List (List W)),vs=[.ref a]/\H a=some (.lst (tx (gs.map glue)))/\(∀ g∈gs,g≠[]/\(∀ u∈g,okW u)/\(glue g).length<=100000/\g.length<=1000)/\2<=gs.length/\gs.length<=1000 /\
 ∀ M,M∈vals gs->(∀ z∈vals gs,M<=z)->∀ H',Same H H'->Q (.int M) H'
noncomputable def jL (C:Addr):Sp:=fun vs H Q E=>∃ x:V,vs=[x]/\((∃ (a:Addr) (ws:List W),x=.ref a/\H a=some (.lst (tx ws))/\(∀ w∈ws,okW w)/\ws.length<=1000 /\
 ∀ (l:Addr) (us:List V) (H':Hp),Same H H'->H l=none->H' l=some (.lst us)->ym H' us (xy ws)->Q (.ref l) H')\/(Bad H x/\∀ H',Same H H'->E (.ref C) none H'))
section
variable {P:Program} {w:World} {K:PySem.W.Frag} {mg:Str->Option Value} {base:Heap}
theorem zcz:zu ["row","behind"] ["row","behind"] (ze jb):=⟨rfl,rfl,rfl,by decide +kernel,rfl,by decide +kernel,by decide +kernel⟩
theorem zbo {f:Addr} {fd:FuncData} (F:Fun K "with_next_word" "with_next_word" jb f fd) (tl:mg "len" = none):FnOk P w K mg base CX0 1 f fd ["row","behind"] Xl:=by
 refine F.ok zcz (fun vs H Q E h=>?_) (fun cdv A outer s H vs Q E hr h=>?_)
 ·revert h;intro n7;refine E_2 n7 fun g h n8=>A_2 n8 fun e9 _=>?_;clear n8 n7;subst e9
  rfl
 ·revert h;intro n7;refine E_2 n7 fun g h n8=>A_7 n8 fun e9 hn hw lg lh nh q=>?_;clear n8 n7;subst e9
  refine ⟨_,(zg (zm (zA yl (zA yl (zh zZ (by rfl) tl kK (za (pv 0) zb)) zi) (zh zZ (by rfl) tl kK (za (zl zN (yI u3 PySem.F.slot_str_split PySem.F.type_str_split QK (pv 1) (by exact (za yk zb))) zi (fun _ _=>rfl)) zb))))),?_⟩
  refine ⟨_,rfl,_,rfl,(by rw [zO];exact km lg (by decide)),_,_,rfl,rfl,_,rfl,rfl,h,rfl,rfl,hn,(fun u hu=>Xj (hw u hu)),by omega,by omega,fun l nl=>?_⟩
  obtain ⟨u,r,rfl⟩ : ∃ u r,h=u::r:=by
   cases h with
   | nil=>exact absurd rfl hn
   | cons u r=>exact ⟨u,r,rfl⟩
  have hu:=hw u kh
  refine I_4 l _ _ (V.str (txt u)) ⟨rfl,rfl,SqL.of zc,(by exact yw (xs:=(u::r).map fun w=>V.str (txt w)) (j:=0) rfl),_,rfl,(by rw [zO];exact km hu.2.1 (by decide)),_,_,rfl,rfl,?_⟩
  have:=q _ (zf (o:=.lst ((u::r).map fun w=>V.str (txt w))) nl)
  rw [zO,zO]
  exact this
theorem zcA:zu ["rows"] ["rows"] (ze wN):=⟨rfl,rfl,rfl,by decide +kernel,rfl,by decide +kernel,by decide +kernel⟩
theorem zbp {f fW:Addr} {fd fdW:FuncData} (F:Fun K "next_width" "next_width" wN f fd) (tmin:mg "min" = none) (tzip:mg "zip" = none) (Wn:Callee P w K mg base CX0 1 "with_next_word" fW fdW ["row","behind"] Xl):FnOk P w K mg base CX0 2 f fd ["rows"] Xm:=by
 refine F.ok zcA (fun vs H Q E h=>?_) (fun cdv A outer s H vs Q E hr h=>?_)
 ·refine E_2 h fun a gs n8=>A_2 n8 fun e9 _=>?_;clear n8 h;subst e9
  rfl
 ·refine E_2 h fun a gs n8=>A_6 n8 fun e9 ha hg n2 n3 q=>?_;clear n8 h;subst e9
  refine ⟨_,(zg (zm (zh (QF rfl) (by rfl) tmin PyProof.Rows.boot_min (za (zV (Nc:=["row","behind"]) (ix:=[none,none]) rfl rfl (by exact (qI rfl tzip (za (pv 0) (za (yz xB (pv 0) (yr zi) xn) zb)))) (fun _ _ _ _ _=>(xZ (K:=K) (n:=2) rfl rfl (zY (zn (i:=0) (by show (["row","behind"]:List Str).Nodup;decide +kernel) rfl (Or.inl rfl)) (zY (zn (i:=1) (by show (["row","behind"]:List Str).Nodup;decide +kernel) rfl (Or.inl rfl)) yW)))) (fun _ _ _ _ _=>zR) (fun _ _ _ _ _=>(zj Wn.ok hr rfl Wn.bound Wn.kp Wn.bd .nil zx (za (pv 0) (za (pv 1) zb))))) zb)))),?_⟩
  refine ⟨_,rfl,_,rfl,_,rfl,a,_,rfl,SqL.of ha,fun pc nc=>?_⟩
  have Sc:=zf (o:=.lst (cutV (tx (gs.map glue)) (some 1) none)) nc
  have lgs:(tx (gs.map glue)).length=gs.length:=by rw [zL,ka]
  have hpc:(upd H pc (.lst (cutV (tx (gs.map glue)) (some 1) none))) pc=some (.lst ((tx (gs.map glue)).drop 1)):=by
   rw [zc]
   exact congrArg (fun z=>some (HO.lst z)) (wA _ 1 (by omega))
  have ha2:=Sc _ _ ha
  generalize upd H pc (.lst (cutV (tx (gs.map glue)) (some 1) none))=H1 at Sc hpc ha2
  have lm:min (tx (gs.map glue)).length ((tx (gs.map glue)).drop 1).length=gs.length-1:=by
   rw [vh,lgs]
   omega
  refine ⟨a,pc,rfl,⟨_,SqL.of ha2⟩,⟨_,SqL.of hpc⟩,qZ (K:=K) (a:=a) (b:=pc) (xs:=tx (gs.map glue)) (ys:=(tx (gs.map glue)).drop 1) (fun i us σ H'=>us=((vals gs).take i).map V.int/\Same H1 H'/\∃ o1 o2,σ=[o1,o2])
   ⟨rfl,Same.refl _,none,none,rfl⟩ (fun i us σ H' hi h9=>by obtain ⟨e,S,_⟩:=h9;exact (⟨by rw [e,ka,kL,qc];exact km (show _<=1000 by omega) (by decide),SqL.of (S _ _ ha2),SqL.of (S _ _ hpc)⟩)) ?_ ?_⟩
  ·rintro us σ H' ⟨e,S,_⟩ l nl
   rw [lm,<- qc gs,kM] at e
   subst e
   refine ⟨l,vals gs,rfl,SqL.of zc,by rw [qc];omega,fun M hM hle=>?_⟩
   exact q M hM hle _ (Sc.trans (S.trans (zf nl)))
  ·intro i x y us σ H' p hx hy h8 hn
   refine A_3 h8 fun e S n8=>E_2 n8 fun o1 o2 e9=>?_;clear n8 h8;subst e9
   subst e
   obtain ⟨z1,hz1,rfl⟩:=yN hx
   rw [List.getElem?_drop] at hy
   obtain ⟨z2,hz2,rfl⟩:=yN hy
   rw [kR] at hz1 hz2
   obtain ⟨g,eg,rfl⟩ : ∃ g,gs[i]?=some g/\z1=glue g:=by
    cases e:gs[i]? with
    | none=>rw [e] at hz1;cases hz1
    | some g=>rw [e] at hz1;cases hz1;exact ⟨g,rfl,rfl⟩
   obtain ⟨h,eh,rfl⟩ : ∃ h,gs[i+1]?=some h/\z2=glue h:=by
    rw [Nat.add_comm 1 i] at hz2
    cases e:gs[i+1]? with
    | none=>rw [e] at hz2;cases hz2
    | some g=>rw [e] at hz2;cases hz2;exact ⟨g,rfl,rfl⟩
   have ev:=Xe eg eh
   obtain ⟨hil,ev'⟩:=kf.mp ev
   have G:=hg g (kE eg)
   have Hh:=hg h (kE eh)
   have Sp:=zf (o:=.tup [V.str (txt (glue g)),V.str (txt (glue h))]) hn
   refine ⟨p,_,rfl,SqT.of zc,rfl,_,_,rfl,_,_,rfl,rfl,?_⟩
   dsimp only [tYes]
   refine iteT ?_
   refine ⟨_,rfl,_,rfl,g,h,rfl,Hh.1,Hh.2.1,G.2.2.1,Hh.2.2.1,Hh.2.2.2,fun H2 S2=>⟨?_,S.trans (Sp.trans S2),_,_,rfl⟩⟩
   rw [<- ky hil,kz,ev']
   rfl
theorem xl:zu ["words","wide","rows","stairs","fewer"] ["words"] (ze x6):=⟨rfl,rfl,rfl,by decide +kernel,rfl,by decide +kernel,by decide +kernel⟩
theorem QU {f fR fT fN C:Addr} {fd fdR fdT fdN:FuncData} (F:Fun K "text_stairs" "text_stairs" x6 f fd) (tl:mg "len" = none) (tmax:mg "max" = none) (Re:Callee P w K mg base (CXE P w) 4 "refuse_no_words" fR fdR ["things"] (qh C))
  (Ta:Callee P w K mg base CX0 1 "taken" fT fdT ["words","wide"] jh) (Nw:Callee P w K mg base CX0 2 "next_width" fN fdN ["rows"] Xm):FnOk P w K mg base (CXE P w) 5 f fd ["words"] (jL C):=by
 refine F.okE xl (fun vs H Q E h=>?_) (fun cdv A outer s H vs Q E hr hh h=>?_)
 ·obtain ⟨x,rfl,_⟩:=h
  rfl
 ·obtain ⟨x,rfl,h⟩:=h
  refine ⟨_,(zd (yi (zj Re.ok hr rfl Re.bound Re.kp Re.bd .nil xg (za (pv 0) zb)))
   (zd (zJ (ye (jy (pv 0) (fun _=>rfl)))
   (zg (zm (z5 (za (yH (za zi (za zi zb))) zb))))
   zF)
   (zd (zt (i:=1) xl.nd rfl (Or.inl rfl) (zh (QG rfl) (by rfl) tmax uA (za (zV (Nc:=["word"]) (ix:=[none]) rfl rfl (by refine' z7 ?zz;case zz=>exact (pv 0)) (fun _ _ _ _ _=>(zn (i:=0) (by show (["word"]:List Str).Nodup;decide +kernel) rfl (Or.inl rfl))) (fun _ _ _ _ _=>zR) (fun _ _ _ _ _=>(zh zZ (by rfl) tl kK (za (pv 0) zb)))) zb)))
   (zd (zt (i:=2) xl.nd rfl (Or.inl rfl) (zj Ta.ok (hr.mono (show 1<=4 by decide)) rfl Ta.bound Ta.kp Ta.bd .nil zx (za (pv 0) (za (pv 1) zb))))
   (zd (zt (i:=3) xl.nd rfl (Or.inl rfl) (z5 (za (yH (za (pv 1) (za (zh zo (by rfl) tl kK (za (pv 2) zb)) zb))) zb)))
   (zd (PS.nox (jx PassesOwn.never (zD w5 (zh zo (by rfl) tl kK (za (pv 2) zb)) zi (zE _))
   (zd (zt (i:=1) xl.nd rfl (Or.inl rfl) (zj Nw.ok (hr.mono (show 2<=4 by decide)) rfl Nw.bound Nw.kp Nw.bd .nil zx (za (pv 2) zb)))
    (zd (zt (i:=4) xl.nd rfl (Or.inl rfl) (zj Ta.ok (hr.mono (show 1<=4 by decide)) rfl Ta.bound Ta.kp Ta.bd .nil zx (za (pv 0) (za (pv 1) zb))))
    (zd (zJ (zD y8 (zh zo (by rfl) tl kK (za (pv 4) zb)) (zh zo (by rfl) tl kK (za (pv 2) zb)) (zE _))
    (zg (yi (yI vd vv vx yE (pv 3) (za (yH (za (pv 1) (za (zh zo (by rfl) tl kK (za (pv 4) zb)) zb))) zb))))
    zF)
    (zg (zt (i:=2) xl.nd rfl (Or.inl rfl) (pv 4))))))))
   (zg (zm (pv 3))))))))),?_⟩
  rcases h with ⟨a,ws,rfl,ha,hw,hn,q⟩ | ⟨bad,qe⟩
  case inr=>exact ⟨_,rfl,_,rfl,.inr ⟨bad,fun H' S=>qe H' S⟩⟩
  refine ⟨_,rfl,_,rfl,.inl ⟨a,ws,rfl,ha,hw,hn,fun H1 S1=>?_⟩⟩
  have ha1:=S1 _ _ ha
  by_cases h0:ws=[]
  ·subst h0
   refine ⟨_,rfl,false,.inl ⟨[],SqL.of ha1,rfl⟩,iteT ?_⟩
   refine ⟨by show 2<=sizeLine;decide,fun p np=>⟨by show 1<=sizeLine;decide,fun l nl=>?_⟩⟩
   have Sp:=zf (o:=.tup [.int 1,.int 1]) np
   have Sl:=zf (o:=.lst [.ref p]) nl
   refine q l [.ref p] _ (S1.trans (Sp.trans Sl)) ((S1.trans Sp).free nl) zc ?_
   show ym _ _ [(1,1)]
   exact .cons ⟨p,rfl,Sl _ _ zc⟩ .nil
  have ht:(!(tx ws).isEmpty)=true:=by
   cases ws with
   | nil=>exact absurd rfl h0
   | cons a r=>rfl
  refine ⟨_,rfl,true,.inl ⟨_,SqL.of ha1,ht.symm⟩,iteF ?_⟩
  have w12:∀ u∈ws,u.length<=12:=fun u hu=>(hw u hu).2.1
  refine ⟨_,rfl,a,rfl,⟨_,SqL.of ha1⟩,yh (K:=K) (a:=a) (xs:=tx ws) (fun i ys σ H'=>ys=((ws.take i).map fun u=>(u.length:Int)).map V.int/\H'=H1/\∃ o,σ=[o]) ⟨rfl,rfl,none,rfl⟩
   (fun i ys σ H' hi h9=>by obtain ⟨e,e2,_⟩:=h9;exact (⟨by rw [e,ka,ka,kL];exact km (show _<=1000 by omega) (by decide),by rw [e2];exact SqL.of ha1⟩)) ?_ ?_⟩
  case refine_2 =>
   intro i x ys σ H' hx h8
   obtain ⟨e,rfl,o,rfl⟩:=h8
   subst e
   obtain ⟨v,hv,rfl⟩:=yN hx
   obtain ⟨hil,ev⟩:=kf.mp hv
   dsimp only [zW,tYes]
   refine iteT ?_
   refine xk (zk rfl) (km (w12 v (kE hv)) (by decide)) _ ?_
   refine ⟨?_,rfl,_,rfl⟩
   rw [<- ky hil,ev,kz,kz]
   rfl
  intro ys σ H' h8 p2 n2
  obtain ⟨e,rfl,_⟩:=h8
  rw [zL,kM] at e
  subst e
  have S2:=zf (o:=.lst ((ws.map fun u=>(u.length:Int)).map V.int)) n2
  have hp2:(upd H' p2 (.lst ((ws.map fun u=>(u.length:Int)).map V.int))) p2=some (.lst ((ws.map fun u=>(u.length:Int)).map V.int)):=zc
  have S12:=S1.trans S2
  generalize upd H' p2 (.lst ((ws.map fun u=>(u.length:Int)).map V.int))=H2 at S2 hp2 S12
  refine ⟨p2,_,rfl,SqL.of hp2,by rw [ka];exact bv.mpr h0,fun M hM1 hM=>?_⟩
  have eM:=zcp hM1 hM
  subst eM
  have hwl:∀ u∈ws,(u.length:Int)<=(wid ws:Int):=fun u hu=>Int.ofNat_le.mpr (qO hu)
  refine ⟨_,rfl,_,rfl,a,ws,wid ws,rfl,S12 _ _ ha,hw,hn,fun lr H3 S3 _ hlr=>?_⟩
  have S13:=S12.trans S3
  refine ⟨_,rfl,_,rfl,_,_,rfl,.inl (SqL.of hlr),by show 2<=sizeLine;decide,fun p np=>⟨by show 1<=sizeLine;decide,fun ls nls=>?_⟩⟩
  have Sp:=zf (o:=.tup [.int (wid ws),.int ((tx (taken (wid ws) ws)).length:Nat)]) np
  have Sl:=zf (o:=.lst [.ref p]) nls
  have Spl:=Sp.trans Sl
  have fls:H ls=none:=(S13.trans Sp).free nls
  have nlr:lr≠ls:=zK (Sp _ _ hlr) nls
  have hlr4:=Spl _ _ hlr
  have S4:=S13.trans Spl
  have hls:(upd (upd H3 p (.tup [.int (wid ws),.int ((tx (taken (wid ws) ws)).length:Nat)])) ls (.lst [.ref p])) ls=some (.lst [.ref p]):=zc
  have hP:ym (upd (upd H3 p (.tup [.int (wid ws),.int ((tx (taken (wid ws) ws)).length:Nat)])) ls (.lst [.ref p])) [.ref p] (falls (cnt ws) (wid ws) ((wid ws:Int)-wid ws).toNat):=by
   rw [Int.sub_self]
   refine .cons ⟨p,rfl,?_⟩ .nil
   rw [Sl _ _ zc,zL,yJ]
  generalize upd (upd H3 p (.tup [.int (wid ws),.int ((tx (taken (wid ws) ws)).length:Nat)])) ls (.lst [.ref p])=H4 at hlr4 S4 hls hP
  clear Sp Sl Spl np nls S3 hlr S13 S12 hp2 S2 n2
  have hT:=Yd h0
  refine run_seq ?_
  refine ZC (fun m σ H5=>∃ (wd:Int) (lr:Addr) (us:List V) (o4:Option V),m=(total ws-wd).toNat/\(wid ws:Int)<=wd/\wd<=total ws/\σ=[some (.ref a),some (.int wd),some (.ref lr),some (.ref ls),o4]/\Same H H5/\H5 lr=some (.lst (tx (taken wd ws)))/\lr≠ls /\
    H5 ls=some (.lst us)/\ym H5 us (falls (cnt ws) (wid ws) (wd-wid ws).toNat)/\us.length<=14000) _ ⟨(wid ws:Int),lr,[.ref p],none,rfl,vR _,hT,rfl,S4,hlr4,nlr,hls,hP,by show 1<=14000;decide⟩ ?_
  clear hlr4 S4 hls hP nlr
  intro m σ H5 h8
  refine E_4 h8 fun wd lr us o4 n8=>A_10 n8 fun e9 h1 h2 n92 S5 hlr nlr hls hP ulen=>?_;clear n8 h8;subst e9;subst n92
  have ct:=yJ ws wd
  refine ⟨(1:Int)<((tx (taken wd ws)).length:Nat),inferInstance,z6 (zQ (yA (zk rfl) (SqL.of hlr)) zI),fun c=>?_,fun c=>?_⟩
  ·rw [zL,ct] at c
   have c1:1<cnt ws wd:=by omega
   have hwd:∀ u∈ws,(u.length:Int)<=wd:=fun u hu=>uf (hwl u hu) h1
   obtain ⟨z0,hz0,hz1⟩:=QP h2 c1
   have bt:=wD wd ws w12
   have gl:=x4 wd ws
   have gg:=jG wd ws
   have gf:=jH wd ws
   have gn:=(j9 wd ws).1
   have hlr':H5 lr=some (.lst (tx ((grp wd ws).map glue))):=by rw [gg];exact hlr
   refine ⟨_,rfl,lr,grp wd ws,rfl,hlr',fun g hg=>⟨gn g hg,fun u hu=>hw u ?_,?_,?_⟩,by omega,?_,fun M hM hle H6 S6=>?_⟩
   ·rw [<- gf]
    exact List.mem_flatten.mpr ⟨g,hg,hu⟩
   ·have:glue g∈taken wd ws:=by rw [<- gg];exact kX.mpr ⟨g,hg,rfl⟩
    have:=bt _ this
    omega
   ·have:=Xk hg
    rw [gf] at this
    omega
   ·rw [gl]
    exact km (wk wd ws) hn
   have hMw:=QL wd ws M hM
   have hMT:M<=total ws:=uf (hle z0 hz0) hz1
   have jump:=WN (ws:=ws) (lo:=wid ws) h1 hMw fun v a1 a2=>QN (M:=M) hle a1 a2
   have S56:=S5.trans S6
   refine ⟨_,rfl,_,rfl,a,ws,M,rfl,S56 _ _ ha,hw,hn,fun lf H7 S7 nlf hlf=>?_⟩
   have S67:=S6.trans S7
   have hls7:=S67 _ _ hls
   have hlr7:=S67 _ _ hlr
   have hP7:=hP.same S67
   have S57:=S5.trans S67
   have nlf2:lf≠ls:=fun z=>by rw [z] at nlf;rw [S6 _ _ hls] at nlf;cases nlf
   have cf:=yJ ws M
   try dsimp only
   refine Wh (R:=fun σ H8=>∃ us:List V,σ=[some (.ref a),some (.int M),some (.ref lr),some (.ref ls),some (.ref lf)]/\Same H H8/\H8 lf=some (.lst (tx (taken M ws)))/\H8 ls=some (.lst us)/\ym H8 us (falls (cnt ws) (wid ws) (M-wid ws).toNat)/\us.length<=14000) ?_ (fun k=>?_)
   case refine_1 =>
    intro σ H8 h8
    refine E_1 h8 fun us n8=>A_6 n8 fun e9 S8 hlf8 hls8 hP8 ul8=>?_;clear n8 h8;subst e9
    refine ⟨_,rfl,(total ws-M).toNat,by omega,M,lf,us,_,rfl,by omega,hMT,rfl,S8,hlf8,nlf2,hls8,hP8,ul8⟩
   refine yU (p:=((tx (taken M ws)).length:Int)<((tx (taken wd ws)).length:Nat)) (z6 (zQ (yA (zk rfl) (SqL.of hlf)) (yA (zk rfl) (SqL.of hlr7)))) (fun c2=>?_) (fun c2=>?_)
   ·rw [zL,zL,ct,cf] at c2
    rw [if_pos (by omega)] at jump
    refine ⟨_,rfl,.inl ⟨rfl,_,SqL.of hls7⟩,_,rfl,_,rfl,_,_,rfl,.inl (SqL.of hlf),by show 2<=sizeLine;decide,fun p np=>?_⟩
    have Sp:=zf (o:=.tup [.int M,.int ((tx (taken M ws)).length:Nat)]) np
    have hls8:=Sp _ _ hls7
    have ul:us.length=(falls (cnt ws) (wid ws) (wd-wid ws).toNat).length:=hP.len
    have fl:=qN (c:=cnt ws) (lo:=(wid ws:Int)) (wd-wid ws).toNat
    have tb:total ws<=13000:=by
     have e:=Wk ws
     have:(ws.map fun u=>(u.length:Int)).sum<=12*ws.length:=by
      have:∀ l:List W,(∀ u∈l,u.length<=12)->(l.map fun u=>(u.length:Int)).sum<=12*l.length:=fun l=>by
       induction l with
       | nil=>intro _;exact vR _
       | cons x r ih =>
        intro hx
        have i1:=ih fun u hu=>hx u (kj _ hu)
        have i2:=hx x kh
        rw [vf,vn,kH]
        omega
      exact this ws w12
     unfold total
     omega
    refine ⟨ls,_,_,rfl,rfl,hls8,by rw [show us.length=_ from ul];exact vc (show _<=14000 by omega) (by decide),?_⟩
    refine k _ _ ⟨us++[.ref p],rfl,zU (S57.trans Sp) fls,?_,zc,?_,?_⟩
    ·rw [zy nlf2]
     exact Sp _ _ hlf
    ·rw [jump]
     refine ((hP7.same Sp).upd hls8).snoc ⟨p,rfl,?_⟩
     rw [zy (fun z=>by rw [z,hls7] at np;cases np),zc,zL,cf]
    ·rw [kg,vo,ul]
     omega
   ·rw [zL,zL,ct,cf] at c2
    rw [if_neg (by omega)] at jump
    refine zS ?_
    exact k _ _ ⟨us,rfl,S57,hlf,hls7,by rw [jump];exact hP7,ulen⟩
  ·rw [zL,ct] at c
   refine ⟨_,rfl,q ls us H5 S5 fls hls ?_⟩
   unfold xy
   rw [if_neg h0,QO h0 hwl h1 h2 (by omega)]
   exact hP
end
end _JJ
namespace _Tre
open PySem _L2
inductive T where
 | non | bl (b:Bool) | int (i:Int) | str (x:Str) | tup (ts:List T) | lst | dic
mutual
noncomputable def sz:T->Nat
 | .tup ts=>1+szL ts
 | .non=>1
 | .bl _=>1
 | .int _=>1
 | .str _=>1
 | .lst=>1
 | .dic=>1
noncomputable def szL:List T->Nat
 | []=>0
 | t::r=>sz t+szL r
end
theorem qP:∀ t:T,0<sz t
 | .tup ts=>by unfold sz;omega
 | .non=>by unfold sz;omega
 | .bl _=>by unfold sz;omega
 | .int _=>by unfold sz;omega
 | .str _=>by unfold sz;omega
 | .lst=>by unfold sz;omega
 | .dic=>by unfold sz;omega
theorem ZF:∀ (a b:List T),szL (a++b)=szL a+szL b
 | [],b=>by show szL b=szL []+szL b;unfold szL;omega
 | t::a,b=>by
  show sz t+szL (a++b)=szL (t::a)+szL b
  rw [ZF a b,szL]
  omega
theorem y9 (k:Str) (ps:List T):sz (.tup [.str k,.tup ps])=3+szL ps:=by
 simp only [sz,szL]
 omega
noncomputable def bar:Str := "|"
noncomputable def dash:Str := "-"
noncomputable def isK (k:Str):Prop:=k=bar\/k=dash
noncomputable def HasK (t:T) (k:Str):Prop:=∃ q,t=.tup [.str k,q]
mutual
inductive Good:T->List Int->Prop where
 | leaf (i:Int):Good (.int i) [i]
 | node {k:Str} {ps:List T} {nss:List (List Int)} (hk:isK k) (h2:2<=ps.length) (hn:∀ p∈ps,¬ HasK p k) (h:zH ps nss):Good (.tup [.str k,.tup ps]) nss.flatten
inductive zH:List T->List (List Int)->Prop where
 | nil:zH [] []
 | cons {t:T} {ns:List Int} {ts:List T} {nss:List (List Int)} (h:Good t ns) (r:zH ts nss):zH (t::ts) (ns::nss)
end
theorem zH.app:∀ {a b:List T} {x y:List (List Int)},zH a x->zH b y->zH (a++b) (x++y)
 | _,_,_,_,.nil,s=>s
 | _,_,_,_,.cons h r,s=>.cons h (zH.app r s)
theorem zH.split:∀ {a b:List T} {z:List (List Int)},zH (a++b) z->∃ x y,z=x++y/\zH a x/\zH b y
 | [],b,z,h=>⟨[],z,rfl,.nil,h⟩
 | t::a,b,_,.cons h r=>by
  obtain ⟨x,y,e,h1,h2⟩:=zH.split (a:=a) (b:=b) r
  exact ⟨_::x,y,by rw [e];rfl,.cons h h1,h2⟩
theorem zH.one {t:T} {z:List (List Int)} (h:zH [t] z):∃ ns,z=[ns]/\Good t ns:=by
 cases h with
 | cons h r =>
  cases r
  exact ⟨_,rfl,h⟩
theorem zH.len:∀ {a:List T} {x:List (List Int)},zH a x->x.length=a.length
 | _,_,.nil=>rfl
 | _,_,.cons _ r=>by rw [kH,kH,r.len]
mutual
theorem Good.ne:∀ {t:T} {ns:List Int},Good t ns->0<ns.length
 | _,_,.leaf i=>uU _
 | _,_,.node (ps:=ps) (nss:=nss) hk h2 hn h=>kY (by omega) (zH.le h)
theorem zH.le:∀ {ts:List T} {nss:List (List Int)},zH ts nss->ts.length<=nss.flatten.length
 | _,_,.nil=>kc _
 | _,_,.cons h r=>by
  rw [vg,kg,kH]
  have:=h.ne
  have:=zH.le r
  omega
end
mutual
theorem Good.uniq:∀ {t:T} {a b:List Int},Good t a->Good t b->a=b
 | _,_,_,.leaf i,h'=>by cases h';rfl
 | _,_,_,.node _ _ _ h,h'=>by
  cases h' with
  | node _ _ _ h2=>rw [zH.uniq h h2]
theorem zH.uniq:∀ {t:List T} {a b:List (List Int)},zH t a->zH t b->a=b
 | _,_,_,.nil,h'=>by cases h';rfl
 | _,_,_,.cons h r,h'=>by
  cases h' with
  | cons h2 r2=>rw [Good.uniq h h2,zH.uniq r r2]
end
structure Rel (t:T) (ahead:List T) (ns:List Int):Prop where
 fw:∀ x,Good t x->∃ z,zH ahead z/\x.Perm (ns++z.flatten)
 bw:∀ z,zH ahead z->∃ x,Good t x/\x.Perm (ns++z.flatten)
theorem Rel.start (t:T):Rel t [t] [] :=
 ⟨fun x h=>⟨[x],.cons h .nil,by simp⟩,fun z h=>by
  obtain ⟨ns,rfl,h2⟩:=h.one
  exact ⟨ns,h2,by simp⟩⟩
theorem Rel.leaf {t:T} {a:List T} {ns:List Int} {i:Int} (R:Rel t (a++[.int i]) ns):Rel t a (ns++[i]):=by
 refine ⟨fun x h=>?_,fun z h=>?_⟩
 ·obtain ⟨z,hz,p⟩:=R.fw x h
  obtain ⟨u,v,rfl,h1,h2⟩:=hz.split
  obtain ⟨m,rfl,h3⟩:=h2.one
  cases h3
  refine ⟨u,h1,p.trans ?_⟩
  rw [vM,ue]
  refine List.Perm.append_left ns ?_
  show (u.flatten++([i]++[])).Perm ([i]++u.flatten)
  rw [vq]
  exact u7
 ·obtain ⟨x,h1,p⟩:=R.bw (z++[[i]]) (h.app (.cons (.leaf i) .nil))
  refine ⟨x,h1,p.trans ?_⟩
  rw [vM,ue]
  refine List.Perm.append_left ns ?_
  show (z.flatten++([i]++[])).Perm ([i]++z.flatten)
  rw [vq]
  exact u7
theorem Rel.node {t:T} {a ps:List T} {ns:List Int} {k:Str} (R:Rel t (a++[.tup [.str k,.tup ps]]) ns) (hk:isK k) (h2:2<=ps.length) (hn:∀ p∈ps,¬ HasK p k):Rel t (a++ps) ns:=by
 refine ⟨fun x h=>?_,fun z h=>?_⟩
 ·obtain ⟨z,hz,p⟩:=R.fw x h
  obtain ⟨u,v,rfl,h1,h3⟩:=hz.split
  obtain ⟨m,rfl,h4⟩:=h3.one
  cases h4 with
  | node _ _ _ h5=>exact ⟨_,h1.app h5,by simpa using p⟩
 ·obtain ⟨u,v,rfl,h1,h3⟩:=h.split
  obtain ⟨x,hx,p⟩:=R.bw (u++[v.flatten]) (h1.app (.cons (.node hk h2 hn h3) .nil))
  exact ⟨x,hx,by simpa using p⟩
theorem Rel.none {t p:T} {a:List T} {ns:List Int} (R:Rel t (a++[p]) ns) (hp:∀ m,¬ Good p m):∀ x,¬ Good t x:=fun x h=>by
 obtain ⟨z,hz,_⟩:=R.fw x h
 obtain ⟨u,v,rfl,h1,h3⟩:=hz.split
 obtain ⟨m,_,h4⟩:=h3.one
 exact hp m h4
theorem Rel.many {t:T} {a:List T} {ns:List Int} (R:Rel t a ns):∀ x,Good t x->ns.length+a.length<=x.length:=fun x h=>by
 obtain ⟨z,hz,p⟩:=R.fw x h
 rw [p.length_eq,kg]
 have:=hz.le
 omega
theorem Rel.done {t:T} {ns:List Int} (R:Rel t [] ns):∃ x,Good t x/\x.Perm ns:=by
 obtain ⟨x,h,p⟩:=R.bw [] .nil
 exact ⟨x,h,by simpa using p⟩
noncomputable def up (n:Nat):List Int:=(kQ n).map fun i:Nat=>(i:Int)
noncomputable def yd (t:T):Prop:=∃ x,Good t x/\x.length<=24/\x.Perm (up x.length)
theorem xO (n:Nat):(up n).length=n:=by unfold up;rw [ka,vi]
theorem Yf (n:Nat):(up n).Pairwise (· <= ·):=by
 unfold up
 rw [List.pairwise_map]
 exact List.pairwise_lt_range.imp fun h=>by omega
theorem Xn (n:Nat):(up n).Nodup:=by
 unfold up
 rw [List.nodup_iff_pairwise_ne,List.pairwise_map]
 exact List.pairwise_lt_range.imp fun h=>by omega
theorem QV {a b:List Int} (p:a.Perm b) (ha:a.Pairwise (· <= ·)) (hb:b.Pairwise (· <= ·)):a=b:=p.eq_of_pairwise (fun x y _ _ h1 h2=>bj h1 h2) ha hb
noncomputable def Tells (t:T) (r:List Int):Prop:=(∃ x,Good t x/\x.length<=24/\r.Perm x)\/(r=[]/\∀ x,Good t x->24<x.length)
theorem Tells.tree {t:T} {r ms:List Int} (h:Tells t r) (p:ms.Perm r) (s:ms.Pairwise (· <= ·)):(0<r.length/\ms=up r.length)↔yd t:=by
 rcases h with ⟨x,g,l,q⟩ | ⟨e,no⟩
 ·constructor
  ·rintro ⟨_,e⟩
   refine ⟨x,g,l,?_⟩
   rw [<- q.length_eq,<- e]
   exact (p.trans q).symm
  ·rintro ⟨y,gy,ly,py⟩
   have l0:=g.ne
   refine ⟨by rw [q.length_eq];exact l0,?_⟩
   have e:y=x:=Good.uniq gy g
   subst e
   refine QV (p.trans (q.trans ?_)) s (Yf _)
   rw [q.length_eq]
   exact py
 ·subst e
  constructor
  ·rintro ⟨h,_⟩
   exact absurd h (vL _)
  ·rintro ⟨y,gy,ly,_⟩
   have:=no y gy
   omega
end _Tre
namespace PySem
open AutoSeq1
set_option maxRecDepth 100000 in
theorem qQ (l:Addr) (items:Array Value) (n:Nat) (b:Addr) (items2:Array Value) (n2:Nat) (dd:Option Addr) (sl:Array (Option Value)) (hs0:¬(!items.isEmpty && Builtin.List.listTooLong (items.size+items2.size))=true) (hs1:items.size<=sizeLine) (hs2:items.size+items2.size<=sizeLine+1) :
  Meets (Builtin.«list.extend» ⟨[.ref l,.ref b],[]⟩) (fun _ R s=>s.heap.get? l=some {cls:=.type "list",dict:=none,data:=.seq items n,slots:=#[]}/\s.heap.get? b=some {cls:=.type "tuple",dict:=dd,data:=.seq items2 n2,slots:=sl}/\R (.ok (.ret Value.none)) {s with heap:=s.heap.update l (Obj.mapSeq fun x=>x++items2),toks:=s.toks}) :=
 .of_wp fun prog w A R s h=>by
  obtain ⟨hp,g,d,tk,os⟩:=s;obtain ⟨hl,hb,h⟩:=h;have f1:=idx_int;have f2:=sub_tuple_tuple;have f3:=sub_list_list;have f4:=sub_tuple_list;have f5:=sub_list_tuple;
  have hz':(items++items2).size<=sizeLine+1:=by rw [Array.size_append];exact hs2
  wp_walk using (wpAny_updateSeq hl rfl (hz:=hs1) (_hz':=hz')),wpAny_loadPart' hl,wpAny_loadPart' hb;exact ⟨_,rfl,h⟩
end PySem
namespace _L2
open PySem PySem.Spec PyProof.Rows
section
variable {X:Cx}
theorem Za:MtM X "list.extend" (fun x vs H Q=>∃ l b xs zs,x=.ref l/\vs=[.ref b]/\H l=some (.lst xs)/\SqT X.K H b zs/\xs.length+zs.length<=sizeLine/\Q .non (upd H l (.lst (xs++zs)))):=by
 intro pins s σ H x vs v us Q I rx rv h
 refine E_4 h fun l b xs zs n8=>A_6 n8 fun e9 n90 hH hB hz q=>?_;clear n8 h;subst e9;subst n90
 cases rx
 obtain ⟨u,rfl,ru⟩:=rv.one
 cases ru
 obtain ⟨z,its,n,r,hl,e⟩:=I.lstM hH
 obtain ⟨its2,r2,⟨⟨cls,dd,data,sl⟩,e2,hc,n2,hd⟩,hz2⟩:=I.tuple hB
 simp only at hc hd
 subst hc hd
 have hl2:=r2.length
 have hsz:its.toArray.size+its2.toArray.size<=sizeLine:=by rw [kt,kt];omega
 have hlong:¬ (!its.toArray.isEmpty && Builtin.List.listTooLong (its.toArray.size+its2.toArray.size))=true:=by
  rw [jC hsz,Bool.and_false]
  exact ku
 refine call_meets F.slot_list_extend ⟨_,e,rfl⟩ F.entry_list_extend (F.args_list_extend_2 _ _)
  (qQ l its.toArray n b its2.toArray n2 dd sl hlong (by rw [kt];omega) (by omega)) ⟨e,e2,?_⟩
 refine ⟨.non,_,I.lset (its':=its++its2) hH e (by simp) (r.append r2) ?_,rfl,q⟩
 rw [kg]
 omega
theorem Yg:∀ {ns:List Int} {us:List Value},Vals (ns.map V.int) us->IntsAre us ns
 | [],_,.nil=>.nil
 | n::ns,_,.cons ⟨t,e⟩ r=>by
  subst e
  exact .cons n t (Yg r)
theorem Zb:∀ {ns:List Int} {us:List Value},IntsAre us ns->Vals (ns.map V.int) us
 | _,_,.nil=>.nil
 | _,_,.cons n t r=>.cons ⟨t,rfl⟩ (Zb r)
theorem WP:yX X (.builtin "sorted") (fun xs H Q=>∃ (a:Addr) (ns:List Int),xs=[.ref a]/\SqL X.K H a (ns.map V.int)/\ns.length<64/\∀ (l:Addr) (ms:List Int),H l=none->ms.Perm ns->ms.Pairwise (· <= ·)->Q (.ref l) (upd H l (.lst (ms.map V.int)))):=by
 intro pins s σ H xs us Q I r h
 refine E_2 h fun a ns n8=>A_4 n8 fun e9 hq h64 q=>?_;clear n8 h;subst e9
 obtain ⟨u,rfl,ru⟩:=vals1 r
 cases ru
 obtain ⟨its,rv,tp,hz⟩:=I.list hq
 have hl:=rv.length
 rw [ka] at hl
 refine sorted_ints tp.isList (Yg rv) (by omega) fun out ms hI pm st=>?_
 obtain ⟨e,he⟩:=sortedAll_at s.heap its out
 have ln:(ms.map V.int).length<=sizeLine:=by rw [ka,pm.length_eq];exact km (vE h64) (by decide)
 refine ⟨.ref (s.heap.objs.size+1),_,I.laid (t':=s.toks) (o:=.lst (ms.map V.int)) (fun b u e=>sortedAll_old e) (ur _) ⟨ln,out.toList,e,Zb hI,?_⟩,rfl,q _ ms (I.hok.fresh (ur _)) pm st⟩
 rw [he]
end
noncomputable def ItR (K:PySem.W.Frag) (a:Addr) (n:Nat):It :=
 ⟨fun i H=>i<n/\∃ xs,SqL K H a xs/\xs.length=n,fun i H x H'=>H'=H/\∀ xs,SqL K H a xs->xs[n-1-i]?=some x,fun i H=>n<=i⟩
theorem J6 {P:Program} {w:World} {K:PySem.W.Frag} {tg:Expr} (a it:Addr) (n:Nat):Turn P w K tg (ItR K a n) [it] it (fun i h=>h.IsRevIter it a ((n:Int)-1-i)/\i<=n) where
 mem:=by simp
 obj:=fun i h st b hb=>by
  have e:b=it:=by simpa using hb
  subst e
  obtain ⟨⟨o,e,c,d⟩,_⟩:=st
  exact ⟨o,e,fun v z=>by rw [d] at z;cases z⟩
 keep:=fun i h h' st k=>⟨st.1.at fun o e=>k it (by simp) o e,st.2⟩
 item:=by
  intro X hP hw hK hc i pins s σ H E I hf st hg
  subst hP hw hK
  obtain ⟨hi,xs,hq,hx⟩:=hg
  obtain ⟨its,rv,p,hz⟩:=I.list hq
  have e1:xs[n-1-i]?=some (xs[n-1-i]'(by omega)):=kb (by omega)
  obtain ⟨u,hu,ru⟩:=rv.get e1
  obtain ⟨f0,f1,f2,f3,f4,f5⟩:=hf it (by simp)
  have st1:s.heap.IsRevIter it a ((n-1-i:Nat):Int):=by
   have:=st.1
   rwa [show (n:Int)-1-i=((n-1-i:Nat):Int) by omega] at this
  refine wpAny_pyNext_rev_item st1 p.isList (x:=u) (by simpa using hu) fun h' st' sb=>?_
  have I1:Inv X pins σ H {s with heap:=h'}:=I.turned (t':=s.toks) (fun b o hb e=>(sb.2 b hb).trans e) f0 f1 f3 f4 f5
  have st2:h'.IsRevIter it a ((n:Int)-1-((i+1:Nat):Int)):=by
   rwa [show ((n-1-i:Nat):Int)-1=(n:Int)-1-((i+1:Nat):Int) by omega] at st'
  obtain ⟨o,e,c,d⟩:=id st2
  exact ⟨u,rfl,jY (s:={s with heap:=h'}) e c d (by decide) ⟨_,H,I1,ru,⟨rfl,fun ys hy=>by rw [I.list_inj hy hq];exact e1⟩,⟨st2,by omega⟩,fun b hb=>(hf b hb).1⟩⟩
 done:=by
  intro X hP hw hK hc i pins s σ H E I hf st hg
  subst hP hw hK
  have hg:n<=i:=hg
  obtain ⟨f0,f1,f2,f3,f4,f5⟩:=hf it (by simp)
  have st1:s.heap.IsRevIter it a (-1):=by
   have:=st.1
   rwa [show (n:Int)-1-i = -1 by have:=st.2;omega] at this
  exact wpAny_pyNext_rev_end (I.ok.hd hc) st1 fun h' eb=>⟨rfl,I.turned (t':=s.toks) (fun b o hb e=>eb b o hb e) f0 f1 f3 f4 f5⟩
 self:=fun _ _ _ _ _ st h=>wpAny_pyIter_revIter st.1 h
noncomputable def iRev (K:PySem.W.Frag) (ta:TA):TI:=fun σ H R=>ta σ H fun vs H1=>∃ a xs,vs=[.ref a]/\SqL K H1 a xs/\R (ItR K a xs.length) H1
theorem zcB {X:Cx} {tg l:Expr} {ta:TA} {p pos:Pos} (hg:Gl X "reversed") (hm:X.mg "reversed" = none) (ha:PA X [l] ta) (hs:starEach [l] X.env=[(false,eval l X.env)]:=by rfl) :
  PI X tg (.Call (.Name "reversed" p) [l] [] pos) (iRev X.K ta):=by
 intro pins s σ H R I h
 refine Call_ (yK I hg hm boot_reversed (vC (thn (ha pos pins s σ H _ I h) fun us s1 ⟨vs,H1,I1,r1,q1⟩=>?_) hs rfl))
 obtain ⟨a,xs,e,hq,q⟩:=q1
 subst e
 cases r1 with
 | cons r rr =>
  cases rr
  cases r
  obtain ⟨its,rv,tp,hz⟩:=I1.list hq
  have hl:=rv.length
  refine call_reversed_list tp.isList ?_
  have e0:((its.toArray.size:Nat):Int)-1=(xs.length:Int)-1-((0:Nat):Int):=by rw [kt];omega
  have st0:(s1.heap.push (revObj a (((its.toArray.size:Nat):Int)-1))).IsRevIter s1.heap.objs.size a ((xs.length:Int)-1-((0:Nat):Int)):=⟨_,Heap.get?_push_size _ rfl,rfl,by rw [e0];rfl⟩
  refine wpAny_pyIter_revIter st0 ?_
  refine I_5 s1.heap.objs.size [s1.heap.objs.size] _ _ H1 ⟨rfl,I1.kept (t':=s1.toks) fun b o e=>Heap.get?_push_of_some _ e,J6 a _ xs.length,⟨st0,kP _⟩,fun b hb=>?_,q⟩
  have e:b=s1.heap.objs.size:=by simpa using hb
  subst e
  exact I1.fpOk (kc _) (I1.hok.fresh (kc _))
end _L2
namespace _L2
open PySem PySem.Spec PyProof.Rows
section
variable {X:Cx}
noncomputable def tLR3 (ta:TA):TE:=fun σ H Q=>ta σ H fun vs H1=>∃ n:Nat,vs=[.int n]/\n<=1000000/\∀ l,H1 l=none->Q (.ref l) (upd H1 l (.lst ((kQ n).map fun i:Nat=>V.int i)))
theorem WQ {n:Nat} {its:Array Value} (h:ItemsOf (fun i v=>∃ t,v=Value.int (0+(i:Int)*1) t) its n):Vals ((kQ n).map fun i:Nat=>V.int i) its.toList:=by
 obtain ⟨h1,h2⟩:=h
 have:∀ (us:List Value) (k:Nat),(∀ j v,us[j]?=some v->∃ t,v=Value.int ((k+j:Nat):Int) t)->Vals ((kQ us.length).map fun i:Nat=>V.int ((k+i:Nat):Int)) us:=by
  intro us
  induction us with
  | nil=>intro k _;exact .nil
  | cons u us ih =>
   intro k h
   rw [kH,List.range_succ_eq_map,vf,vU]
   refine .cons ?_ ?_
   ·obtain ⟨t,rfl⟩:=h 0 u rfl
    exact ⟨t,rfl⟩
   ·have:=ih (k+1) fun j v e=>by
     obtain ⟨t,rfl⟩:=h (j+1) v (by simpa using e)
     exact ⟨t,by rw [show k+1+j=k+(j+1) by omega]⟩
    have e:((fun i:Nat=>V.int ((k+i:Nat):Int))∘Nat.succ)=fun i:Nat=>V.int ((k+1+i:Nat):Int):=by
     funext i
     show V.int ((k+(i+1):Nat):Int)=V.int ((k+1+i:Nat):Int)
     rw [show k+(i+1)=k+1+i by omega]
    rw [e]
    exact this
 have:=this its.toList 0 fun j v e=>by
  obtain ⟨t,rfl⟩:=h2 j v (by rw [<- Array.getElem?_toList];exact e)
  exact ⟨t,by simp⟩
 rw [Array.length_toList,h1] at this
 simpa using this
theorem qR {a:Expr} {ta:TA} {p p2 pos pos2:Pos} (hc:X.calm=true) (hgl:Gl X "list") (hml:X.mg "list" = none) (hg:Gl X "range") (hm:X.mg "range" = none) (ha:PA X [a] ta) (hs:starEach [a] X.env=[(false,eval a X.env)]:=by rfl)
  (hs2:starEach [.Call (.Name "range" p2) [a] [] pos2] X.env=[(false,eval (.Call (.Name "range" p2) [a] [] pos2) X.env)]:=by rfl):PE X (.Call (.Name "list" p) [.Call (.Name "range" p2) [a] [] pos2] [] pos) (tLR3 ta):=by
 intro pins s σ H Q I h
 refine wpAny_Call_Name_kw (yK I hgl hml boot_list (vC ?_ hs2 rfl))
 rw [hs2]
 refine Calls.spliced_cons (Call_ (yK I hg hm boot_range (vC (thn (ha pos2 pins s σ H _ I h) fun us s1 ⟨vs,H1,I1,r1,q1⟩=>?_) hs rfl)))
 obtain ⟨n,e,hn,q⟩:=q1
 subst e
 obtain ⟨u,rfl,t,rfl⟩:=vals1 r1
 refine call_range_1 (Calls.spliced_nil ?_)
 refine call_list_range (n:=n) (I1.ok.hd hc) (IsRange.new ..) (small_one (by decide) (by decide) (by omega) (by omega)) (by rw [rangeSize_one];split<;>omega) (by omega) fun h' tk acc c' kp hl it=>?_
 have I2:Inv X pins σ H1 {s1 with heap:=s1.heap.push {cls:=.type "range",data:=.fields #[.int 0 s1.toks,.int n t,.int 1 (s1.toks+1)]},toks:=s1.toks+1+1}:=I1.kept fun b o e=>Heap.get?_push_of_some _ e
 refine ⟨.ref _,_,I2.laid (t':=tk) (o:=.lst ((kQ n).map fun i:Nat=>V.int i)) kp (kc _) ⟨by rw [ka,vi];exact km hn (by decide),acc.toList,c',WQ it,by simpa using hl⟩,rfl,q _ (I2.hok.fresh (kc _))⟩
end
end _L2
namespace _JJ
open PySem _L2 _Tre PySem.W
mutual
inductive At (H:Hp):V->T->Prop where
 | non:At H .non .non
 | bl (b:Bool):At H (.bl b) (.bl b)
 | int (i:Int):At H (.int i) (.int i)
 | str (x:Str):At H (.str x) (.str x)
 | tup {a:Addr} {vs:List V} {ts:List T} (e:H a=some (.tup vs)) (h:AtL H vs ts):At H (.ref a) (.tup ts)
 | lst {a:Addr} {vs:List V} (e:H a=some (.lst vs)):At H (.ref a) .lst
 | dic {a:Addr} {kvs:List (Key×V)} (e:H a=some (.dK kvs)):At H (.ref a) .dic
inductive AtL (H:Hp):List V->List T->Prop where
 | nil:AtL H [] []
 | cons {v:V} {t:T} {vs:List V} {ts:List T} (h:At H v t) (r:AtL H vs ts):AtL H (v::vs) (t::ts)
end
mutual
theorem At.same {H H':Hp} (S:Same H H'):∀ {v:V} {t:T},At H v t->At H' v t
 | _,_,.non=>.non
 | _,_,.bl b=>.bl b
 | _,_,.int i=>.int i
 | _,_,.str x=>.str x
 | _,_,.tup e h=>.tup (S _ _ e) (AtL.same S h)
 | _,_,.lst e=>.lst (S _ _ e)
 | _,_,.dic e=>.dic (S _ _ e)
theorem AtL.same {H H':Hp} (S:Same H H'):∀ {vs:List V} {ts:List T},AtL H vs ts->AtL H' vs ts
 | _,_,.nil=>.nil
 | _,_,.cons h r=>.cons (At.same S h) (AtL.same S r)
end
theorem AtL.len {H:Hp}:∀ {vs:List V} {ts:List T},AtL H vs ts->vs.length=ts.length
 | _,_,.nil=>rfl
 | _,_,.cons _ r=>by rw [kH,kH,r.len]
theorem AtL.get {H:Hp}:∀ {vs:List V} {ts:List T} {i:Nat} {v:V},AtL H vs ts->vs[i]?=some v->∃ t,ts[i]?=some t/\At H v t
 | _,_,_,_,.nil,e=>by simp at e
 | _,_,0,_,.cons h _,e=>by simp at e;subst e;exact ⟨_,rfl,h⟩
 | _,_,i+1,v,.cons _ r,e=>by
  obtain ⟨t,h1,h2⟩:=AtL.get (i:=i) (v:=v) r (by simpa using e)
  exact ⟨t,by simpa using h1,h2⟩
theorem AtL.app {H:Hp}:∀ {vs us:List V} {ts ss:List T},AtL H vs ts->AtL H us ss->AtL H (vs++us) (ts++ss)
 | _,_,_,_,.nil,s=>s
 | _,_,_,_,.cons h r,s=>.cons h (AtL.app r s)
theorem AtL.snoc {H:Hp}:∀ {ts:List T} {t:T} {vs:List V},AtL H vs (ts++[t])->∃ us v,vs=us++[v]/\AtL H us ts/\At H v t
 | [],t,_,.cons h .nil=>⟨[],_,rfl,.nil,h⟩
 | b::ts,t,_,.cons h r=>by
  obtain ⟨us,v,e,h1,h2⟩:=AtL.snoc (ts:=ts) r
  exact ⟨_::us,v,by rw [e];rfl,.cons h h1,h2⟩
noncomputable def tyT:T->Value
 | .non=>.type "NoneType"
 | .bl _=>.type "bool"
 | .int _=>.type "int"
 | .str _=>.type "str"
 | .tup _=>.type "tuple"
 | .lst=>.type "list"
 | .dic=>.type "dict"
theorem At.ty {K:PySem.W.Frag} {H:Hp} {v:V} {t:T} (h:At H v t):TyX K H v (tyT t):=by
 cases h with
 | non=>exact .of .non
 | bl b=>exact .of (.bl b)
 | int i=>exact .of (.int i)
 | str x=>exact .of (.str x)
 | tup e _=>exact .of (.tup e)
 | lst e=>exact .of (.lst e)
 | dic e=>exact .of (.dK e)
noncomputable def isI:T->Bool
 | .int _=>true
 | _=>false
noncomputable def isIB:T->Bool
 | .int _=>true
 | .bl _=>true
 | _=>false
noncomputable def isBl:T->Bool
 | .bl _=>true
 | _=>false
noncomputable def isS:T->Bool
 | .str _=>true
 | _=>false
noncomputable def isTp:T->Bool
 | .tup _=>true
 | _=>false
structure Nt (K:PySem.W.Frag) (mg:Str->Option Value) (kA:Addr):Prop where
 gKIND:GI mg "KIND" 0
 gPARTS:GI mg "PARTS" 1
 gMOST_BOXES:GI mg "MOST_BOXES" 24
 gKINDS:mg "KINDS" = some (.ref kA)
 kk:∀ H,SqT K H kA [.str bar,.str dash]
 ti:mg "isinstance" = none
 tint:mg "int" = none
 tbool:mg "bool" = none
 tstr:mg "str" = none
 ttup:mg "tuple" = none
 tlist:mg "list" = none
 tl:mg "len" = none
 tany:mg "any" = none
 ts:mg "sorted" = none
 tr:mg "range" = none
 kI:∀ t,kitOne K (tyT t) (.type "int")=some (isIB t)
 kB:∀ t,kitOne K (tyT t) (.type "bool")=some (isBl t)
 kS:∀ t,kitOne K (tyT t) (.type "str")=some (isS t)
 kT:∀ t,kitOne K (tyT t) (.type "tuple")=some (isTp t)
noncomputable def isKb (k:Str):Bool:=decide (k=bar) || decide (k=dash)
theorem qi {k:Str}:isKb k=true↔isK k:=by
 unfold isKb isK
 rw [uN,decide_eq_true_eq,decide_eq_true_eq]
noncomputable def hasK:T->Bool
 | .tup [.str k,_]=>isKb k
 | _=>false
noncomputable def yY (p:T) (k:Str):Bool:=match p with
 | .tup [.str j,_]=>isKb j && decide (j=k)
 | _=>false
noncomputable def isB:T->Bool
 | .tup [.str k,.tup ps]=>isKb k && (decide (2<=ps.length) && !(ps.any fun p=>yY p k))
 | _=>false
theorem Yh {p:T} {k:Str} (hk:isK k):yY p k=true↔HasK p k:=by
 constructor
 ·intro h
  unfold yY at h
  split at h
  ·rename_i j q
   rw [vj,decide_eq_true_eq] at h
   exact ⟨q,by rw [h.2]⟩
  ·cases h
 ·intro h8
  obtain ⟨q,rfl⟩:=h8
  show (isKb k && decide (k=k))=true
  rw [qi.mpr hk,decide_eq_true rfl]
  rfl
theorem ZG {t:T}:isB t=true↔∃ k ps,t=.tup [.str k,.tup ps]/\isK k/\2<=ps.length/\∀ p∈ps,¬ HasK p k:=by
 constructor
 ·intro h
  unfold isB at h
  split at h
  ·rename_i k ps
   rw [vj,vj,decide_eq_true_eq,uT,List.any_eq_false] at h
   have hk:=qi.mp h.1
   exact ⟨k,ps,rfl,hk,h.2.1,fun p hp z=>h.2.2 p hp ((Yh hk).mpr z)⟩
  ·cases h
 ·intro h8
  refine E_2 h8 fun k ps n8=>A_4 n8 fun e9 hk h2 hn=>?_;clear n8 h8;subst e9
  show (isKb k && (decide (2<=ps.length) && !(ps.any fun p=>yY p k)))=true
  rw [qi.mpr hk,decide_eq_true h2,bF,bF,uT,List.any_eq_false]
  exact fun p hp z=>hn p hp ((Yh hk).mp z)
theorem zbq {t:T} (h1:isI t=false) (h2:isB t=false):∀ m,¬ Good t m:=fun m g=>by
 cases g with
 | leaf i=>cases h1
 | node hk h3 hn _ =>
  have:=ZG.mpr ⟨_,_,rfl,hk,h3,hn⟩
  rw [h2] at this
  cases this
noncomputable def xG:Sp:=fun vs H Q _=>∃ (x:V) (t:T),vs=[x]/\At H x t/\Q (.bl (isI t)) H
noncomputable def WR:Sp:=fun vs H Q _=>∃ (x:V) (t:T),vs=[x]/\At H x t/\Q (.bl (hasK t)) H
noncomputable def spBr:Sp:=fun vs H Q _=>∃ (x:V) (t:T),vs=[x]/\At H x t/\(∀ a ps,t=.tup [a,.tup ps]->ps.length<=100000)/\∀ H',Same H H'->Q (.bl (isB t)) H'
section
variable {P:Program} {w:World} {K:PySem.W.Frag} {mg:Str->Option Value} {base:Heap} {kA:Addr}
theorem zbr:zu ["thing"] ["thing"] (ze wO):=⟨rfl,rfl,rfl,by decide +kernel,rfl,by decide +kernel,by decide +kernel⟩
theorem J7 {f:Addr} {fd:FuncData} (F:Fun K "is_whole" "is_whole" wO f fd) (Z:Nt K mg kA):FnOk P w K mg base CX0 1 f fd ["thing"] xG:=by
 obtain ⟨gKIND,gPARTS,gMOST_BOXES,gKINDS,kk,ti,tint,tbool,tstr,ttup,tlist,tl,tany,ts,tr,kI,kB,kS,kT⟩:=Z
 refine F.ok zbr (fun vs H Q E h=>?_) (fun cdv A outer s H vs Q E hr h=>?_)
 ·refine E_2 h fun x t n8=>A_2 n8 fun e9 _=>?_;clear n8 h;subst e9
  rfl
 ·refine E_2 h fun x t n8=>A_3 n8 fun e9 hA q=>?_;clear n8 h;subst e9
  refine ⟨_,(zg (zm (y3 (zh yg (by rfl) ti kW (za (pv 0) (za (yB rfl tint PyProof.Rows.boot_int) zb))) (xu (Qj (zh yg (by rfl) ti kW (za (pv 0) (za (yB rfl tbool PyProof.Rows.boot_bool) zb)))))))),?_⟩
  refine ⟨_,rfl,_,_,_,_,rfl,rfl,hA.ty,kI t,_,rfl,?_⟩
  have e:isI t=(isIB t && !isBl t):=by cases t<;>rfl
  rw [e] at q
  cases h1:isIB t with
  | false =>
   rw [h1] at q
   exact iteF q
  | true =>
   rw [h1] at q
   exact iteT ⟨_,rfl,_,_,_,_,rfl,rfl,hA.ty,kB t,_,rfl,q⟩
theorem zdt:zu ["thing"] ["thing"] (ze sHas):=⟨rfl,rfl,rfl,by decide +kernel,rfl,by decide +kernel,by decide +kernel⟩
theorem J8 (k:Str):inV (.str k) [.str bar,.str dash]=isKb k:=by
 unfold isKb
 show (eqV (.str bar) (.str k) || (eqV (.str dash) (.str k) || false))=_
 rw [Bool.or_false,vQ,uN,uN,decide_eq_true_eq,decide_eq_true_eq]
 have e:∀ a b:Str,eqV (.str a) (.str b)=true↔b=a:=fun a b=>by
  show (a == b)=true↔b=a
  rw [beq_iff_eq]
  exact eq_comm
 rw [e,e]
theorem zcC {f:Addr} {fd:FuncData} (F:Fun K "has_kind" "has_kind" sHas f fd) (Z:Nt K mg kA):FnOk P w K mg base CX0 1 f fd ["thing"] WR:=by
 obtain ⟨gKIND,gPARTS,gMOST_BOXES,gKINDS,kk,ti,tint,tbool,tstr,ttup,tlist,tl,tany,ts,tr,kI,kB,kS,kT⟩:=Z
 refine F.ok zdt (fun vs H Q E h=>?_) (fun cdv A outer s H vs Q E hr h=>?_)
 ·refine E_2 h fun x t n8=>A_2 n8 fun e9 _=>?_;clear n8 h;subst e9
  rfl
 ·refine E_2 h fun x t n8=>A_3 n8 fun e9 hA q=>?_;clear n8 h;subst e9
  refine ⟨_,(zg (zm (y3 (zh yg (by rfl) ti kW (za (pv 0) (za (yB rfl ttup vG) zb))) (y3 (yq xx (zh zo (by rfl) tl kK (za (pv 0) zb)) zi (zE _)) (y3 (zh yg (by rfl) ti kW (za (zl zw (pv 0) (zG rfl gKIND) (fun _ _=>rfl)) (za (yB rfl tstr PyProof.Rows.boot_str) zb))) (xu (yq Qw (zl zw (pv 0) (zG rfl gKIND) (fun _ _=>rfl)) (zcu rfl gKINDS) rfl))))))),?_⟩
  refine ⟨_,rfl,_,_,_,_,rfl,rfl,hA.ty,kT t,_,rfl,?_⟩
  cases hA with
  | non=>exact iteF q
  | bl b=>exact iteF q
  | int i=>exact iteF q
  | str x=>exact iteF q
  | lst e=>exact iteF q
  | dic e=>exact iteF q
  | @tup a us ss e hL =>
   refine iteT ⟨_,rfl,_,_,rfl,.inr (SqT.of e),rfl,_,rfl,?_⟩
   have ln:=hL.len
   have d:decide (V.int ((us.length:Nat):Int)=V.int 2)=decide (us.length=2):=by
    rw [qW,vQ,beq_iff_eq,decide_eq_true_eq]
    omega
   rw [d]
   by_cases h2:us.length=2
   ·rw [decide_eq_true h2]
    refine iteT ?_
    match us,ss,hL,h2,q with
    | [u0,u1],[s0,s1],.cons h0 (.cons h1 .nil),_,q =>
    refine ⟨_,rfl,_,_,_,_,rfl,rfl,SqT.of e,rfl,_,_,_,_,rfl,rfl,h0.ty,kS s0,_,rfl,?_⟩
    cases h0 with
    | str k =>
     refine iteT ⟨_,rfl,_,_,_,_,rfl,rfl,SqT.of e,rfl,kA,_,rfl,.inr (kk _),rfl,rfl,?_⟩
     rw [J8]
     exact q
    | non=>exact iteF q
    | bl b=>exact iteF q
    | int i=>exact iteF q
    | lst e=>exact iteF q
    | dic e=>exact iteF q
    | tup e h=>exact iteF q
   ·rw [decide_eq_false h2]
    have e0:hasK (.tup ss)=false:=by
     unfold hasK
     split
     ·rename_i heq
      injection heq with heq
      rw [heq] at ln
      exact absurd ln h2
     ·rfl
    rw [e0] at q
    exact iteF q
end
end _JJ
namespace _JJ
open PySem _L2 _Tre PySem.W
inductive Small:T->Prop where
 | non:Small .non
 | bl (b:Bool):Small (.bl b)
 | int (i:Int):Small (.int i)
 | str (x:Str):Small (.str x)
 | tup {ts:List T} (l:ts.length<=1000) (h:∀ t∈ts,Small t):Small (.tup ts)
 | lst:Small .lst
 | dic:Small .dic
theorem Small.parts {ts:List T} (h:Small (.tup ts)):ts.length<=1000/\∀ t∈ts,Small t:=by
 cases h with
 | tup l h=>exact ⟨l,h⟩
noncomputable def Yw:Sp:=fun vs H Q _=>∃ (x:V) (t:T),vs=[x]/\At H x t/\Small t/\∀ (r:List Int) (l:Addr) (H':Hp),Same H H'->H l=none->H' l=some (.lst (r.map V.int))->r.length<=24->Tells t r->Q (.ref l) H'
noncomputable def Xo:Sp:=fun vs H Q _=>∃ (x:V) (t:T),vs=[x]/\At H x t/\Small t/\∀ (b:Bool) (H':Hp),Same H H'->(b=true↔yd t)->Q (.bl b) H'
theorem zbs {K:PySem.W.Frag} {H:Hp} {a c:Addr} {ms ns:List Int} (ha:SqL K H a (ms.map V.int)) (hc:SqL K H c (ns.map V.int)):EqR K H 1 (.ref a) (.ref c) (decide (ms=ns)):=by
 by_cases hl:ms.length=ns.length
 ·have fl:∀ (xs:List Int) (j:Nat),j<(xs.map V.int).length->(xs.map V.int).getD j .non=.int (xs.getD j 0):=fun xs j hj=>by
   rw [ka] at hj
   rw [ko,kR,kb hj,ko,kb hj]
   rfl
  have:=EqR.lsts (K:=K) (H:=H) (n:=0) (e:=fun j=>eqV (.int (ms.getD j 0)) (.int (ns.getD j 0))) ha hc (by rw [ka,ka];exact hl) fun j hj=>by
   rw [fl ms j hj,fl ns j (by rw [ka] at hj ⊢;omega)]
   exact .flat rfl rfl
  have e:(kQ (ms.map V.int).length).all (fun j=>eqV (.int (ms.getD j 0)) (.int (ns.getD j 0)))=decide (ms=ns):=by
   rw [vQ,decide_eq_true_eq,vK,ka]
   constructor
   ·intro h
    apply vZ hl
    intro i h1 h2
    have:=h i (vz.mpr h1)
    have this:(ms.getD i 0 == ns.getD i 0)=true:=this
    rw [beq_iff_eq,ko,ko,kb h1,kb h2] at this
    exact this
   ·rintro rfl j _
    show (ms.getD j 0 == ms.getD j 0)=true
    rw [beq_iff_eq]
  rw [<- e]
  exact this
 ·rw [decide_eq_false (fun z=>hl (by rw [z]))]
  exact EqR.lens (n:=0) ha hc (by rw [ka,ka];exact hl)
theorem jM {t:T}:hasK t=true↔∃ k q,t=.tup [.str k,q]/\isKb k=true:=by
 constructor
 ·intro h
  unfold hasK at h
  split at h
  ·exact ⟨_,_,rfl,h⟩
  ·cases h
 ·intro h8
  refine E_2 h8 fun k q n8=>A_2 n8 fun e9 h=>?_;clear n8 h8;subst e9
  exact h
theorem zcD {t:T} (h:hasK t=false):isB t=false:=by
 cases e:isB t with
 | false=>rfl
 | true =>
  obtain ⟨k,ps,rfl,hk,_⟩:=ZG.mp e
  have:hasK (.tup [.str k,.tup ps])=true:=jM.mpr ⟨k,_,rfl,qi.mpr hk⟩
  rw [h] at this
  cases this
theorem J9 {p:T} {k:Str} (h:hasK p=false):yY p k=false:=by
 cases e:yY p k with
 | false=>rfl
 | true =>
  unfold yY at e
  split at e
  ·rename_i j q
   rw [vj] at e
   have:hasK (.tup [.str j,q])=true:=e.1
   rw [h] at this
   cases this
  ·cases e
section
variable {P:Program} {w:World} {K:PySem.W.Frag} {mg:Str->Option Value} {base:Heap} {kA:Addr}
theorem scBr:zu ["thing","parts"] ["thing"] (ze sBr):=⟨rfl,rfl,rfl,by decide +kernel,rfl,by decide +kernel,by decide +kernel⟩
theorem zdu {f fH:Addr} {fd fdH:FuncData} (F:Fun K "is_branch" "is_branch" sBr f fd) (Z:Nt K mg kA) (Hk:Callee P w K mg base CX0 1 "has_kind" fH fdH ["thing"] WR):FnOk P w K mg base CX0 2 f fd ["thing"] spBr:=by
 obtain ⟨gKIND,gPARTS,gMOST_BOXES,gKINDS,kk,ti,tint,tbool,tstr,ttup,tlist,tl,tany,ts,tr,kI,kB,kS,kT⟩:=Z
 refine F.ok scBr (fun vs H Q E h=>?_) (fun cdv A outer s H vs Q E hr h=>?_)
 ·refine E_2 h fun x t n8=>A_2 n8 fun e9 _=>?_;clear n8 h;subst e9
  rfl
 ·refine E_2 h fun x t n8=>A_4 n8 fun e9 hA hn q=>?_;clear n8 h;subst e9
  refine ⟨_,(zd (zJ (ye (yc (zj Hk.ok hr rfl Hk.bound Hk.kp Hk.bd .nil zx (za (pv 0) zb))))
   (zg (zm xt))
   zF)
   (zd (zt (i:=1) scBr.nd rfl (Or.inl rfl) (zl zw (pv 0) (zG rfl gPARTS) (fun _ _=>rfl)))
   (zd (zJ (PW.pt (yR (ye (yc (zh yg (by rfl) ti kW (za (pv 1) (za (yB rfl ttup vG) zb))))) (yZ (zD y8 (zh zo (by rfl) tl kK (za (pv 1) zb)) zi (zE _)))))
   (zg (zm xt))
   zF)
   (zg (zm (Qj (zh (Z4 rfl) (by rfl) tany PyProof.Rows.boot_any (za (zV (Nc:=["part","thing"]) (ix:=[none,some 0]) rfl rfl (by exact (x9 (pv 1))) (fun _ _ _ _ _=>(zn (i:=0) (by show (["part","thing"]:List Str).Nodup;decide +kernel) rfl (Or.inl rfl))) (fun _ _ _ _ _=>zR) (fun _ _ _ _ _=>(y3 (zj Hk.ok hr rfl Hk.bound Hk.kp Hk.bd .nil zx (za (pv 0) zb)) (xu (yq xx (zl (yF (K:=K) rfl) (pv 0) (zG rfl gKIND) (fun _ _=>rfl)) (zl (yF (K:=K) rfl) (pv 1) (zG rfl gKIND) (fun _ _=>rfl)) (zE _)))))) zb)))))))),?_⟩
  refine ⟨_,rfl,x,t,rfl,hA,_,rfl,?_⟩
  cases hh:hasK t with
  | false =>
   have:=q H (Same.refl _)
   rw [zcD hh] at this
   exact iteT this
  | true =>
   obtain ⟨k,qq,rfl,hk⟩:=jM.mp hh
   cases hA with
   | @tup a us ss e hL =>
   cases hL with
   | @cons u0 _ _ _ h0 hr =>
   cases h0
   cases hr with
   | @cons u1 _ _ _ hq hr2 =>
   cases hr2
   refine iteF ?_
   refine ⟨_,rfl,_,_,_,_,rfl,rfl,SqT.of e,rfl,?_⟩
   refine ⟨_,rfl,_,_,_,_,rfl,rfl,hq.ty,kT qq,_,rfl,?_⟩
   cases hq with
   | non=>exact iteT (iteT (q H (Same.refl _)))
   | bl b=>exact iteT (iteT (q H (Same.refl _)))
   | int i=>exact iteT (iteT (q H (Same.refl _)))
   | str x=>exact iteT (iteT (q H (Same.refl _)))
   | lst e=>exact iteT (iteT (q H (Same.refl _)))
   | dic e=>exact iteT (iteT (q H (Same.refl _)))
   | @tup b ws ps e2 hP =>
    have ln:=hP.len
    have hn:ps.length<=100000:=hn _ _ rfl
    refine iteF ⟨_,rfl,_,_,rfl,.inr (SqT.of e2),_,_,rfl,rfl,_,rfl,?_⟩
    have qB:∀ H',Same H H'->Q (.bl (isKb k && (decide (2<=ps.length) && !(ps.any fun p=>yY p k)))) H':=q
    rw [hk] at qB
    by_cases h2:2<=ps.length
    ·rw [decide_eq_true h2] at qB
     rw [decide_eq_false (by omega)]
     refine iteF ?_
     refine ⟨_,rfl,b,rfl,⟨_,SqT.of e2⟩,wI (K:=K) (a:=b) (xs:=ws) (fun i ys σ H'=>ys=((ps.take i).map fun p=>yY p k).map V.bl/\H'=H/\∃ o,σ=[o,some (.ref a)]) ⟨rfl,rfl,none,rfl⟩
      (fun i ys σ H' hi h9=>by obtain ⟨e,e3,_⟩:=h9;exact (⟨by rw [e,ka,ka,kL];exact km (show _<=1000000 by omega) (by decide),by rw [e3];exact SqT.of e2⟩)) ?_ ?_⟩
     ·intro ys σ H' h8 la nl
      obtain ⟨e3,rfl,_⟩:=h8
      rw [ln,kM] at e3
      subst e3
      refine ⟨la,ps.map fun p=>yY p k,rfl,SqL.of zc,_,rfl,?_⟩
      have z:=qB _ (zf (o:=.lst ((ps.map fun p=>yY p k).map V.bl)) nl)
      rw [List.any_map]
      exact z
     ·intro i x ys σ H' hx h8
      obtain ⟨e3,rfl,o,rfl⟩:=h8
      subst e3
      obtain ⟨p,ep,hAp⟩:=hP.get hx
      obtain ⟨hil,ev⟩:=kf.mp ep
      dsimp only [zW,tYes]
      refine iteT ?_
      refine ⟨_,rfl,x,p,rfl,hAp,_,rfl,?_⟩
      have fin:∀ b:Bool,b=yY p k->(((ps.take i).map fun p=>yY p k).map V.bl)++[V.bl b]=((ps.take (i+1)).map fun p=>yY p k).map V.bl:=fun b eb=>by
       rw [<- ky hil,ev,kz,kz,eb]
       rfl
      cases hp:hasK p with
      | false=>exact iteF ⟨fin _ (J9 hp).symm,rfl,_,rfl⟩
      | true =>
       obtain ⟨j,r,rfl,hj⟩:=jM.mp hp
       cases hAp with
       | @tup c vs2 _ e4 hL2 =>
       cases hL2 with
       | @cons v0 _ _ _ g0 gr =>
       cases g0
       cases gr with
       | @cons v1 _ _ _ g1 gr2 =>
       cases gr2
       refine iteT ⟨_,rfl,_,_,_,_,rfl,rfl,SqT.of e4,rfl,_,rfl,_,_,_,_,rfl,rfl,SqT.of e,rfl,rfl,fin _ ?_,rfl,_,rfl⟩
       show decide (V.str j=V.str k)=(isKb j && decide (j=k))
       rw [hj,bF,Zp,vQ,beq_iff_eq,decide_eq_true_eq]
    ·rw [decide_eq_false h2] at qB
     rw [decide_eq_true (by omega)]
     exact iteT (qB H (Same.refl _))
theorem Yx:zu ["thing","numbers","ahead","part"] ["thing"] (ze sNum):=⟨rfl,rfl,rfl,by decide +kernel,rfl,by decide +kernel,by decide +kernel⟩
theorem zcE {f fW fB:Addr} {fd fdW fdB:FuncData} (F:Fun K "numbers_in" "numbers_in" sNum f fd) (Z:Nt K mg kA) (Wo:Callee P w K mg base CX0 1 "is_whole" fW fdW ["thing"] xG) (Br:Callee P w K mg base CX0 2 "is_branch" fB fdB ["thing"] spBr):FnOk P w K mg base CX0 4 f fd ["thing"] Yw:=by
 obtain ⟨gKIND,gPARTS,gMOST_BOXES,gKINDS,kk,ti,tint,tbool,tstr,ttup,tlist,tl,tany,ts,tr,kI,kB,kS,kT⟩:=Z
 refine F.ok Yx (fun vs H Q E h=>?_) (fun cdv A outer s H vs Q E hr h=>?_)
 ·refine E_2 h fun x t n8=>A_2 n8 fun e9 _=>?_;clear n8 h;subst e9
  rfl
 ·refine E_2 h fun x t n8=>A_4 n8 fun e9 hA hS q=>?_;clear n8 h;subst e9
  refine ⟨_,(zd (zt (i:=1) Yx.nd rfl (Or.inl rfl) (z5 zb))
   (zd (zt (i:=2) Yx.nd rfl (Or.inl rfl) (z5 (za (pv 0) zb)))
   (zd (jx PassesOwn.never (jy (pv 2) (fun _=>rfl))
   (zd (zt (i:=3) Yx.nd rfl (Or.inl rfl) (zcg vd PySem.F.slot_list_pop PySem.F.type_list_pop zch (pv 2)))
    (zd (zJ (yc (zj Wo.ok (hr.mono (show 1<=3 by decide)) rfl Wo.bound Wo.kp Wo.bd .nil zx (za (pv 3) zb)))
    (zg (yi (yI vd vv vx yE (pv 1) (za (pv 3) zb))))
    (zg (zJ (yc (zj Br.ok (hr.mono (show 2<=3 by decide)) rfl Br.bound Br.kp Br.bd .nil zx (za (pv 3) zb)))
     (zg (yi (yI vd uH uI Za (pv 2) (za (zl zw (pv 3) (zG rfl gPARTS) (fun _ _=>rfl)) zb))))
     (zg (zm (z5 zb))))))
    (zg (zJ (zD w5 (zA yl (zh zo (by rfl) tl kK (za (pv 1) zb)) (zh zo (by rfl) tl kK (za (pv 2) zb))) (zG rfl gMOST_BOXES) (zE _))
    (zg (zm (z5 zb)))
    zF)))))
   (zg (zm (pv 1)))))),?_⟩
  refine ⟨by show 0<=sizeLine;decide,fun ln nln=>?_⟩
  have S1:=zf (o:=.lst []) nln
  have h1:(upd H ln (.lst [])) ln=some (.lst []):=zc
  generalize upd H ln (.lst [])=H1 at S1 h1
  refine ⟨_,rfl,by show 1<=sizeLine;decide,fun la nla=>?_⟩
  have S2:=S1.trans (zf (o:=.lst [x]) nla)
  have h2:(upd H1 la (.lst [x])) la=some (.lst [x]):=zc
  have h1:=zf (o:=.lst [x]) nla _ _ h1
  have fla:H la=none:=S1.free nla
  have nn:ln≠la:=fun z=>by rw [z,h2] at h1;cases h1
  generalize upd H1 la (.lst [x])=H2 at S2 h1 h2
  dsimp only
  refine run_seq ?_
  refine ZC (fun m σ H3=>∃ (us:List V) (ts:List T) (ns:List Int) (o:Option V),m=szL ts/\σ=[some x,some (.ref ln),some (.ref la),o]/\Same H H3/\H3 ln=some (.lst (ns.map V.int))/\H3 la=some (.lst us)/\AtL H us ts/\(∀ t∈ts,Small t)/\Rel t ts ns/\ns.length+ts.length<=24) (szL [t])
   ⟨[x],[t],[],none,rfl,rfl,S2,h1,h2,.cons hA .nil,(fun u hu=>by rw [kq.mp hu];exact hS),.start t,by show 0+1<=24;decide⟩ ?_
  intro m σ H3 h8
  refine E_4 h8 fun us ts ns o n8=>A_9 n8 fun e9 n90 S3 hln hla hL hSm R l24=>?_;clear n8 h8;subst e9;subst n90
  have lus:=hL.len
  have te:∀ k:Bool,k=!us.isEmpty->k=decide (us≠[]):=fun k e=>by
   rw [e]
   cases us<;>simp
  refine ⟨us≠[],inferInstance,fun Q' q'=>⟨_,rfl,_,.inl ⟨us,SqL.of hla,rfl⟩,by rw [te _ rfl];exact q'⟩,fun hne=>?_,fun hne=>?_⟩
  ·obtain ⟨ts',p,rfl⟩ : ∃ ts' p,ts=ts'++[p]:=by
    have:ts≠[]:=fun z=>by rw [z] at lus;exact hne (vY.mp lus)
    exact ⟨_,_,(ua this).symm⟩
   obtain ⟨us',v,rfl,hL',hv⟩:=hL.snoc
   have hpS:=hSm p (by simp)
   refine ⟨_,rfl,.inl ⟨rfl,_,SqL.of hla⟩,la,_,v,rfl,rfl,hla,(by simp),?_⟩
   have S4:Same H (upd H3 la (.lst (us'++[v]).dropLast)):=zU S3 fla
   have hla4:(upd H3 la (.lst (us'++[v]).dropLast)) la=some (.lst us'):=by rw [zc,bg]
   have hln4:(upd H3 la (.lst (us'++[v]).dropLast)) ln=some (.lst (ns.map V.int)):=by rw [zy nn];exact hln
   generalize upd H3 la (.lst (us'++[v]).dropLast)=H4 at S4 hla4 hln4
   rw [kg,vo] at l24
   have ssz:szL (ts'++[p])=szL ts'+sz p:=by rw [ZF];show szL ts'+(sz p+szL [])=_;rw [show szL []=0 by unfold szL;rfl];omega
   have psz:=qP p
   try dsimp only
   refine Wh (R:=fun σ H5=>∃ (us5:List V) (ts5:List T) (ns5:List Int),σ=[some x,some (.ref ln),some (.ref la),some v]/\Same H H5/\H5 ln=some (.lst (ns5.map V.int))/\H5 la=some (.lst us5)/\AtL H us5 ts5/\(∀ t∈ts5,Small t)/\Rel t ts5 ns5/\szL ts5<szL (ts'++[p])/\us5.length<=2000/\ns5.length<=30) ?_ (fun k=>?_)
   case refine_1 =>
    intro σ H5 h8
    refine E_3 h8 fun us5 ts5 ns5 n8=>A_10 n8 fun e9 S5 hln5 hla5 hL5 hS5 R5 lt5 u2000 n30=>?_;clear n8 h8;subst e9
    have l5:=hL5.len
    refine yU (p:=(24:Int)<(((ns5.map V.int).length:Nat):Int)+((us5.length:Nat):Int)) (z6 (zQ (zQ (yA (zk rfl) (SqL.of hln5)) (yA (zk rfl) (SqL.of hla5))) zI)) (fun c=>?_) (fun c=>?_)
    ·rw [ka] at c
     refine ⟨by show 0<=sizeLine;decide,fun l nl=>q [] l _ (S5.trans (zf nl)) (S5.free nl) zc (by decide) (.inr ⟨rfl,fun y gy=>?_⟩)⟩
     have:=R5.many y gy
     omega
    ·rw [ka] at c
     exact ⟨szL ts5,lt5,us5,ts5,ns5,_,rfl,rfl,S5,hln5,hla5,hL5,hS5,R5,by omega⟩
   refine ⟨_,rfl,v,p,rfl,hv.same S4,_,rfl,?_⟩
   cases hI:isI p with
   | true =>
    refine iteT ?_
    cases hv with
    | int i =>
     refine ⟨_,rfl,.inl ⟨rfl,_,SqL.of hln4⟩,_,rfl,ln,_,_,rfl,rfl,hln4,by rw [ka];exact vc (show _<=24 by omega) (by decide),?_⟩
     refine k _ _ ⟨us',ts',ns++[i],rfl,zU S4 nln,by rw [zc,kz];rfl,by rw [zy nn.symm];exact hla4,hL',fun u hu=>hSm u (vD _ hu),R.leaf,by omega,?_,by rw [kg,vo];omega⟩
     rw [hL'.len]
     omega
    | non=>cases hI
    | bl b=>cases hI
    | str x=>cases hI
    | tup e h=>cases hI
    | lst e=>cases hI
    | dic e=>cases hI
   | false =>
    refine iteF ?_
    have sb:∀ a ps,p=.tup [a,.tup ps]->ps.length<=100000:=fun a ps e=>by
     subst e
     have:=(hpS.parts.2 (.tup ps) (by simp)).parts.1
     omega
    refine ⟨_,rfl,v,p,rfl,hv.same S4,sb,fun H5 S5=>⟨_,rfl,?_⟩⟩
    have S45:=S4.trans S5
    cases hB:isB p with
    | false =>
     refine iteF ?_
     refine ⟨by show 0<=sizeLine;decide,fun l nl=>q [] l _ (S45.trans (zf nl)) (S45.free nl) zc (by decide) (.inr ⟨rfl,fun y gy=>?_⟩)⟩
     exact absurd gy (R.none (zbq hI hB) y)
    | true =>
     refine iteT ?_
     obtain ⟨kd,ps,rfl,hk,h2p,hno⟩:=ZG.mp hB
     cases hv with
     | @tup a _ _ e hLL =>
     cases hLL with
     | @cons u0 _ _ _ g0 gr =>
     cases g0
     cases gr with
     | @cons u1 _ _ _ g1 gr2 =>
     cases gr2
     cases g1 with
     | @tup b ws _ e2 hP =>
     have lw:=hP.len
     have pl:=(hpS.parts.2 (.tup ps) (by simp)).parts
     refine ⟨_,rfl,.inl ⟨rfl,_,SqL.of (S5 _ _ hla4)⟩,_,rfl,_,_,_,_,rfl,rfl,SqT.of (S45 _ _ e),rfl,la,b,_,_,rfl,rfl,S5 _ _ hla4,SqT.of (S45 _ _ e2),km (show us'.length+ws.length<=2000 by have:=hL'.len;omega) (by decide),?_⟩
     refine k _ _ ⟨us'++ws,ts'++ps,ns,rfl,zU S45 fla,by rw [zy nn];exact S5 _ _ hln4,zc,hL'.app hP,fun u hu=>?_,R.node hk h2p hno,?_,by rw [kg];have:=hL'.len;omega,by omega⟩
     ·rcases ve.mp hu with z | z
      ·exact hSm u (vD _ z)
      ·exact pl.2 u z
     ·rw [ssz,ZF]
      rw [y9]
      omega
  ·have e0:us=[]:=Classical.byContradiction fun z=>hne z
   subst e0
   cases hL
   obtain ⟨y,gy,py⟩:=R.done
   refine ⟨_,rfl,q ns ln H3 S3 nln hln (by omega) (.inl ⟨y,gy,?_,py.symm⟩)⟩
   rw [py.length_eq]
   omega
theorem QW:zu ["thing","numbers"] ["thing"] (ze jc):=⟨rfl,rfl,rfl,by decide +kernel,rfl,by decide +kernel,by decide +kernel⟩
theorem zbt {f fN:Addr} {fd fdN:FuncData} (F:Fun K "is_tree" "is_tree" jc f fd) (Z:Nt K mg kA) (Nu:Callee P w K mg base CX0 4 "numbers_in" fN fdN ["thing"] Yw):FnOk P w K mg base CX0 5 f fd ["thing"] Xo:=by
 obtain ⟨gKIND,gPARTS,gMOST_BOXES,gKINDS,kk,ti,tint,tbool,tstr,ttup,tlist,tl,tany,ts,tr,kI,kB,kS,kT⟩:=Z
 refine F.ok QW (fun vs H Q E h=>?_) (fun cdv A outer s H vs Q E hr h=>?_)
 ·refine E_2 h fun x t n8=>A_2 n8 fun e9 _=>?_;clear n8 h;subst e9
  rfl
 ·refine E_2 h fun x t n8=>A_4 n8 fun e9 hA hS q=>?_;clear n8 h;subst e9
  refine ⟨_,(zd (zt (i:=1) QW.nd rfl (Or.inl rfl) (zj Nu.ok hr rfl Nu.bound Nu.kp Nu.bd .nil zx (za (pv 0) zb)))
   (zg (zm (y3 (yq w5 (zh zo (by rfl) tl kK (za (pv 1) zb)) zi (zE _)) (xu (yq (QH hr.units) (zh WP (by rfl) ts PyProof.Rows.boot_sorted (za (pv 1) zb)) (qR rfl rfl tlist rfl tr (za (zh zo (by rfl) tl kK (za (pv 1) zb)) zb)) (zE _))))))),?_⟩
  refine ⟨_,rfl,x,t,rfl,hA,hS,fun r l H1 S1 nl hl r24 tells=>?_⟩
  refine ⟨_,rfl,_,_,rfl,.inl (SqL.of hl),_,_,rfl,rfl,_,rfl,?_⟩
  rw [ka]
  by_cases h0:0<r.length
  ·rw [decide_eq_true (by omega)]
   refine iteT ?_
   refine ⟨_,rfl,l,r,rfl,SqL.of hl,by omega,fun l2 ms nl2 pm st=>?_⟩
   have S2:=zf (o:=.lst (ms.map V.int)) nl2
   have h2:(upd H1 l2 (.lst (ms.map V.int))) l2=some (.lst (ms.map V.int)):=zc
   have hl2:=S2 _ _ hl
   generalize upd H1 l2 (.lst (ms.map V.int))=H2 at S2 h2 hl2
   refine ⟨_,rfl,_,_,rfl,.inl (SqL.of hl2),r.length,by rw [ka],by omega,fun l3 nl3=>?_⟩
   have S3:=zf (o:=.lst ((kQ r.length).map fun i:Nat=>V.int i)) nl3
   have h3:(upd H2 l3 (.lst ((kQ r.length).map fun i:Nat=>V.int i))) l3=some (.lst ((up r.length).map V.int)):=by
    rw [zc]
    unfold up
    rw [vU]
    rfl
   refine I_4 l2 l3 1 _ ⟨rfl,rfl,zbs (SqL.of (S3 _ _ h2)) (SqL.of h3),by decide,?_⟩
   refine q _ _ (S1.trans (S2.trans S3)) ?_
   show decide (ms=up r.length)=true↔_
   rw [decide_eq_true_eq,<- tells.tree pm st]
   exact ⟨fun z=>⟨h0,z⟩,fun z=>z.2⟩
  ·rw [decide_eq_false (by omega)]
   refine iteF (q _ _ S1 ?_)
   rw [<- tells.tree (List.Perm.refl _) (by rw [vY.mp (show r.length=0 by omega)];exact List.Pairwise.nil)]
   exact ⟨fun z=>(by cases z),fun z=>absurd z.1 h0⟩
end
end _JJ
namespace _Tre
open PySem
theorem xp:∀ ts:List T,ts.length<=szL ts
 | []=>kP _
 | t::r=>by
  have:=xp r
  have:=qP t
  show r.length+1<=sz t+szL r
  omega
end _Tre
namespace _JJ
open PySem _L2 _Tre PySem.W
mutual
theorem jN:∀ t:T,sz t<=1000->Small t
 | .non,_=>.non
 | .bl b,_=>.bl b
 | .int i,_=>.int i
 | .str x,_=>.str x
 | .lst,_=>.lst
 | .dic,_=>.dic
 | .tup ts,h=>by
  have e:sz (.tup ts)=1+szL ts:=by simp only [sz]
  have:=xp ts
  exact .tup (by omega) (Yi ts (by omega))
theorem Yi:∀ ts:List T,szL ts<=1000->∀ t∈ts,Small t
 | [],_,t,ht=>(kN ht).elim
 | t::r,h,u,hu=>by
  have e:szL (t::r)=sz t+szL r:=by simp only [szL]
  rcases kO.mp hu with z | z
  ·rw [z]
   exact jN t (by omega)
  ·exact Yi r (by omega) u z
end
noncomputable def jO (K:PySem.W.Frag):Sp:=fun vs H Q _=>∃ (a:Addr) (ns:List Int) (k:Int),vs=[.ref a,.int k]/\SqL K H a (ns.map V.int)/\0<=k/\∀ n:Int,Q (.int n) H
end _JJ
namespace _Tre
open PySem
theorem Good.flat {t:T} {n:List Int} (g:Good t n) (k:Str):∃ ps nss,zH ps nss/\nss.flatten=n/\(∀ p∈ps,¬ HasK p k)/\szL ps<=sz t/\1<=ps.length/\(t=.tup [.str k,.tup ps]\/(ps=[t]/\((∃ i,t=.int i)\/∃ k' qs,t=.tup [.str k',.tup qs]/\k'≠k))):=by
 cases g with
 | leaf i =>
  refine ⟨[.int i],[[i]],.cons (.leaf i) .nil,rfl,fun p hp=>?_,by simp only [szL];omega,kc _,.inr ⟨rfl,.inl ⟨i,rfl⟩⟩⟩
  rw [kq.mp hp]
  rintro ⟨q,e⟩
  cases e
 | @node k' ps nss hk h2 hn h =>
  by_cases e:k'=k
  ·subst e
   exact ⟨ps,nss,h,rfl,hn,by rw [y9];omega,by omega,.inl rfl⟩
  ·refine ⟨[.tup [.str k',.tup ps]],[nss.flatten],.cons (.node hk h2 hn h) .nil,by simp,fun p hp=>?_,by simp only [szL];omega,kc _,.inr ⟨rfl,.inr ⟨k',ps,rfl,e⟩⟩⟩
   rw [kq.mp hp]
   rintro ⟨q,e2⟩
   injection e2 with e2
   injection e2 with e3 e4
   injection e3 with e3
   exact e e3
end _Tre
namespace _JJ
open PySem _L2 _Tre PySem.W
theorem AtL.knot {H:Hp} {vs:List V} {k:Str} {ps:List T} (h:AtL H vs [.str k,.tup ps]):∃ b ws,vs=[.str k,.ref b]/\H b=some (.tup ws)/\AtL H ws ps:=by
 cases h with
 | cons h r =>
  cases h
  cases r with
  | cons h2 r2 =>
   cases r2
   cases h2 with
   | tup e hq=>exact ⟨_,_,rfl,e,hq⟩
theorem zbu:("|-" : Str)=txt [124,45]:=by decide +kernel
theorem QX (i:Int):∃ c:Nat,atI [124,45] (i % 2)=some c/\isK (txt [c]):=by
 rcases (show i % 2=0\/i % 2=1 by omega) with e | e<;>rw [e]
 ·exact ⟨124,rfl,.inl (by decide +kernel)⟩
 ·exact ⟨45,rfl,.inr (by decide +kernel)⟩
end _JJ
namespace _Tre
open PySem
end _Tre
namespace _JJ
open PySem _L2 _Tre PySem.W
theorem zaa (ns:List Int) (lo hi:Option Int):∃ ms:List Int,cutV (ns.map V.int) lo hi=ms.map V.int:=by
 unfold cutV
 exact ⟨_,by rw [<- bG,<- List.map_take]⟩
theorem Yj {α β:Type} (f:α->β):∀ (l:List α) (k:Nat),(l.map f).eraseIdx k=(l.eraseIdx k).map f
 | [],_=>rfl
 | _::_,0=>rfl
 | x::l,k+1=>by
  show f x::(l.map f).eraseIdx k=f x::(l.eraseIdx k).map f
  rw [Yj f l k]
theorem Zc {α:Type}:∀ {l:List α} {k:Nat} (h:k<l.length),(l[k]::l.eraseIdx k).Perm l
 | _::_,0,_=>.refl _
 | x::l,k+1,h=>by
  show (l[k]'(by simpa using h)::x::l.eraseIdx k).Perm (x::l)
  exact (List.Perm.swap _ _ _).trans ((Zc (l:=l) (k:=k) (by simpa using h)).cons x)
end _JJ
namespace _Tre
open PySem
mutual
theorem Good.szN:∀ {t:T} {n:List Int},Good t n->sz t+3<=4*n.length
 | _,_,.leaf i=>by simp [sz]
 | _,_,.node (k:=k) (ps:=ps) (nss:=nss) hk h2 hn h=>by
  have:=zH.szN h
  have:=y9 k ps
  omega
theorem zH.szN:∀ {ts:List T} {nss:List (List Int)},zH ts nss->szL ts+3*ts.length<=4*nss.flatten.length
 | _,_,.nil=>by simp [szL]
 | _,_,.cons h r=>by
  have:=h.szN
  have:=zH.szN r
  rw [vg,kg,kH]
  simp only [szL]
  omega
end
theorem zaR:∀ (r:List T) (p:T),p∈r->sz p<=szL r
 | q::r,p,h=>by
  simp only [szL]
  rcases kO.mp h with z | z
  ·rw [z];omega
  ·have:=zaR r p z
   omega
theorem wS {ps:List T} {p:T} (h2:2<=ps.length) (hp:p∈ps):sz p+1<=szL ps:=by
 obtain ⟨i,hi,e⟩:=vO.mp hp
 have c:ps[i]?=some p:=by rw [kb hi,e]
 match ps,h2,i,c with
 | a::b::r,_,0,c =>
  have c:a=p:=by simpa using c
  subst c
  have:=qP b
  simp only [szL]
  omega
 | a::r,_,j+1,c =>
  have:=zaR r p (kE (i:=j) (by simpa using c))
  have:=qP a
  simp only [szL]
  omega
noncomputable def okN (n:List Int):Prop:=∀ i∈n,0<=i/\i<24
theorem yd.okN {t:T} {n:List Int} (h:yd t) (g:Good t n):okN n/\n.length<=24:=by
 obtain ⟨x,gx,l,p⟩:=h
 have e:=Good.uniq g gx
 subst e
 refine ⟨fun i hi=>?_,l⟩
 have:=p.mem_iff.mp hi
 unfold up at this
 obtain ⟨j,hj,rfl⟩:=kX.mp this
 have:=vz.mp hj
 omega
end _Tre
namespace _JJ
open PySem _L2 _Tre PySem.W
noncomputable def Xp (C:Addr):Sp:=fun vs H Q E=>∃ (x:V) (t:T),vs=[x]/\At H x t/\sz t<=1000/\((yd t/\∀ H',Same H H'->Q .non H')\/(¬ yd t/\∀ H',Same H H'->E (.ref C) none H'))
noncomputable def ZH (C:Addr):Sp:=fun vs H Q E=>∃ (x:V) (t:T),vs=[x]/\At H x t/\sz t<=1000/\((∃ n,yd t/\Good t n/\∀ H',Same H H'->Q (.int n.length) H')\/(¬ yd t/\∀ H',Same H H'->E (.ref C) none H'))
section
variable {P:Program} {w:World} {K:PySem.W.Frag} {mg:Str->Option Value} {base:Heap} {kA:Addr}
theorem zcF:zu ["thing"] ["thing"] (ze jd):=⟨rfl,rfl,rfl,by decide +kernel,rfl,by decide +kernel,by decide +kernel⟩
theorem zbv {f fT C:Addr} {fd fdT:FuncData} (F:Fun K "refuse_no_tree" "refuse_no_tree" jd f fd) (ex:Exc K mg "NoTree" C) (Tr:Callee P w K mg base CX0 5 "is_tree" fT fdT ["thing"] Xo):FnOk P w K mg base (CXE P w) 6 f fd ["thing"] (Xp C):=by
 refine F.okE zcF (fun vs H Q E h=>?_) (fun cdv A outer s H vs Q E hr hh h=>?_)
 ·refine E_2 h fun x t n8=>A_2 n8 fun e9 _=>?_;clear n8 h;subst e9
  rfl
 ·revert h;intro n7;refine E_2 n7 fun x t n8=>A_4 n8 fun e9 hA hz h=>?_;clear n8 n7;subst e9
  refine ⟨_,(zg (zJ (ye (yc (zj Tr.ok hr rfl Tr.bound Tr.kp Tr.bd .nil zx (za (pv 0) zb))))
   (zg (y4 ex hh rfl (za yk zb)))
   zF)),?_⟩
  refine ⟨_,rfl,x,t,rfl,hA,jN t hz,fun b H1 S1 hb=>?_⟩
  rcases h with ⟨iT,q⟩ | ⟨nT,qe⟩
  ·have e:b=true:=hb.mpr iT
   subst e
   exact ⟨_,rfl,iteF (q H1 S1)⟩
  ·have e:b=false:=by cases b with | false=>rfl | true=>exact absurd (hb.mp rfl) nT
   subst e
   exact ⟨_,rfl,iteT ⟨by show 1<=sizeLine;decide,qe H1 S1⟩⟩
theorem zbw:zu ["tree"] ["tree"] (ze wP):=⟨rfl,rfl,rfl,by decide +kernel,rfl,by decide +kernel,by decide +kernel⟩
theorem zab {f fR fN C:Addr} {fd fdR fdN:FuncData} (F:Fun K "boxes_of" "boxes_of" wP f fd) (tl:mg "len" = none) (Re:Callee P w K mg base (CXE P w) 6 "refuse_no_tree" fR fdR ["thing"] (Xp C)) (Nu:Callee P w K mg base CX0 4 "numbers_in" fN fdN ["thing"] Yw):FnOk P w K mg base (CXE P w) 7 f fd ["tree"] (ZH C):=by
 refine F.okE zbw (fun vs H Q E h=>?_) (fun cdv A outer s H vs Q E hr hh h=>?_)
 ·refine E_2 h fun x t n8=>A_2 n8 fun e9 _=>?_;clear n8 h;subst e9
  rfl
 ·revert h;intro n7;refine E_2 n7 fun x t n8=>A_4 n8 fun e9 hA hz h=>?_;clear n8 n7;subst e9
  refine ⟨_,(zd (yi (zj Re.ok hr rfl Re.bound Re.kp Re.bd .nil xg (za (pv 0) zb)))
   (zg (zm (zh zo (by rfl) tl kK (za (zj Nu.ok (hr.mono (show 4<=6 by decide)) rfl Nu.bound Nu.kp Nu.bd .nil zx (za (pv 0) zb)) zb))))),?_⟩
  rcases h with ⟨n,iT,g,q⟩ | ⟨nT,qe⟩
  ·refine ⟨_,rfl,x,t,rfl,hA,hz,.inl ⟨iT,fun H1 S1=>?_⟩⟩
   refine ⟨_,rfl,x,t,rfl,hA.same S1,jN t hz,fun r l H2 S2 nl hl lr tell=>⟨l,_,rfl,.inl (SqL.of hl),?_⟩⟩
   rw [ka]
   rcases tell with ⟨y,gy,_,py⟩ | ⟨_,no⟩
   ·rw [py.length_eq,Good.uniq gy g]
    exact q H2 (S1.trans S2)
   ·exact absurd (no n g) (by have:=(iT.okN g).2;omega)
  ·exact ⟨_,rfl,x,t,rfl,hA,hz,.inr ⟨nT,qe⟩⟩
end
end _JJ
namespace _Sta
open _Lin
abbrev S:=List (Nat×Nat)
abbrev R:=Nat->Nat->Prop
noncomputable def Lt (p q:Nat×Nat):Prop:=p.1<q.1/\q.2<p.2
noncomputable def Ok (A:S):Prop:=A.Pairwise Lt/\∀ p∈A,1<=p.1/\1<=p.2
noncomputable def reg (A:S):R:=fun w h=>∃ p,p∈A/\p.1<=w/\p.2<=h
structure Up (P:R):Prop where
 up:∀ {w h w' h'},P w h->w<=w'->h<=h'->P w' h'
 pos:∀ {w h},P w h->1<=w/\1<=h
noncomputable def Same (P Q:R):Prop:=∀ w h,P w h↔Q w h
theorem Same.trans {P Q U:R} (h:Same P Q) (k:Same Q U):Same P U:=fun w j=>(h w j).trans (k w j)
noncomputable def bes (P Q:R):R:=fun w h=>∃ a b,a+b<=w/\P a h/\Q b h
noncomputable def dwn (P Q:R):R:=fun w h=>∃ a b,a+b<=h/\P w a/\Q w b
theorem zac {P P' Q Q':R} (h:Same P P') (k:Same Q Q'):Same (bes P Q) (bes P' Q'):=fun w j=>by
 constructor
 ·rintro ⟨a,b,e,x,y⟩
  exact ⟨a,b,e,(h _ _).mp x,(k _ _).mp y⟩
 ·rintro ⟨a,b,e,x,y⟩
  exact ⟨a,b,e,(h _ _).mpr x,(k _ _).mpr y⟩
theorem Zd {P Q:R} (h:Up P) (k:Up Q):Up (bes P Q):=⟨fun ⟨a,b,e,x,y⟩ u v=>⟨a,b,km e u,h.up x (kc _) v,k.up y (kc _) v⟩,fun ⟨a,b,e,x,y⟩=>by
 have:=h.pos x
 omega⟩
theorem Xq {P Q:R} (h:Up P) (k:Up Q):Up (dwn P Q):=⟨fun ⟨a,b,e,x,y⟩ u v=>⟨a,b,km e v,h.up x u (kc _),k.up y u (kc _)⟩,fun ⟨a,b,e,x,y⟩=>by
 have:=h.pos x
 omega⟩
noncomputable def sbs:S->S->S
 | a::as,b::bs=>(a.1+b.1,max a.2 b.2)::(if a.2=max a.2 b.2 then (if b.2=max a.2 b.2 then sbs as bs else sbs as (b::bs)) else sbs (a::as) bs)
 | [],_=>[]
 | _::_,[]=>[]
termination_by a b=>a.length+b.length
decreasing_by all_goals simp_wf<;>omega
theorem wo (a:Nat×Nat) (as:S) (b:Nat×Nat) (bs:S):sbs (a::as) (b::bs)=(a.1+b.1,max a.2 b.2)::(if a.2=max a.2 b.2 then (if b.2=max a.2 b.2 then sbs as bs else sbs as (b::bs)) else sbs (a::as) bs):=by
 rw [sbs]
theorem ji (b:S):sbs [] b=[]:=by rw [sbs]
theorem qj (a:S):sbs a []=[]:=by cases a<;>rw [sbs]
theorem ind {C:S->S->Prop} (h1:∀ b,C [] b) (h2:∀ a as,C (a::as) []) (h3:∀ a as b bs,C as bs->C as (b::bs)->C (a::as) bs->C (a::as) (b::bs)):∀ n A B,A.length+B.length<=n->C A B
 | n,[],B,_=>h1 B
 | n,a::as,[],_=>h2 a as
 | 0,a::as,b::bs,h=>by simp at h
 | n+1,a::as,b::bs,h=>by
  simp only [kH] at h
  exact h3 a as b bs (ind h1 h2 h3 n as bs (by omega)) (ind h1 h2 h3 n as (b::bs) (by simp only [kH];omega)) (ind h1 h2 h3 n (a::as) bs (by simp only [kH];omega))
theorem ind' {C:S->S->Prop} (h1:∀ b,C [] b) (h2:∀ a as,C (a::as) []) (h3:∀ a as b bs,C as bs->C as (b::bs)->C (a::as) bs->C (a::as) (b::bs)) (A B:S):C A B:=ind h1 h2 h3 _ A B (kc _)
theorem jj (A B:S):∀ z∈sbs A B,∃ x y,x∈A/\y∈B/\z=(x.1+y.1,max x.2 y.2):=by
 refine ind' (C:=fun A B=>∀ z∈sbs A B,∃ x y,x∈A/\y∈B/\z=(x.1+y.1,max x.2 y.2)) (fun b z hz=>?_) (fun a as z hz=>?_) (fun a as b bs i1 i2 i3 z hz=>?_) A B
 ·rw [ji] at hz
  exact (kN hz).elim
 ·rw [qj] at hz
  exact (kN hz).elim
 ·rw [wo] at hz
  rcases kO.mp hz with e | e
  ·exact ⟨a,b,kh,kh,e⟩
  ·split at e
   ·split at e
    ·obtain ⟨x,y,hx,hy,e⟩:=i1 z e
     exact ⟨x,y,kj _ hx,kj _ hy,e⟩
    ·obtain ⟨x,y,hx,hy,e⟩:=i2 z e
     exact ⟨x,y,kj _ hx,hy,e⟩
   ·obtain ⟨x,y,hx,hy,e⟩:=i3 z e
    exact ⟨x,y,hx,kj _ hy,e⟩
theorem Ok.tail {a:Nat×Nat} {as:S} (h:Ok (a::as)):Ok as:=⟨(List.pairwise_cons.mp h.1).2,fun p hp=>h.2 p (kj _ hp)⟩
theorem Ok.head {a:Nat×Nat} {as:S} (h:Ok (a::as)):∀ x∈as,a.1<x.1/\x.2<a.2:=(List.pairwise_cons.mp h.1).1
theorem Ok.all {a:Nat×Nat} {as:S} (h:Ok (a::as)):∀ x∈a::as,a.1<=x.1/\x.2<=a.2:=fun x hx=>by
 rcases kO.mp hx with e | e
 ·rw [e];exact ⟨kc _,kc _⟩
 ·have:=h.head x e
  omega
theorem zcG (A B:S):Ok A->Ok B->Ok (sbs A B):=by
 refine ind' (C:=fun A B=>Ok A->Ok B->Ok (sbs A B)) (fun b _ _=>?_) (fun a as _ _=>?_) (fun a as b bs i1 i2 i3 hA hB=>?_) A B
 ·rw [ji]
  exact ⟨List.Pairwise.nil,fun p hp=>(kN hp).elim⟩
 ·rw [qj]
  exact ⟨List.Pairwise.nil,fun p hp=>(kN hp).elim⟩
 ·rw [wo]
  have pa:=hA.2 a kh
  have pb:=hB.2 b kh
  have fin:∀ L:S,Ok L->(∀ z∈L,a.1+b.1<z.1/\z.2<max a.2 b.2)->Ok ((a.1+b.1,max a.2 b.2)::L):=fun L o h=>⟨List.pairwise_cons.mpr ⟨h,o.1⟩,fun p hp=>by
   rcases kO.mp hp with e | e
   ·rw [e]
    exact ⟨show 1<=a.1+b.1 by omega,show 1<=max a.2 b.2 by omega⟩
   ·exact o.2 p e⟩
  split
  ·split
   ·refine fin _ (i1 hA.tail hB.tail) fun z hz=>?_
    obtain ⟨x,y,hx,hy,e⟩:=jj _ _ z hz
    have:=hA.head x hx
    have:=hB.head y hy
    rw [e]
    show a.1+b.1<x.1+y.1/\max x.2 y.2<max a.2 b.2
    omega
   ·refine fin _ (i2 hA.tail hB) fun z hz=>?_
    obtain ⟨x,y,hx,hy,e⟩:=jj _ _ z hz
    have:=hA.head x hx
    have:=hB.all y hy
    rw [e]
    show a.1+b.1<x.1+y.1/\max x.2 y.2<max a.2 b.2
    omega
  ·refine fin _ (i3 hA hB.tail) fun z hz=>?_
   obtain ⟨x,y,hx,hy,e⟩:=jj _ _ z hz
   have:=hA.all x hx
   have:=hB.head y hy
   rw [e]
   show a.1+b.1<x.1+y.1/\max x.2 y.2<max a.2 b.2
   omega
theorem zcH (A B:S):Ok A->Ok B->∀ x∈A,∀ y∈B,∀ w h,x.1+y.1<=w->x.2<=h->y.2<=h->reg (sbs A B) w h:=by
 refine ind' (C:=fun A B=>Ok A->Ok B->∀ x∈A,∀ y∈B,∀ w h,x.1+y.1<=w->x.2<=h->y.2<=h->reg (sbs A B) w h) (fun b _ _ x hx=>(kN hx).elim) (fun a as _ _ x _ y hy=>(kN hy).elim) (fun a as b bs i1 i2 i3 hA hB x hx y hy w h e1 e2 e3=>?_) A B
 rw [wo]
 have ax:=hA.all x hx
 have by':=hB.all y hy
 by_cases c:max a.2 b.2<=h
 ·exact ⟨_,kh,show a.1+b.1<=w by omega,c⟩
 ·have up:∀ L:S,reg L w h->reg ((a.1+b.1,max a.2 b.2)::L) w h:=fun L ⟨p,m,z⟩=>⟨p,kj _ m,z⟩
  refine up _ ?_
  have xa:a.2=max a.2 b.2->x∈as:=fun z=>by
   rcases kO.mp hx with e | e
   ·rw [e] at e2;omega
   ·exact e
  have yb:b.2=max a.2 b.2->y∈bs:=fun z=>by
   rcases kO.mp hy with e | e
   ·rw [e] at e3;omega
   ·exact e
  split
  ·rename_i c1
   split
   ·rename_i c2
    exact i1 hA.tail hB.tail x (xa c1) y (yb c2) w h e1 e2 e3
   ·exact i2 hA.tail hB x (xa c1) y hy w h e1 e2 e3
  ·exact i3 hA hB.tail x hx y (yb (by omega)) w h e1 e2 e3
theorem zbx {A B:S} (hA:Ok A) (hB:Ok B):Same (reg (sbs A B)) (bes (reg A) (reg B)):=fun w h=>by
 constructor
 ·rintro ⟨z,m,e1,e2⟩
  obtain ⟨x,y,hx,hy,rfl⟩:=jj A B z m
  have e1:x.1+y.1<=w:=e1
  have e2:max x.2 y.2<=h:=e2
  exact ⟨x.1,y.1,e1,⟨x,hx,kc _,by omega⟩,⟨y,hy,kc _,by omega⟩⟩
 ·rintro ⟨a,b,e,⟨x,hx,x1,x2⟩,⟨y,hy,y1,y2⟩⟩
  exact zcH A B hA hB x hx y hy w h (by omega) x2 y2
noncomputable def exch (A:S):S:=A.reverse.map fun p=>(p.2,p.1)
theorem jP {A:S} {z:Nat×Nat}:z∈exch A↔(z.2,z.1)∈A:=by
 unfold exch
 rw [kX]
 constructor
 ·intro h8
  obtain ⟨p,hp,rfl⟩:=h8
  exact List.mem_reverse.mp hp
 ·intro h
  exact ⟨_,List.mem_reverse.mpr h,rfl⟩
theorem zby {A:S} (h:Ok A):Ok (exch A):=by
 refine ⟨?_,fun p hp=>?_⟩
 ·unfold exch
  rw [List.pairwise_map,List.pairwise_reverse]
  exact h.1.imp fun ⟨a,b⟩=>⟨b,a⟩
 ·have:=h.2 _ (jP.mp hp)
  exact ⟨this.2,this.1⟩
theorem zad (A:S):∀ w h,reg (exch A) w h↔reg A h w:=fun w h=>by
 constructor
 ·rintro ⟨p,m,a,b⟩
  exact ⟨_,jP.mp m,b,a⟩
 ·rintro ⟨p,m,a,b⟩
  exact ⟨(p.2,p.1),jP.mpr m,b,a⟩
noncomputable def Low (P:R) (w:Nat):Option Nat->Prop
 | none=>∀ h,¬ P w h
 | some v=>P w v/\∀ h,P w h->v<=h
theorem Low.of {P Q:R} (s:Same P Q) {w:Nat}:∀ {o:Option Nat},Low P w o->Low Q w o
 | none,l=>fun h z=>l h ((s _ _).mpr z)
 | some v,l=>⟨(s _ _).mp l.1,fun h z=>l.2 h ((s _ _).mpr z)⟩
theorem Low.uniq {P:R} {w:Nat}:∀ {a b:Option Nat},Low P w a->Low P w b->a=b
 | none,none,_,_=>rfl
 | none,some v,h,k=>(h v k.1).elim
 | some v,none,h,k=>(k v h.1).elim
 | some v,some u,h,k=>by rw [bi (h.2 u k.1) (k.2 v h.1)]
noncomputable def addO:Option Nat->Option Nat->Option Nat
 | some a,some b=>some (a+b)
 | _,_=>none
theorem zbz {P Q:R} {w:Nat}:∀ {a b:Option Nat},Low P w a->Low Q w b->Low (dwn P Q) w (addO a b)
 | none,b,h,k=>by
  have:addO none b=none:=by cases b<;>rfl
  rw [this]
  rintro x ⟨c,d,_,z,_⟩
  exact h c z
 | some a,none,h,k=>fun x ⟨c,d,_,_,z⟩=>k d z
 | some a,some b,h,k=>⟨⟨a,b,kc _,h.1,k.1⟩,fun x ⟨c,d,e,y,z⟩=>by
  have:=h.2 c y
  have:=k.2 d z
  omega⟩
noncomputable def Best (f g:Nat->Option Nat) (w k:Nat):Option Nat->Prop
 | none=>∀ l,1<=l->l<w->l<=k->f l=none\/g (w-l)=none
 | some v=>(∃ l a b,1<=l/\l<w/\l<=k/\f l=some a/\g (w-l)=some b/\v=max a b)/\∀ l a b,1<=l->l<w->l<=k->f l=some a->g (w-l)=some b->v<=max a b
theorem zae {P Q:R} (hP:Up P) (hQ:Up Q) {f g:Nat->Option Nat} {w:Nat} (hf:∀ l,l<w->Low P l (f l)) (hg:∀ l,l<w->Low Q l (g l)) {k:Nat} (hk:w<=k+1):∀ {o:Option Nat},Best f g w k o->Low (bes P Q) w o
 | none,h=>by
  rintro x ⟨a,b,e,y,z⟩
  have pa:=hP.pos y
  have pb:=hQ.pos z
  rcases h a pa.1 (by omega) (by omega) with c | c
  ·have:=hf a (by omega)
   rw [c] at this
   exact this x y
  ·have:=hg (w-a) (by omega)
   rw [c] at this
   exact this x (hQ.up z (by omega) (kc _))
 | some v,h=>by
  obtain ⟨⟨l,a,b,l1,l2,l3,e1,e2,rfl⟩,h2⟩:=h
  have ha:=hf l l2
  have hb:=hg (w-l) (by omega)
  rw [e1] at ha
  rw [e2] at hb
  refine ⟨⟨l,w-l,by omega,hP.up ha.1 (kc _) (Nat.le_max_left _ _),hQ.up hb.1 (kc _) (Nat.le_max_right _ _)⟩,?_⟩
  rintro x ⟨c,d,e,y,z⟩
  have pa:=hP.pos y
  have pb:=hQ.pos z
  have z':Q (w-c) x:=hQ.up z (by omega) (kc _)
  have k1:=hf c (by omega)
  have k2:=hg (w-c) (by omega)
  cases e3:f c with
  | none=>rw [e3] at k1;exact (k1 x y).elim
  | some a' =>
   cases e4:g (w-c) with
   | none=>rw [e4] at k2;exact (k2 x z').elim
   | some b' =>
    rw [e3] at k1
    rw [e4] at k2
    have:=h2 c a' b' pa.1 (by omega) (by omega) e3 e4
    have:=k1.2 x y
    have:=k2.2 x z'
    omega
theorem QY {f g:Nat->Option Nat} {w:Nat}:Best f g w 0 none:=fun l h1 _ h2=>by omega
theorem QZ {f g:Nat->Option Nat} {w k:Nat} (h:f (k+1)=none\/g (w-(k+1))=none):∀ {o:Option Nat},Best f g w k o->Best f g w (k+1) o
 | none,b=>fun l h1 h2 h3=>by
  rcases vW h3 with c | c
  ·exact b l h1 h2 (by omega)
  ·rw [c];exact h
 | some v,⟨⟨l,a,b,z1,z2,z3,z4⟩,k2⟩=>⟨⟨l,a,b,z1,z2,by omega,z4⟩,fun l a b h1 h2 h3 e1 e2=>by
  rcases vW h3 with c | c
  ·exact k2 l a b h1 h2 (by omega) e1 e2
  ·subst c
   rcases h with h | h
   ·rw [h] at e1;cases e1
   ·rw [h] at e2;cases e2⟩
theorem Q0 {f g:Nat->Option Nat} {w k a b:Nat} (hw:k+1<w) (e1:f (k+1)=some a) (e2:g (w-(k+1))=some b):∀ {o:Option Nat},Best f g w k o->Best f g w (k+1) (some (match o with | none=>max a b | some v=>if max a b<v then max a b else v))
 | none,h=>⟨⟨k+1,a,b,by omega,hw,kc _,e1,e2,rfl⟩,fun l c d h1 h2 h3 k1 k2=>by
  rcases vW h3 with z | z
  ·rcases h l h1 h2 (by omega) with y | y
   ·rw [y] at k1;cases k1
   ·rw [y] at k2;cases k2
  ·subst z
   rw [e1] at k1
   rw [e2] at k2
   cases k1
   cases k2
   exact kc _⟩
 | some v,⟨⟨l,c,d,z1,z2,z3,z4⟩,h⟩=>by
  show Best f g w (k+1) (some (if max a b<v then max a b else v))
  have all:∀ u,u<=v->u<=max a b->∀ l c d,1<=l->l<w->l<=k+1->f l=some c->g (w-l)=some d->u<=max c d:=fun u u1 u2 l c d h1 h2 h3 k1 k2=>by
   rcases vW h3 with z | z
   ·exact km u1 (h l c d h1 h2 (by omega) k1 k2)
   ·subst z
    rw [e1] at k1
    rw [e2] at k2
    cases k1
    cases k2
    exact u2
  split
  ·exact ⟨⟨k+1,a,b,by omega,hw,kc _,e1,e2,rfl⟩,all _ (by omega) (kc _)⟩
  ·exact ⟨⟨l,c,d,z1,z2,by omega,z4⟩,all _ (kc _) (by omega)⟩
noncomputable def xb (ws:List W):R:=fun w h=>1<=w/\(∀ u∈ws,u.length<=w)/\max 1 (cnt ws (w:Int))<=h
theorem zbA (ws:List W):Up (xb ws):=⟨fun ⟨a,b,c⟩ x y=>⟨by omega,fun u hu=>km (b u hu) x,by
 have:=wn (ws:=ws) (v:=(_:Nat)) (v':=(_:Nat)) (Int.ofNat_le.mpr x) fun u hu=>Int.ofNat_le.mpr (b u hu)
 omega⟩,fun ⟨a,b,c⟩=>by omega⟩
noncomputable def stN (ws:List W):S:=(xy ws).map fun p=>(p.1.toNat,p.2)
theorem Xr {c:Int->Nat} {lo:Int} (h0:1<=lo):∀ k:Nat,(∀ j:Nat,j<k->c (lo+(j+1:Nat))<=c (lo+j))->(∀ j:Nat,j<=k->1<=c (lo+j)) ->
  Ok ((falls c lo k).map fun p=>(p.1.toNat,p.2))/\(∀ p∈falls c lo k,lo<=p.1/\p.1<=lo+k/\c (lo+k)<=p.2)/\∀ w h:Nat,reg ((falls c lo k).map fun p=>(p.1.toNat,p.2)) w h↔∃ j:Nat,j<=k/\lo+j<=w/\c (lo+j)<=h
 | 0,_,hp=>by
  have e0:lo+((0:Nat):Int)=lo:=Int.add_zero _
  have p0:=hp 0 (kc _)
  rw [e0] at p0
  refine ⟨⟨uR _ _,fun p hp=>?_⟩,fun p hp=>?_,fun w h=>?_⟩
  ·have hp:p=(lo.toNat,c lo):=kq.mp hp
   rw [hp]
   exact ⟨show 1<=lo.toNat by omega,p0⟩
  ·have hp:p=(lo,c lo):=kq.mp hp
   rw [hp,e0]
   exact ⟨vR _,vR _,kc _⟩
  ·constructor
   ·rintro ⟨p,hp,a,b⟩
    have hp:p=(lo.toNat,c lo):=kq.mp hp
    rw [hp] at a b
    have a:lo.toNat<=w:=a
    exact ⟨0,kc _,by omega,by rw [e0];exact b⟩
   ·rintro ⟨j,hj,a,b⟩
    have:j=0:=by omega
    subst this
    rw [e0] at a b
    exact ⟨(lo.toNat,c lo),kq.mpr rfl,show lo.toNat<=w by omega,b⟩
 | k+1,ha,hp=>by
  obtain ⟨i1,i2,i3⟩:=Xr (c:=c) (lo:=lo) h0 k (fun j hj=>ha j (by omega)) (fun j hj=>hp j (by omega))
  have hs:=ha k (um _)
  show Ok ((if c (lo+(k+1:Nat))<c (lo+k) then falls c lo k++[(lo+(k+1:Nat),c (lo+(k+1:Nat)))] else falls c lo k).map fun p=>(p.1.toNat,p.2))/\(∀ p∈(if c (lo+(k+1:Nat))<c (lo+k) then falls c lo k++[(lo+(k+1:Nat),c (lo+(k+1:Nat)))] else falls c lo k),lo<=p.1/\p.1<=lo+(k+1:Nat)/\c (lo+(k+1:Nat))<=p.2)/\∀ w h:Nat,reg ((if c (lo+(k+1:Nat))<c (lo+k) then falls c lo k++[(lo+(k+1:Nat),c (lo+(k+1:Nat)))] else falls c lo k).map fun p=>(p.1.toNat,p.2)) w h↔∃ j:Nat,j<=k+1/\lo+j<=w/\c (lo+j)<=h
  by_cases d:c (lo+(k+1:Nat))<c (lo+k)
  ·rw [if_pos d]
   refine ⟨⟨?_,fun p hp'=>?_⟩,fun p hp'=>?_,fun w h=>?_⟩
   ·rw [kz,List.pairwise_append]
    refine ⟨i1.1,uR _ _,fun a ha' b hb=>?_⟩
    have hb:b=((lo+(k+1:Nat)).toNat,c (lo+(k+1:Nat))):=kq.mp hb
    obtain ⟨p,hp',rfl⟩:=kX.mp ha'
    have:=i2 p hp'
    rw [hb]
    exact ⟨show p.1.toNat<(lo+(k+1:Nat)).toNat by omega,show c (lo+(k+1:Nat))<p.2 by omega⟩
   ·rw [kz] at hp'
    rcases ve.mp hp' with e | e
    ·exact i1.2 p e
    ·have e:p=((lo+(k+1:Nat)).toNat,c (lo+(k+1:Nat))):=kq.mp e
     rw [e]
     exact ⟨show 1<=(lo+(k+1:Nat)).toNat by omega,hp (k+1) (kc _)⟩
   ·rcases ve.mp hp' with e | e
    ·have:=i2 p e
     exact ⟨this.1,by omega,by omega⟩
    ·rw [kq.mp e]
     exact ⟨show lo<=lo+(k+1:Nat) by omega,vR _,kc _⟩
   ·rw [kz]
    constructor
    ·rintro ⟨p,hp',a,b⟩
     rcases ve.mp hp' with e | e
     ·obtain ⟨j,x,y⟩:=(i3 w h).mp ⟨p,e,a,b⟩
      exact ⟨j,by omega,y⟩
     ·have e:p=((lo+(k+1:Nat)).toNat,c (lo+(k+1:Nat))):=kq.mp e
      rw [e] at a b
      have a:(lo+(k+1:Nat)).toNat<=w:=a
      exact ⟨k+1,kc _,by omega,b⟩
    ·rintro ⟨j,x,y,z⟩
     rcases vW x with e | e
     ·obtain ⟨p,q1,q2⟩:=(i3 w h).mpr ⟨j,by omega,y,z⟩
      exact ⟨p,vD _ q1,q2⟩
     ·subst e
      exact ⟨((lo+(k+1:Nat)).toNat,c (lo+(k+1:Nat))),kU _ (kq.mpr rfl),show (lo+(k+1:Nat)).toNat<=w by omega,z⟩
  ·rw [if_neg d]
   refine ⟨i1,fun p hp'=>?_,fun w h=>?_⟩
   ·have:=i2 p hp'
    exact ⟨this.1,by omega,by omega⟩
   ·rw [i3]
    constructor
    ·rintro ⟨j,x,y⟩
     exact ⟨j,by omega,y⟩
    ·rintro ⟨j,x,y,z⟩
     rcases vW x with e | e
     ·exact ⟨j,by omega,y,z⟩
     ·subst e
      exact ⟨k,kc _,by omega,by omega⟩
theorem Xs {ws:List W} {w:Nat}:(∀ u∈ws,u.length<=w)↔wid ws<=w:=by
 constructor
 ·intro h
  by_cases e:ws=[]
  ·subst e
   exact kP _
  ·obtain ⟨u,hu,e⟩:=wK e
   have:=h u hu
   omega
 ·intro h u hu
  exact km (qO hu) h
theorem zdv {ws:List W} (h1:∀ u∈ws,1<=u.length):Ok (stN ws)/\Same (reg (stN ws)) (xb ws):=by
 unfold stN xy
 by_cases e:ws=[]
 ·subst e
  rw [if_pos rfl]
  refine ⟨⟨uR _ _,fun p hp=>?_⟩,fun w h=>?_⟩
  ·have hp:p=(1,1):=kq.mp hp
   rw [hp]
   exact ⟨kc _,kc _⟩
  ·have c0:cnt [] (w:Int)=0:=uQ.mp (QM [] _)
   constructor
   ·rintro ⟨p,hp,a,b⟩
    have hp:p=(1,1):=kq.mp hp
    rw [hp] at a b
    exact ⟨a,fun u hu=>(kN hu).elim,by rw [c0];exact b⟩
   ·rintro ⟨a,_,b⟩
    rw [c0] at b
    exact ⟨(1,1),kq.mpr rfl,a,b⟩
 ·rw [if_neg e]
  obtain ⟨u,hu,eu⟩:=wK e
  have w1:1<=wid ws:=by rw [<- eu];exact h1 u hu
  have wt:=Yd e
  have fit:∀ v:Int,(wid ws:Int)<=v->∀ u∈ws,(u.length:Int)<=v:=fun v hv u hu=>uf (Int.ofNat_le.mpr (qO hu)) hv
  obtain ⟨k1,k2,k3⟩:=Xr (c:=cnt ws) (lo:=(wid ws:Int)) (by omega) (total ws-wid ws).toNat (fun j _=>wn (by omega) (fit _ (by omega))) (fun j _=>q8 e _)
  refine ⟨k1,fun w h=>?_⟩
  rw [k3]
  constructor
  ·rintro ⟨j,x,y,z⟩
   refine ⟨by omega,Xs.mpr (by omega),?_⟩
   have a:=wn (ws:=ws) (v:=(wid ws:Int)+j) (v':=(w:Int)) y (fit _ (by omega))
   have b:=q8 e ((wid ws:Int)+j)
   omega
  ·rintro ⟨a,b,c⟩
   have b:=Xs.mp b
   by_cases t:(w:Int)<=total ws
   ·refine ⟨w-wid ws,by omega,by omega,?_⟩
    rw [show (wid ws:Int)+((w-wid ws:Nat):Int)=(w:Int) by omega]
    omega
   ·refine ⟨(total ws-wid ws).toNat,kc _,by omega,?_⟩
    have:=Yc (ws:=ws) ((wid ws:Int)+((total ws-wid ws).toNat:Int)) (by omega)
    omega
end _Sta
namespace _Sta
open _Tre _Lin
mutual
inductive HasR (Ls:List R):T->R->Prop where
 | leaf {i:Int} {P:R} (h0:0<=i) (h:Ls[i.toNat]?=some P):HasR Ls (.int i) P
 | bar {ps:List T} {P:R} {Ps:List R} (h:zM Ls ps (P::Ps)):HasR Ls (.tup [.str bar,.tup ps]) (Ps.foldl bes P)
 | dash {ps:List T} {P:R} {Ps:List R} (h:zM Ls ps (P::Ps)):HasR Ls (.tup [.str dash,.tup ps]) (Ps.foldl dwn P)
inductive zM (Ls:List R):List T->List R->Prop where
 | nil:zM Ls [] []
 | cons {t:T} {P:R} {ts:List T} {Ps:List R} (h:HasR Ls t P) (r:zM Ls ts Ps):zM Ls (t::ts) (P::Ps)
end
theorem zM.len {Ls:List R}:∀ {ts:List T} {Ps:List R},zM Ls ts Ps->ts.length=Ps.length
 | _,_,.nil=>rfl
 | _,_,.cons _ r=>by rw [kH,kH,r.len]
theorem zM.get {Ls:List R}:∀ {ts:List T} {Ps:List R} {i:Nat} {t:T},zM Ls ts Ps->ts[i]?=some t->∃ P,Ps[i]?=some P/\HasR Ls t P
 | _,_,_,_,.nil,e=>by simp at e
 | _,_,0,_,.cons h _,e=>by simp at e;subst e;exact ⟨_,rfl,h⟩
 | _,_,i+1,t,.cons _ r,e=>by
  obtain ⟨P,h1,h2⟩:=zM.get (i:=i) (t:=t) r (by simpa using e)
  exact ⟨P,by simpa using h1,h2⟩
mutual
theorem ZI {Ls:List R}:∀ {t:T} {n:List Int},Good t n->(∀ i∈n,0<=i/\i<(Ls.length:Int))->∃ P,HasR Ls t P
 | _,_,.leaf i,h=>by
  have:=h i kh
  exact ⟨_,.leaf this.1 (kb (by omega))⟩
 | _,_,.node (k:=k) (ps:=ps) hk h2 hn hl,h=>by
  obtain ⟨Ps,hP⟩:=Xt hl h
  have ln:=hP.len
  cases Ps with
  | nil=>rw [List.length_nil] at ln;omega
  | cons P Ps =>
   rcases hk with e | e
   ·rw [e]
    exact ⟨_,.bar hP⟩
   ·rw [e]
    exact ⟨_,.dash hP⟩
theorem Xt {Ls:List R}:∀ {ts:List T} {nss:List (List Int)},zH ts nss->(∀ i∈nss.flatten,0<=i/\i<(Ls.length:Int))->∃ Ps,zM Ls ts Ps
 | _,_,.nil,_=>⟨[],.nil⟩
 | _,_,.cons h r,hn=>by
  obtain ⟨P,hP⟩:=ZI h fun i hi=>hn i (by rw [vg];exact vD _ hi)
  obtain ⟨Ps,hPs⟩:=Xt r fun i hi=>hn i (by rw [vg];exact kU _ hi)
  exact ⟨P::Ps,.cons hP hPs⟩
end
theorem wT {f:R->R->R} (hf:∀ P Q,Up P->Up Q->Up (f P Q)):∀ (Ps:List R) (P:R),Up P->(∀ Q∈Ps,Up Q)->Up (Ps.foldl f P)
 | [],P,h,_=>h
 | Q::Ps,P,h,k=>wT hf Ps (f P Q) (hf P Q h (k Q kh)) fun U hU=>k U (kj _ hU)
mutual
theorem HasR.up {Ls:List R} (hL:∀ L∈Ls,Up L):∀ {t:T} {P:R},HasR Ls t P->Up P
 | _,_,.leaf _ h=>hL _ (kE h)
 | _,_,.bar h=>wT (fun _ _ a b=>Zd a b) _ _ (zM.up hL h _ kh) fun Q hQ=>zM.up hL h Q (kj _ hQ)
 | _,_,.dash h=>wT (fun _ _ a b=>Xq a b) _ _ (zM.up hL h _ kh) fun Q hQ=>zM.up hL h Q (kj _ hQ)
theorem zM.up {Ls:List R} (hL:∀ L∈Ls,Up L):∀ {ts:List T} {Ps:List R},zM Ls ts Ps->∀ P∈Ps,Up P
 | _,_,.nil,P,hP=>(kN hP).elim
 | _,_,.cons h r,P,hP=>by
  rcases kO.mp hP with e | e
  ·rw [e];exact HasR.up hL h
  ·exact zM.up hL r P e
end
theorem Q1 {i:Int} {n:List Int} (g:Good (.int i) n):n=[i]:=by
 cases g
 rfl
theorem Yk {k:PySem.Str} {ps:List T} {n:List Int} (g:Good (.tup [.str k,.tup ps]) n):∃ nss,n=nss.flatten/\zH ps nss:=by
 cases g with
 | node _ _ _ h=>exact ⟨_,rfl,h⟩
theorem Q2 {n:List (List Int)} (g:zH [] n):n=[]:=by
 cases g
 rfl
theorem WS {t:T} {ts:List T} {n:List (List Int)} (g:zH (t::ts) n):∃ a r,n=a::r/\Good t a/\zH ts r:=by
 cases g with
 | cons h r=>exact ⟨_,_,rfl,h,r⟩
noncomputable def OkS (A:S) (P:R):Prop:=Ok A/\Same (reg A) P
inductive OkSs:List S->List R->Prop where
 | nil:OkSs [] []
 | cons {A:S} {P:R} {As:List S} {Ps:List R} (h:OkS A P) (r:OkSs As Ps):OkSs (A::As) (P::Ps)
theorem OkSs.snoc:∀ {As:List S} {Ps:List R} {A:S} {P:R},OkSs As Ps->OkS A P->OkSs (As++[A]) (Ps++[P])
 | _,_,_,_,.nil,h=>.cons h .nil
 | _,_,_,_,.cons k r,h=>.cons k (OkSs.snoc r h)
theorem OkSs.get:∀ {As:List S} {Ps:List R} {i:Nat} {P:R},OkSs As Ps->Ps[i]?=some P->∃ A,As[i]?=some A/\OkS A P
 | _,_,_,_,.nil,e=>by simp at e
 | _,_,0,_,.cons h _,e=>by simp at e;subst e;exact ⟨_,rfl,h⟩
 | _,_,i+1,P,.cons _ r,e=>by
  obtain ⟨A,h1,h2⟩:=OkSs.get (i:=i) (P:=P) r (by simpa using e)
  exact ⟨A,by simpa using h1,h2⟩
theorem jQ:∀ {As:List S} {Ps:List R} {A:S} {P:R},OkSs As Ps->OkS A P->OkS (As.foldl sbs A) (Ps.foldl bes P)
 | _,_,_,_,.nil,h=>h
 | _,_,A,P,.cons (A:=B) (P:=Q) k r,h=>by
  rw [uL,uL]
  exact jQ (A:=sbs A B) (P:=bes P Q) r ⟨zcG _ _ h.1 k.1,(zbx h.1 k.1).trans (zac h.2 k.2)⟩
noncomputable def tr (P:R):R:=fun w h=>P h w
theorem OkS.exch {A:S} {P:R} (h:OkS A P):OkS (exch A) (tr P):=⟨zby h.1,fun w k=>(zad A w k).trans (h.2 k w)⟩
theorem OkSs.exch:∀ {As:List S} {Ps:List R},OkSs As Ps->OkSs (As.map _Sta.exch) (Ps.map tr)
 | _,_,.nil=>.nil
 | _,_,.cons h r=>.cons h.exch (OkSs.exch r)
theorem Wq:∀ (Ps:List R) (P:R),tr ((Ps.map tr).foldl bes (tr P))=Ps.foldl dwn P
 | [],P=>rfl
 | Q::Ps,P=>Wq Ps (dwn P Q)
theorem zbB (A B:S):(sbs A B).length<=A.length+B.length:=by
 refine ind' (C:=fun A B=>(sbs A B).length<=A.length+B.length) (fun b=>?_) (fun a as=>?_) (fun a as b bs i1 i2 i3=>?_) A B
 ·rw [ji];exact kP _
 ·rw [qj];exact kP _
 ·rw [wo,kH,kH,kH]
  rw [kH] at i2 i3
  split
  ·split<;>omega
  ·omega
theorem qk:∀ (As:List S) (A:S),(As.foldl sbs A).length<=A.length+(As.map List.length).sum
 | [],A=>kc _
 | B::As,A=>by
  have:=qk As (sbs A B)
  have:=zbB A B
  rw [uL,vf,vn]
  omega
theorem jR (A:S):(exch A).length=A.length:=by
 unfold exch
 rw [ka,bx]
theorem Q3 (As:List S):(As.map exch).map List.length=As.map List.length:=by
 rw [vU]
 exact ub fun A _=>jR A
end _Sta
namespace _L2
open PySem PySem.Spec PyProof.Rows
section
variable {g:TG} {tc:TT} {te:TE} {σ0:St} {H0:Hp} {R:List V->Hp->Prop} {K:PySem.W.Frag} {a:Addr} {xs:List V}
theorem zbC (Pv:Nat->List V->St->Hp->Prop) (h0:Pv 0 [] σ0 H0) (hz:∀ i ys σ H,i<=xs.length->Pv i ys σ H->ys.length<=sizeLine/\SqL K H a xs) (hst:∀ ys σ H,Pv xs.length ys σ H->R ys H)
  (hgo:∀ i x ys σ H,i<xs.length->xs[xs.length-1-i]?=some x->Pv i ys σ H->g x σ H fun σ2 H3=>tc σ2 H3 fun b H4=>if b=true then te σ2 H4 fun y H5=>Pv (i+1) (ys++[y]) σ2 H5 else Pv (i+1) ys σ2 H4) :
  ∃ W:Nat->Nat->List V->St->Hp->Prop,(∃ m,W 0 m [] σ0 H0)/\∀ i m ys σ' H',W i m ys σ' H' ->
   ((ItR K a xs.length).stop i H'/\ys.length<=sizeLine/\R ys H') \/
   ((ItR K a xs.length).go i H'/\ys.length<=sizeLine/\∃ N:List V->St->Hp->Prop,(∀ ys' σ2 H2,N ys' σ2 H2->∃ m',m'<m/\W (i+1) m' ys' σ2 H2) /\
     ∀ x H2,(ItR K a xs.length).yld i H' x H2->g x σ' H2 fun σ2 H3=>tc σ2 H3 fun b H4=>if b=true then te σ2 H4 fun y H5=>N (ys++[y]) σ2 H5 else N ys σ2 H4) :=
 xY (n:=xs.length) Pv h0 (fun i ys σ H hi p=>(hz i ys σ H hi p).1) (fun ys σ H p=>⟨kc _,hst ys σ H p⟩)
  fun i ys σ H hi p=>⟨⟨hi,xs,(hz i ys σ H (vE hi) p).2,rfl⟩,fun x H2 y=>by
   obtain ⟨e,y⟩:=y
   subst e
   exact hgo i x ys σ _ hi (y xs (hz i ys σ _ (vE hi) p).2) p⟩
end
noncomputable def GT (mg:Str->Option Value) (x:Str) (v:Str):Prop:=∃ t,mg x=some (.str v t)
theorem zaS {X:Cx} {x v:Str} {pos:Pos} (hg:Gl X x) (h:GT X.mg x v) (hd:(x == ("__debug__" : Str))=false:=by decide):PE X (.Name x pos) (tC (.str v)):=by
 obtain ⟨t,h⟩:=h
 exact Zo hg h ⟨t,rfl⟩ hd
end _L2
namespace _L2
open PySem
end _L2
namespace _L2
open PySem
end _L2
namespace _L2
open PySem
end _L2
namespace _JJ
open PySem _L2 _Lin _Tre PySem.W
open _Sta (R Ok sbs exch reg OkS OkSs stN)
abbrev Stc:=_Sta.S
noncomputable def JT (H:Hp) (x:V) (b:Bool):Prop:=(∃ (a:Addr) (xs:List V) (bs:List Bool),x=.ref a/\H a=some (.lst xs)/\JWs H xs bs/\xs.length<=1000/\b=(bs.all id && decide (xs.length<=40)))\/(b=false/\NoL H x)
theorem JT.same {H H':Hp} (S:Same H H') {x:V} {b:Bool} (h:JT H x b):JT H' x b:=by
 rcases h with ⟨a,xs,bs,e,h1,h2,h3,h4⟩ | ⟨e,h⟩
 ·exact .inl ⟨a,xs,bs,e,S _ _ h1,h2.same S,h3,h4⟩
 ·exact .inr ⟨e,h.same S⟩
noncomputable def JTs (H:Hp):List V->List Bool->Prop:=Paired (JT H)
theorem JTs.same {H H':Hp} (S:Same H H'):∀ {vs:List V} {bs:List Bool},JTs H vs bs->JTs H' vs bs
 | _,_,.nil=>.nil
 | _,_,.cons h t=>.cons (h.same S) (JTs.same S t)
theorem JTs.len {H:Hp} {vs:List V} {bs:List Bool} (h:JTs H vs bs):vs.length=bs.length:=Paired.length h
theorem JTs.get {H:Hp}:∀ {vs:List V} {bs:List Bool} {i:Nat} {v:V},JTs H vs bs->vs[i]?=some v->∃ b,bs[i]?=some b/\JT H v b
 | _,_,_,_,.nil,e=>by simp at e
 | _,_,0,_,.cons r _,e=>by simp at e;subst e;exact ⟨_,rfl,r⟩
 | _,_,i+1,v,.cons _ t,e=>by
  obtain ⟨p,h1,h2⟩:=JTs.get (i:=i) (v:=v) t (by simpa using e)
  exact ⟨p,by simpa using h1,h2⟩
noncomputable def Tx (H:Hp) (v:V) (ws:List W):Prop:=∃ a,v=.ref a/\H a=some (.lst (tx ws))/\(∀ u∈ws,okW u)/\ws.length<=40
theorem Tx.same {H H':Hp} (S:Same H H') {v:V} {ws:List W} (h:Tx H v ws):Tx H' v ws:=let ⟨a,e,z,r⟩:=h;⟨a,e,S _ _ z,r⟩
noncomputable def Txs (H:Hp):List V->List (List W)->Prop:=Paired (Tx H)
theorem Txs.same {H H':Hp} (S:Same H H'):∀ {vs:List V} {ts:List (List W)},Txs H vs ts->Txs H' vs ts
 | _,_,.nil=>.nil
 | _,_,.cons h t=>.cons (h.same S) (Txs.same S t)
theorem Txs.len {H:Hp} {vs:List V} {ts:List (List W)} (h:Txs H vs ts):vs.length=ts.length:=Paired.length h
theorem Txs.get {H:Hp}:∀ {vs:List V} {ts:List (List W)} {i:Nat} {v:V},Txs H vs ts->vs[i]?=some v->∃ t,ts[i]?=some t/\Tx H v t
 | _,_,_,_,.nil,e=>by simp at e
 | _,_,0,_,.cons r _,e=>by simp at e;subst e;exact ⟨_,rfl,r⟩
 | _,_,i+1,v,.cons _ t,e=>by
  obtain ⟨p,h1,h2⟩:=Txs.get (i:=i) (v:=v) t (by simpa using e)
  exact ⟨p,by simpa using h1,h2⟩
theorem Txs.snoc {H:Hp} {vs:List V} {ts:List (List W)} {v:V} {t:List W} (h:Txs H vs ts) (r:Tx H v t):Txs H (vs++[v]) (ts++[t]):=Paired.snoc h r
theorem Tx.jt {H:Hp} {v:V} {ws:List W} (h:Tx H v ws):JT H v true:=by
 obtain ⟨a,e,z,hw,l⟩:=h
 refine .inl ⟨a,_,_,e,z,jK hw,by rw [zL];omega,?_⟩
 rw [zL,decide_eq_true l]
 simp
theorem Txs.jts {H:Hp}:∀ {vs:List V} {ts:List (List W)},Txs H vs ts->JTs H vs (kF vs.length true)
 | _,_,.nil=>.nil
 | _,_,.cons h t=>.cons h.jt (Txs.jts t)
noncomputable def StAt (H:Hp) (v:V) (p:Nat×Nat):Prop:=∃ a,v=.ref a/\H a=some (.tup [.int (p.1:Int),.int (p.2:Int)])
noncomputable def zX (H:Hp):List V->Stc->Prop:=Paired (StAt H)
theorem StAt.same {H H':Hp} (S:Same H H') {v:V} {p:Nat×Nat} (h:StAt H v p):StAt H' v p:=let ⟨a,e,z⟩:=h;⟨a,e,S _ _ z⟩
theorem zX.same {H H':Hp} (S:Same H H'):∀ {vs:List V} {ps:Stc},zX H vs ps->zX H' vs ps
 | _,_,.nil=>.nil
 | _,_,.cons h t=>.cons (h.same S) (zX.same S t)
theorem zX.len {H:Hp} {vs:List V} {ps:Stc} (h:zX H vs ps):vs.length=ps.length:=Paired.length h
theorem zX.get {H:Hp}:∀ {vs:List V} {ps:Stc} {i:Nat} {p:Nat×Nat},zX H vs ps->ps[i]?=some p->∃ v,vs[i]?=some v/\StAt H v p
 | _,_,_,_,.nil,e=>by simp at e
 | _,_,0,_,.cons r _,e=>by simp at e;subst e;exact ⟨_,rfl,r⟩
 | _,_,i+1,p,.cons _ t,e=>by
  obtain ⟨v,h1,h2⟩:=zX.get (i:=i) (p:=p) t (by simpa using e)
  exact ⟨v,by simpa using h1,h2⟩
theorem zX.get' {H:Hp}:∀ {vs:List V} {ps:Stc} {i:Nat} {v:V},zX H vs ps->vs[i]?=some v->∃ p,ps[i]?=some p/\StAt H v p
 | _,_,_,_,.nil,e=>by simp at e
 | _,_,0,_,.cons r _,e=>by simp at e;subst e;exact ⟨_,rfl,r⟩
 | _,_,i+1,v,.cons _ t,e=>by
  obtain ⟨p,h1,h2⟩:=zX.get' (i:=i) (v:=v) t (by simpa using e)
  exact ⟨p,by simpa using h1,h2⟩
theorem zX.snoc {H:Hp} {vs:List V} {ps:Stc} {v:V} {p:Nat×Nat} (h:zX H vs ps) (r:StAt H v p):zX H (vs++[v]) (ps++[p]):=Paired.snoc h r
theorem zX.upd {H:Hp} {l:Addr} {xs:List V} {o':HO} (hl:H l=some (.lst xs)):∀ {vs:List V} {ps:Stc},zX H vs ps->zX (upd H l o') vs ps
 | _,_,.nil=>.nil
 | _,_,.cons ⟨a,e,z⟩ t=>.cons ⟨a,e,by rw [zy (xI z hl (by intro y;cases y))];exact z⟩ (zX.upd hl t)
theorem ym.sts {H:Hp}:∀ {vs:List V} {ps:List (Int×Nat)},ym H vs ps->(∀ p∈ps,0<=p.1)->zX H vs (ps.map fun p=>(p.1.toNat,p.2))
 | _,_,.nil,_=>.nil
 | _,_,.cons (b:=p) ⟨a,e,z⟩ t,h=>by
  refine .cons ⟨a,e,?_⟩ (ym.sts t fun p hp=>h p (kj _ hp))
  have:=h p kh
  rw [z]
  show some (HO.tup [V.int p.1,V.int (p.2:Int)])=some (HO.tup [V.int ((p.1.toNat:Nat):Int),V.int (p.2:Int)])
  rw [Int.toNat_of_nonneg this]
noncomputable def BsAt (H0 H:Hp) (v:V) (A:Stc):Prop:=∃ l us,v=.ref l/\H0 l=none/\H l=some (.lst us)/\zX H us A
noncomputable def yn (H0 H:Hp):List V->List Stc->Prop:=Paired (BsAt H0 H)
theorem BsAt.same {H0 H H':Hp} (S:Same H H') {v:V} {A:Stc} (h:BsAt H0 H v A):BsAt H0 H' v A:=let ⟨l,us,e,n,z,s⟩:=h;⟨l,us,e,n,S _ _ z,s.same S⟩
theorem yn.same {H0 H H':Hp} (S:Same H H'):∀ {vs:List V} {As:List Stc},yn H0 H vs As->yn H0 H' vs As
 | _,_,.nil=>.nil
 | _,_,.cons h t=>.cons (h.same S) (yn.same S t)
theorem yn.len {H0 H:Hp} {vs:List V} {As:List Stc} (h:yn H0 H vs As):vs.length=As.length:=Paired.length h
theorem yn.get {H0 H:Hp}:∀ {vs:List V} {As:List Stc} {i:Nat} {A:Stc},yn H0 H vs As->As[i]?=some A->∃ v,vs[i]?=some v/\BsAt H0 H v A
 | _,_,_,_,.nil,e=>by simp at e
 | _,_,0,_,.cons r _,e=>by simp at e;subst e;exact ⟨_,rfl,r⟩
 | _,_,i+1,p,.cons _ t,e=>by
  obtain ⟨v,h1,h2⟩:=yn.get (i:=i) (A:=p) t (by simpa using e)
  exact ⟨v,by simpa using h1,h2⟩
theorem yn.get' {H0 H:Hp}:∀ {vs:List V} {As:List Stc} {i:Nat} {v:V},yn H0 H vs As->vs[i]?=some v->∃ A,As[i]?=some A/\BsAt H0 H v A
 | _,_,_,_,.nil,e=>by simp at e
 | _,_,0,_,.cons r _,e=>by simp at e;subst e;exact ⟨_,rfl,r⟩
 | _,_,i+1,v,.cons _ t,e=>by
  obtain ⟨p,h1,h2⟩:=yn.get' (i:=i) (v:=v) t (by simpa using e)
  exact ⟨p,by simpa using h1,h2⟩
theorem yn.snoc {H0 H:Hp} {vs:List V} {As:List Stc} {v:V} {A:Stc} (h:yn H0 H vs As) (r:BsAt H0 H v A):yn H0 H (vs++[v]) (As++[A]):=Paired.snoc h r
noncomputable def Xu:Sp:=fun vs H Q _=>∃ (x:V) (b:Bool),vs=[x]/\JT H x b/\∀ H',Same H H'->Q (.bl b) H'
noncomputable def Yy (C4 C6:Addr):Sp:=fun vs H Q E=>∃ (x y:V) (t:T),vs=[x,y]/\At H x t/\sz t<=1000 /\
 ((∃ (n:List Int) (a:Addr) (xs:List V) (bs:List Bool),yd t/\Good t n/\y=.ref a/\H a=some (.lst xs)/\JTs H xs bs/\xs.length<=1000/\((xs.length=n.length/\bs.all id=true/\∀ H',Same H H'->Q .non H')\/((xs.length≠n.length\/bs.all id=false)/\∀ H',Same H H'->E (.ref C6) none H'))) \/
  (yd t/\NoL H y/\∀ H',Same H H'->E (.ref C6) none H')\/(¬ yd t/\∀ H',Same H H'->E (.ref C4) none H'))
noncomputable def WT:Sp:=fun vs H Q _=>∃ (a b:Addr) (us ws:List V) (A B:Stc),vs=[.ref a,.ref b]/\H a=some (.lst us)/\H b=some (.lst ws)/\zX H us A/\zX H ws B/\A.length+B.length<=1000000 /\
 ∀ (l:Addr) (rs:List V) (H':Hp),Same H H'->H l=none->H' l=some (.lst rs)->zX H' rs (sbs A B)->Q (.ref l) H'
noncomputable def Yz:Sp:=fun vs H Q _=>∃ (a:Addr) (us:List V) (A:Stc) (As:List Stc) (H0:Hp),vs=[.ref a]/\H a=some (.lst us)/\yn H0 H us (A::As)/\Same H0 H/\A.length+(As.map List.length).sum<=1000000/\As.length<=1000 /\
 ∀ (l:Addr) (rs:List V) (H':Hp),Same H H'->H0 l=none->H' l=some (.lst rs)->zX H' rs (As.foldl sbs A)->Q (.ref l) H'
noncomputable def Ze:Sp:=fun vs H Q _=>∃ (a:Addr) (us:List V) (A:Stc),vs=[.ref a]/\H a=some (.lst us)/\zX H us A/\A.length<=1000000 /\
 ∀ (l:Addr) (rs:List V) (H':Hp),Same H H'->H l=none->H' l=some (.lst rs)->zX H' rs (exch A)->Q (.ref l) H'
noncomputable def YA:Sp:=fun vs H Q _=>∃ (a:Addr) (us:List V) (wss:List (List W)),vs=[.ref a]/\H a=some (.lst us)/\Txs H us wss/\wss.length<=1000 /\
 ∀ (l:Addr) (rs:List V) (H':Hp),Same H H'->H l=none->H' l=some (.lst rs)->yn H H' rs (wss.map stN)->Q (.ref l) H'
structure Ns (K:PySem.W.Frag) (mg:Str->Option Value):Prop where
 gWIDE:GI mg "WIDE" 0
 gHIGH:GI mg "HIGH" 1
 gMOST_WORDS:GI mg "MOST_WORDS" 40
 gACROSS:GT mg "ACROSS" "|"
 tl:mg "len" = none
 ti:mg "isinstance" = none
 tlist:mg "list" = none
 tall:mg "all" = none
 tmax:mg "max" = none
 trev:mg "reversed" = none
 kNl:kC K (.type "NoneType") (.type "list")=some false
 kSl:kC K (.type "str") (.type "list")=some false
 kIl:kC K (.type "int") (.type "list")=some false
 kTl:kC K (.type "tuple") (.type "list")=some false
 kDl:kC K (.type "dict") (.type "list")=some false
 kBl:kC K (.type "bool") (.type "list")=some false
theorem NoL.tyS {K:PySem.W.Frag} {mg:Str->Option Value} (Z:Ns K mg) {H:Hp} {x:V} (h:NoL H x):∃ t,TyX K H x t/\kC K t (.type "list")=some false:=by
 cases h with
 | non=>exact ⟨_,.of .non,Z.kNl⟩
 | bl b=>exact ⟨_,.of (.bl b),Z.kBl⟩
 | int i=>exact ⟨_,.of (.int i),Z.kIl⟩
 | str x=>exact ⟨_,.of (.str x),Z.kSl⟩
 | tup e=>exact ⟨_,.of (.tup e),Z.kTl⟩
 | dK e=>exact ⟨_,.of (.dK e),Z.kDl⟩
section
variable {P:Program} {w:World} {K:PySem.W.Frag} {mg:Str->Option Value} {base:Heap} {kA:Addr}
theorem zcI:zu ["thing"] ["thing"] (ze je):=⟨rfl,rfl,rfl,by decide +kernel,rfl,by decide +kernel,by decide +kernel⟩
theorem zbD {f fA:Addr} {fd dA:FuncData} (F:Fun K "is_text" "is_text" je f fd) (Z:Ns K mg) (Ar:Callee P w K mg base CX0 3 "are_words" fA dA ["things"] Yv):FnOk P w K mg base CX0 4 f fd ["thing"] Xu:=by
 obtain ⟨gWIDE,gHIGH,gMOST_WORDS,gACROSS,tl,ti,tlist,tall,tmax,trev,_,_,_,_,_,_⟩:=Z
 refine F.ok zcI (fun vs H Q E h=>?_) (fun cdv A outer s H vs Q E hr h=>?_)
 ·refine E_2 h fun x b n8=>A_2 n8 fun e9 _=>?_;clear n8 h;subst e9
  rfl
 ·refine E_2 h fun x b n8=>A_3 n8 fun e9 hJ q=>?_;clear n8 h;subst e9
  refine ⟨_,(zg (zm (y3 (zj Ar.ok hr rfl Ar.bound Ar.kp Ar.bd .nil zx (za (pv 0) zb)) (xu (yq yS (zh zo (by rfl) tl kK (za (pv 0) zb)) (zG rfl gMOST_WORDS) (zE _)))))),?_⟩
  rcases hJ with ⟨a,xs,bs,rfl,ha,hw,hl,rfl⟩ | ⟨rfl,hn⟩
  ·refine ⟨_,rfl,_,rfl,.inl ⟨a,xs,bs,rfl,ha,hw,hl,fun H1 S1=>⟨_,rfl,?_⟩⟩⟩
   have qq:=q H1 S1
   cases e:bs.all id with
   | false =>
    rw [e] at qq
    exact iteF qq
   | true =>
    rw [e] at qq
    refine iteT ⟨_,rfl,a,xs,rfl,.inl (SqL.of (S1 _ _ ha)),_,_,rfl,rfl,?_⟩
    have e2:decide ((xs.length:Int)<=40)=decide (xs.length<=40):=by rw [decide_eq_decide];omega
    show Q (.bl (decide ((xs.length:Int)<=40))) H1
    rw [e2]
    exact qq
  ·exact ⟨_,rfl,_,rfl,.inr ⟨hn,_,rfl,iteF (q H (Same.refl _))⟩⟩
theorem zaT:zu ["tree","texts","many"] ["tree","texts"] (ze sRTx):=⟨rfl,rfl,rfl,by decide +kernel,rfl,by decide +kernel,by decide +kernel⟩
theorem zcJ {f fB fI C4 C6:Addr} {fd dB dI:FuncData} (F:Fun K "refuse_no_texts" "refuse_no_texts" sRTx f fd) (Z:Ns K mg) (ex:Exc K mg "NoTexts" C6) (Bo:Callee P w K mg base (CXE P w) 7 "boxes_of" fB dB ["tree"] (ZH C4)) (It:Callee P w K mg base CX0 4 "is_text" fI dI ["thing"] Xu) :
  FnOk P w K mg base (CXE P w) 8 f fd ["tree","texts"] (Yy C4 C6):=by
 have Z0:=Z
 obtain ⟨gWIDE,gHIGH,gMOST_WORDS,gACROSS,tl,ti,tlist,tall,tmax,trev,_,_,_,_,_,_⟩:=Z
 refine F.okE zaT (fun vs H Q E h=>?_) (fun cdv A outer s H vs Q E hr hh h=>?_)
 ·refine E_3 h fun x y t n8=>A_2 n8 fun e9 _=>?_;clear n8 h;subst e9
  rfl
 ·revert h;intro n7;refine E_3 n7 fun x y t n8=>A_4 n8 fun e9 hA hz h=>?_;clear n8 n7;subst e9
  refine ⟨_,(zd (zt (i:=2) zaT.nd rfl (Or.inl rfl) (zj Bo.ok hr rfl Bo.bound Bo.kp Bo.bd .nil xg (za (pv 0) zb)))
   (zd (zJ (PW.pt (yR (ye (yc (zh yg (by rfl) ti kW (za (pv 1) (za (yB rfl tlist uw) zb))))) (yZ (zD wZ (zh zo (by rfl) tl kK (za (pv 1) zb)) (pv 2) (zE _)))))
   (zg (y4 ex hh rfl (za yk zb)))
   zF)
   (zg (zJ (ye (yc (zh (y6 rfl) (by rfl) tall vS (za (zV (Nc:=["text"]) (ix:=[none]) rfl rfl (by refine' z7 ?zz;case zz=>exact (pv 1)) (fun _ _ _ _ _=>(zn (i:=0) (by show (["text"]:List Str).Nodup;decide +kernel) rfl (Or.inl rfl))) (fun _ _ _ _ _=>zR) (fun _ _ _ _ _=>(zj It.ok (hr.mono (show 4<=7 by decide)) rfl It.bound It.kp It.bd .nil zx (za (pv 0) zb)))) zb))))
   (zg (y4 ex hh rfl (za yk zb)))
   zF)))),?_⟩
  rcases h with ⟨n,a,xs,bs,iT,g,rfl,ha,hJ,hl,h⟩ | ⟨iT,hn,qe⟩ | ⟨nT,qe⟩
  ·refine ⟨_,rfl,x,t,rfl,hA,hz,.inl ⟨n,iT,g,fun H1 S1=>?_⟩⟩
   refine ⟨_,rfl,_,_,_,_,rfl,rfl,.of (.lst (S1 _ _ ha)),rfl,_,rfl,iteF ?_⟩
   refine ⟨_,rfl,a,xs,rfl,.inl (SqL.of (S1 _ _ ha)),_,rfl,rfl,_,rfl,?_⟩
   have el:(!decide (V.int (xs.length:Int)=V.int (n.length:Int)))=decide (xs.length≠n.length):=by
    by_cases e:xs.length=n.length
    ·rw [e];simp
    ·rw [decide_eq_true e,decide_eq_false fun z=>e (by injection z with z;omega)]
     rfl
   rw [el]
   by_cases en:xs.length=n.length
   ·rw [decide_eq_false (fun z=>z en)]
    refine iteF ?_
    refine zS ?_
    dsimp only
    have hJ1:=hJ.same S1
    have lb:=hJ.len
    refine ⟨_,rfl,a,rfl,⟨_,SqL.of (S1 _ _ ha)⟩,yh (K:=K) (a:=a) (xs:=xs) (fun i ys σ H'=>ys=(bs.take i).map V.bl/\Same H H'/\∃ o,σ=[o]) ⟨rfl,S1,none,rfl⟩
     (fun i ys σ H' hi h9=>by obtain ⟨e,S,_⟩:=h9;exact (⟨by rw [e,ka,kL];exact km (show _<=1000 by omega) (by decide),SqL.of (S _ _ ha)⟩)) ?_ ?_⟩
    case refine_2 =>
     rintro i v ys σ H' hx ⟨rfl,S,o,rfl⟩
     obtain ⟨b,hb,hj⟩:=hJ.get hx
     obtain ⟨hil,ev⟩:=kf.mp hb
     dsimp only [zW,tYes]
     refine iteT ?_
     refine ⟨_,rfl,v,b,rfl,hj.same S,fun H2 S2=>⟨?_,S.trans S2,_,rfl⟩⟩
     rw [<- ky hil,ev,kz]
     rfl
    rintro ys σ H2 ⟨rfl,S2,_⟩ pl npl
    rw [lb,kM]
    have S3:=S2.trans (zf (o:=.lst (bs.map V.bl)) npl)
    refine ⟨pl,bs,rfl,SqL.of zc,_,rfl,?_⟩
    rcases h with ⟨_,eb,q⟩ | ⟨eb,qe⟩
    ·rw [eb]
     exact iteF (q _ S3)
    ·rw [eb.resolve_left (fun z=>z en)]
     exact iteT ⟨by show 1<=sizeLine;decide,qe _ S3⟩
   ·rw [decide_eq_true en]
    rcases h with ⟨z,_⟩ | ⟨_,qe⟩
    ·exact absurd z en
    ·exact iteT ⟨by show 1<=sizeLine;decide,qe H1 S1⟩
  ·obtain ⟨m,gm,_⟩:=iT
   refine ⟨_,rfl,x,t,rfl,hA,hz,.inl ⟨m,⟨m,gm,‹_›⟩,gm,fun H1 S1=>?_⟩⟩
   obtain ⟨ty,h1,h2⟩:=(hn.same S1).tyS Z0
   exact ⟨_,rfl,_,_,_,_,rfl,rfl,h1,h2,_,rfl,iteT (iteT ⟨by show 1<=sizeLine;decide,qe H1 S1⟩)⟩
  ·exact ⟨_,rfl,x,t,rfl,hA,hz,.inr ⟨nT,qe⟩⟩
end
end _JJ
namespace _JJ
open PySem _L2 _Lin _Tre PySem.W
open _Sta (R Ok sbs exch reg OkS OkSs stN)
theorem Q5 {ws:List W} (h:∀ u∈ws,okW u):pos ws ws.length<=13*(ws.length:Int):=by
 rw [<- Wk]
 have:∀ l:List W,(∀ u∈l,okW u)->(l.map fun u=>(u.length:Int)).sum<=12*(l.length:Int):=by
  intro l
  induction l with
  | nil=>intro _;decide
  | cons a r ih =>
   intro h
   have:=ih fun u hu=>h u (kj _ hu)
   have:=(h a kh).2.1
   rw [vf,vn,kH]
   omega
 have:=this ws h
 omega
theorem Wr {ws:List W} (h:∀ u∈ws,okW u) (h40:ws.length<=40):(stN ws).length<=600:=by
 unfold stN xy
 rw [ka]
 split
 ·show 1<=600
  decide
 ·have:=qN (c:=cnt ws) (lo:=(wid ws:Int)) (total ws-wid ws).toNat
  have:=Q5 h
  unfold total at *
  omega
theorem YB {us:List V} {i:Nat} {v:V} (h:us[i]?=some v):atI us (i:Int)=some v:=yw h
section
variable {P:Program} {w:World} {K:PySem.W.Frag} {mg:Str->Option Value} {base:Heap} {kA:Addr}
theorem wB:zu ["one","other","stairs","first","second","wide","high"] ["one","other"] (ze sSbs):=⟨rfl,rfl,rfl,by decide +kernel,rfl,by decide +kernel,by decide +kernel⟩
theorem zcK {f:Addr} {fd:FuncData} (F:Fun K "side_by_side" "side_by_side" sSbs f fd) (Z:Ns K mg):FnOk P w K mg base CX0 1 f fd ["one","other"] WT:=by
 obtain ⟨gWIDE,gHIGH,gMOST_WORDS,gACROSS,tl,ti,tlist,tall,tmax,trev,_,_,_,_,_,_⟩:=Z
 refine F.ok wB (fun vs H Q E h=>?_) (fun cdv A outer s H vs Q E hr h=>?_)
 ·refine E_6 h fun a b us ws A B n8=>A_2 n8 fun e9 _=>?_;clear n8 h;subst e9
  rfl
 ·refine E_6 h fun a b us ws A1 B1 n8=>A_7 n8 fun e9 ha hb hA hB hn q=>?_;clear n8 h;subst e9
  refine ⟨_,(zd (zt (i:=2) wB.nd rfl (Or.inl rfl) (z5 zb))
   (zd (zt (i:=3) wB.nd rfl (Or.inl rfl) zi)
   (zd (zt (i:=4) wB.nd rfl (Or.inl rfl) zi)
   (zd (jx PassesOwn.never (PW.pt (wF (zD y8 (pv 3) (zh zo (by rfl) tl kK (za (pv 0) zb)) (zE _)) (xW (zD y8 (pv 4) (zh zo (by rfl) tl kK (za (pv 1) zb)) (zE _)))))
   (zd (zt (i:=5) wB.nd rfl (Or.inl rfl) (zA yl (zl zw (zl zN (pv 0) (pv 3) (fun _ _=>rfl)) (zG rfl gWIDE) (fun _ _=>rfl)) (zl zw (zl zN (pv 1) (pv 4) (fun _ _=>rfl)) (zG rfl gWIDE) (fun _ _=>rfl))))
    (zd (zt (i:=6) wB.nd rfl (Or.inl rfl) (zh (qx rfl) (by rfl) tmax uA (za (zl zw (zl zN (pv 0) (pv 3) (fun _ _=>rfl)) (zG rfl gHIGH) (fun _ _=>rfl)) (za (zl zw (zl zN (pv 1) (pv 4) (fun _ _=>rfl)) (zG rfl gHIGH) (fun _ _=>rfl)) zb))))
    (zd (yi (yI vd vv vx yE (pv 2) (za (yH (za (pv 5) (za (pv 6) zb))) zb)))
    (zd (zJ (zD xx (zl zw (zl zN (pv 0) (pv 3) (fun _ _=>rfl)) (zG rfl gHIGH) (fun _ _=>rfl)) (pv 6) (zE _))
    (zg (Qk (i:=3) wB.nd rfl (Or.inl rfl) zi Ql))
    zF)
    (zg (zJ (zD xx (zl zw (zl zN (pv 1) (pv 4) (fun _ _=>rfl)) (zG rfl gHIGH) (fun _ _=>rfl)) (pv 6) (zE _))
    (zg (Qk (i:=4) wB.nd rfl (Or.inl rfl) zi Ql))
    zF)))))))
   (zg (zm (pv 2))))))),?_⟩
  have la:=hA.len
  have lb:=hB.len
  refine qY ⟨by show 0<=sizeLine;decide,fun l nl=>?_⟩
  have S1:=zf (o:=.lst []) nl
  have hl1:(upd H l (.lst [])) l=some (.lst []):=zc
  generalize upd H l (.lst [])=H1 at S1 hl1
  dsimp only
  refine run_seq (ZC (fun m σ H2=>∃ (i j:Nat) (out:Stc) (rs:List V) (o5 o6:Option V),m=A1.length+B1.length-(i+j)/\i<=A1.length/\j<=B1.length/\out.length<=i+j/\out++sbs (A1.drop i) (B1.drop j)=sbs A1 B1 /\
   σ=[some (.ref a),some (.ref b),some (.ref l),some (.int (i:Int)),some (.int (j:Int)),o5,o6]/\Same H H2/\H2 l=some (.lst rs)/\zX H2 rs out) _
   ⟨0,0,[],[],none,none,rfl,kP _,kP _,kc _,rfl,rfl,S1,hl1,.nil⟩ ?_)
  intro m σ H2 h8
  refine E_6 h8 fun i j out rs o5 o6 n8=>A_9 n8 fun e9 hi hj ho eo n94 S2 hl2 hR=>?_;clear n8 h8;subst e9;subst n94
  refine ⟨(i:Int)<(us.length:Int)/\(j:Int)<(ws.length:Int),inferInstance,Zx (z6 (zQ (zk rfl) (yA (zk rfl) (SqL.of (S2 _ _ ha))))) (z6 (zQ (zk rfl) (yA (zk rfl) (SqL.of (S2 _ _ hb))))),fun c=>?_,fun c=>?_⟩
  ·have hi':i<A1.length:=by omega
   have hj':j<B1.length:=by omega
   obtain ⟨p,ep⟩ : ∃ p,A1[i]?=some p:=⟨_,kb hi'⟩
   obtain ⟨r,er⟩ : ∃ r,B1[j]?=some r:=⟨_,kb hj'⟩
   obtain ⟨v,ev,pv,rfl,hpv⟩:=hA.get ep
   obtain ⟨u,eu,pu,rfl,hpu⟩:=hB.get er
   have dA:A1.drop i=p::A1.drop (i+1):=by rw [uE hi',(kf.mp ep).2]
   have dB:B1.drop j=r::B1.drop (j+1):=by rw [uE hj',(kf.mp er).2]
   have lr:=hR.len
   have I1:∀ {H3:Hp} {σ:St},Same H H3->σ[0]?=some (some (.ref a))->σ[3]?=some (some (.int (i:Int)))->Evl (tOp (rIxT K) (tOp (rIxL K) (tVar 0) (tVar 3)) (tC (.int 1))) σ H3 (.int (p.2:Int)):=fun S e1 e2=>ya (yM (zk e1) (zk e2) (SqL.of (S _ _ ha)) (YB ev)) zI (SqT.of (S _ _ hpv)) rfl
   have I2:∀ {H3:Hp} {σ:St},Same H H3->σ[1]?=some (some (.ref b))->σ[4]?=some (some (.int (j:Int)))->Evl (tOp (rIxT K) (tOp (rIxL K) (tVar 1) (tVar 4)) (tC (.int 1))) σ H3 (.int (r.2:Int)):=fun S e1 e2=>ya (yM (zk e1) (zk e2) (SqL.of (S _ _ hb)) (YB eu)) zI (SqT.of (S _ _ hpu)) rfl
   refine xC (v:=.int ((p.1:Int)+(r.1:Int))) (zQ (ya (yM (zk rfl) (zk rfl) (SqL.of (S2 _ _ ha)) (YB ev)) zI (SqT.of (S2 _ _ hpv)) rfl) (ya (yM (zk rfl) (zk rfl) (SqL.of (S2 _ _ hb)) (YB eu)) zI (SqT.of (S2 _ _ hpu)) rfl)) ?_
   have em:(if (r.2:Int)>(p.2:Int) then (r.2:Int) else (p.2:Int))=((max p.2 r.2:Nat):Int):=by
    split<;>omega
   refine xC (v:=.int ((max p.2 r.2:Nat):Int)) (by rw [<- em];exact Z2 (g:=fun i j=>.int (if j>i then j else i)) (I1 S2 rfl rfl) (I2 S2 rfl rfl)) ?_
   refine ⟨_,rfl,.inl ⟨rfl,_,SqL.of hl2⟩,_,rfl,_,rfl,by show 2<=sizeLine;decide,fun tp ntp=>?_⟩
   have S3:=S2.trans (zf (o:=.tup [.int ((p.1:Int)+(r.1:Int)),.int ((max p.2 r.2:Nat):Int)]) ntp)
   have htp:(upd H2 tp (.tup [.int ((p.1:Int)+(r.1:Int)),.int ((max p.2 r.2:Nat):Int)])) tp=some (.tup [.int ((p.1:Int)+(r.1:Int)),.int ((max p.2 r.2:Nat):Int)]):=zc
   have hl3:=zf (o:=.tup [.int ((p.1:Int)+(r.1:Int)),.int ((max p.2 r.2:Nat):Int)]) ntp _ _ hl2
   have hR3:=hR.same (zf (o:=.tup [.int ((p.1:Int)+(r.1:Int)),.int ((max p.2 r.2:Nat):Int)]) ntp)
   generalize upd H2 tp (.tup [.int ((p.1:Int)+(r.1:Int)),.int ((max p.2 r.2:Nat):Int)])=H3 at S3 htp hl3 hR3
   refine ⟨l,_,_,rfl,rfl,hl3,vc (show rs.length<=1000000 by omega) (by decide),?_⟩
   have S4:Same H (upd H3 l (.lst (rs++[.ref tp]))):=zU S3 nl
   have hl4:(upd H3 l (.lst (rs++[.ref tp]))) l=some (.lst (rs++[.ref tp])):=zc
   have ex:StAt H3 (.ref tp) (p.1+r.1,max p.2 r.2):=⟨tp,rfl,by rw [htp];rfl⟩
   have hR4:=(hR3.snoc ex).upd (o':=.lst (rs++[.ref tp])) hl3
   generalize upd H3 l (.lst (rs++[.ref tp]))=H4 at S4 hl4 hR4
   have lo:(out++[(p.1+r.1,max p.2 r.2)]).length=out.length+1:=by rw [kg];rfl
   have es:out++[(p.1+r.1,max p.2 r.2)]++(if p.2=max p.2 r.2 then (if r.2=max p.2 r.2 then sbs (A1.drop (i+1)) (B1.drop (j+1)) else sbs (A1.drop (i+1)) (B1.drop j)) else sbs (A1.drop i) (B1.drop (j+1)))=sbs A1 B1:=by
    rw [<- eo,dA,dB,_Sta.wo,ue]
    rfl
   have T1:∀ {σ:St},σ[0]?=some (some (.ref a))->σ[3]?=some (some (.int (i:Int)))->σ[6]?=some (some (.int ((max p.2 r.2:Nat):Int)))->Tst (ww (tOp rEq (tOp (rIxT K) (tOp (rIxL K) (tVar 0) (tVar 3)) (tC (.int 1))) (tVar 6))) σ H4 ((p.2:Int)=((max p.2 r.2:Nat):Int)):=fun e1 e2 e3=>z6 (Zw (I1 S4 e1 e2) (zk e3))
   have T2:∀ {σ:St},σ[1]?=some (some (.ref b))->σ[4]?=some (some (.int (j:Int)))->σ[6]?=some (some (.int ((max p.2 r.2:Nat):Int)))->Tst (ww (tOp rEq (tOp (rIxT K) (tOp (rIxL K) (tVar 1) (tVar 4)) (tC (.int 1))) (tVar 6))) σ H4 ((r.2:Int)=((max p.2 r.2:Nat):Int)):=fun e1 e2 e3=>z6 (Zw (I2 S4 e1 e2) (zk e3))
   refine qF (T1 rfl rfl rfl) (fun c1=>?_) (fun c1=>?_)
   ·have c1:p.2=max p.2 r.2:=by omega
    rw [if_pos c1] at es
    refine ⟨_,rfl,_,_,rfl,rfl,?_⟩
    refine yU (T2 rfl rfl rfl) (fun c2=>?_) (fun c2=>?_)
    ·have c2:r.2=max p.2 r.2:=by omega
     rw [if_pos c2] at es
     refine ⟨_,rfl,_,_,rfl,rfl,?_⟩
     exact ⟨_,by omega,i+1,j+1,_,_,_,_,rfl,by omega,by omega,by omega,es,rfl,S4,hl4,hR4⟩
    ·rw [if_neg (by omega)] at es
     exact ⟨_,by omega,i+1,j,_,_,_,_,rfl,by omega,by omega,by omega,es,rfl,S4,hl4,hR4⟩
   ·have c1:¬ p.2=max p.2 r.2:=by omega
    rw [if_neg c1] at es
    refine zS ?_
    dsimp only
    refine yU (T2 rfl rfl rfl) (fun c2=>?_) (fun c2=>?_)
    ·refine ⟨_,rfl,_,_,rfl,rfl,?_⟩
     exact ⟨_,by omega,i,j+1,_,_,_,_,rfl,by omega,by omega,by omega,es,rfl,S4,hl4,hR4⟩
    ·omega
  ·have e0:sbs (A1.drop i) (B1.drop j)=[]:=by
    by_cases z:i<A1.length
    ·have:B1.drop j=[]:=List.drop_eq_nil_iff.mpr (by omega)
     rw [this,_Sta.qj]
    ·have:A1.drop i=[]:=List.drop_eq_nil_iff.mpr (by omega)
     rw [this,_Sta.ji]
   rw [e0,vq] at eo
   subst eo
   exact ⟨_,rfl,q l rs H2 S2 nl hl2 hR⟩
theorem YC:zu ["parts","stairs","part"] ["parts"] (ze sAll):=⟨rfl,rfl,rfl,by decide +kernel,rfl,by decide +kernel,by decide +kernel⟩
theorem zcL {f fS:Addr} {fd dS:FuncData} (F:Fun K "all_side_by_side" "all_side_by_side" sAll f fd) (Sb:Callee P w K mg base CX0 1 "side_by_side" fS dS ["one","other"] WT):FnOk P w K mg base CX0 2 f fd ["parts"] Yz:=by
 refine F.ok YC (fun vs H Q E h=>?_) (fun cdv A outer s H vs Q E hr h=>?_)
 ·refine E_5 h fun a us A As H0 n8=>A_2 n8 fun e9 _=>?_;clear n8 h;subst e9
  rfl
 ·refine E_5 h fun a us A1 As H0 n8=>A_7 n8 fun e9 ha hB S0 hn h1000 q=>?_;clear n8 h;subst e9
  refine ⟨_,(zd (zt (i:=1) YC.nd rfl (Or.inl rfl) (zl zN (pv 0) zi (fun _ _=>rfl)))
   (zd (yp PassesOwn.never rfl (z7 (yz xB (pv 0) (yr zi) xn)) (zn (i:=2) YC.nd rfl (Or.inl rfl))
   (zg (zt (i:=1) YC.nd rfl (Or.inl rfl) (zj Sb.ok hr rfl Sb.bound Sb.kp Sb.bd .nil zx (za (pv 1) (za (pv 2) zb))))))
   (zg (zm (pv 1))))),?_⟩
  cases hB with
  | @cons v0 _ vs _ h0 hr =>
  refine E_2 h0 fun l0 us0 n8=>A_4 n8 fun e9 n0 hl0 hs0=>?_;clear n8 h0;subst e9
  refine ⟨_,rfl,a,_,0,.ref l0,rfl,rfl,SqL.of ha,yw (j:=0) rfl,?_⟩
  have lv:=Paired.length hr
  refine run_seq ⟨_,rfl,_,rfl,a,_,rfl,SqL.of ha,fun pc nc=>?_⟩
  have ec:cutV (V.ref l0::vs) (some 1) none=vs:=wA (V.ref l0::vs) 1 (by simp)
  rw [ec]
  have S1:=zf (o:=.lst vs) nc
  have hpc:(upd H pc (.lst vs)) pc=some (.lst vs):=zc
  generalize upd H pc (.lst vs)=H1 at S1 hpc
  refine ⟨pc,rfl,⟨_,SqL.of hpc⟩,?_⟩
  have hr:yn H0 H vs As:=hr
  refine xA (K:=K) (a:=pc) (xs:=vs) (fun i σ H2=>∃ (l:Addr) (rs:List V) (o:Option V),σ=[some (.ref a),some (.ref l),o]/\Same H1 H2/\H0 l=none/\H2 l=some (.lst rs)/\zX H2 rs ((As.take i).foldl sbs A1))
   ⟨l0,us0,none,rfl,Same.refl _,n0,S1 _ _ hl0,hs0.same S1⟩ (fun i σ H2 _ h9=>by obtain ⟨_,_,_,_,S,_⟩:=h9;exact (SqL.of (S _ _ hpc))) ?_ ?_
  ·intro i x σ H2 hi h8
   refine E_3 h8 fun l rs o n8=>A_5 n8 fun e9 S2 nl hl hR=>?_;clear n8 h8;subst e9
   obtain ⟨B,eB,lb,bs,rfl,nb,hb,hsb⟩:=hr.get' hi
   obtain ⟨hil,ev⟩:=kf.mp eB
   refine zB ?_
   have S12:=S1.trans S2
   have fl:=_Sta.qk (As.take i) A1
   have sum_le:((As.take i).map List.length).sum+B.length<=(As.map List.length).sum:=by
    have e:As=As.take i++B::As.drop (i+1):=by
     have:=u8 i As
     rw [uE hil,ev] at this
     exact this.symm
    conv=>rhs;rw [e]
    rw [kz,List.sum_append,vf,vn]
    omega
   refine ⟨_,rfl,_,rfl,l,lb,rs,bs,_,B,rfl,hl,S12 _ _ hb,hR,hsb.same S12,by omega,fun l3 rs3 H3 S3 nl3 hl3 hR3=>?_⟩
   refine ⟨l3,rs3,_,rfl,S2.trans S3,(S0.trans S12).free nl3,hl3,?_⟩
   rw [<- ky hil,ev,uY]
   exact hR3
  ·intro σ H2 h8
   refine E_3 h8 fun l rs o n8=>A_5 n8 fun e9 S2 nl hl hR=>?_;clear n8 h8;subst e9
   rw [lv,kM] at hR
   exact ⟨_,rfl,q l rs H2 (S1.trans S2) nl hl hR⟩
theorem zcM:zu ["stairs"] ["stairs"] (ze jf):=⟨rfl,rfl,rfl,by decide +kernel,rfl,by decide +kernel,by decide +kernel⟩
theorem zbE {f:Addr} {fd:FuncData} (F:Fun K "exchanged" "exchanged" jf f fd) (Z:Ns K mg):FnOk P w K mg base CX0 1 f fd ["stairs"] Ze:=by
 obtain ⟨gWIDE,gHIGH,gMOST_WORDS,gACROSS,tl,ti,tlist,tall,tmax,trev,_,_,_,_,_,_⟩:=Z
 refine F.ok zcM (fun vs H Q E h=>?_) (fun cdv A outer s H vs Q E hr h=>?_)
 ·refine E_3 h fun a us A n8=>A_2 n8 fun e9 _=>?_;clear n8 h;subst e9
  rfl
 ·refine E_3 h fun a us A1 n8=>A_5 n8 fun e9 ha hA hn q=>?_;clear n8 h;subst e9
  refine ⟨_,(zg (zm (zV (Nc:=["wide","high"]) (ix:=[none,none]) rfl rfl (by exact (zcB rfl trev (za (pv 0) zb))) (fun _ _ _ _ _=>(xZ (K:=K) (n:=2) rfl rfl (zY (zn (i:=0) (by show (["wide","high"]:List Str).Nodup;decide +kernel) rfl (Or.inl rfl)) (zY (zn (i:=1) (by show (["wide","high"]:List Str).Nodup;decide +kernel) rfl (Or.inl rfl)) yW)))) (fun _ _ _ _ _=>zR) (fun _ _ _ _ _=>(yH (za (pv 1) (za (pv 0) zb))))))),?_⟩
  have la:=hA.len
  refine ⟨_,rfl,a,us,rfl,SqL.of ha,zbC (K:=K) (a:=a) (xs:=us) (fun i ys σ H2=>Same H H2/\zX H2 ys ((A1.reverse.take i).map fun p=>(p.2,p.1))/\∃ o o2,σ=[o,o2]) ⟨Same.refl _,.nil,none,none,rfl⟩
   (fun i ys σ H2 hi h9=>by obtain ⟨S,h,_⟩:=h9;exact (⟨by rw [h.len,ka,kL];exact km (show _<=1000000 by omega) (by decide),SqL.of (S _ _ ha)⟩)) ?_ ?_⟩
  case refine_2 =>
   intro i x ys σ H2 hi hx h8
   refine A_3 h8 fun S2 hY n8=>E_2 n8 fun o o2 e9=>?_;clear n8 h8;subst e9
   obtain ⟨p,ep,pa,rfl,hpa⟩:=hA.get' hx
   refine ⟨pa,_,rfl,SqT.of (S2 _ _ hpa),rfl,_,_,rfl,_,_,rfl,rfl,?_⟩
   dsimp only [zW,tYes]
   refine iteT ⟨_,rfl,_,rfl,by show 2<=sizeLine;decide,fun tp ntp=>?_⟩
   have S3:=zf (o:=.tup [.int (p.2:Int),.int (p.1:Int)]) ntp
   have hir:i<A1.reverse.length:=by rw [bx];omega
   have er:A1.reverse[i]=p:=by
    rw [List.getElem_reverse]
    have e2:A1[A1.length-1-i]?=some p:=by rw [<- la];exact ep
    rw [kb (by omega)] at e2
    exact Option.some.inj e2
   refine ⟨S2.trans S3,?_,_,_,rfl⟩
   rw [<- ky hir,er,kz]
   exact (hY.same S3).snoc ⟨tp,rfl,zc⟩
  rintro ys σ H2 ⟨S2,hY,_⟩ l nl
  rw [la,<- bx,kM] at hY
  exact q l ys _ (S2.trans (zf nl)) (S2.free nl) zc (hY.same (zf nl))
theorem zdw:zu ["texts"] ["texts"] (ze sBst):=⟨rfl,rfl,rfl,by decide +kernel,rfl,by decide +kernel,by decide +kernel⟩
theorem zcN {f fT C:Addr} {fd dT:FuncData} (F:Fun K "box_stairs" "box_stairs" sBst f fd) (Ts:Callee P w K mg base (CXE P w) 5 "text_stairs" fT dT ["words"] (jL C)):FnOk P w K mg base CX0 6 f fd ["texts"] YA:=by
 refine F.ok zdw (fun vs H Q E h=>?_) (fun cdv A outer s H vs Q E hr h=>?_)
 ·refine E_3 h fun a us wss n8=>A_2 n8 fun e9 _=>?_;clear n8 h;subst e9
  rfl
 ·refine E_3 h fun a us wss n8=>A_5 n8 fun e9 ha hT hn q=>?_;clear n8 h;subst e9
  refine ⟨_,(zg (zm (zV (Nc:=["words"]) (ix:=[none]) rfl rfl (by refine' z7 ?zz;case zz=>exact (pv 0)) (fun _ _ _ _ _=>(zn (i:=0) (by show (["words"]:List Str).Nodup;decide +kernel) rfl (Or.inl rfl))) (fun _ _ _ _ _=>zR) (fun _ _ _ _ _=>(zj Ts.ok hr rfl Ts.bound Ts.kp Ts.bd .nil wc (za (pv 0) zb)))))),?_⟩
  have lt:=hT.len
  refine ⟨_,rfl,a,rfl,⟨_,SqL.of ha⟩,yh (K:=K) (a:=a) (xs:=us) (fun i ys σ H2=>Same H H2/\yn H H2 ys ((wss.take i).map stN)/\∃ o,σ=[o]) ⟨Same.refl _,.nil,none,rfl⟩
   (fun i ys σ H2 hi h9=>by obtain ⟨S,h,_⟩:=h9;exact (⟨by rw [h.len,ka,kL];exact km (show _<=1000 by omega) (by decide),SqL.of (S _ _ ha)⟩)) ?_ ?_⟩
  case refine_2 =>
   intro i x ys σ H2 hx h8
   refine A_3 h8 fun S2 hY n8=>E_1 n8 fun o e9=>?_;clear n8 h8;subst e9
   obtain ⟨ws,ew,pa,rfl,hpa,hw,h40⟩:=hT.get hx
   obtain ⟨hil,ev⟩:=kf.mp ew
   dsimp only [zW,tYes]
   refine iteT ⟨_,rfl,.ref pa,rfl,.inl ⟨pa,ws,rfl,S2 _ _ hpa,hw,by omega,fun l3 us3 H3 S3 nl3 hl3 hP=>?_⟩⟩
   refine ⟨S2.trans S3,?_,_,rfl⟩
   rw [<- ky hil,ev,kz]
   refine (hY.same S3).snoc ⟨l3,us3,rfl,S2.free nl3,hl3,?_⟩
   refine hP.sts fun p hp=>?_
   unfold xy at hp
   split at hp
   ·rw [kq.mp hp]
    decide
   ·rcases qM hp with e | ⟨j,_,e,_⟩
    ·rw [e]
     exact Int.natCast_nonneg _
    ·rw [e]
     show 0<=(wid ws:Int)+((j+1:Nat):Int)
     omega
  rintro ys σ H2 ⟨S2,hY,_⟩ l nl
  rw [lt,kM] at hY
  exact q l ys _ (S2.trans (zf nl)) (S2.free nl) zc (hY.same (zf nl))
end
end _JJ
namespace _Tre
theorem zH.get:∀ {ts:List T} {nss:List (List Int)} {i:Nat} {t:T},zH ts nss->ts[i]?=some t->∃ n,nss[i]?=some n/\Good t n
 | _,_,_,_,.nil,e=>by simp at e
 | _,_,0,_,.cons h _,e=>by simp at e;subst e;exact ⟨_,rfl,h⟩
 | _,_,i+1,t,.cons _ r,e=>by
  obtain ⟨n,h1,h2⟩:=zH.get (i:=i) (t:=t) r (by simpa using e)
  exact ⟨n,by simpa using h1,h2⟩
end _Tre
namespace _JJ
open PySem _L2 _Lin _Tre PySem.W
open _Sta (R Ok sbs exch reg OkS OkSs stN HasR zM)
noncomputable def spSo (d:Nat):Sp:=fun vs H Q _=>∃ (x:V) (t:T) (n:List Int) (b:Addr) (bvs:List V) (As:List Stc) (Ls:List R) (P:R) (H0:Hp),vs=[x,.ref b]/\At H x t/\Good t n/\HasR Ls t P/\H b=some (.lst bvs)/\yn H0 H bvs As/\OkSs As Ls/\(∀ A∈As,A.length<=600) /\
 n.length<=24/\sz t+3<=4*d/\d<=24/\Same H0 H/\∀ (l:Addr) (us:List V) (A:Stc) (H':Hp),Same H H'->H0 l=none->H' l=some (.lst us)->zX H' us A->OkS A P->A.length<=600*n.length->Q (.ref l) H'
noncomputable def Lvs (wss:List (List W)):List R:=wss.map _Sta.xb
noncomputable def WU (C4 C6:Addr):Sp:=fun vs H Q E=>∃ (x y:V) (t:T),vs=[x,y]/\At H x t/\sz t<=1000 /\
 ((∃ (n:List Int) (a:Addr) (xs:List V) (wss:List (List W)),yd t/\Good t n/\y=.ref a/\H a=some (.lst xs)/\Txs H xs wss/\xs.length=n.length /\
   ∀ (P:R) (l:Addr) (us:List V) (A:Stc) (H':Hp),HasR (Lvs wss) t P->Same H H'->H l=none->H' l=some (.lst us)->zX H' us A->OkS A P->A.length<=15000->Q (.ref l) H') \/
 (∃ (n:List Int) (a:Addr) (xs:List V) (bs:List Bool),yd t/\Good t n/\y=.ref a/\H a=some (.lst xs)/\JTs H xs bs/\xs.length<=1000/\(xs.length≠n.length\/bs.all id=false)/\∀ H',Same H H'->E (.ref C6) none H') \/
 (yd t/\NoL H y/\∀ H',Same H H'->E (.ref C6) none H')\/(¬ yd t/\∀ H',Same H H'->E (.ref C4) none H'))
theorem Yl {wss:List (List W)} (h:∀ ws∈wss,∀ u∈ws,okW u):OkSs (wss.map stN) (Lvs wss):=by
 unfold Lvs
 induction wss with
 | nil=>exact .nil
 | cons a r ih=>exact .cons (_Sta.zdv fun u hu=>(h a kh u hu).1) (ih fun ws hw=>h ws (kj _ hw))
theorem yQ (wss:List (List W)):∀ L∈Lvs wss,_Sta.Up L:=fun L hL=>by
 obtain ⟨ws,_,rfl⟩:=kX.mp hL
 exact _Sta.zbA ws
theorem xH:∀ {nss:List (List Int)} {n:List Int},n∈nss->n.length<=nss.flatten.length
 | a::r,n,h=>by
  rw [vg,kg]
  rcases kO.mp h with e | e
  ·rw [e];omega
  ·have:=xH e
   omega
theorem Q6:∀ {L:List Stc} {B:Stc},B∈L->B.length<=(L.map List.length).sum
 | a::r,B,h=>by
  rw [vf,vn]
  rcases kO.mp h with e | e
  ·rw [e];omega
  ·have:=Q6 e
   omega
theorem Txs.okw {H:Hp}:∀ {vs:List V} {ts:List (List W)},Txs H vs ts->∀ ws∈ts,∀ u∈ws,okW u
 | _,_,.nil,ws,h=>(kN h).elim
 | _,_,.cons h t,ws,hw=>by
  rcases kO.mp hw with e | e
  ·rw [e]
   obtain ⟨_,_,_,z,_⟩:=h
   exact z
  ·exact Txs.okw t ws e
theorem Txs.ok40 {H:Hp}:∀ {vs:List V} {ts:List (List W)},Txs H vs ts->∀ ws∈ts,ws.length<=40
 | _,_,.nil,ws,h=>(kN h).elim
 | _,_,.cons h t,ws,hw=>by
  rcases kO.mp hw with e | e
  ·rw [e]
   obtain ⟨_,_,_,_,z⟩:=h
   exact z
  ·exact Txs.ok40 t ws e
theorem wp:(dash:Str)≠bar:=by decide +kernel
section
variable {P:Program} {w:World} {K:PySem.W.Frag} {mg:Str->Option Value} {base:Heap} {kA:Addr}
theorem scSo:zu ["tree","boxes","parts"] ["tree","boxes"] (ze sSo):=⟨rfl,rfl,rfl,by decide +kernel,rfl,by decide +kernel,by decide +kernel⟩
theorem zcO {f:Addr} {fd:FuncData} (F:Fun K "stairs_of" "stairs_of" sSo f fd):FnOk P w K mg base CX0 3 f fd ["tree","boxes"] (spSo 0):=by
 refine F.ok scSo (fun vs H Q E h=>?_) (fun cdv A outer s H vs Q E hr h=>?_)
 ·refine E_9 h fun x t n b bvs As Ls P H0 n8=>A_2 n8 fun e9 _=>?_;clear n8 h;subst e9
  rfl
 ·refine E_9 h fun x t n b bvs As Ls P H0 n8=>A_11 n8 fun e9 _ _ _ _ _ _ _ _ hz _=>?_;clear n8 h;subst e9
  omega
theorem zcP {f fW fA fX:Addr} {fd dW dA dX:FuncData} {d:Nat} (F:Fun K "stairs_of" "stairs_of" sSo f fd) (gKIND:GI mg "KIND" 0) (gPARTS:GI mg "PARTS" 1) (Z:Ns K mg) (Wo:Callee P w K mg base CX0 1 "is_whole" fW dW ["thing"] xG)
  (Al:Callee P w K mg base CX0 2 "all_side_by_side" fA dA ["parts"] Yz) (Ex:Callee P w K mg base CX0 1 "exchanged" fX dX ["stairs"] Ze) (So:Callee P w K mg base CX0 (d+3) "stairs_of" f fd ["tree","boxes"] (spSo d)):FnOk P w K mg base CX0 (d+4) f fd ["tree","boxes"] (spSo (d+1)):=by
 obtain ⟨gWIDE,gHIGH,gMOST_WORDS,gACROSS,tl,ti,tlist,tall,tmax,trev,_,_,_,_,_,_⟩:=Z
 refine F.ok scSo (fun vs H Q E h=>?_) (fun cdv A outer s H vs Q E hr h=>?_)
 ·refine E_9 h fun x t n b bvs As Ls P H0 n8=>A_2 n8 fun e9 _=>?_;clear n8 h;subst e9
  rfl
 ·refine E_9 h fun x t n b bvs As Ls P1 H0 n8=>A_13 n8 fun e9 hA g hR hb hB hO h600 n24 hz hd S0 q=>?_;clear n8 h;subst e9
  refine ⟨_,(zd (zJ (yc (zj Wo.ok (hr.mono (by omega)) rfl Wo.bound Wo.kp Wo.bd .nil zx (za (pv 0) zb)))
   (zg (zm (zl zN (pv 1) (pv 0) (fun _ _=>rfl))))
   zF)
   (zd (wH (i:=2) (Nc:=["part","boxes"]) (ix:=[none,some 1]) scSo.nd rfl (Or.inl rfl) rfl rfl (by exact (x9 (zl zw (pv 0) (zG rfl gPARTS) (fun _ _=>rfl)))) (fun _ _ _ _ _=>(zn (i:=0) (by show (["part","boxes"]:List Str).Nodup;decide +kernel) rfl (Or.inl rfl))) (fun _ _ _ _ _=>zR) (fun _ _ _ _ _=>(zj So.ok hr rfl So.bound So.kp So.bd .nil zx (za (pv 0) (za (pv 1) zb)))))
   (zd (zJ (zD xx (zl zw (pv 0) (zG rfl gKIND) (fun _ _=>rfl)) (zaS rfl gACROSS) (zE _))
   (zg (zm (zj Al.ok (hr.mono (by omega)) rfl Al.bound Al.kp Al.bd .nil zx (za (pv 2) zb))))
   zF)
   (zg (zm (zj Ex.ok (hr.mono (by omega)) rfl Ex.bound Ex.kp Ex.bd .nil zx (za (zj Al.ok (hr.mono (by omega)) rfl Al.bound Al.kp Al.bd .nil zx (za (zV (Nc:=["part"]) (ix:=[none]) rfl rfl (by refine' z7 ?zz;case zz=>exact (pv 2)) (fun _ _ _ _ _=>(zn (i:=0) (by show (["part"]:List Str).Nodup;decide +kernel) rfl (Or.inl rfl))) (fun _ _ _ _ _=>zR) (fun _ _ _ _ _=>(zj Ex.ok (hr.mono (by omega)) rfl Ex.bound Ex.kp Ex.bd .nil zx (za (pv 0) zb)))) zb)) zb))))))),?_⟩
  refine ⟨_,rfl,x,t,rfl,hA,_,rfl,?_⟩
  cases g with
  | leaf i =>
   cases hA
   cases hR with
   | leaf h0 hL =>
   obtain ⟨A1,eA,oA⟩:=hO.get hL
   obtain ⟨v,ev,l,us,rfl,nl,hl,hs⟩:=hB.get eA
   have ati:atI bvs i=some (.ref l):=by
    have:=yw ev
    rwa [Int.toNat_of_nonneg h0] at this
   refine iteT ⟨_,rfl,_,rfl,b,_,_,_,rfl,rfl,SqL.of hb,ati,q l us A1 H (Same.refl _) nl hl hs oA ?_⟩
   have:=h600 A1 (kE eA)
   show A1.length<=600*1
   omega
  | @node k ps nss hk h2 hn hG =>
   cases hA with
   | @tup a0 vs0 ss e hL =>
   obtain ⟨b0,ws,rfl,e2,hQ⟩:=hL.knot
   have lq:=hQ.len
   have nsz:=y9 k ps
   have lps:=xp ps
   refine iteF ?_
   refine zS ?_
   dsimp only
   obtain ⟨P0,Ps,hRL,eP⟩ : ∃ P0 Ps,zM Ls ps (P0::Ps)/\((k=bar/\P1=Ps.foldl _Sta.bes P0)\/(k=dash/\P1=Ps.foldl _Sta.dwn P0)):=by
    cases hR with
    | bar h=>exact ⟨_,_,h,.inl ⟨rfl,rfl⟩⟩
    | dash h=>exact ⟨_,_,h,.inr ⟨rfl,rfl⟩⟩
   have lP:=hRL.len
   have lG:=hG.len
   refine ⟨_,rfl,a0,_,_,_,rfl,rfl,SqT.of e,rfl,b0,rfl,⟨_,SqT.of e2⟩,wI (K:=K) (a:=b0) (xs:=ws) (fun i ys σ H'=>∃ Bs:List Stc,yn H0 H' ys Bs/\OkSs Bs ((P0::Ps).take i)/\Bs.length=i/\(Bs.map List.length).sum<=600*(nss.take i).flatten.length/\Same H H'/\∃ o,σ=[o,some (.ref b)]) ⟨[],.nil,.nil,rfl,kc _,Same.refl _,none,rfl⟩
    (fun i ys σ H' hi h9=>by obtain ⟨Bs,h1,_,l1,_,S3,_⟩:=h9;exact (⟨by rw [h1.len,l1];exact km (show i<=1000000 by omega) (by decide),SqT.of (S3 _ _ e2)⟩)) ?_ ?_⟩
   case refine_2 =>
    intro i y ys σ H1 hy h8
    obtain ⟨Bs,hBs,oBs,lB,sB,S1,o,rfl⟩:=h8
    obtain ⟨p,ep,hAp⟩:=hQ.get hy
    obtain ⟨hil,ev⟩:=kf.mp ep
    have pm:p∈ps:=kE ep
    obtain ⟨np,enp,gp⟩:=hG.get ep
    obtain ⟨hin,evn⟩:=kf.mp enp
    obtain ⟨Pp,ePp,hPp⟩:=hRL.get ep
    obtain ⟨hip,evp⟩:=kf.mp ePp
    have two:=wS h2 pm
    have ln:=xH (kE enp)
    dsimp only [zW,tYes]
    refine iteT ?_
    refine ⟨_,rfl,_,rfl,y,p,np,b,bvs,As,Ls,Pp,H0,rfl,hAp.same S1,gp,hPp,S1 _ _ hb,hB.same S1,hO,h600,by omega,by omega,by omega,S0.trans S1,fun l us A1 H2 S2 nl hl hs oA lA=>?_⟩
    refine ⟨Bs++[A1],(hBs.same S2).snoc ⟨l,us,rfl,nl,hl,hs⟩,?_,by rw [kg,lB];rfl,?_,S1.trans S2,_,rfl⟩
    ·rw [<- ky hip,evp]
     exact oBs.snoc oA
    ·rw [<- ky hin,evn,vM,kg,kz,List.sum_append]
     simp only [vg,List.flatten_nil,vq,vf,List.map_nil,vn,List.sum_nil]
     omega
   rintro ys σ H1 ⟨Bs,hBs,oBs,lB,sB,S1,_⟩ pl npl
   rw [lq,lP,kM] at oBs
   rw [lq,<- lG,kM] at sB
   have S2:=S1.trans (zf (o:=.lst ys) npl)
   have hpl:(upd H1 pl (.lst ys)) pl=some (.lst ys):=zc
   have hBs2:=hBs.same (zf (o:=.lst ys) npl)
   generalize upd H1 pl (.lst ys)=H2 at S2 hpl hBs2
   clear hBs
   cases oBs with
   | @cons B0 _ Br _ o0 oR =>
   rw [vf,vn] at sB
   rw [kH] at lB
   try dsimp only
   refine ⟨_,rfl,a0,_,_,_,rfl,rfl,SqT.of (S2 _ _ e),rfl,rfl,_,rfl,?_⟩
   have ek:decide (V.str k=V.str "|")=decide (k=bar):=by
    rw [decide_eq_decide]
    exact ⟨fun z=>by injection z,fun z=>by rw [z];rfl⟩
   rw [ek]
   rcases eP with ⟨rfl,rfl⟩ | ⟨rfl,rfl⟩
   ·rw [decide_eq_true rfl]
    refine iteT ⟨_,rfl,pl,ys,B0,Br,H0,rfl,hpl,hBs2,S0.trans S2,by omega,by omega,fun l rs H3 S3 nl hl hs=>?_⟩
    have fl:=_Sta.qk Br B0
    exact q l rs _ H3 (S2.trans S3) nl hl hs (_Sta.jQ oR o0) (by omega)
   ·rw [decide_eq_false wp]
    refine iteF ?_
    refine zS ?_
    dsimp only
    refine ⟨_,rfl,pl,rfl,⟨_,SqL.of hpl⟩,yh (K:=K) (a:=pl) (xs:=ys) (fun i zs σ H'=>yn H0 H' zs (((B0::Br).take i).map exch)/\Same H2 H'/\∃ o,σ=[o]) ⟨.nil,Same.refl _,none,rfl⟩
     (fun i zs σ H' hi h9=>by obtain ⟨h1,S3,_⟩:=h9;exact (⟨by rw [h1.len,ka,kL,kH];exact km (show _<=1000000 by omega) (by decide),SqL.of (S3 _ _ hpl)⟩)) ?_ ?_⟩
    case refine_2 =>
     intro i y zs σ H3 hy h8
     refine A_3 h8 fun hZ S3 n8=>E_1 n8 fun o e9=>?_;clear n8 h8;subst e9
     obtain ⟨B,eB,lb,us,rfl,nb,hlb,hsb⟩:=hBs2.get' hy
     obtain ⟨hil,ev⟩:=kf.mp eB
     have lB':B.length<=1000000:=by
      have m:B∈B0::Br:=kE eB
      have:=Q6 m
      rw [vf,vn] at this
      omega
     dsimp only [zW,tYes]
     refine iteT ⟨_,rfl,lb,us,B,rfl,S3 _ _ hlb,hsb.same S3,lB',fun l rs H4 S4 nl hl hs=>⟨?_,S3.trans S4,_,rfl⟩⟩
     rw [<- ky hil,ev,kz]
     exact (hZ.same S4).snoc ⟨l,rs,rfl,(S0.trans (S2.trans S3)).free nl,hl,hs⟩
    rintro zs σ H3 ⟨hZ,S3,_⟩ pz npz
    have ly:=hBs2.len
    rw [ly,kM,vf] at hZ
    have S4:=S3.trans (zf (o:=.lst zs) npz)
    have hpz:(upd H3 pz (.lst zs)) pz=some (.lst zs):=zc
    have hZ4:=hZ.same (zf (o:=.lst zs) npz)
    generalize upd H3 pz (.lst zs)=H4 at S4 hpz hZ4
    have el:(exch B0).length+((Br.map exch).map List.length).sum=B0.length+(Br.map List.length).sum:=by rw [_Sta.jR,_Sta.Q3]
    refine I_5 pz zs (exch B0) (Br.map exch) H0 ⟨rfl,hpz,hZ4,S0.trans (S2.trans S4),by omega,by rw [ka];omega,fun l rs H5 S5 nl hl hs=>?_⟩
    have fl:=_Sta.qk (Br.map exch) (exch B0)
    refine ⟨l,rs,_,rfl,hl,hs,by omega,fun l2 rs2 H6 S6 nl2 hl2 hs2=>?_⟩
    have o1:=(_Sta.jQ oR.exch o0.exch).exch
    rw [_Sta.Wq] at o1
    exact q l2 rs2 _ H6 (S2.trans (S4.trans (S5.trans S6))) ((S0.trans (S2.trans (S4.trans S5))).free nl2) hl2 hs2 o1 (by rw [_Sta.jR];omega)
theorem zaU {f fW fA fX:Addr} {fd dW dA dX:FuncData} (F:Fun K "stairs_of" "stairs_of" sSo f fd) (gKIND:GI mg "KIND" 0) (gPARTS:GI mg "PARTS" 1) (Z:Ns K mg) (Wo:Callee P w K mg base CX0 1 "is_whole" fW dW ["thing"] xG)
  (Al:Callee P w K mg base CX0 2 "all_side_by_side" fA dA ["parts"] Yz) (Ex:Callee P w K mg base CX0 1 "exchanged" fX dX ["stairs"] Ze) (bo:mg "stairs_of" = some (.ref f)) (kp:kD K (.ref f)=true) (bd:Binds K fd ["tree","boxes"] []):∀ d,FnOk P w K mg base CX0 (d+3) f fd ["tree","boxes"] (spSo d)
 | 0=>zcO F
 | d+1=>zcP F gKIND gPARTS Z Wo Al Ex ⟨zaU F gKIND gPARTS Z Wo Al Ex bo kp bd d,bo,kp,bd⟩
theorem zdx:zu ["tree","texts"] ["tree","texts"] (ze sTst):=⟨rfl,rfl,rfl,by decide +kernel,rfl,by decide +kernel,by decide +kernel⟩
theorem zcQ {f fR fS fB C4 C6:Addr} {fd dR dS dB:FuncData} (F:Fun K "tree_stairs" "tree_stairs" sTst f fd) (Rt:Callee P w K mg base (CXE P w) 8 "refuse_no_texts" fR dR ["tree","texts"] (Yy C4 C6)) (So:Callee P w K mg base CX0 27 "stairs_of" fS dS ["tree","boxes"] (spSo 24))
  (Bs:Callee P w K mg base CX0 6 "box_stairs" fB dB ["texts"] YA):FnOk P w K mg base (CXE P w) 28 f fd ["tree","texts"] (WU C4 C6):=by
 refine F.okE zdx (fun vs H Q E h=>?_) (fun cdv A outer s H vs Q E hr hh h=>?_)
 ·refine E_3 h fun x y t n8=>A_2 n8 fun e9 _=>?_;clear n8 h;subst e9
  rfl
 ·revert h;intro n7;refine E_3 n7 fun x y t n8=>A_4 n8 fun e9 hA hz h=>?_;clear n8 n7;subst e9
  refine ⟨_,(zd (yi (zj Rt.ok (hr.mono (by decide)) rfl Rt.bound Rt.kp Rt.bd .nil xg (za (pv 0) (za (pv 1) zb))))
   (zg (zm (zj So.ok hr rfl So.bound So.kp So.bd .nil zx (za (pv 0) (za (zj Bs.ok (hr.mono (by decide)) rfl Bs.bound Bs.kp Bs.bd .nil zx (za (pv 1) zb)) zb)))))),?_⟩
  rcases h with ⟨n,a,xs,wss,iT,g,rfl,ha,hT,hl,q⟩ | ⟨n,a,xs,bs,iT,g,rfl,ha,hJ,hl,hb,qe⟩ | ⟨iT,hn,qe⟩ | ⟨nT,qe⟩
  ·have n24:=(iT.okN g).2
   have okn:=(iT.okN g).1
   refine ⟨_,rfl,_,rfl,x,.ref a,t,rfl,hA,hz,.inl ⟨n,a,xs,_,iT,g,rfl,ha,hT.jts,by omega,.inl ⟨hl,by simp,fun H1 S1=>?_⟩⟩⟩
   have lw:=hT.len
   have okw:=hT.okw
   have ok40:=hT.ok40
   refine ⟨_,rfl,_,rfl,a,xs,wss,rfl,S1 _ _ ha,hT.same S1,by omega,fun lb rs H2 S2 nlb hlb hBs=>?_⟩
   have rng:∀ i∈n,0<=i/\i<((Lvs wss).length:Int):=fun i hi=>by
    obtain ⟨y,gy,l24,py⟩:=iT
    have e:=Good.uniq g gy
    subst e
    have:=py.mem_iff.mp hi
    unfold up at this
    obtain ⟨j,hj,rfl⟩:=kX.mp this
    have:=vz.mp hj
    unfold Lvs
    rw [ka]
    omega
   obtain ⟨P1,hP⟩:=_Sta.ZI g rng
   have hsz:=g.szN
   refine I_9 x t n lb rs (wss.map stN) (Lvs wss) P1 H1 ⟨rfl,hA.same (S1.trans S2),g,hP,hlb,hBs,Yl okw,fun A hA=>?_,n24,by omega,by decide,S2,fun l us A1 H3 S3 nl hl hs oA lA=>?_⟩
   ·obtain ⟨ws,hw,rfl⟩:=kX.mp hA
    exact Wr (okw ws hw) (ok40 ws hw)
   ·exact q P1 l us A1 H3 hP (S1.trans (S2.trans S3)) (S1.free nl) hl hs oA (by omega)
  ·exact ⟨_,rfl,_,rfl,x,.ref a,t,rfl,hA,hz,.inl ⟨n,a,xs,bs,iT,g,rfl,ha,hJ,hl,.inr ⟨hb,qe⟩⟩⟩
  ·exact ⟨_,rfl,_,rfl,x,y,t,rfl,hA,hz,.inr (.inl ⟨iT,hn,qe⟩)⟩
  ·exact ⟨_,rfl,_,rfl,x,y,t,rfl,hA,hz,.inr (.inr ⟨nT,qe⟩)⟩
end
end _JJ
namespace _L2
open PySem PySem.Spec PyProof.Rows
end _L2
namespace _JJ
open PySem _L2 _Lin _Tre PySem.W
open _Sta (R Ok sbs exch reg OkS OkSs stN HasR zM)
theorem jS {K:PySem.W.Frag} {H:Hp} {n:Nat} {x y:V} {b:Bool} (h:EqR K H n x y b) (e:b=true):EqR K H n x y true:=e ▸ h
theorem all_true (n:Nat):((kQ n).all fun _=>true)=true:=vK.mpr fun _ _=>rfl
theorem zdy {K:PySem.W.Frag} {H:Hp} {n:Nat} {a b:Addr} {ws:List W} (ha:SqL K H a (tx ws)) (hb:SqL K H b (tx ws)):EqR K H (n+1) (.ref a) (.ref b) true:=by
 have fl:∀ j,j<(tx ws).length->xi ((tx ws).getD j .non)=true:=fun j hj=>by
  rw [zL] at hj
  rw [ko,zcv (kb hj)]
  rfl
 exact jS (EqR.lsts (n:=n) (e:=fun _=>true) ha hb rfl fun j hj=>jS (.flat (fl j hj) (fl j hj)) (YW (fl j hj))) (all_true _)
noncomputable def fits (ws:List W) (wide:Nat):Bool:=ws.all fun u=>decide (u.length<=wide)
theorem wq {ws:List W} {wide:Nat}:fits ws wide=true↔∀ u∈ws,u.length<=wide:=by
 unfold fits
 rw [vK]
 exact ⟨fun h u hu=>of_decide_eq_true (h u hu),fun h u hu=>decide_eq_true (h u hu)⟩
noncomputable def wU:Sp:=fun vs H Q _=>∃ (a:Addr) (ws:List W) (wide:Nat),vs=[.ref a,.int wide]/\H a=some (.lst (tx ws))/\(∀ u∈ws,okW u)/\ws.length<=1000 /\
 ((fits ws wide=true->∀ (l:Addr) (H':Hp),Same H H'->H' l=some (.lst (tx (taken wide ws)))->Q (.ref l) H')/\(fits ws wide=false->∀ H',Same H H'->Q .non H'))
end _JJ
namespace _JJ
open PySem _L2 _Lin _Tre PySem.W
open _Sta (R Ok sbs exch reg OkS OkSs stN HasR zM Low Best)
noncomputable def oV:Option Nat->V
 | none=>.non
 | some n=>.int (n:Int)
noncomputable def tb (f:List (Option Nat)):List V:=f.map oV
theorem xP (f:List (Option Nat)):(tb f).length=f.length:=ka _
theorem WV {f:List (Option Nat)} {i:Nat} (h:i<f.length):atI (tb f) (i:Int)=some (oV (f.getD i none)):=by
 refine yw ?_
 unfold tb
 rw [kR,kb h]
 simp [List.getD,h]
theorem ZJ (f:List (Option Nat)) (o:Option Nat):tb f++[oV o]=tb (f++[o]):=by
 unfold tb
 rw [kz]
 rfl
theorem getD_snoc {f:List (Option Nat)} {o:Option Nat} {w:Nat} (h:w<f.length):(f++[o]).getD w none=f.getD w none:=by
 rw [ko,vI h,<- ko]
theorem getD_last {f:List (Option Nat)} {o:Option Nat}:(f++[o]).getD f.length none=o:=by
 rw [ko,v7 (kc _),Nat.sub_self]
 rfl
theorem zaf {ta:TE} {σ:St} {H:Hp} {x:V} (a:Evl ta σ H x):Evl (tOp (fun x y H Q=>y=.non/\Q (.bl (!decide (x=.non))) H) ta (tC .non)) σ H (.bl (!decide (x=.non))):=fun Q q=>a _ ⟨rfl,q⟩
theorem zbF {ta:TE} {σ:St} {H:Hp} {x:V} (a:Evl ta σ H x):Evl (tOp (fun x y H Q=>y=.non/\Q (.bl (decide (x=.non))) H) ta (tC .non)) σ H (.bl (decide (x=.non))):=fun Q q=>a _ ⟨rfl,q⟩
theorem Xv {ta:TE} {σ:St} {H:Hp} {x:V} (a:Evl ta σ H x):Tst (ww (tOp (fun x y H Q=>y=.non/\Q (.bl (!decide (x=.non))) H) ta (tC .non))) σ H (x≠.non):=z6 (by rw [decide_not];exact zaf a)
theorem Ws {ta:TE} {σ:St} {H:Hp} {x:V} (a:Evl ta σ H x):Tst (ww (tOp (fun x y H Q=>y=.non/\Q (.bl (decide (x=.non))) H) ta (tC .non))) σ H (x=.non):=z6 (zbF a)
theorem Wt {t u:TT} {p q:Prop} {σ:St} {H:Hp} [Decidable p] [Decidable q] (a:Tst t σ H p) (b:¬ p->Tst u σ H q):Tst (tOr t u) σ H (p\/q):=fun Q z=>a _ (by
 by_cases h:p
 ·rw [decide_eq_true h,if_pos rfl]
  have e:decide (p\/q)=true:=decide_eq_true (.inl h)
  rw [<- e];exact z
 ·rw [decide_eq_false h,if_neg ku]
  refine b h _ ?_
  have e:decide (p\/q)=decide q:=by rw [decide_eq_decide];exact ⟨fun z=>z.resolve_left h,.inr⟩
  rw [<- e];exact z)
theorem YD {o:Option Nat}:oV o≠V.non↔∃ v,o=some v:=by
 cases o with
 | none=>exact ⟨fun h=>absurd rfl h,fun ⟨v,e⟩=>by cases e⟩
 | some v=>exact ⟨fun _=>⟨v,rfl⟩,fun _ z=>by cases z⟩
theorem Wu (a b:Nat):(if (b:Int)>(a:Int) then (b:Int) else (a:Int))=((max a b:Nat):Int):=by split<;>omega
noncomputable def TabOf (P:R) (most:Nat) (f:List (Option Nat)):Prop:=f.length=most+1/\∀ w,w<=most->Low P w (f.getD w none)
noncomputable def gd (f:List (Option Nat)):Nat->Option Nat:=fun i=>f.getD i none
noncomputable def jk (d:Nat):Sp:=fun vs H Q _=>∃ (x:V) (t:T) (n:List Int) (a:Addr) (us:List V) (wss:List (List W)) (P:R) (most:Nat),vs=[x,.ref a,.int most]/\At H x t/\Good t n/\HasR (Lvs wss) t P/\H a=some (.lst us)/\Txs H us wss/\most<=1000000/\sz t+3<=4*d/\d<=24 /\
 ∀ (l:Addr) (f:List (Option Nat)) (H':Hp),Same H H'->H' l=some (.lst (tb f))->TabOf P most f->Q (.ref l) H'
end _JJ
namespace _JJ
open PySem _L2 _Lin _Tre PySem.W
open _Sta (R Ok sbs exch reg OkS OkSs stN HasR zM Low Best)
noncomputable def lfT (ws:List W) (wide:Nat):Option Nat:=if 1<=wide/\fits ws wide=true then some (max 1 (cnt ws (wide:Int))) else none
theorem zbG (ws:List W) (wide:Nat):Low (_Sta.xb ws) wide (lfT ws wide):=by
 unfold lfT
 split
 ·rename_i c
  exact ⟨⟨c.1,wq.mp c.2,kc _⟩,fun h z=>z.2.2⟩
 ·rename_i c
  exact fun h z=>c ⟨z.1,wq.mpr z.2.1⟩
theorem ZK {f:Nat->Option Nat} {n w:Nat} (h:w<n):((kQ n).map f).getD w none=f w:=by
 rw [ko,kR,List.getElem?_range h]
 rfl
theorem zag (ws:List W) (most:Nat):TabOf (_Sta.xb ws) most ((kQ (most+1)).map (lfT ws)):=⟨by rw [ka,vi],fun w hw=>by
 rw [ZK (by omega)]
 exact zbG ws w⟩
theorem zip_get {f g:List (Option Nat)} {w:Nat} (h1:w<f.length) (h2:w<g.length):((f.zip g).map fun p=>_Sta.addO p.1 p.2).getD w none=_Sta.addO (f.getD w none) (g.getD w none):=by
 rw [ko,kR,(ud (z:=(f[w],g[w]))).mpr ⟨kb h1,kb h2⟩,ko,kb h1,ko,kb h2]
 rfl
theorem zbH {P Q:R} {most:Nat} {f g:List (Option Nat)} (hf:TabOf P most f) (hg:TabOf Q most g):TabOf (_Sta.dwn P Q) most ((f.zip g).map fun p=>_Sta.addO p.1 p.2):=by
 have l1:=hf.1
 have l2:=hg.1
 refine ⟨by rw [ka,uO];omega,fun w hw=>?_⟩
 rw [zip_get (by omega) (by omega)]
 exact _Sta.zbz (hf.2 w hw) (hg.2 w hw)
theorem zbI {P Q:R} (hP:_Sta.Up P) (hQ:_Sta.Up Q) {most:Nat} {f g h:List (Option Nat)} (hf:TabOf P most f) (hg:TabOf Q most g) (lh:h.length=most+1) (h0:h.getD 0 none=none) (hB:∀ w,1<=w->w<=most->Best (gd f) (gd g) w (w-1) (h.getD w none)):TabOf (_Sta.bes P Q) most h:=by
 refine ⟨lh,fun w hw=>?_⟩
 by_cases c:w=0
 ·subst c
  rw [h0]
  intro k z
  have:=(_Sta.Zd hP hQ).pos z
  omega
 ·exact _Sta.zae hP hQ (fun l hl=>hf.2 l (by omega)) (fun l hl=>hg.2 l (by omega)) (by omega) (hB w (by omega) hw)
end _JJ
namespace _Sta
open _Tre _Lin
mutual
theorem xq {Ls:List R}:∀ {t:T} {P Q:R},HasR Ls t P->HasR Ls t Q->P=Q
 | _,_,_,.leaf _ h,h'=>by
  cases h' with
  | leaf _ k=>rw [h] at k;exact Option.some.inj k
 | _,_,_,.bar h,h'=>by
  generalize e:(T.tup [.str bar,.tup _]:T)=t' at h'
  cases h' with
  | leaf _ _=>cases e
  | bar k =>
   injection e with e
   injection e with _ e
   injection e with e _
   injection e with e
   subst e
   have:=ql h k
   injection this with a b
   subst a b
   rfl
  | dash k =>
   injection e with e
   injection e with e _
   injection e with e
   exact absurd e.symm (by decide +kernel)
 | _,_,_,.dash h,h'=>by
  generalize e:(T.tup [.str dash,.tup _]:T)=t' at h'
  cases h' with
  | leaf _ _=>cases e
  | dash k =>
   injection e with e
   injection e with _ e
   injection e with e _
   injection e with e
   subst e
   have:=ql h k
   injection this with a b
   subst a b
   rfl
  | bar k =>
   injection e with e
   injection e with e _
   injection e with e
   exact absurd e (by decide +kernel)
theorem ql {Ls:List R}:∀ {ts:List T} {Ps Qs:List R},zM Ls ts Ps->zM Ls ts Qs->Ps=Qs
 | _,_,_,.nil,h'=>by cases h';rfl
 | _,_,_,.cons h r,h'=>by
  cases h' with
  | cons k s=>rw [xq h k,ql r s]
end
end _Sta
namespace _Sta
open _Tre _Lin
theorem zbJ {A:S} {w:Nat} {ns:List Nat} (h:∀ n,n∈ns↔∃ p,p∈A/\p.1<=w/\p.2=n):(ns=[]->Low (reg A) w none)/\∀ M,M∈ns->(∀ z∈ns,M<=z)->Low (reg A) w (some M):=by
 refine ⟨fun e k ⟨p,hp,a,b⟩=>?_,fun M hM hl=>⟨?_,fun k ⟨p,hp,a,b⟩=>?_⟩⟩
 ·have:=(h p.2).mpr ⟨p,hp,a,rfl⟩
  rw [e] at this
  exact kN this
 ·obtain ⟨p,hp,a,b⟩:=(h M).mp hM
  exact ⟨p,hp,a,uD b⟩
 ·have:=hl p.2 ((h p.2).mpr ⟨p,hp,a,rfl⟩)
  omega
theorem zbK {A:S} {k:Nat} {ns:List Nat} (h:∀ n,n∈ns↔∃ p,p∈A/\p.2<=k/\p.1=n):(ns=[]->Low (tr (reg A)) k none)/\∀ M,M∈ns->(∀ z∈ns,M<=z)->Low (tr (reg A)) k (some M):=by
 refine ⟨fun e w ⟨p,hp,a,b⟩=>?_,fun M hM hl=>⟨?_,fun w ⟨p,hp,a,b⟩=>?_⟩⟩
 ·have:=(h p.1).mpr ⟨p,hp,b,rfl⟩
  rw [e] at this
  exact kN this
 ·obtain ⟨p,hp,a,b⟩:=(h M).mp hM
  exact ⟨p,hp,uD b,a⟩
 ·have:=hl p.1 ((h p.1).mpr ⟨p,hp,b,rfl⟩)
  omega
end _Sta
namespace _L2
open PySem PySem.Spec PyProof.Rows
section
variable {prog:Program} {w:World} {A:Around} {R:Result->Shared->Prop} {I:Addr} {fp wr:List Addr} {n:Nat} {P:Nat->Value->Prop} {St:Nat->Heap->Prop}
noncomputable def Kept (bt:Nat->Nat->Bool) (P:Nat->Value->Prop) (i:Nat) (acc:Array Value):Prop:=(i=0/\acc=#[])\/∃ v,0<i/\acc=#[v,v]/\P (argBest bt (i-1)) v
theorem Ym (W:Walks prog w A.in1 I fp wr n P St) (bt:Nat->Nat->Bool) (hcmp:CmpOf prog w A.in1 .Lt P bt) (S:Addr) (hSf:S∉fp) (x:Str) (d:Value) :
  ∀ (k i:Nat) (s:Shared) (acc:Array Value) (c:Nat),i+k=n->St i s.heap->Kept bt P i acc->s.heap.get? S=some {cls:=.type "list",dict:=none,data:=.seq acc c,slots:=#[]} ->
  (∀ v h' tk,((0<n/\P (argBest bt (n-1)) v)\/(n=0/\v=d))->(∀ b o,b∉wr->b≠S->s.heap.get? b=some o->h'.get? b=some o)->R (.ok (.ret v)) {s with heap:=h',toks:=tk}) ->
  codeAny (model prog w) A (.builtin "min.loop" ⟨[.ref I,.none,.ref S],[(x,d)]⟩) R s
 | 0,i,s,acc,c,hk,hst,hK,hS,hR=>by
  have hSw:S∉wr:=fun h=>hSf (W.sub _ h)
  have e:i=n:=by omega
  subst e
  refine codeAny_builtin F.entry_min_loop ?_
  rw [Around.under_plainId F.plain_min_loop _]
  show wpAny _ A.in1 (seqItems? (.ref S) >>= _) _ _ s
  refine wpAny_bind (wpAny_seqItems hS rfl ?_)
  refine wpAny_bind (wpAny_tryCatch (W.done s _ _ hst fun h' tk hk'=>?_))
  rcases hK with ⟨i0,rfl⟩ | ⟨v,i0,rfl,hv⟩
  ·show wpAny _ A.in1 (rule _ >>= fun _=>ret d) _ _ _
   refine wpAny_bind (wpAny_rule (wpAny_pure ?_))
   exact hR d h' tk (.inr ⟨i0,rfl⟩) fun b o hb _ q=>hk' b o hb q
  ·have hS':=hk' S _ hSw hS
   show wpAny _ A.in1 (updateSeq S (fun _=>#[]) >>= _) _ _ _
   refine wpAny_bind (wpAny_updateSeq hS' rfl ?_)
   refine wpAny_bind (wpAny_letGo (wpAny_pure ?_))
   exact hR v _ tk (.inl ⟨i0,hv⟩) fun b o hb bS q=>(Heap.get?_update_other _ _ (Ne.symm bS)).trans (hk' b o hb q)
 | k+1,i,s,acc,c,hk,hst,hK,hS,hR=>by
  have hSw:S∉wr:=fun h=>hSf (W.sub _ h)
  have hname:(toString "min" ++ toString ".loop" : String) = "min.loop" := by decide
  refine codeAny_builtin F.entry_min_loop ?_
  rw [Around.under_plainId F.plain_min_loop _]
  show wpAny _ A.in1 (seqItems? (.ref S) >>= _) _ _ s
  refine wpAny_bind (wpAny_seqItems hS rfl ?_)
  refine wpAny_bind (wpAny_tryCatch (W.item i s _ _ (by omega) hst fun v h' tk hP hst' hk'=>?_))
  have hS':=hk' S _ hSw hS
  have oth:∀ (acc':Array Value) b o,b≠S->h'.get? b=some o->(h'.update S (Obj.mapSeq fun _=>acc')).get? b=some o:=fun _ b o bS q=>(Heap.get?_update_other _ _ (Ne.symm bS)).trans q
  have nx:∀ (acc':Array Value) (c':Nat) (h'':Heap),Kept bt P (i+1) acc'->h''.get? S=some {cls:=.type "list",dict:=none,data:=.seq acc' c',slots:=#[]}->(∀ b o,b≠S->h'.get? b=some o->h''.get? b=some o) ->
    codeAny (model prog w) A (.builtin "min.loop" ⟨[.ref I,.none,.ref S],[(x,d)]⟩) R {s with heap:=h'',toks:=tk}:=fun acc' c' h'' hK' hS'' o'' =>
   Ym W bt hcmp S hSf x d k (i+1) _ acc' c' (by omega) (W.frame _ _ _ hst' fun b hb o q=>o'' b o (fun z=>hSf (by rw [<- z];exact hb)) q) hK' hS'' fun u h3 t3 hu k3=>hR u h3 t3 hu fun b o hb bS q=>k3 b o hb bS (o'' b o bS (hk' b o hb q))
  rcases hK with ⟨i0,rfl⟩ | ⟨u,i0,rfl,hu⟩
  ·show wpAny _ A.in1 (updateSeq S (fun _=>#[v,v]) >>= _) _ _ _
   refine wpAny_bind (wpAny_updateSeq hS' rfl ?_)
   rw [hname]
   exact wpAny_pure ⟨plainId_quiet F.plain_min_loop _,nx #[v,v] _ _ (.inr ⟨v,uU _,rfl,by subst i0;exact hP⟩) (Heap.get?_update_self _ hS' rfl) (oth _)⟩
  ·obtain ⟨j,rfl⟩ : ∃ j,i=j+1:=⟨i-1,by omega⟩
   have hu:P (argBest bt j) u:=hu
   show wpAny _ A.in1 (tryCatch (holding [v,v] (richCompare .Lt v u >>= _)) _ >>= _) _ _ _
   refine wpAny_bind (wpAny_tryCatch (wpAny_holding (wpAny_bind (hcmp (j+1) (argBest bt j) v u _ _ _ hP hu ?_))))
   refine wpAny_bind (wpAny_holding (wpAny_truthy_bool ?_))
   refine wpAny_bind (wpAny_letGo (wpAny_pure ?_))
   cases hb:bt (j+1) (argBest bt j) with
   | true =>
    rw [if_pos rfl]
    refine wpAny_bind (wpAny_updateSeq hS' rfl (wpAny_bind (wpAny_letGo ?_)))
    rw [hname]
    exact wpAny_pure ⟨plainId_quiet F.plain_min_loop _,nx #[v,v] _ _ (.inr ⟨v,uU _,rfl,by show P (if bt (j+1) (argBest bt j)=true then j+1 else argBest bt j) v;rw [if_pos hb];exact hP⟩) (Heap.get?_update_self _ hS' rfl) (oth _)⟩
   | false =>
    rw [if_neg ku]
    refine wpAny_bind (wpAny_letGo ?_)
    rw [hname]
    exact wpAny_pure ⟨plainId_quiet F.plain_min_loop _,nx #[u,u] _ _ (.inr ⟨u,uU _,rfl,by show P (if bt (j+1) (argBest bt j)=true then j+1 else argBest bt j) u;rw [if_neg (by rw [hb];exact ku)];exact hu⟩) hS' fun _ _ _ q=>q⟩
end
section
variable {prog:Program} {w:World} {A:Around} {E:Value->Shared->Prop} {s:Shared}
theorem Q7 (a d:Value):argsOk "min" ⟨[a],[("default",d)]⟩:=by unfold argsOk;kernel_rfl
theorem Q8 {x d:Value} {Q:Value->Shared->Prop}
  (h:wpAny (model prog w) A.in1 (pyIter x) (fun it s₂=>∃ I fp wr n P St bt,it=.ref I/\Walks prog w A.in1 I fp wr n P St/\St 0 s₂.heap/\(∀ b∈fp,b<s₂.heap.objs.size)/\CmpOf prog w A.in1 .Lt P bt /\
   ∀ v h' tk,((0<n/\P (argBest bt (n-1)) v)\/(n=0/\v=d))->(∀ b o,b∉wr->s₂.heap.get? b=some o->h'.get? b=some o)->Q v {s₂ with heap:=h',toks:=tk}) E s) :
  wpAny (model prog w) A (call (.builtin "min") [x] [("default",d)]) Q E s:=by
 have hname:(toString "min" ++ toString ".loop" : String) = "min.loop" := by decide
 refine wpAny_call (codeAny_call_builtin F.plain_min F.entry_min ?_)
 simp only [checkBuiltinCall,F.kind_min]
 have body:wpAny (model prog w) A.in1 (Builtin.«min» ⟨[x],[("default",d)]⟩) (fun fin s'=>match fin with
   | .done f=>(match (Except.ok f:Result) with | .ok (.ret v)=>Q v s' | .ok _=>False | .error e=>E e s')
   | .again c'=>c'.quiet=true/\codeAny (model prog w) A c' (fun r s'=>match r with | .ok (.ret v)=>Q v s' | .ok _=>False | .error e=>E e s') s') E s:=by
  show wpAny _ A.in1 (Builtin.Builtins.bindParams "min" ["key","default"] 0 ⟨[],[("default",d)]⟩ >>= _) _ _ s
  refine wpAny_bind (wpAny_of_eq (show Builtin.Builtins.bindParams "min" ["key","default"] 0 ⟨[],[("default",d)]⟩=pure [none,some d] from rfl) ?_)
  refine wpAny_bind (wpAny_pure ?_)
  refine wpAny_bind (wpAny_mono h (fun it s₂ h₂=>?_) fun _ _ e=>e)
  refine E_7 h₂ fun I fp wr n P St bt n8=>A_6 n8 fun e9 W hst hfp hcmp hQ=>?_;clear n8 h₂;subst e9
  refine wpAny_bind (wpAny_newObj_type ?_)
  have hSf:s₂.heap.objs.size∉fp:=fun hm=>vL _ (hfp _ hm)
  rw [hname]
  refine wpAny_pure ⟨plainId_quiet F.plain_min_loop _,Ym W bt hcmp s₂.heap.objs.size hSf "default" d n 0 _ #[] _ (uW _) (W.frame _ _ _ hst fun b _ o e=>Heap.get?_push_of_some _ e) (.inl ⟨rfl,rfl⟩) (Heap.get?_push_size _ rfl) fun v h' tk hP hk=>?_⟩
  exact hQ v h' tk hP fun b o hbw e=>hk b o hbw (vt (Heap.lt_size e)) (Heap.get?_push_of_some _ e)
 cases hsig:Manifest.signature? "min" with
 | none=>exact wpAny_pure body
 | some sig =>
  have ha:=Q7 x d
  simp only [argsOk,hsig] at ha
  have h2:Bind.checkArgs "min" sig ⟨[x],[("default",d)]⟩=pure ():=ha
  show wpAny _ A.in1 (Bind.checkArgs "min" sig ⟨[x],[("default",d)]⟩) _ _ s
  rw [h2]
  exact wpAny_pure body
end
section
variable {X:Cx}
noncomputable def zdz (K:PySem.W.Frag) (tl:TE):TE:=fun σ H Q=>tl σ H fun x H1=>∃ (a:Addr) (ns:List Int),x=.ref a/\SqL K H1 a (ns.map V.int)/\(ns=[]->Q .non H1)/\(∀ M,M∈ns->(∀ z∈ns,M<=z)->Q (.int M) H1)
theorem Wv {l:Expr} {tl:TE} {cc:Nat} {np kpos p pos:Pos} (hc:X.calm=true) (hg:Gl X "min") (hm:X.mg "min" = none) (hl:PE X l tl) (hs:starEach [l] X.env=[(false,eval l X.env)]:=by rfl) :
  PE X (.Call (.Name "min" p) [l] [⟨some "default",.Constant .none cc np,kpos⟩] pos) (zdz X.K tl):=by
 intro pins s σ H Q I h
 refine wpAny_Call_Name_kw (yK I hg hm boot_min ?_ (by decide) (by decide))
 refine PyProof.Rows.callWith_kw (thn ((za hl zb hs) pos pins s σ H (fun vs H1=>match vs with
  | [x]=>∃ (a:Addr) (ns:List Int),x=.ref a/\SqL X.K H1 a (ns.map V.int)/\(ns=[]->Q .non H1)/\(∀ M,M∈ns->(∀ z∈ns,M<=z)->Q (.int M) H1)
  | _=>False) I h) fun us s1 ⟨vs,H1,I1,r1,q1⟩=>?_) (by rw [hs];rfl) (by rw [hs];rfl) rfl rfl
 match vs,q1 with
 | [x],q1 =>
 obtain ⟨u,rfl,ru⟩:=vals1 r1
 refine thn ((Wb (nm:=some "default") yj Qq) pos pins s1 σ H1 (fun ws H2=>ws=[.non]/\H2=H1) I1 ⟨rfl,rfl⟩) fun us2 s2 h9=>?_
 obtain ⟨ws,H2,I2,r2,e1,e2⟩:=h9
 subst e1 e2
 obtain ⟨u2,rfl,ru2⟩:=vals1 r2
 refine E_2 q1 fun a ns n8=>A_4 n8 fun e9 hq q0 q=>?_;clear n8 q1;subst e9
 cases (show u=Value.ref a from ru)
 cases (show u2=Value.none from ru2)
 show wpAny _ _ (call (.builtin "min") [.ref a] [(Str.ofString "default",.none)]) _ _ _
 obtain ⟨its,rv,tp,hz⟩:=I2.list hq
 have hll:=rv.length
 rw [ka] at hll
 refine Q8 (wj I2 tp.isList hc fun s3 e W st hfp=>?_)
 subst e
 refine I_7 _ _ _ _ _ _ _ ⟨rfl,W,st,hfp,CmpOf.ints_lt (fun i=>ns.getD i 0) (xX rv),fun v h' tk hP hk=>?_⟩
 have keep:Inv X pins σ H2 _:=I2.kept (t':=tk) fun b o e=>hk b o (fun m=>by
  have:=Heap.lt_size e
  rw [kq.mp m] at this
  exact vL _ this) (Heap.get?_push_of_some _ e)
 rw [kt] at hP
 rcases hP with ⟨h0,hP⟩ | ⟨h0,rfl⟩
 ·obtain ⟨t,rfl⟩:=xX rv _ _ hP
  obtain ⟨b1,b2⟩:=argBest_lt (fun i=>ns.getD i 0) (its.length-1)
  refine ⟨.int _,H2,keep,⟨t,rfl⟩,q _ (jD (by omega)) fun z hz=>?_⟩
  obtain ⟨j,hj,e⟩:=YQ hz
  rw [<- e]
  exact b2 j (by omega)
 ·exact ⟨.non,H2,keep,rfl,q0 (vY.mp (by omega))⟩
end
end _L2
namespace _JJ
open PySem _L2 _Lin _Tre PySem.W
open _Sta (R Ok sbs exch reg OkS OkSs stN HasR zM Low Best tr)
theorem zcR {K:PySem.W.Frag} {H:Hp} {n:Nat} {a b:Addr} {us vs:List V} {wss:List (List W)} (ha:H a=some (.lst us)) (hb:H b=some (.lst vs)) (hu:Txs H us wss) (hv:Txs H vs wss):EqR K H (n+2) (.ref a) (.ref b) true:=by
 have l1:=hu.len
 have l2:=hv.len
 refine jS (EqR.lsts (n:=n+1) (e:=fun _=>true) (SqL.of ha) (SqL.of hb) (by omega) fun j hj=>?_) (all_true _)
 obtain ⟨ws,e1,p,ep,hp,_⟩:=hu.get (kb hj)
 obtain ⟨ws',e2,q,eq,hq,_⟩:=hv.get (kb (show j<vs.length by omega))
 rw [e1] at e2
 cases e2
 rw [ko,kb hj,ep,ko,kb (show j<vs.length by omega),eq]
 exact zdy (SqL.of hp) (SqL.of hq)
noncomputable def YE:Sp:=fun vs H Q _=>∃ (a:Addr) (us:List V) (A:Stc) (wide:Nat),vs=[.ref a,.int wide]/\H a=some (.lst us)/\zX H us A/\A.length<=1000000/\∀ (o:Option Nat) (H':Hp),Same H H'->Low (reg A) wide o->Q (oV o) H'
noncomputable def Xw:Sp:=fun vs H Q _=>∃ (a:Addr) (us:List V) (A:Stc) (high:Nat),vs=[.ref a,.int high]/\H a=some (.lst us)/\zX H us A/\A.length<=1000000/\∀ (o:Option Nat) (H':Hp),Same H H'->Low (tr (reg A)) high o->Q (oV o) H'
noncomputable def Refd (C4 C6:Addr) (H:Hp) (y:V) (t:T) (E:XK):Prop:=(∃ (n:List Int) (a:Addr) (xs:List V) (bs:List Bool),yd t/\Good t n/\y=.ref a/\H a=some (.lst xs)/\JTs H xs bs/\xs.length<=1000/\(xs.length≠n.length\/bs.all id=false)/\∀ H',Same H H'->E (.ref C6) none H') \/
 (yd t/\NoL H y/\∀ H',Same H H'->E (.ref C6) none H')\/(¬ yd t/\∀ H',Same H H'->E (.ref C4) none H')
noncomputable def spLh (C4 C6:Addr):Sp:=fun vs H Q E=>∃ (x y:V) (t:T) (wide:Nat),vs=[x,y,.int wide]/\At H x t/\sz t<=1000 /\
 ((∃ (n:List Int) (a:Addr) (xs:List V) (wss:List (List W)),yd t/\Good t n/\y=.ref a/\H a=some (.lst xs)/\Txs H xs wss/\xs.length=n.length/\∀ (P:R) (o:Option Nat) (H':Hp),HasR (Lvs wss) t P->Same H H'->Low P wide o->Q (oV o) H')\/Refd C4 C6 H y t E)
theorem Xx {ns:List Nat} {M:Int} (hM:M∈ns.map fun n:Nat=>(n:Int)) (hl:∀ z∈ns.map (fun n:Nat=>(n:Int)),M<=z):∃ m:Nat,M=(m:Int)/\m∈ns/\∀ z∈ns,m<=z:=by
 obtain ⟨m,hm,rfl⟩:=kX.mp hM
 refine ⟨m,rfl,hm,fun z hz=>?_⟩
 have:=hl (z:Int) (kX.mpr ⟨z,hz,rfl⟩)
 omega
section
variable {P:Program} {w:World} {K:PySem.W.Frag} {mg:Str->Option Value} {base:Heap} {kA:Addr}
theorem zdA:zu ["stairs","wide"] ["stairs","wide"] (ze sLow):=⟨rfl,rfl,rfl,by decide +kernel,rfl,by decide +kernel,by decide +kernel⟩
theorem zcS {f:Addr} {fd:FuncData} (F:Fun K "lowest" "lowest" sLow f fd) (gWIDE:GI mg "WIDE" 0) (gHIGH:GI mg "HIGH" 1) (tmin:mg "min" = none):FnOk P w K mg base CX0 1 f fd ["stairs","wide"] YE:=by
 refine F.ok zdA (fun vs H Q E h=>?_) (fun cdv A outer s H vs Q E hr h=>?_)
 ·refine E_4 h fun a us A wide n8=>A_2 n8 fun e9 _=>?_;clear n8 h;subst e9
  rfl
 ·refine E_4 h fun a us A1 wide n8=>A_5 n8 fun e9 ha hA hn q=>?_;clear n8 h;subst e9
  refine ⟨_,(zg (zm (Wv rfl rfl tmin (zV (Nc:=["stair","wide"]) (ix:=[none,some 1]) rfl rfl (by refine' z7 ?zz;case zz=>exact (pv 0)) (fun _ _ _ _ _=>(zn (i:=0) (by show (["stair","wide"]:List Str).Nodup;decide +kernel) rfl (Or.inl rfl))) (fun _ _ _ _ _=>(Zz (zD yS (zl (yF (K:=K) rfl) (pv 0) (zG rfl gWIDE) (fun _ _=>rfl)) (pv 1) (zE _)))) (fun _ _ _ _ _=>(zl (yF (K:=K) rfl) (pv 0) (zG rfl gHIGH) (fun _ _=>rfl))))))),?_⟩
  have la:=hA.len
  refine ⟨_,rfl,a,rfl,⟨_,SqL.of ha⟩,yh (K:=K) (a:=a) (xs:=us) (fun i ys σ H2=>H2=H/\ys=((((A1.take i).filter fun p=>decide (p.1<=wide)).map fun p=>p.2).map fun n:Nat=>(n:Int)).map V.int/\∃ o,σ=[o,some (.int (wide:Int))]) ⟨rfl,rfl,none,rfl⟩
   (fun i ys σ H2 hi h9=>by obtain ⟨e,e2,_⟩:=h9;exact (⟨by rw [e2,ka,ka,ka];exact km (u9 _ _) (by rw [kL];exact km (show _<=1000000 by omega) (by decide)),by rw [e];exact SqL.of ha⟩)) ?_ ?_⟩
  case refine_2 =>
   rintro i x ys σ H2 hx ⟨rfl,rfl,o,rfl⟩
   obtain ⟨p,ep,pa,rfl,hpa⟩:=hA.get' hx
   obtain ⟨hil,ev⟩:=kf.mp ep
   dsimp only [zW]
   refine z6 (p:=(p.1:Int)<=(wide:Int)) (zQ (ya (zk rfl) zI (SqT.of hpa) rfl) (zk rfl)) _ ?_
   rw [<- ky hil,ev,List.filter_append]
   by_cases c:p.1<=wide
   ·rw [decide_eq_true (show (p.1:Int)<=(wide:Int) by omega)]
    refine iteT ⟨_,rfl,pa,_,_,_,rfl,rfl,SqT.of hpa,rfl,rfl,?_,_,rfl⟩
    rw [uc,decide_eq_true c,if_pos rfl,kz,kz,kz]
    rfl
   ·rw [decide_eq_false (show ¬ (p.1:Int)<=(wide:Int) by omega)]
    refine iteF ⟨rfl,?_,_,rfl⟩
    rw [uc,decide_eq_false c]
    show _=((((A1.take i).filter _++[]).map _).map _).map _
    rw [vq]
  rintro ys σ H2 ⟨rfl,rfl,_⟩ l nl
  rw [la,kM]
  have S:=zf (o:=.lst (((((A1.filter fun p=>decide (p.1<=wide)).map fun p=>p.2).map fun n:Nat=>(n:Int)).map V.int))) nl
  obtain ⟨m1,m2⟩:=_Sta.zbJ (A:=A1) (w:=wide) (ns:=(A1.filter fun p=>decide (p.1<=wide)).map fun p=>p.2) (fun n=>by
   rw [kX]
   constructor
   ·intro h8
    obtain ⟨p,hp,rfl⟩:=h8
    obtain ⟨h1,h2⟩:=ux.mp hp
    exact ⟨p,h1,of_decide_eq_true h2,rfl⟩
   ·intro h8
    obtain ⟨p,h1,h2,rfl⟩:=h8
    exact ⟨p,ux.mpr ⟨h1,decide_eq_true h2⟩,rfl⟩)
  refine ⟨l,_,rfl,SqL.of zc,fun e=>q none _ S (m1 (bz.mp e)),fun M hM hl=>?_⟩
  obtain ⟨m,rfl,hm,hl'⟩:=Xx hM hl
  exact q (some m) _ S (m2 m hm hl')
theorem zcT:zu ["stairs","high"] ["stairs","high"] (ze jg):=⟨rfl,rfl,rfl,by decide +kernel,rfl,by decide +kernel,by decide +kernel⟩
theorem zbL {f:Addr} {fd:FuncData} (F:Fun K "narrowest" "narrowest" jg f fd) (gWIDE:GI mg "WIDE" 0) (gHIGH:GI mg "HIGH" 1) (tmin:mg "min" = none):FnOk P w K mg base CX0 1 f fd ["stairs","high"] Xw:=by
 refine F.ok zcT (fun vs H Q E h=>?_) (fun cdv A outer s H vs Q E hr h=>?_)
 ·refine E_4 h fun a us A high n8=>A_2 n8 fun e9 _=>?_;clear n8 h;subst e9
  rfl
 ·refine E_4 h fun a us A1 high n8=>A_5 n8 fun e9 ha hA hn q=>?_;clear n8 h;subst e9
  refine ⟨_,(zg (zm (Wv rfl rfl tmin (zV (Nc:=["stair","high"]) (ix:=[none,some 1]) rfl rfl (by refine' z7 ?zz;case zz=>exact (pv 0)) (fun _ _ _ _ _=>(zn (i:=0) (by show (["stair","high"]:List Str).Nodup;decide +kernel) rfl (Or.inl rfl))) (fun _ _ _ _ _=>(Zz (zD yS (zl (yF (K:=K) rfl) (pv 0) (zG rfl gHIGH) (fun _ _=>rfl)) (pv 1) (zE _)))) (fun _ _ _ _ _=>(zl (yF (K:=K) rfl) (pv 0) (zG rfl gWIDE) (fun _ _=>rfl))))))),?_⟩
  have la:=hA.len
  refine ⟨_,rfl,a,rfl,⟨_,SqL.of ha⟩,yh (K:=K) (a:=a) (xs:=us) (fun i ys σ H2=>H2=H/\ys=((((A1.take i).filter fun p=>decide (p.2<=high)).map fun p=>p.1).map fun n:Nat=>(n:Int)).map V.int/\∃ o,σ=[o,some (.int (high:Int))]) ⟨rfl,rfl,none,rfl⟩
   (fun i ys σ H2 hi h9=>by obtain ⟨e,e2,_⟩:=h9;exact (⟨by rw [e2,ka,ka,ka];exact km (u9 _ _) (by rw [kL];exact km (show _<=1000000 by omega) (by decide)),by rw [e];exact SqL.of ha⟩)) ?_ ?_⟩
  case refine_2 =>
   rintro i x ys σ H2 hx ⟨rfl,rfl,o,rfl⟩
   obtain ⟨p,ep,pa,rfl,hpa⟩:=hA.get' hx
   obtain ⟨hil,ev⟩:=kf.mp ep
   dsimp only [zW]
   refine z6 (p:=(p.2:Int)<=(high:Int)) (zQ (ya (zk rfl) zI (SqT.of hpa) rfl) (zk rfl)) _ ?_
   rw [<- ky hil,ev,List.filter_append]
   by_cases c:p.2<=high
   ·rw [decide_eq_true (show (p.2:Int)<=(high:Int) by omega)]
    refine iteT ⟨_,rfl,pa,_,_,_,rfl,rfl,SqT.of hpa,rfl,rfl,?_,_,rfl⟩
    rw [uc,decide_eq_true c,if_pos rfl,kz,kz,kz]
    rfl
   ·rw [decide_eq_false (show ¬ (p.2:Int)<=(high:Int) by omega)]
    refine iteF ⟨rfl,?_,_,rfl⟩
    rw [uc,decide_eq_false c]
    show _=((((A1.take i).filter _++[]).map _).map _).map _
    rw [vq]
  rintro ys σ H2 ⟨rfl,rfl,_⟩ l nl
  rw [la,kM]
  have S:=zf (o:=.lst (((((A1.filter fun p=>decide (p.2<=high)).map fun p=>p.1).map fun n:Nat=>(n:Int)).map V.int))) nl
  obtain ⟨m1,m2⟩:=_Sta.zbK (A:=A1) (k:=high) (ns:=(A1.filter fun p=>decide (p.2<=high)).map fun p=>p.1) (fun n=>by
   rw [kX]
   constructor
   ·intro h8
    obtain ⟨p,hp,rfl⟩:=h8
    obtain ⟨h1,h2⟩:=ux.mp hp
    exact ⟨p,h1,of_decide_eq_true h2,rfl⟩
   ·intro h8
    obtain ⟨p,h1,h2,rfl⟩:=h8
    exact ⟨p,ux.mpr ⟨h1,decide_eq_true h2⟩,rfl⟩)
  refine ⟨l,_,rfl,SqL.of zc,fun e=>q none _ S (m1 (bz.mp e)),fun M hM hl=>?_⟩
  obtain ⟨m,rfl,hm,hl'⟩:=Xx hM hl
  exact q (some m) _ S (m2 m hm hl')
theorem scLh:zu ["tree","texts","wide"] ["tree","texts","wide"] (ze sLh):=⟨rfl,rfl,rfl,by decide +kernel,rfl,by decide +kernel,by decide +kernel⟩
theorem zdB {f fT fL C4 C6:Addr} {fd dT dL:FuncData} (F:Fun K "least_high" "least_high" sLh f fd) (Ts:Callee P w K mg base (CXE P w) 28 "tree_stairs" fT dT ["tree","texts"] (WU C4 C6)) (Lo:Callee P w K mg base CX0 1 "lowest" fL dL ["stairs","wide"] YE) :
  FnOk P w K mg base (CXE P w) 29 f fd ["tree","texts","wide"] (spLh C4 C6):=by
 refine F.okE scLh (fun vs H Q E h=>?_) (fun cdv A outer s H vs Q E hr hh h=>?_)
 ·refine E_4 h fun x y t wide n8=>A_2 n8 fun e9 _=>?_;clear n8 h;subst e9
  rfl
 ·revert h;intro n7;refine E_4 n7 fun x y t wide n8=>A_4 n8 fun e9 hA hz h=>?_;clear n8 n7;subst e9
  refine ⟨_,(zg (zm (zj Lo.ok (hr.mono (by decide)) rfl Lo.bound Lo.kp Lo.bd .nil zx (za (zj Ts.ok hr rfl Ts.bound Ts.kp Ts.bd .nil xg (za (pv 0) (za (pv 1) zb))) (za (pv 2) zb))))),?_⟩
  rcases h with ⟨n,a,xs,wss,iT,g,rfl,ha,hT,hl,q⟩ | h
  ·refine ⟨_,rfl,_,rfl,x,.ref a,t,rfl,hA,hz,.inl ⟨n,a,xs,wss,iT,g,rfl,ha,hT,hl,fun P1 l us A1 H1 hR S1 nl hl1 hs oA lA=>?_⟩⟩
   refine ⟨_,rfl,l,us,A1,wide,rfl,hl1,hs,by omega,fun o H2 S2 low=>?_⟩
   exact q P1 o H2 hR (S1.trans S2) (low.of oA.2)
  ·exact ⟨_,rfl,_,rfl,x,y,t,rfl,hA,hz,.inr h⟩
end
end _JJ
namespace _Sta
open _Tre _Lin
structure Pc where
 l:Nat
 t:Nat
 r:Nat
 b:Nat
inductive PcsA (Ls:List R) (top below right:Nat):List T->Nat->List Pc->Prop where
 | one {t:T} {left:Nat} {P:R} (h:HasR Ls t P) (rm:P (right-left) (below-top)):PcsA Ls top below right [t] left [⟨left,top,right,below⟩]
 | cons {t t2:T} {ts:List T} {left w:Nat} {P:R} {pcs:List Pc} (h:HasR Ls t P) (lw:Low (tr P) (below-top) (some w)) (r:PcsA Ls top below right (t2::ts) (left+w) pcs):PcsA Ls top below right (t::t2::ts) left (⟨left,top,left+w,below⟩::pcs)
inductive PcsD (Ls:List R) (left right below:Nat):List T->Nat->List Pc->Prop where
 | one {t:T} {top:Nat} {P:R} (h:HasR Ls t P) (rm:P (right-left) (below-top)):PcsD Ls left right below [t] top [⟨left,top,right,below⟩]
 | cons {t t2:T} {ts:List T} {top k:Nat} {P:R} {pcs:List Pc} (h:HasR Ls t P) (lw:Low P (right-left) (some k)) (r:PcsD Ls left right below (t2::ts) (top+k) pcs):PcsD Ls left right below (t::t2::ts) top (⟨left,top,right,top+k⟩::pcs)
mutual
inductive zT (Ls:List R):T->Pc->List (Int×Pc)->Prop where
 | leaf {i:Int} {p:Pc}:zT Ls (.int i) p [(i,p)]
 | bar {ps:List T} {p:Pc} {pcs:List Pc} {res:List (List (Int×Pc))} (h:PcsA Ls p.t p.b p.r ps p.l pcs) (r:SetL Ls ps pcs res):zT Ls (.tup [.str bar,.tup ps]) p res.flatten
 | dash {ps:List T} {p:Pc} {pcs:List Pc} {res:List (List (Int×Pc))} (h:PcsD Ls p.l p.r p.b ps p.t pcs) (r:SetL Ls ps pcs res):zT Ls (.tup [.str dash,.tup ps]) p res.flatten
inductive SetL (Ls:List R):List T->List Pc->List (List (Int×Pc))->Prop where
 | nil:SetL Ls [] [] []
 | cons {t:T} {p:Pc} {ts:List T} {pcs:List Pc} {a:List (Int×Pc)} {res:List (List (Int×Pc))} (h:zT Ls t p a) (r:SetL Ls ts pcs res):SetL Ls (t::ts) (p::pcs) (a::res)
end
noncomputable def Rm (P:R) (p:Pc):Prop:=P (p.r-p.l) (p.b-p.t)
inductive RmL:List R->List Pc->Prop where
 | nil:RmL [] []
 | cons {P:R} {p:Pc} {Ps:List R} {pcs:List Pc} (h:Rm P p) (r:RmL Ps pcs):RmL (P::Ps) (p::pcs)
theorem least {f:Nat->Prop} (h:∃ n,f n):∃ n,f n/\∀ m,f m->n<=m:=by
 obtain ⟨n,hn⟩:=h
 have:∀ k n,n<=k->f n->∃ n,f n/\∀ m,f m->n<=m:=by
  intro k
  induction k with
  | zero =>
   intro n h1 h2
   exact ⟨n,h2,fun m _=>by omega⟩
  | succ k ih =>
   intro n h1 h2
   by_cases c:∃ m,m<n/\f m
   ·obtain ⟨m,m1,m2⟩:=c
    exact ih m (by omega) m2
   ·exact ⟨n,h2,fun m hm=>bb.mp fun z=>c ⟨m,z,hm⟩⟩
 exact this n n (kc _) hn
theorem Xy {P:R} {w:Nat} (h:∃ k,P w k):∃ k,Low P w (some k):=by
 obtain ⟨k,a,b⟩:=least (f:=fun k=>P w k) h
 exact ⟨k,a,b⟩
inductive Parts (h:Nat):List R->List Nat->Prop where
 | nil:Parts h [] []
 | cons {P:R} {a:Nat} {Ps:List R} {as:List Nat} (p:P a h) (r:Parts h Ps as):Parts h (P::Ps) (a::as)
theorem Zf:∀ (Ps:List R) (P:R) (w h:Nat),(Ps.foldl bes P) w h->∃ (a:Nat) (as:List Nat),P a h/\Parts h Ps as/\a+as.sum<=w
 | [],P,w,h,z=>⟨w,[],z,.nil,kc _⟩
 | Q::Ps,P,w,h,z=>by
  obtain ⟨a,as,⟨x,y,e,px,qy⟩,r,s⟩:=Zf Ps (bes P Q) w h z
  exact ⟨x,y::as,px,.cons qy r,by rw [vn];omega⟩
theorem cutA {Ls:List R} {top below right:Nat}:∀ {ps:List T} {P:R} {Ps:List R} {a:Nat} {as:List Nat} {left:Nat},zM Ls ps (P::Ps)->(∀ Q∈P::Ps,Up Q)->P a (below-top)->Parts (below-top) Ps as->left+a+as.sum<=right ->
  ∃ pcs,PcsA Ls top below right ps left pcs/\RmL (P::Ps) pcs
 | _,P,_,a,_,left,.cons h .nil,up,pa,.nil,le =>
  have z:P (right-left) (below-top):=(up P kh).up pa (show a<=right-left by simp at le;omega) (kc _)
  ⟨_,.one h z,.cons z .nil⟩
 | _,P,_,a,_,left,.cons (ts:=_::_) h (.cons h2 r2),up,pa,.cons (a:=a2) (as:=as) p2 q2,le=>by
  obtain ⟨w,lw⟩:=Xy (P:=tr P) (w:=below-top) ⟨a,pa⟩
  have wa:w<=a:=lw.2 a pa
  rw [vn] at le
  obtain ⟨pcs,k1,k2⟩:=cutA (top:=top) (below:=below) (right:=right) (left:=left+w) (.cons h2 r2) (fun Q hQ=>up Q (kj _ hQ)) p2 q2 (by omega)
  refine ⟨_,.cons h lw k1,.cons ?_ k2⟩
  show P (left+w-left) (below-top)
  rw [v5]
  exact lw.1
theorem ju:∀ (Ps:List R) (P:R) (w h:Nat),(Ps.foldl dwn P) w h->∃ (a:Nat) (as:List Nat),P w a/\Parts w (Ps.map tr) as/\a+as.sum<=h
 | [],P,w,h,z=>⟨h,[],z,.nil,kc _⟩
 | Q::Ps,P,w,h,z=>by
  obtain ⟨a,as,⟨x,y,e,px,qy⟩,r,s⟩:=ju Ps (dwn P Q) w h z
  exact ⟨x,y::as,px,.cons qy r,by rw [vn];omega⟩
theorem cutD {Ls:List R} {left right below:Nat}:∀ {ps:List T} {P:R} {Ps:List R} {a:Nat} {as:List Nat} {top:Nat},zM Ls ps (P::Ps)->(∀ Q∈P::Ps,Up Q)->P (right-left) a->Parts (right-left) (Ps.map tr) as->top+a+as.sum<=below ->
  ∃ pcs,PcsD Ls left right below ps top pcs/\RmL (P::Ps) pcs
 | _,P,_,a,_,top,.cons h .nil,up,pa,.nil,le =>
  have z:P (right-left) (below-top):=(up P kh).up pa (kc _) (show a<=below-top by simp at le;omega)
  ⟨_,.one h z,.cons z .nil⟩
 | _,P,_,a,_,top,.cons (ts:=_::_) h (.cons h2 r2),up,pa,.cons (a:=a2) (as:=as) p2 q2,le=>by
  obtain ⟨k,lw⟩:=Xy (P:=P) (w:=right-left) ⟨a,pa⟩
  have wa:k<=a:=lw.2 a pa
  rw [vn] at le
  obtain ⟨pcs,k1,k2⟩:=cutD (left:=left) (right:=right) (below:=below) (top:=top+k) (.cons h2 r2) (fun Q hQ=>up Q (kj _ hQ)) p2 q2 (by omega)
  refine ⟨_,.cons h lw k1,.cons ?_ k2⟩
  show P (right-left) (top+k-top)
  rw [v5]
  exact lw.1
mutual
theorem Q9 {Ls:List R} (hL:∀ L∈Ls,Up L):∀ {t:T} {P:R} {p:Pc},HasR Ls t P->Rm P p->p.l<=p.r->p.t<=p.b->∃ res,zT Ls t p res
 | _,_,p,.leaf _ _,_,_,_=>⟨_,.leaf⟩
 | _,_,p,.bar (P:=P) (Ps:=Ps) h,rm,le1,le2=>by
  obtain ⟨a,as,pa,ps,s⟩:=Zf _ _ _ _ rm
  obtain ⟨pcs,k1,k2⟩:=cutA (Ls:=Ls) (top:=p.t) (below:=p.b) (right:=p.r) (left:=p.l) h (zM.up hL h) pa ps (by omega)
  obtain ⟨res,k3⟩:=ZL hL h k2
  exact ⟨_,.bar k1 k3⟩
 | _,_,p,.dash (P:=P) (Ps:=Ps) h,rm,le1,le2=>by
  obtain ⟨a,as,pa,ps,s⟩:=ju _ _ _ _ rm
  obtain ⟨pcs,k1,k2⟩:=cutD (Ls:=Ls) (left:=p.l) (right:=p.r) (below:=p.b) (top:=p.t) h (zM.up hL h) pa ps (by omega)
  obtain ⟨res,k3⟩:=ZL hL h k2
  exact ⟨_,.dash k1 k3⟩
theorem ZL {Ls:List R} (hL:∀ L∈Ls,Up L):∀ {ts:List T} {Ps:List R} {pcs:List Pc},zM Ls ts Ps->RmL Ps pcs->∃ res,SetL Ls ts pcs res
 | _,_,_,.nil,.nil=>⟨[],.nil⟩
 | _,_,_,.cons h r,.cons (p:=p) m n=>by
  have:=(HasR.up hL h).pos m
  obtain ⟨a,k1⟩:=Q9 hL h m (by omega) (by omega)
  obtain ⟨res,k2⟩:=ZL hL r n
  exact ⟨_,.cons k1 k2⟩
end
mutual
theorem zT.keys0 {Ls:List R}:∀ {t:T} {p:Pc} {res:List (Int×Pc)},zT Ls t p res->∀ {n:List Int},Good t n->res.map (·.1)=n
 | _,_,_,.leaf,n,g=>by rw [Q1 g];rfl
 | _,_,_,.bar h r,n,g=>by
  obtain ⟨nss,e,g⟩:=Yk g
  rw [e,List.map_flatten,SetL.keys0 r g]
 | _,_,_,.dash h r,n,g=>by
  obtain ⟨nss,e,g⟩:=Yk g
  rw [e,List.map_flatten,SetL.keys0 r g]
theorem SetL.keys0 {Ls:List R}:∀ {ts:List T} {pcs:List Pc} {res:List (List (Int×Pc))},SetL Ls ts pcs res->∀ {nss:List (List Int)},zH ts nss->res.map (List.map (·.1))=nss
 | _,_,_,.nil,nss,g=>by rw [Q2 g];rfl
 | _,_,_,.cons h r,nss,g=>by
  obtain ⟨a,b,e,g,gs⟩:=WS g
  rw [e,vf,zT.keys0 h g,SetL.keys0 r gs]
end
theorem zT.keys {Ls:List R} {t:T} {n:List Int} {p:Pc} {res:List (Int×Pc)} (g:Good t n) (h:zT Ls t p res):res.map (·.1)=n:=zT.keys0 h g
theorem SetL.keys {Ls:List R} {ts:List T} {nss:List (List Int)} {pcs:List Pc} {res:List (List (Int×Pc))} (g:zH ts nss) (h:SetL Ls ts pcs res):res.map (List.map (·.1))=nss:=SetL.keys0 h g
theorem PcsA.rm {Ls:List R} {top below right:Nat}:∀ {ts:List T} {left:Nat} {pcs:List Pc} {i:Nat} {t:T} {p:Pc},PcsA Ls top below right ts left pcs->ts[i]?=some t->pcs[i]?=some p->p.t=top/\p.b=below/\∃ P,HasR Ls t P/\Rm P p
 | _,_,_,0,t,p,.one h rm,e1,e2=>by
  cases e1
  cases e2
  exact ⟨rfl,rfl,_,h,rm⟩
 | _,_,_,i+1,t,p,.one h rm,e1,e2=>by simp at e1
 | _,left,_,0,t,p,.cons (w:=w) (P:=P) h lw r,e1,e2=>by
  cases e1
  cases e2
  refine ⟨rfl,rfl,_,h,?_⟩
  show P (left+w-left) (below-top)
  rw [v5]
  exact lw.1
 | _,_,_,i+1,t,p,.cons h lw r,e1,e2=>PcsA.rm (i:=i) r (by simpa using e1) (by simpa using e2)
theorem PcsD.rm {Ls:List R} {left right below:Nat}:∀ {ts:List T} {top:Nat} {pcs:List Pc} {i:Nat} {t:T} {p:Pc},PcsD Ls left right below ts top pcs->ts[i]?=some t->pcs[i]?=some p->p.l=left/\p.r=right/\∃ P,HasR Ls t P/\Rm P p
 | _,_,_,0,t,p,.one h rm,e1,e2=>by
  cases e1
  cases e2
  exact ⟨rfl,rfl,_,h,rm⟩
 | _,_,_,i+1,t,p,.one h rm,e1,e2=>by simp at e1
 | _,top,_,0,t,p,.cons (k:=k) (P:=P) h lw r,e1,e2=>by
  cases e1
  cases e2
  refine ⟨rfl,rfl,_,h,?_⟩
  show P (right-left) (top+k-top)
  rw [v5]
  exact lw.1
 | _,_,_,i+1,t,p,.cons h lw r,e1,e2=>PcsD.rm (i:=i) r (by simpa using e1) (by simpa using e2)
noncomputable def plc (first:Nat):List Nat->List Nat
 | []=>[first]
 | a::r=>first::plc (first+a) r
theorem PcsA.ws {Ls:List R} {top below right:Nat}:∀ {ts:List T} {left:Nat} {pcs:List Pc},PcsA Ls top below right ts left pcs->∃ ws:List Nat,ws.length+1=ts.length/\(∀ (i:Nat) (t:T) (w:Nat),ts[i]?=some t->ws[i]?=some w->∃ P,HasR Ls t P/\Low (tr P) (below-top) (some w)) /\
  pcs=((plc left ws).zip ((plc left ws++[right]).drop 1)).map fun q=>⟨q.1,top,q.2,below⟩
 | _,_,_,.one _ _=>⟨[],rfl,fun i t w _ e=>by simp at e,rfl⟩
 | _,left,_,.cons (w:=w) (P:=P) h lw r=>by
  obtain ⟨ws,l,k,e⟩:=r.ws
  refine ⟨w::ws,by simpa using l,fun i t u e1 e2=>?_,?_⟩
  ·match i,e1,e2 with
   | 0,e1,e2 =>
    cases e1
    cases e2
    exact ⟨P,h,lw⟩
   | i+1,e1,e2=>exact k i t u (by simpa using e1) (by simpa using e2)
  ·rw [e]
   obtain ⟨xs,ex⟩ : ∃ xs,plc (left+w) ws=(left+w)::xs:=by cases ws<;>exact ⟨_,rfl⟩
   show _=(((left::plc (left+w) ws).zip (((left::plc (left+w) ws)++[right]).drop 1)).map fun q=>(⟨q.1,top,q.2,below⟩ : Pc))
   rw [ex]
   rfl
theorem PcsD.ws {Ls:List R} {left right below:Nat}:∀ {ts:List T} {top:Nat} {pcs:List Pc},PcsD Ls left right below ts top pcs->∃ ws:List Nat,ws.length+1=ts.length/\(∀ (i:Nat) (t:T) (w:Nat),ts[i]?=some t->ws[i]?=some w->∃ P,HasR Ls t P/\Low P (right-left) (some w)) /\
  pcs=((plc top ws).zip ((plc top ws++[below]).drop 1)).map fun q=>⟨left,q.1,right,q.2⟩
 | _,_,_,.one _ _=>⟨[],rfl,fun i t w _ e=>by simp at e,rfl⟩
 | _,top,_,.cons (k:=w) (P:=P) h lw r=>by
  obtain ⟨ws,l,k,e⟩:=r.ws
  refine ⟨w::ws,by simpa using l,fun i t u e1 e2=>?_,?_⟩
  ·match i,e1,e2 with
   | 0,e1,e2 =>
    cases e1
    cases e2
    exact ⟨P,h,lw⟩
   | i+1,e1,e2=>exact k i t u (by simpa using e1) (by simpa using e2)
  ·rw [e]
   obtain ⟨xs,ex⟩ : ∃ xs,plc (top+w) ws=(top+w)::xs:=by cases ws<;>exact ⟨_,rfl⟩
   show _=(((top::plc (top+w) ws).zip (((top::plc (top+w) ws)++[below]).drop 1)).map fun q=>(⟨left,q.1,right,q.2⟩ : Pc))
   rw [ex]
   rfl
theorem jl (first:Nat):∀ ws:List Nat,(plc first ws).length=ws.length+1:=by
 intro ws
 induction ws generalizing first with
 | nil=>rfl
 | cons a r ih=>show (plc (first+a) r).length+1=_;rw [ih,kH]
theorem Xz:∀ (ws:List Nat) (first a:Nat),plc first (ws++[a])=plc first ws++[first+ws.sum+a]
 | [],first,a=>by simp [plc]
 | b::r,first,a=>by
  show first::plc (first+b) (r++[a])=first::plc (first+b) r++[first+(b::r).sum+a]
  rw [Xz r,vn,<- Nat.add_assoc]
  rfl
theorem XA:∀ (ws:List Nat) (first:Nat),∃ xs,plc first ws=xs++[first+ws.sum]
 | [],first=>⟨[],by simp [plc]⟩
 | b::r,first=>by
  obtain ⟨xs,e⟩:=XA r (first+b)
  exact ⟨first::xs,by show first::plc (first+b) r=_;rw [e,vn,<- Nat.add_assoc];rfl⟩
end _Sta
namespace _L2
open PySem PySem.Spec PyProof.Rows
section
variable {prog:Program} {w:World} {A:Around} {E:Value->Shared->Prop} {s:Shared}
theorem WW {it t:Addr} {i:Nat} {its:Array Value} {x:Value} {Q:Value->Shared->Prop} (hit:s.heap.IsTupleIter it t i) (ht:s.heap.IsTuple t its) (hx:its[i]?=some x)
  (hQ:∀ h',h'.IsTupleIter it t (i+1)->Heap.SameBut it s.heap h'->Q x {s with heap:=h'}):wpAny (model prog w) A (Builtin.SmallTypes.nextOf (.ref it)) Q E s:=by
 obtain ⟨o,ho,hc,hd⟩:=id hit
 obtain ⟨ol,hol,_,nl,hdl⟩:=ht
 unfold Builtin.SmallTypes.nextOf
 refine wpAny_bind (wpAny_callSpecial?_slot (name:=Str.ofString "__next__") hit.typeIs F.slot_tuple_iterator_next (wpAny_call_entry F.slot_tuple_iterator_next hit.typeIs F.entry_tuple_iterator_next ?_ (F.args_tuple_iterator_next_1 _)))
 show wpAny _ _ (field (.ref it) 0 >>= _) _ _ s
 refine wpAny_bind (wpAny_field ho hd (x:=.ref t) rfl ?_)
 show wpAny _ _ (if (Value.ref t == Value.none)=true then _ else _) _ _ s
 rw [if_neg (show ¬ ((Value.ref t == Value.none)=true) from ku)]
 show wpAny _ _ (field (.ref it) 1 >>= _) _ _ s
 refine wpAny_bind (wpAny_field ho hd (x:=.int i 0) rfl ?_)
 show wpAny _ _ (seqItems? (.ref t) >>= _) _ _ s
 refine wpAny_bind (wpAny_seqItems hol hdl ?_)
 simp only [vp,hx]
 refine wpAny_bind (wpAny_setField ho hd (by simp) (wpAny_pure ⟨x,rfl,wpAny_pure (hQ _ ?_ (Heap.SameBut.update ..))⟩))
 exact ⟨_,Heap.get?_update_self _ ho (Obj.isFreed_of_fields (Obj.data_mapFields hd _)),(Obj.cls_mapFields ..).trans hc,by rw [Obj.data_mapFields hd];simp [rawInt]⟩
theorem Ja {it t:Addr} {i:Nat} {its:Array Value} {Q:Value->Shared->Prop} (hh:A.handled=none) (hit:s.heap.IsTupleIter it t i) (ht:s.heap.IsTuple t its) (hx:its[i]?=none)
  (hE:∀ h' e,Heap.ExtBut it s.heap h'->(∃ o,h'.get? e=some o/\o.cls=.type "StopIteration")->E (.ref e) {s with heap:=h'}):wpAny (model prog w) A (Builtin.SmallTypes.nextOf (.ref it)) Q E s:=by
 obtain ⟨o,ho,hc,hd⟩:=id hit
 obtain ⟨ol,hol,_,nl,hdl⟩:=ht
 unfold Builtin.SmallTypes.nextOf
 refine wpAny_bind (wpAny_callSpecial?_slot (name:=Str.ofString "__next__") hit.typeIs F.slot_tuple_iterator_next (wpAny_call_entry F.slot_tuple_iterator_next hit.typeIs F.entry_tuple_iterator_next ?_ (F.args_tuple_iterator_next_1 _)))
 show wpAny _ _ (field (.ref it) 0 >>= _) _ _ s
 refine wpAny_bind (wpAny_field ho hd (x:=.ref t) rfl ?_)
 show wpAny _ _ (if (Value.ref t == Value.none)=true then _ else _) _ _ s
 rw [if_neg (show ¬ ((Value.ref t == Value.none)=true) from ku)]
 show wpAny _ _ (field (.ref it) 1 >>= _) _ _ s
 refine wpAny_bind (wpAny_field ho hd (x:=.int i 0) rfl ?_)
 show wpAny _ _ (seqItems? (.ref t) >>= _) _ _ s
 refine wpAny_bind (wpAny_seqItems hol hdl ?_)
 simp only [vp,hx]
 refine wpAny_bind (wpAny_rule (wpAny_bind (wpAny_setField ho hd (by simp) ?_)))
 show wpAny _ _ (newExc (.type "StopIteration") [] >>= _) _ _ _
 refine wpAny_bind ?_
 simp only [newExc,newTuple]
 refine wpAny_bind (wpAny_newObj_type ?_ (by size_fits))
 refine wpAny_bind (m:=firstArgMember _ _) (wpAny_of_eq (a:=Value.none) (by first | rfl | (simp only [firstArgMember];rfl)) ?_)
 refine wpAny_newObj_type ?_ (by size_fits)
 simp only [raiseNew]
 refine wpAny_bind (wpAny_handled ?_)
 first | rw [show A.in1.handled=none from hh] | rw [hh]
 refine wpAny_bind (wpAny_pure (wpAny_throw ?_))
 exact hE _ _ (((Heap.SameBut.update ..).extBut.push _).push _) ⟨_,Heap.get?_push_size _ rfl,rfl⟩
theorem Jb {z TI TO i1 i2 l1 l2:Addr} {k1 k2:Nat} {xs ys:Array Value} {x y a b:Value} {Q:Value->Shared->Prop} (D:ZipApart z TI TO i1 i2 l1 l2)
  (hz:IsZip s.heap z TI TO .none) (hTI:IsPair s.heap TI (.ref i1) (.ref i2)) (hTO:IsPair s.heap TO a b)
  (h1:s.heap.IsTupleIter i1 l1 k1) (h2:s.heap.IsListIter i2 l2 k2) (hl1:s.heap.IsTuple l1 xs) (hl2:s.heap.IsList l2 ys) (hx:xs[k1]?=some x) (hy:ys[k2]?=some y)
  (hQ:∀ h',IsZip h' z TI TO (rawInt s.heap.objs.size)->IsPair h' TO x y->h'.IsTupleIter i1 l1 (k1+1)->h'.IsListIter i2 l2 (k2+1)->IsPair h' s.heap.objs.size x y->h'.objs.size=s.heap.objs.size+1 ->
   (∀ c o,c≠z->c≠TO->c≠i1->c≠i2->s.heap.get? c=some o->h'.get? c=some o)->Q (.ref s.heap.objs.size) {s with heap:=h'}) :
  wpAny (model prog w) A (Builtin.«zip.__next__» ⟨[.ref z],[]⟩) (fun fin s'=>∃ v,fin=.done (.ret v)/\Q v s') E s:=by
 show wpAny _ _ (field (.ref z) 2 >>= _) _ _ _
 refine wpAny_bind (wpAny_field hz rfl (x:=.bool false) rfl ?_)
 show wpAny _ _ (field (.ref z) 3 >>= _) _ _ _
 refine wpAny_bind (wpAny_field hz rfl (x:=.ref TI) rfl ?_)
 refine wpAny_bind (wpAny_seqItems hTI rfl ?_)
 show wpAny _ _ (Builtin.SmallTypes.ownedTupleIsFree (.ref z) >>= _) _ _ _
 refine wpAny_bind ?_
 unfold Builtin.SmallTypes.ownedTupleIsFree
 refine wpAny_bind (wpAny_field hz rfl (x:=.none) rfl (wpAny_pure ?_))
 simp only [if_true]
 refine wpAny_bind (wpAny_rule ?_)
 refine wpAny_bind (wpAny_field hz rfl (x:=.ref TO) rfl ?_)
 refine wpAny_bind (wpAny_setField_rec hz (by simp) fun g1 hz1 s1=>?_)
 replace hz1:IsZip g1 z TI TO .ellipsis:=hz1
 refine wpAny_bind ?_
 simp only [List.zipIdx_cons,List.zipIdx_nil,bn,List.forIn_nil]
 refine wpAny_bind (wpAny_bind (wpAny_onRaise ?_))
 show wpAny _ _ (Builtin.SmallTypes.nextOf (.ref i1) >>= _) _ _ _
 refine wpAny_bind (WW (h1.extBut s1.extBut D.i1z) (hl1.extBut s1.extBut D.l1z) hx fun g2 h12 s2=>wpAny_pure ?_)
 have hTO2:IsPair g2 TO a b:=s2.extBut _ _ D.TOi1 (s1.extBut _ _ D.TOz hTO)
 refine wpAny_bind (wpAny_seqItems hTO2 rfl ?_)
 refine wpAny_bind (wpAny_updateSeq_pair hTO2 fun g3 hTO3 s3=>?_)
 replace hTO3:IsPair g3 TO x b:=hTO3
 refine wpAny_bind (wpAny_letGo (wpAny_pure ?_))
 refine wpAny_bind (wpAny_bind (wpAny_onRaise ?_))
 show wpAny _ _ (Builtin.SmallTypes.nextOf (.ref i2) >>= _) _ _ _
 refine wpAny_bind (wpAny_nextOf_list_item (((h2.extBut s1.extBut D.i2z).extBut s2.extBut D.i12.symm).extBut s3.extBut D.TOi2.symm) (((hl2.extBut s1.extBut D.l2z).extBut s2.extBut D.l2i1).extBut s3.extBut D.l2TO) hy fun g4 h24 s4=>wpAny_pure ?_)
 have hTO4:IsPair g4 TO x b:=s4.extBut _ _ D.TOi2 hTO3
 refine wpAny_bind (wpAny_seqItems hTO4 rfl ?_)
 refine wpAny_bind (wpAny_updateSeq_pair hTO4 fun g5 hTO5 s5=>?_)
 replace hTO5:IsPair g5 TO x y:=hTO5
 refine wpAny_bind (wpAny_letGo (wpAny_pure (wpAny_pure ?_)))
 refine wpAny_bind (wpAny_seqItems hTO5 rfl ?_)
 refine wpAny_bind (wpAny_newTuple ?_)
 have sz:g5.objs.size=s.heap.objs.size:=by rw [s5.1,s4.1,s3.1,s2.1,s1.1]
 have hz5:IsZip g5 z TI TO .ellipsis:=s5.extBut _ _ D.TOz.symm (s4.extBut _ _ D.i2z.symm (s3.extBut _ _ D.TOz.symm (s2.extBut _ _ D.i1z.symm hz1)))
 have keep:∀ c o,c≠z->c≠TO->c≠i1->c≠i2->s.heap.get? c=some o->g5.get? c=some o:=fun c o c1 c2 c3 c4 e=>s5.extBut _ _ c2 (s4.extBut _ _ c4 (s3.extBut _ _ c2 (s2.extBut _ _ c3 (s1.extBut _ _ c1 e))))
 have h15:g5.IsTupleIter i1 l1 (k1+1):=((h12.extBut s3.extBut D.TOi1.symm).extBut s4.extBut D.i12).extBut s5.extBut D.TOi1.symm
 have h25:g5.IsListIter i2 l2 (k2+1):=h24.extBut s5.extBut D.TOi2.symm
 have zlt:z<g5.objs.size:=Heap.lt_size hz5
 show wpAny _ _ (Builtin.SmallTypes.ownedTupleHandOut (.ref z) (.ref g5.objs.size) >>= _) _ _ _
 refine wpAny_bind ?_
 unfold Builtin.SmallTypes.ownedTupleHandOut
 have hz6:IsZip (g5.push {cls:=.type "tuple",data:=.seq #[x,y]}) z TI TO .ellipsis:=Heap.get?_push_of_some _ hz5
 refine wpAny_bind (wpAny_setField_rec hz6 (by simp) fun g7 hz7 s7=>?_)
 replace hz7:IsZip g7 z TI TO (rawInt g5.objs.size):=hz7
 refine wpAny_setField_rec hz7 (by simp) fun g8 hz8 s8=>?_
 replace hz8:IsZip g8 z TI TO (rawInt g5.objs.size):=hz8
 have up:∀ c o,c≠z->g5.get? c=some o->g8.get? c=some o:=fun c o c1 e=>s8.extBut _ _ c1 (s7.extBut _ _ c1 (Heap.get?_push_of_some _ e))
 have hT8:IsPair g8 g5.objs.size x y:=s8.extBut _ _ (ut zlt) (s7.extBut _ _ (ut zlt) (Heap.get?_push_size _ rfl))
 have sz8:g8.objs.size=g5.objs.size+1:=by rw [s8.1,s7.1,Heap.size_push]
 rw [sz] at hz8 hT8 sz8
 refine wpAny_pure ⟨_,rfl,?_⟩
 show Q (.ref g5.objs.size) _
 rw [sz]
 exact hQ g8 hz8 (up _ _ D.TOz hTO5) (h15.at fun o e=>up _ o D.i1z e) (h25.at fun o e=>up _ o D.i2z e) hT8 sz8 fun c o c1 c2 c3 c4 e=>up c o c1 (keep c o c1 c2 c3 c4 e)
theorem zah {z TI TO i1 i2 l1 l2:Addr} {k1:Nat} {xs:Array Value} {a b:Value} {Q:Fin->Shared->Prop} (hh:A.handled=none) (D:ZipApart z TI TO i1 i2 l1 l2)
  (hz:IsZip s.heap z TI TO .none) (hTI:IsPair s.heap TI (.ref i1) (.ref i2)) (h1:s.heap.IsTupleIter i1 l1 k1) (hl1:s.heap.IsTuple l1 xs) (hend:xs[k1]?=none)
  (hE:∀ h' e,(∀ c o,c≠z->c≠i1->s.heap.get? c=some o->h'.get? c=some o)->(∃ o,h'.get? e=some o/\o.cls=.type "StopIteration")->E (.ref e) {s with heap:=h'}) :
  wpAny (model prog w) A (Builtin.«zip.__next__» ⟨[.ref z],[]⟩) Q E s:=by
 show wpAny _ _ (field (.ref z) 2 >>= _) _ _ _
 refine wpAny_bind (wpAny_field hz rfl (x:=.bool false) rfl ?_)
 show wpAny _ _ (field (.ref z) 3 >>= _) _ _ _
 refine wpAny_bind (wpAny_field hz rfl (x:=.ref TI) rfl ?_)
 refine wpAny_bind (wpAny_seqItems hTI rfl ?_)
 show wpAny _ _ (Builtin.SmallTypes.ownedTupleIsFree (.ref z) >>= _) _ _ _
 refine wpAny_bind ?_
 unfold Builtin.SmallTypes.ownedTupleIsFree
 refine wpAny_bind (wpAny_field hz rfl (x:=.none) rfl (wpAny_pure ?_))
 simp only [if_true]
 refine wpAny_bind (wpAny_rule ?_)
 refine wpAny_bind (wpAny_field hz rfl (x:=.ref TO) rfl ?_)
 refine wpAny_bind (wpAny_setField_rec hz (by simp) fun g1 hz1 s1=>?_)
 replace hz1:IsZip g1 z TI TO .ellipsis:=hz1
 refine wpAny_bind ?_
 simp only [List.zipIdx_cons,List.zipIdx_nil,bn,List.forIn_nil]
 refine wpAny_bind (wpAny_bind (wpAny_onRaise ?_))
 show wpAny _ _ (Builtin.SmallTypes.nextOf (.ref i1) >>= _) _ _ _
 refine wpAny_bind (Ja hh (h1.extBut s1.extBut D.i1z) (hl1.extBut s1.extBut D.l1z) hend fun g2 e s2 he=>?_)
 obtain ⟨oe,hoe,hce⟩:=he
 have hz2:IsZip g2 z TI TO .ellipsis:=s2 _ _ D.i1z.symm hz1
 have hez:e≠z:=fun x=>by subst x;rw [hz2] at hoe;cases hoe;simp at hce
 exact wpAny_setField_rec hz2 (by simp) fun g3 _ s3=>hE g3 e (fun c o c1 c3 x=>s3.extBut _ _ c1 (s2 _ _ c3 (s1.extBut _ _ c1 x))) ⟨oe,s3.extBut _ _ hez hoe,hce⟩
theorem XB {z TI TO i1 i2 l1 l2:Addr} {k1 k2:Nat} {xs ys:Array Value} {x y a b:Value} {Q:Option Value->Shared->Prop} (D:ZipApart z TI TO i1 i2 l1 l2)
  (hz:IsZip s.heap z TI TO .none) (hTI:IsPair s.heap TI (.ref i1) (.ref i2)) (hTO:IsPair s.heap TO a b)
  (h1:s.heap.IsTupleIter i1 l1 k1) (h2:s.heap.IsListIter i2 l2 k2) (hl1:s.heap.IsTuple l1 xs) (hl2:s.heap.IsList l2 ys) (hx:xs[k1]?=some x) (hy:ys[k2]?=some y)
  (hQ:∀ h',IsZip h' z TI TO (rawInt s.heap.objs.size)->IsPair h' TO x y->h'.IsTupleIter i1 l1 (k1+1)->h'.IsListIter i2 l2 (k2+1)->IsPair h' s.heap.objs.size x y->h'.objs.size=s.heap.objs.size+1 ->
   (∀ c o,c≠z->c≠TO->c≠i1->c≠i2->s.heap.get? c=some o->h'.get? c=some o)->Q (some (.ref s.heap.objs.size)) {s with heap:=h'}):wpAny (model prog w) A (pyNext (.ref z)) Q E s:=by
 have hT:s.TypeIs (.ref z) "zip" := ⟨_,hz,rfl⟩
 unfold pyNext
 exact wpAny_bind (wpAny_attempt (wpAny_callSpecial?_slot (name:=Str.ofString "__next__") hT F.slot_zip_next
  (wpAny_call_entry F.slot_zip_next hT F.entry_zip_next (Jb D hz hTI hTO h1 h2 hl1 hl2 hx hy fun h' a1 a2 a3 a4 a5 a6 a7=>wpAny_pure (hQ h' a1 a2 a3 a4 a5 a6 a7)) (F.args_zip_next_1 _))))
theorem XX {z TI TO i1 i2 l1 l2:Addr} {k1:Nat} {xs:Array Value} {Q:Option Value->Shared->Prop} (hh:A.handled=none) (D:ZipApart z TI TO i1 i2 l1 l2)
  (hz:IsZip s.heap z TI TO .none) (hTI:IsPair s.heap TI (.ref i1) (.ref i2)) (h1:s.heap.IsTupleIter i1 l1 k1) (hl1:s.heap.IsTuple l1 xs) (hend:xs[k1]?=none)
  (hQ:∀ h',(∀ c o,c≠z->c≠i1->s.heap.get? c=some o->h'.get? c=some o)->Q none {s with heap:=h'}):wpAny (model prog w) A (pyNext (.ref z)) Q E s:=by
 have hT:s.TypeIs (.ref z) "zip" := ⟨_,hz,rfl⟩
 unfold pyNext
 refine wpAny_bind (wpAny_attempt (wpAny_callSpecial?_slot (name:=Str.ofString "__next__") hT F.slot_zip_next
  (wpAny_call_entry F.slot_zip_next hT F.entry_zip_next (zah (a:=.none) (b:=.none) hh D hz hTI h1 hl1 hend fun h' e hk he=>?_) (F.args_zip_next_1 _))))
 obtain ⟨o,ho,hc⟩:=he
 refine wpAny_bind (wpAny_isInstance (T := "StopIteration") (b:=true) ⟨o,ho,hc⟩ isSubtype_stop ?_)
 exact wpAny_pure (hQ _ hk)
end
noncomputable def ItZT (K:PySem.W.Frag) (a b:Addr):It :=
 ⟨fun i H=>∃ xs ys x y,SqT K H a xs/\SqL K H b ys/\xs[i]?=some x/\ys[i]?=some y,
 fun i H x H'=>∃ p u v,H p=none/\x=.ref p/\H'=upd H p (.tup [u,v])/\(∀ xs,SqT K H a xs->xs[i]?=some u)/\∀ ys,SqL K H b ys->ys[i]?=some v,
 fun i H=>∃ xs ys,SqT K H a xs/\SqL K H b ys/\xs.length<=i⟩
theorem ZM {h:Heap} {a c:Addr} {its:Array Value} {o:Obj} (hl:h.IsTuple a its) (hc:h.get? c=some o) (hn:o.cls≠.type "tuple"):a≠c:=fun z=>by
 obtain ⟨o',g1,g2,_⟩:=hl
 rw [z,hc] at g1
 cases g1
 exact hn g2
theorem Zg {h:Heap} {z TI TO i1 i2 a b:Addr} {xs ys:Array Value} {k1 k2:Nat} {f0 v u:Value} (D:Dst z TI TO i1 i2) (aTO:a≠TO) (hz:IsZip h z TI TO f0) (hTO:IsPair h TO v u) (h1:h.IsTupleIter i1 a k1) (h2:h.IsListIter i2 b k2) (l1:h.IsTuple a xs) (l2:h.IsList b ys) :
  ZipApart z TI TO i1 i2 a b:=by
 obtain ⟨o1,e1,c1,_⟩:=h1
 obtain ⟨o2,e2,c2,_⟩:=h2
 exact ⟨D.TIz,D.TOz,D.i1z,D.i2z,D.TITO,D.TIi1,D.TIi2,D.TOi1,D.TOi2,D.i12,ZM l1 hz (show Value.type "zip" ≠ .type "tuple" by decide),aTO,ZM l1 e1 (by rw [c1];decide),ZM l1 e2 (by rw [c2];decide),yV l2 hz (show Value.type "zip" ≠ .type "list" by decide),yV l2 hTO (show Value.type "tuple" ≠ .type "list" by decide),yV l2 e1 (by rw [c1];decide),yV l2 e2 (by rw [c2];decide)⟩
theorem Jc {P:Program} {w:World} {K:PySem.W.Frag} {elts:List Expr} {kx:Nat} {px:Pos} (a b z TI TO i1 i2:Addr) (D:Dst z TI TO i1 i2) (aTO:a≠TO) :
  Turn P w K (.Tuple elts kx px) (ItZT K a b) [z,TI,TO,i1,i2] z (fun i h=>IsZip h z TI TO .none/\IsPair h TI (.ref i1) (.ref i2)/\(∃ v u,IsPair h TO v u)/\h.IsTupleIter i1 a i/\h.IsListIter i2 b i) where
 mem:=by simp
 obj:=fun i h st c hc=>by
  obtain ⟨hz,hTI,⟨v,u,hTO⟩,⟨o1,e1,c1,d1⟩,⟨o2,e2,c2,d2⟩⟩:=st
  have hc:c=z\/c=TI\/c=TO\/c=i1\/c=i2:=by simpa using hc
  rcases hc with rfl | rfl | rfl | rfl | rfl
  ·exact ⟨_,hz,fun v y=>by have y':Data.fields _=Data.cell v:=y;cases y'⟩
  ·exact ⟨_,hTI,fun v y=>by have y':Data.seq _=Data.cell v:=y;cases y'⟩
  ·exact ⟨_,hTO,fun v y=>by have y':Data.seq _=Data.cell v:=y;cases y'⟩
  ·exact ⟨o1,e1,fun v y=>by rw [d1] at y;cases y⟩
  ·exact ⟨o2,e2,fun v y=>by rw [d2] at y;cases y⟩
 keep:=fun i h h' st k=>by
  obtain ⟨hz,hTI,⟨v,u,hTO⟩,h1,h2⟩:=st
  exact ⟨k z (by simp) _ hz,k TI (by simp) _ hTI,⟨v,u,k TO (by simp) _ hTO⟩,h1.at fun o q=>k i1 (by simp) o q,h2.at fun o q=>k i2 (by simp) o q⟩
 item:=by
  intro X hP hw hK hc i pins s σ H E I hf st hg
  subst hP hw hK
  obtain ⟨hz,hTI,⟨v0,u0,hTO⟩,h1,h2⟩:=st
  obtain ⟨xs,ys,x,y,hq1,hq2,hx,hy⟩:=hg
  obtain ⟨its,rv,tp0,hz1⟩:=I.tuple hq1
  have tp:s.heap.IsTuple a its.toArray:=tp0
  obtain ⟨jts,rw',tq,hz2⟩:=I.list hq2
  obtain ⟨u,hu,ru⟩:=rv.get hx
  obtain ⟨v,hv,rv'⟩:=rw'.get hy
  have Z:=Zg D aTO hz hTO h1 h2 tp tq.isList
  refine XB Z hz hTI hTO h1 h2 tp tq.isList (x:=u) (y:=v) (by simpa using hu) (by simpa using hv) fun h' a1 a2 a3 a4 a5 a6 hk=>?_
  refine ⟨_,rfl,wpAny_letOwnedTupleGo_zip a1 fun h'' hz'' hs=>?_⟩
  have lt:∀ {c o},s.heap.get? c=some o->s.heap.objs.size≠c:=fun e=>ut (Heap.lt_size e)
  have ne1:=lt hz
  have k2:∀ c o,c∉[z,TO,i1,i2]->s.heap.get? c=some o->h''.get? c=some o:=fun c o m q=>by
   have m:c≠z/\c≠TO/\c≠i1/\c≠i2:=by simpa using m
   exact (hs.2 c m.1).trans (hk c o m.1 m.2.1 m.2.2.1 m.2.2.2 q)
  have I1:Inv X pins σ H {s with heap:=h'',toks:=s.toks}:=I.turnedL (t':=s.toks) k2 fun c m=>hf c (by
   have m:c=z\/c=TO\/c=i1\/c=i2:=by simpa using m
   rcases m with rfl | rfl | rfl | rfl<;>simp)
  have hn:H s.heap.objs.size=none:=I.hok.fresh (kc _)
  have FP:=I.fpOk (b:=s.heap.objs.size) (kc _) hn
  have hT2:h''.get? s.heap.objs.size=some {cls:=.type "tuple",data:=.seq #[u,v]}:=(hs.2 _ ne1).trans a5
  have I2:=I1.track (p:=s.heap.objs.size) (o:=.tup [x,y]) hn (Heap.get?_none_of_le I.sz) FP.2.1 FP.2.2.2.2.1 FP.2.2.2.2.2
   ⟨by show 2<=sizeLine;decide,[u,v],.cons ru (.cons rv' .nil),⟨_,hT2,rfl,_,rfl⟩⟩
  refine ⟨.ref s.heap.objs.size,_,I2,rfl,⟨_,x,y,hn,rfl,rfl,fun zs hy'=>?_,fun zs hy'=>?_⟩,⟨hz'',(hs.2 _ D.TIz).trans (hk _ _ D.TIz D.TITO D.TIi1 D.TIi2 hTI),⟨_,_,(hs.2 _ D.TOz).trans a2⟩,a3.at fun o q=>(hs.2 _ D.i1z).trans q,a4.at fun o q=>(hs.2 _ D.i2z).trans q⟩,fun c hc=>?_⟩
  ·rw [I.tuple_inj hy' hq1];exact hx
  ·rw [I.list_inj hy' hq2];exact hy
  ·have hb2:c≠s.heap.objs.size:=by
    have m:c=z\/c=TI\/c=TO\/c=i1\/c=i2:=by simpa using hc
    rcases m with rfl | rfl | rfl | rfl | rfl
    ·exact ne1.symm
    ·exact (lt hTI).symm
    ·exact (lt hTO).symm
    ·obtain ⟨o,g,_⟩:=h1
     exact (lt g).symm
    ·obtain ⟨o,g,_⟩:=h2
     exact (lt g).symm
   rw [zy hb2]
   exact (hf c hc).1
 done:=by
  intro X hP hw hK hc i pins s σ H E I hf st hg
  subst hP hw hK
  obtain ⟨hz,hTI,⟨v0,u0,hTO⟩,h1,h2⟩:=st
  obtain ⟨xs,ys,hq1,hq2,hx⟩:=hg
  obtain ⟨its,rv,tp0,hz1⟩:=I.tuple hq1
  have tp:s.heap.IsTuple a its.toArray:=tp0
  obtain ⟨jts,rw',tq,hz2⟩:=I.list hq2
  have l1:=rv.length
  have l2:=rw'.length
  have Z:=Zg D aTO hz hTO h1 h2 tp tq.isList
  refine XX (I.ok.hd hc) Z hz hTI h1 tp ?_ fun h' hk=>⟨rfl,I.turnedL (t':=s.toks) (ch:=[z,i1]) (fun c o m q=>?_) fun c m=>hf c ?_⟩
  ·simp
   omega
  ·have m:c≠z/\c≠i1:=by simpa using m
   exact hk c o m.1 m.2 q
  ·have m:c=z\/c=i1:=by simpa using m
   rcases m with rfl | rfl<;>simp
 self:=fun _ _ _ _ _ st h=>wpAny_pyIter_zip st.1 h
noncomputable def xK (h:Heap) (l1 l2:Addr):Heap:=((((h.push {cls:=.type "tuple_iterator",data:=.fields #[.ref l1,.int 0 0]}).push {cls:=.type "list_iterator",data:=.fields #[.ref l2,.int 0 0]}).push {cls:=.type "tuple",data:=.seq #[.ref h.objs.size,.ref (h.objs.size+1)]}).push {cls:=.type "tuple",data:=.seq #[.none,.none]}).push {cls:=.type "zip",data:=.fields #[.none,.bool false,.bool false,.ref (h.objs.size+2),.ref (h.objs.size+3)]}
theorem WX (l1 l2:Addr) (xs ys:Array Value):Meets (Builtin.«zip.__new__» ⟨[.type "zip",.ref l1,.ref l2],[]⟩) (fun _ R s=>s.heap.IsTuple l1 xs/\s.heap.IsList l2 ys/\R (.ok (.ret (.ref (s.heap.objs.size+4)))) {s with heap:=xK s.heap l1 l2}) :=
 .of_wp fun prog w A R s h=>by
  obtain ⟨hp,g,d,tk,os⟩:=s
  obtain ⟨hl1,hl2,h⟩:=h
  have hsub:=sub_zip
  have hL1:Heap.IsTuple (Shared.heap ⟨hp,g,d,tk,os⟩) l1 xs:=hl1
  have hL2:Heap.IsList (Shared.heap ⟨hp.push {cls:=.type "tuple_iterator",data:=.fields #[.ref l1,.int 0 0]},g,d,tk,os⟩) l2 ys:=Heap.IsList.push hl2 _
  wp_walk using wpAny_pyIter_tuple hL1,wpAny_pyIter_list hL2
  refine ⟨_,rfl,?_⟩
  have z1:(hp.push {cls:=.type "tuple_iterator",data:=.fields #[.ref l1,.int 0 0]}).objs.size=hp.objs.size+1:=Heap.size_push ..
  simp only [Heap.size_push]
  exact h
section
variable {prog:Program} {w:World} {A:Around} {E:Value->Shared->Prop} {s:Shared}
theorem Jd {l1 l2:Addr} {xs ys:Array Value} {Q:Value->Shared->Prop} (hl1:s.heap.IsTuple l1 xs) (hl2:s.heap.IsList l2 ys)
  (h:∀ h',IsZip h' (s.heap.objs.size+4) (s.heap.objs.size+2) (s.heap.objs.size+3) .none->IsPair h' (s.heap.objs.size+2) (.ref s.heap.objs.size) (.ref (s.heap.objs.size+1)) ->
   IsPair h' (s.heap.objs.size+3) .none .none->h'.IsTupleIter s.heap.objs.size l1 0->h'.IsListIter (s.heap.objs.size+1) l2 0->(∀ c o,s.heap.get? c=some o->h'.get? c=some o)->Q (.ref (s.heap.objs.size+4)) {s with heap:=h'}) :
  wpAny (model prog w) A (call (.type "zip") [.ref l1,.ref l2]) Q E s:=by
 refine callType_new F.called_zip (by decide) (F.typeCall_zip_2 _ _) (F.newCall_zip_2 _ _) (fun obj=>F.args_object_init_3 obj _ _) F.entry_zip_new (WX l1 l2 xs ys) ⟨hl1,hl2,?_⟩
 have up:∀ {h:Heap} {o:Obj} {c:Addr} {o':Obj},h.get? c=some o'->(h.push o).get? c=some o':=fun e=>Heap.get?_push_of_some _ e
 have g5:(xK s.heap l1 l2).get? (s.heap.objs.size+4)=some {cls:=.type "zip",data:=.fields #[.none,.bool false,.bool false,.ref (s.heap.objs.size+2),.ref (s.heap.objs.size+3)]}:=by
  unfold xK
  have:=Heap.get?_push_size ((((s.heap.push {cls:=.type "tuple_iterator",data:=.fields #[.ref l1,.int 0 0]}).push {cls:=.type "list_iterator",data:=.fields #[.ref l2,.int 0 0]}).push {cls:=.type "tuple",data:=.seq #[.ref s.heap.objs.size,.ref (s.heap.objs.size+1)]}).push {cls:=.type "tuple",data:=.seq #[.none,.none]}) (o:={cls:=.type "zip",data:=.fields #[.none,.bool false,.bool false,.ref (s.heap.objs.size+2),.ref (s.heap.objs.size+3)]}) rfl
  simpa only [Heap.size_push] using this
 have g4:(xK s.heap l1 l2).get? (s.heap.objs.size+3)=some {cls:=.type "tuple",data:=.seq #[.none,.none]}:=by
  unfold xK
  have:=Heap.get?_push_size (((s.heap.push {cls:=.type "tuple_iterator",data:=.fields #[.ref l1,.int 0 0]}).push {cls:=.type "list_iterator",data:=.fields #[.ref l2,.int 0 0]}).push {cls:=.type "tuple",data:=.seq #[.ref s.heap.objs.size,.ref (s.heap.objs.size+1)]}) (o:={cls:=.type "tuple",data:=.seq #[.none,.none]}) rfl
  exact up (by simpa only [Heap.size_push] using this)
 have g3:(xK s.heap l1 l2).get? (s.heap.objs.size+2)=some {cls:=.type "tuple",data:=.seq #[.ref s.heap.objs.size,.ref (s.heap.objs.size+1)]}:=by
  unfold xK
  have:=Heap.get?_push_size ((s.heap.push {cls:=.type "tuple_iterator",data:=.fields #[.ref l1,.int 0 0]}).push {cls:=.type "list_iterator",data:=.fields #[.ref l2,.int 0 0]}) (o:={cls:=.type "tuple",data:=.seq #[.ref s.heap.objs.size,.ref (s.heap.objs.size+1)]}) rfl
  exact up (up (by simpa only [Heap.size_push] using this))
 have g2:(xK s.heap l1 l2).get? (s.heap.objs.size+1)=some {cls:=.type "list_iterator",data:=.fields #[.ref l2,.int 0 0]}:=by
  unfold xK
  have:=Heap.get?_push_size (s.heap.push {cls:=.type "tuple_iterator",data:=.fields #[.ref l1,.int 0 0]}) (o:={cls:=.type "list_iterator",data:=.fields #[.ref l2,.int 0 0]}) rfl
  exact up (up (up (by simpa only [Heap.size_push] using this)))
 have g1:(xK s.heap l1 l2).get? s.heap.objs.size=some {cls:=.type "tuple_iterator",data:=.fields #[.ref l1,.int 0 0]}:=up (up (up (up (Heap.get?_push_size _ rfl))))
 show _/\_
 exact ⟨⟨_,g5,rfl⟩,h _ g5 g3 g4 ⟨_,g1,rfl,rfl⟩ ⟨_,g2,rfl,rfl⟩ fun c o x=>up (up (up (up (up x))))⟩
end
noncomputable def zdC (K:PySem.W.Frag) (ta:TA):TI:=fun σ H R=>ta σ H fun vs H1=>∃ a b,vs=[.ref a,.ref b]/\(∃ xs,SqT K H1 a xs)/\(∃ ys,SqL K H1 b ys)/\R (ItZT K a b) H1
theorem zbM {X:Cx} {l r:Expr} {ta:TA} {elts:List Expr} {kx:Nat} {px p pos:Pos} (hg:Gl X "zip") (hm:X.mg "zip" = none) (ha:PA X [l,r] ta) (hs:starEach [l,r] X.env=[(false,eval l X.env),(false,eval r X.env)]:=by rfl) (hs2:starEach [r] X.env=[(false,eval r X.env)]:=by rfl) :
  PI X (.Tuple elts kx px) (.Call (.Name "zip" p) [l,r] [] pos) (zdC X.K ta):=by
 intro pins s σ H R I h
 refine Call_ (yK I hg hm boot_zip (vC (thn (ha pos pins s σ H _ I h) fun us s1 ⟨vs,H1,I1,r1,q1⟩=>?_) (by rw [hs,hs2]) (by rw [hs2];rfl)))
 obtain ⟨a,b,e,⟨xs,hq1⟩,⟨ys,hq2⟩,q⟩:=q1
 subst e
 cases r1 with
 | cons r rr =>
  cases rr with
  | cons r' rr =>
   cases rr
   cases r
   cases r'
   obtain ⟨its,rv,tp0,hz1⟩:=I1.tuple hq1
   have tp:s1.heap.IsTuple a its.toArray:=tp0
   obtain ⟨jts,rw',tq,hz2⟩:=I1.list hq2
   have alt:a<s1.heap.objs.size:=by
    obtain ⟨o,e,_⟩:=tp
    exact Heap.lt_size e
   refine Jd tp tq.isList fun h' a1 a2 a3 a4 a5 hk=>?_
   refine wpAny_pyIter_zip a1 ?_
   refine ⟨s1.heap.objs.size+4,[s1.heap.objs.size+4,s1.heap.objs.size+2,s1.heap.objs.size+3,s1.heap.objs.size,s1.heap.objs.size+1],_,_,H1,rfl,I1.kept (t':=s1.toks) hk,
    Jc a b _ _ _ _ _ (QJ _) (fun z=>absurd alt (by rw [z];exact bb.mpr (Nat.le_add_right _ _))),⟨a1,a2,⟨_,_,a3⟩,a4,a5⟩,fun c hc=>?_,q⟩
   have m:c=s1.heap.objs.size+4\/c=s1.heap.objs.size+2\/c=s1.heap.objs.size+3\/c=s1.heap.objs.size\/c=s1.heap.objs.size+1:=by simpa using hc
   have le:s1.heap.objs.size<=c:=Z9 m
   exact I1.fpOk le (I1.hok.fresh le)
theorem zai {K:PySem.W.Frag} {a b:Addr} {xs ys:List V} {g:TG} {tb:TS} {D:Ends} {σ:St} {H:Hp} (Pv:Nat->St->Hp->Prop) (hl:xs.length=ys.length) (h0:Pv 0 σ H) (hq:∀ i σ H,i<=xs.length->Pv i σ H->SqT K H a xs/\SqL K H b ys)
  (hs:∀ i x y σ H p,xs[i]?=some x->ys[i]?=some y->Pv i σ H->H p=none->g (.ref p) σ (upd H p (.tup [x,y])) fun σ2 H2=>tb {D with nx:=Pv (i+1),ct:=Pv (i+1),bk:=D.nx} σ2 H2) (hd:∀ σ H,Pv xs.length σ H->D.nx σ H) :
  ∃ W:Nat->Nat->St->Hp->Prop,(∃ m,W 0 m σ H)/\∀ i m σ H,W i m σ H ->
   ((ItZT K a b).stop i H/\D.nx σ H)\/((ItZT K a b).go i H/\∃ N:St->Hp->Prop,(∀ σ' H',N σ' H'->∃ m',m'<m/\W (i+1) m' σ' H')/\∀ x H',(ItZT K a b).yld i H x H'->g x σ H' fun σ2 H2=>tb {D with nx:=N,ct:=N,bk:=D.nx} σ2 H2):=by
 refine ⟨fun i m σ H=>m=xs.length-i/\i<=xs.length/\Pv i σ H,⟨xs.length,by simp,kP _,h0⟩,?_⟩
 rintro i m σ H ⟨rfl,hi,p⟩
 obtain ⟨z1,z2⟩:=hq i σ H hi p
 by_cases hlt:i<xs.length
 ·refine .inr ⟨⟨xs,ys,xs[i],ys[i]'(by omega),z1,z2,kb _,kb _⟩,Pv (i+1),fun σ' H' p'=>⟨xs.length-(i+1),by omega,rfl,hlt,p'⟩,fun x H' y=>?_⟩
  obtain ⟨q,u,v,hn,e,e2,y1,y2⟩:=y
  subst e e2
  exact hs i u v σ H q (y1 xs z1) (y2 ys z2) p hn
 ·have e:i=xs.length:=by omega
  subst e
  exact .inl ⟨⟨xs,ys,z1,z2,kc _⟩,hd σ H p⟩
end _L2
namespace _JJ
open PySem _L2 _Lin _Tre PySem.W
open _Sta (R Ok sbs exch reg OkS OkSs stN HasR zM Low Best tr Pc PcsA PcsD zT SetL plc)
noncomputable def nV (m:Nat):V:=.int (m:Int)
noncomputable def pq (p:Pc):List V:=[nV p.l,nV p.t,nV p.r,nV p.b]
noncomputable def PcAt (H:Hp) (v:V) (p:Pc):Prop:=∃ a,v=.ref a/\H a=some (.tup (pq p))
noncomputable def z9 (H:Hp):List V->List Pc->Prop:=Paired (PcAt H)
theorem PcAt.same {H H':Hp} (S:Same H H') {v:V} {p:Pc} (h:PcAt H v p):PcAt H' v p:=let ⟨a,e,z⟩:=h;⟨a,e,S _ _ z⟩
theorem z9.same {H H':Hp} (S:Same H H'):∀ {vs:List V} {ps:List Pc},z9 H vs ps->z9 H' vs ps
 | _,_,.nil=>.nil
 | _,_,.cons h t=>.cons (h.same S) (z9.same S t)
theorem z9.len {H:Hp} {vs:List V} {ps:List Pc} (h:z9 H vs ps):vs.length=ps.length:=Paired.length h
theorem z9.snoc {H:Hp} {vs:List V} {ps:List Pc} {v:V} {p:Pc} (h:z9 H vs ps) (r:PcAt H v p):z9 H (vs++[v]) (ps++[p]):=Paired.snoc h r
theorem z9.get {H:Hp}:∀ {vs:List V} {ps:List Pc} {i:Nat} {v:V},z9 H vs ps->vs[i]?=some v->∃ p,ps[i]?=some p/\PcAt H v p
 | _,_,_,_,.nil,e=>by simp at e
 | _,_,0,_,.cons r _,e=>by simp at e;subst e;exact ⟨_,rfl,r⟩
 | _,_,i+1,v,.cons _ t,e=>by
  obtain ⟨p,h1,h2⟩:=z9.get (i:=i) (v:=v) t (by simpa using e)
  exact ⟨p,by simpa using h1,h2⟩
noncomputable def NpAt (H:Hp) (v:V) (q:Int×Pc):Prop:=∃ a u,v=.ref a/\H a=some (.tup [.int q.1,u])/\PcAt H u q.2
noncomputable def yo (H:Hp):List V->List (Int×Pc)->Prop:=Paired (NpAt H)
theorem NpAt.same {H H':Hp} (S:Same H H') {v:V} {q:Int×Pc} (h:NpAt H v q):NpAt H' v q:=let ⟨a,u,e,z,p⟩:=h;⟨a,u,e,S _ _ z,p.same S⟩
theorem yo.same {H H':Hp} (S:Same H H'):∀ {vs:List V} {ps:List (Int×Pc)},yo H vs ps->yo H' vs ps
 | _,_,.nil=>.nil
 | _,_,.cons h t=>.cons (h.same S) (yo.same S t)
theorem yo.len {H:Hp} {vs:List V} {ps:List (Int×Pc)} (h:yo H vs ps):vs.length=ps.length:=Paired.length h
theorem yo.app {H:Hp}:∀ {vs us:List V} {ps qs:List (Int×Pc)},yo H vs ps->yo H us qs->yo H (vs++us) (ps++qs)
 | _,_,_,_,.nil,s=>s
 | _,_,_,_,.cons r t,s=>.cons r (yo.app t s)
theorem yo.upd {H:Hp} {l:Addr} {xs:List V} {o':HO} (hl:H l=some (.lst xs)):∀ {vs:List V} {ps:List (Int×Pc)},yo H vs ps->yo (upd H l o') vs ps
 | _,_,.nil=>.nil
 | _,_,.cons ⟨a,u,e,z,pa,e2,z2⟩ t=>.cons ⟨a,u,e,by rw [zy (xI z hl (by intro y;cases y))];exact z,pa,e2,by rw [zy (xI z2 hl (by intro y;cases y))];exact z2⟩ (yo.upd hl t)
theorem XC {ws:List V} (h:1<=ws.length):cutV ws none (some (-1))=ws.dropLast:=by
 unfold cutV
 rw [_HT.xj,bC,List.dropLast_eq_take]
 congr 1
 show (if (-1:Int)<0 then (-1+(ws.length:Int)).toNat else min (-1:Int).toNat ws.length)-0=ws.length-1
 rw [if_pos (by decide)]
 omega
noncomputable def jm:Sp:=fun vs H Q _=>∃ (first last:Nat) (a:Addr) (ws:List Nat),vs=[.int first,.int last,.ref a]/\H a=some (.lst (ws.map nV))/\ws.length<=1000/\∀ (l:Addr) (H':Hp),Same H H'->H' l=some (.lst ((plc first ws++[last]).map nV))->Q (.ref l) H'
structure Pts (H H0:Hp) (pa b:Addr) (ps:List T) (Ls:List R):Prop where
 parts:∃ ws,H pa=some (.tup ws)/\AtL H ws ps
 xy:∃ bvs As,H b=some (.lst bvs)/\yn H0 H bvs As/\OkSs As Ls/\∀ A∈As,A.length<=600
 two:2<=ps.length
 good:∃ nss,zH ps nss/\nss.flatten.length<=24
 small:∀ p∈ps,sz p+3<=96
 sm:Same H0 H
noncomputable def spPa:Sp:=fun vs H Q _=>∃ (pa b pp:Addr) (ps:List T) (Ls:List R) (p:Pc) (pcs:List Pc) (H0:Hp),vs=[.ref pa,.ref b,.ref pp]/\Pts H H0 pa b ps Ls/\H pp=some (.tup (pq p))/\p.t<=p.b/\PcsA Ls p.t p.b p.r ps p.l pcs/\∀ (l:Addr) (us:List V) (H':Hp),Same H H'->H' l=some (.lst us)->z9 H' us pcs->Q (.ref l) H'
noncomputable def spPd:Sp:=fun vs H Q _=>∃ (pa b pp:Addr) (ps:List T) (Ls:List R) (p:Pc) (pcs:List Pc) (H0:Hp),vs=[.ref pa,.ref b,.ref pp]/\Pts H H0 pa b ps Ls/\H pp=some (.tup (pq p))/\p.l<=p.r/\PcsD Ls p.l p.r p.b ps p.t pcs/\∀ (l:Addr) (us:List V) (H':Hp),Same H H'->H' l=some (.lst us)->z9 H' us pcs->Q (.ref l) H'
section
variable {P:Program} {w:World} {K:PySem.W.Frag} {mg:Str->Option Value} {base:Heap} {kA:Addr}
theorem ZN:zu ["first","last","lengths","places","length"] ["first","last","lengths"] (ze wQ):=⟨rfl,rfl,rfl,by decide +kernel,rfl,by decide +kernel,by decide +kernel⟩
theorem zaj {f:Addr} {fd:FuncData} (F:Fun K "edges" "edges" wQ f fd):FnOk P w K mg base CX0 1 f fd ["first","last","lengths"] jm:=by
 refine F.ok ZN (fun vs H Q E h=>?_) (fun cdv A outer s H vs Q E hr h=>?_)
 ·refine E_4 h fun first last a ws n8=>A_2 n8 fun e9 _=>?_;clear n8 h;subst e9
  rfl
 ·refine E_4 h fun first last a ws n8=>A_4 n8 fun e9 ha hn q=>?_;clear n8 h;subst e9
  refine ⟨_,(zd (zt (i:=3) ZN.nd rfl (Or.inl rfl) (z5 (za (pv 0) zb)))
   (zd (yp PassesOwn.never rfl (z7 (pv 2)) (zn (i:=4) ZN.nd rfl (Or.inl rfl))
   (zg (yi (yI vd vv vx yE (pv 3) (za (zA yl (zl zN (pv 3) (xU xw zi) (fun _ _=>rfl)) (pv 4)) zb)))))
   (zg (zm (zA j2 (pv 3) (z5 (za (pv 1) zb))))))),?_⟩
  refine ⟨_,rfl,by show 1<=sizeLine;decide,fun l nl=>?_⟩
  have S1:=zf (o:=.lst [nV first]) nl
  have hl1:(upd H l (.lst [nV first])) l=some (.lst ((plc first []).map nV)):=zc
  change tSeq _ _ _ _ (upd H l (.lst [nV first]))
  generalize upd H l (.lst [nV first])=H1 at S1 hl1
  refine run_seq ⟨_,rfl,a,rfl,⟨_,SqL.of (S1 _ _ ha)⟩,?_⟩
  refine xA (K:=K) (a:=a) (xs:=ws.map nV) (fun i σ H2=>∃ o:Option V,σ=[some (.int first),some (.int last),some (.ref a),some (.ref l),o]/\Same H H2/\H2 l=some (.lst ((plc first (ws.take i)).map nV))) ⟨none,rfl,S1,hl1⟩ (fun i σ H2 _ h9=>by obtain ⟨_,_,S,_⟩:=h9;exact (SqL.of (S _ _ ha))) ?_ ?_
  ·intro i v σ H2 hi h8
   refine E_1 h8 fun o n8=>A_3 n8 fun e9 S2 hl2=>?_;clear n8 h8;subst e9
   rw [kR] at hi
   obtain ⟨m,hm,rfl⟩:=vk.mp hi
   obtain ⟨hil,ev⟩:=kf.mp hm
   refine zB ?_
   obtain ⟨xs,ex⟩:=_Sta.XA (ws.take i) first
   have lp:=_Sta.jl first (ws.take i)
   rw [kL] at lp
   have hl3:H2 l=some (.lst (xs.map nV++[nV (first+(ws.take i).sum)])):=by rw [hl2,ex,kz];rfl
   refine ⟨_,rfl,.inl ⟨rfl,_,SqL.of hl3⟩,_,rfl,1,rfl,l,_,_,_,rfl,rfl,SqL.of hl3,jA _ _,_,rfl,_,_,rfl,rfl,l,_,_,rfl,rfl,hl2,by rw [ka];exact vc (show _<=2000 by omega) (by decide),?_⟩
   refine ⟨_,rfl,zU S2 nl,?_⟩
   rw [zc,<- ky hil,ev,_Sta.Xz,kz]
   show some (HO.lst (_++[V.int (((first+(ws.take i).sum:Nat):Int)+(m:Int))]))=some (HO.lst (_++[V.int (((first+(ws.take i).sum+m:Nat)):Int)]))
   rw [show (((first+(ws.take i).sum:Nat):Int)+(m:Int))=(((first+(ws.take i).sum+m:Nat)):Int) by omega]
  ·intro σ H2 h8
   refine E_1 h8 fun o n8=>A_3 n8 fun e9 S2 hl2=>?_;clear n8 h8;subst e9
   rw [ka,kM] at hl2
   refine ⟨_,rfl,_,rfl,by show 1<=sizeLine;decide,fun p1 np1=>?_⟩
   have S3:=zf (o:=.lst [nV last]) np1
   have hp1:(upd H2 p1 (.lst [nV last])) p1=some (.lst [nV last]):=zc
   change rCat _ _ (upd H2 p1 (.lst [nV last])) _
   generalize upd H2 p1 (.lst [nV last])=H3 at S3 hp1
   have lp:=_Sta.jl first ws
   refine I_4 l p1 _ _ ⟨rfl,rfl,S3 _ _ hl2,hp1,by rw [ka,lp];exact km (show ws.length+1+[nV last].length<=2000 by simp;omega) (by decide),fun p2 np2=>?_⟩
   have e:(plc first ws).map nV++[nV last]=(plc first ws++[last]).map nV:=by rw [kz];rfl
   rw [e]
   exact q p2 _ (S2.trans (S3.trans (zf np2))) zc
theorem scPa:zu ["parts","stairs","piece","high","widths","places"] ["parts","stairs","piece"] (ze sPa):=⟨rfl,rfl,rfl,by decide +kernel,rfl,by decide +kernel,by decide +kernel⟩
theorem zdD {f fN fS fE:Addr} {fd dN dS dE:FuncData} (F:Fun K "pieces_across" "pieces_across" sPa f fd) (gLEFT:GI mg "LEFT" 0) (gTOP:GI mg "TOP" 1) (gRIGHT:GI mg "RIGHT" 2) (gBELOW:GI mg "BELOW" 3) (tzip:mg "zip" = none) (Na:Callee P w K mg base CX0 1 "narrowest" fN dN ["stairs","high"] Xw)
  (So:Callee P w K mg base CX0 27 "stairs_of" fS dS ["tree","boxes"] (spSo 24)) (Ed:Callee P w K mg base CX0 1 "edges" fE dE ["first","last","lengths"] jm):FnOk P w K mg base CX0 28 f fd ["parts","stairs","piece"] spPa:=by
 refine F.ok scPa (fun vs H Q E h=>?_) (fun cdv A outer s H vs Q E hr h=>?_)
 ·refine E_8 h fun pa b pp ps Ls p pcs H0 n8=>A_2 n8 fun e9 _=>?_;clear n8 h;subst e9
  rfl
 ·refine E_8 h fun pa b pp ps Ls p pcs H0 n8=>A_6 n8 fun e9 hP hpp htb hA q=>?_;clear n8 h;subst e9
  refine ⟨_,(zd (zt (i:=3) scPa.nd rfl (Or.inr rfl) (zA xv (zl zw (pv 2) (zG rfl gBELOW) (fun _ _=>rfl)) (zl zw (pv 2) (zG rfl gTOP) (fun _ _=>rfl))))
   (zd (wH (i:=4) (Nc:=["part","high","stairs"]) (ix:=[none,some 3,some 1]) scPa.nd rfl (Or.inl rfl) rfl rfl (by exact (x9 (yz Qt (pv 0) xn (yr (xU xw zi))))) (fun _ _ _ _ _=>(zn (i:=0) (by show (["part","high","stairs"]:List Str).Nodup;decide +kernel) rfl (Or.inl rfl))) (fun _ _ _ _ _=>zR) (fun _ _ _ _ _=>(zj Na.ok (hr.mono (by decide)) rfl Na.bound Na.kp Na.bd .nil zx (za (zj So.ok hr rfl So.bound So.kp So.bd .nil zx (za (pv 0) (za (pv 2) zb))) (za (pv 1) zb)))))
   (zd (zt (i:=5) scPa.nd rfl (Or.inl rfl) (zj Ed.ok (hr.mono (by decide)) rfl Ed.bound Ed.kp Ed.bd .nil zx (za (zl zw (pv 2) (zG rfl gLEFT) (fun _ _=>rfl)) (za (zl zw (pv 2) (zG rfl gRIGHT) (fun _ _=>rfl)) (za (pv 4) zb)))))
   (zg (zm (zV (Nc:=["left","right","piece"]) (ix:=[none,none,some 2]) rfl rfl (by exact (qI rfl tzip (za (pv 5) (za (yz xB (pv 5) (yr zi) xn) zb)))) (fun _ _ _ _ _=>(xZ (K:=K) (n:=2) rfl rfl (zY (zn (i:=0) (by show (["left","right","piece"]:List Str).Nodup;decide +kernel) rfl (Or.inl rfl)) (zY (zn (i:=1) (by show (["left","right","piece"]:List Str).Nodup;decide +kernel) rfl (Or.inl rfl)) yW)))) (fun _ _ _ _ _=>zR) (fun _ _ _ _ _=>(yH (za (pv 0) (za (zl (yF (K:=K) rfl) (pv 2) (zG rfl gTOP) (fun _ _=>rfl)) (za (pv 1) (za (zl (yF (K:=K) rfl) (pv 2) (zG rfl gBELOW) (fun _ _=>rfl)) zb)))))))))))),?_⟩
  obtain ⟨ws,hpa,hQ⟩:=hP.parts
  obtain ⟨bvs,As,hb,hB,hO,h600⟩:=hP.xy
  obtain ⟨nss,hG,n24⟩:=hP.good
  have lq:=hQ.len
  have two:=hP.two
  have l24:ps.length<=24:=km hG.le n24
  obtain ⟨wl,lw,hw,epc⟩:=hA.ws
  refine xC (v:=.int ((p.b-p.t:Nat):Int)) (by
   rw [show ((p.b-p.t:Nat):Int)=(p.b:Int)-(p.t:Int) by omega]
   exact zQ (ya (zk rfl) zI (SqT.of hpp) rfl) (ya (zk rfl) zI (SqT.of hpp) rfl)) ?_
  refine ⟨_,rfl,1,rfl,_,rfl,pa,ws,rfl,SqT.of hpa,?_,fun pc nc=>?_⟩
  ·rw [_HT.xj]
   show ¬ (0=0/\(if (-1:Int)<0 then (-1+(ws.length:Int)).toNat else min (-1:Int).toNat ws.length)=ws.length)
   rw [if_pos (by decide)]
   omega
  rw [XC (by omega)]
  have S1:=zf (o:=.tup ws.dropLast) nc
  have hpc:(upd H pc (.tup ws.dropLast)) pc=some (.tup ws.dropLast):=zc
  generalize upd H pc (.tup ws.dropLast)=H1 at S1 hpc
  have ldl:ws.dropLast.length=wl.length:=by rw [uC];omega
  refine ⟨pc,rfl,⟨_,SqT.of hpc⟩,wI (K:=K) (a:=pc) (xs:=ws.dropLast) (fun i ys σ H2=>ys=(wl.take i).map nV/\Same H1 H2/\∃ o,σ=[o,some (.int ((p.b-p.t:Nat):Int)),some (.ref b)]) ⟨rfl,Same.refl _,none,rfl⟩
   (fun i ys σ H2 hi h9=>by obtain ⟨e,S,_⟩:=h9;exact (⟨by rw [e,ka,kL];exact km (show _<=1000 by omega) (by decide),SqT.of (S _ _ hpc)⟩)) ?_ ?_⟩
  case refine_2 =>
   rintro i y ys σ H2 hy ⟨rfl,S2,o,rfl⟩
   have hi:=(kf.mp hy).1
   have hy':ws[i]?=some y:=by
    rw [kb hi,List.getElem_dropLast] at hy
    rw [kb (by omega)]
    exact hy
   obtain ⟨tp,ep,hAp⟩:=hQ.get hy'
   have pm:tp∈ps:=kE ep
   obtain ⟨np,enp,gp⟩:=hG.get ep
   have hiw:i<wl.length:=by omega
   obtain ⟨P1,hP1,low1⟩:=hw i tp _ ep (kb hiw)
   have ln:=xH (kE enp)
   have S12:=S1.trans S2
   dsimp only [zW,tYes]
   refine iteT ?_
   refine ⟨_,rfl,_,rfl,y,tp,np,b,bvs,As,Ls,P1,H0,rfl,hAp.same S12,gp,hP1,S12 _ _ hb,hB.same S12,hO,h600,by omega,by have:=hP.small tp pm;omega,by decide,hP.sm.trans S12,fun l us A1 H3 S3 nl hl hs oA lA=>?_⟩
   refine ⟨_,rfl,l,us,A1,p.b-p.t,rfl,hl,hs,by omega,fun o4 H4 S4 low4=>?_⟩
   have e4:o4=some wl[i]:=Low.uniq (low4.of (P:=tr (reg A1)) (Q:=tr P1) fun w k=>oA.2 k w) low1
   subst e4
   refine ⟨?_,S2.trans (S3.trans S4),_,rfl⟩
   rw [<- ky hiw,kz]
   rfl
  rintro ys σ H2 ⟨rfl,S2,_⟩ lw1 nlw
  rw [ldl,kM]
  have S3:=S1.trans (S2.trans (zf (o:=.lst (wl.map nV)) nlw))
  have hlw:(upd H2 lw1 (.lst (wl.map nV))) lw1=some (.lst (wl.map nV)):=zc
  generalize upd H2 lw1 (.lst (wl.map nV))=H3 at S3 hlw
  try dsimp only
  have hpp3:=S3 _ _ hpp
  refine ⟨_,rfl,pp,_,_,_,rfl,rfl,SqT.of hpp3,rfl,_,rfl,pp,_,_,_,rfl,rfl,SqT.of hpp3,rfl,_,rfl,p.l,p.r,lw1,wl,rfl,hlw,by omega,fun lp H4 S4 hlp=>?_⟩
  have S34:=S3.trans S4
  have hpp4:=S4 _ _ hpp3
  refine ⟨_,rfl,_,rfl,_,rfl,lp,_,rfl,SqL.of hlp,fun l2 nl2=>?_⟩
  have pl:=_Sta.jl p.l wl
  have ec:cutV ((plc p.l wl++[p.r]).map nV) (some 1) none=((plc p.l wl++[p.r]).drop 1).map nV:=by
   have:=wA ((plc p.l wl++[p.r]).map nV) 1 (by rw [ka,kg];simp)
   rw [bG]
   exact this
  rw [ec]
  have S5:=zf (o:=.lst (((plc p.l wl++[p.r]).drop 1).map nV)) nl2
  have hl2:(upd H4 l2 (.lst (((plc p.l wl++[p.r]).drop 1).map nV))) l2=some (.lst (((plc p.l wl++[p.r]).drop 1).map nV)):=zc
  have hlp5:=S5 _ _ hlp
  have hpp5:=S5 _ _ hpp4
  generalize upd H4 l2 (.lst (((plc p.l wl++[p.r]).drop 1).map nV))=H5 at S5 hl2 hlp5 hpp5
  have lmin:min ((plc p.l wl++[p.r]).map nV).length (((plc p.l wl++[p.r]).drop 1).map nV).length=wl.length+1:=by
   rw [ka,ka,vh,kg,pl]
   simp
  have lz:((plc p.l wl).zip ((plc p.l wl++[p.r]).drop 1)).length=wl.length+1:=by
   rw [uO,vh,kg,pl]
   simp
  refine ⟨lp,l2,rfl,⟨_,SqL.of hlp5⟩,⟨_,SqL.of hl2⟩,qZ (K:=K) (a:=lp) (b:=l2) (xs:=(plc p.l wl++[p.r]).map nV) (ys:=((plc p.l wl++[p.r]).drop 1).map nV) (fun i ys σ H6=>z9 H6 ys ((((plc p.l wl).zip ((plc p.l wl++[p.r]).drop 1)).take i).map fun q=>⟨q.1,p.t,q.2,p.b⟩)/\Same H5 H6/\∃ o o2,σ=[o,o2,some (.ref pp)]) ⟨.nil,Same.refl _,none,none,rfl⟩
   (fun i ys σ H6 hi h9=>by obtain ⟨e,S,_⟩:=h9;exact (⟨by rw [e.len,ka,kL];exact km (show _<=1000 by omega) (by decide),SqL.of (S _ _ hlp5),SqL.of (S _ _ hl2)⟩)) ?_ ?_⟩
  case refine_2 =>
   intro i x y ys σ H6 tpa hx hy h8 ntp
   refine A_3 h8 fun hY S6 n8=>E_2 n8 fun o o2 e9=>?_;clear n8 h8;subst e9
   rw [kR] at hx hy
   obtain ⟨x1,hx1,rfl⟩:=vk.mp hx
   obtain ⟨y1,hy1,rfl⟩:=vk.mp hy
   have hil:i<wl.length+1:=by
    have:=(kf.mp hy1).1
    rw [vh,kg,pl] at this
    simp at this
    omega
   have hx2:(plc p.l wl)[i]?=some x1:=by
    rw [vI (by omega)] at hx1
    exact hx1
   have St:=zf (o:=.tup [nV x1,nV y1]) ntp
   have hpp6:=S6 _ _ hpp5
   refine ⟨tpa,_,rfl,SqT.of zc,rfl,_,_,rfl,_,_,rfl,rfl,?_⟩
   dsimp only [zW,tYes]
   refine iteT ?_
   generalize upd H6 tpa (.tup [nV x1,nV y1])=H7 at St
   have hpp7:=St _ _ hpp6
   refine YT (v1:=nV x1) (v2:=nV p.t) (v3:=nV y1) (v4:=nV p.b) (zk rfl) (ya (zk rfl) zI (SqT.of hpp7) rfl) (zk rfl) (ya (zk rfl) zI (SqT.of hpp7) rfl) (fun tq ntq=>?_)
   have Sq:=zf (o:=.tup [nV x1,nV p.t,nV y1,nV p.b]) ntq
   refine ⟨?_,S6.trans (St.trans Sq),_,_,rfl⟩
   have ez:((plc p.l wl).zip ((plc p.l wl++[p.r]).drop 1))[i]?=some (x1,y1):=ud.mpr ⟨hx2,hy1⟩
   obtain ⟨hzl,evz⟩:=kf.mp ez
   rw [<- ky hzl,evz,kz]
   exact (hY.same (St.trans Sq)).snoc ⟨tq,rfl,zc⟩
  rintro ys σ H6 ⟨hY,S6,_⟩ lr nlr
  rw [lmin,<- lz,kM,<- epc] at hY
  exact q lr ys _ (S34.trans (S5.trans (S6.trans (zf nlr)))) zc (hY.same (zf nlr))
end
end _JJ
namespace _JJ
open PySem _L2 _Lin _Tre PySem.W
open _Sta (R Ok sbs exch reg OkS OkSs stN HasR zM Low Best tr Pc PcsA PcsD zT SetL plc)
section
variable {P:Program} {w:World} {K:PySem.W.Frag} {mg:Str->Option Value} {base:Heap} {kA:Addr}
theorem scPd:zu ["parts","stairs","piece","wide","heights","places"] ["parts","stairs","piece"] (ze sPd):=⟨rfl,rfl,rfl,by decide +kernel,rfl,by decide +kernel,by decide +kernel⟩
theorem zdE {f fN fS fE:Addr} {fd dN dS dE:FuncData} (F:Fun K "pieces_down" "pieces_down" sPd f fd) (gLEFT:GI mg "LEFT" 0) (gTOP:GI mg "TOP" 1) (gRIGHT:GI mg "RIGHT" 2) (gBELOW:GI mg "BELOW" 3) (tzip:mg "zip" = none) (Lo:Callee P w K mg base CX0 1 "lowest" fN dN ["stairs","wide"] YE)
  (So:Callee P w K mg base CX0 27 "stairs_of" fS dS ["tree","boxes"] (spSo 24)) (Ed:Callee P w K mg base CX0 1 "edges" fE dE ["first","last","lengths"] jm):FnOk P w K mg base CX0 28 f fd ["parts","stairs","piece"] spPd:=by
 refine F.ok scPd (fun vs H Q E h=>?_) (fun cdv A outer s H vs Q E hr h=>?_)
 ·refine E_8 h fun pa b pp ps Ls p pcs H0 n8=>A_2 n8 fun e9 _=>?_;clear n8 h;subst e9
  rfl
 ·refine E_8 h fun pa b pp ps Ls p pcs H0 n8=>A_6 n8 fun e9 hP hpp htb hA q=>?_;clear n8 h;subst e9
  refine ⟨_,(zd (zt (i:=3) scPd.nd rfl (Or.inr rfl) (zA xv (zl zw (pv 2) (zG rfl gRIGHT) (fun _ _=>rfl)) (zl zw (pv 2) (zG rfl gLEFT) (fun _ _=>rfl))))
   (zd (wH (i:=4) (Nc:=["part","wide","stairs"]) (ix:=[none,some 3,some 1]) scPd.nd rfl (Or.inl rfl) rfl rfl (by exact (x9 (yz Qt (pv 0) xn (yr (xU xw zi))))) (fun _ _ _ _ _=>(zn (i:=0) (by show (["part","wide","stairs"]:List Str).Nodup;decide +kernel) rfl (Or.inl rfl))) (fun _ _ _ _ _=>zR) (fun _ _ _ _ _=>(zj Lo.ok (hr.mono (by decide)) rfl Lo.bound Lo.kp Lo.bd .nil zx (za (zj So.ok hr rfl So.bound So.kp So.bd .nil zx (za (pv 0) (za (pv 2) zb))) (za (pv 1) zb)))))
   (zd (zt (i:=5) scPd.nd rfl (Or.inl rfl) (zj Ed.ok (hr.mono (by decide)) rfl Ed.bound Ed.kp Ed.bd .nil zx (za (zl zw (pv 2) (zG rfl gTOP) (fun _ _=>rfl)) (za (zl zw (pv 2) (zG rfl gBELOW) (fun _ _=>rfl)) (za (pv 4) zb)))))
   (zg (zm (zV (Nc:=["top","below","piece"]) (ix:=[none,none,some 2]) rfl rfl (by exact (qI rfl tzip (za (pv 5) (za (yz xB (pv 5) (yr zi) xn) zb)))) (fun _ _ _ _ _=>(xZ (K:=K) (n:=2) rfl rfl (zY (zn (i:=0) (by show (["top","below","piece"]:List Str).Nodup;decide +kernel) rfl (Or.inl rfl)) (zY (zn (i:=1) (by show (["top","below","piece"]:List Str).Nodup;decide +kernel) rfl (Or.inl rfl)) yW)))) (fun _ _ _ _ _=>zR) (fun _ _ _ _ _=>(yH (za (zl (yF (K:=K) rfl) (pv 2) (zG rfl gLEFT) (fun _ _=>rfl)) (za (pv 0) (za (zl (yF (K:=K) rfl) (pv 2) (zG rfl gRIGHT) (fun _ _=>rfl)) (za (pv 1) zb)))))))))))),?_⟩
  obtain ⟨ws,hpa,hQ⟩:=hP.parts
  obtain ⟨bvs,As,hb,hB,hO,h600⟩:=hP.xy
  obtain ⟨nss,hG,n24⟩:=hP.good
  have lq:=hQ.len
  have two:=hP.two
  have l24:ps.length<=24:=km hG.le n24
  obtain ⟨wl,lw,hw,epc⟩:=hA.ws
  refine xC (v:=.int ((p.r-p.l:Nat):Int)) (by
   rw [show ((p.r-p.l:Nat):Int)=(p.r:Int)-(p.l:Int) by omega]
   exact zQ (ya (zk rfl) zI (SqT.of hpp) rfl) (ya (zk rfl) zI (SqT.of hpp) rfl)) ?_
  refine ⟨_,rfl,1,rfl,_,rfl,pa,ws,rfl,SqT.of hpa,?_,fun pc nc=>?_⟩
  ·rw [_HT.xj]
   show ¬ (0=0/\(if (-1:Int)<0 then (-1+(ws.length:Int)).toNat else min (-1:Int).toNat ws.length)=ws.length)
   rw [if_pos (by decide)]
   omega
  rw [XC (by omega)]
  have S1:=zf (o:=.tup ws.dropLast) nc
  have hpc:(upd H pc (.tup ws.dropLast)) pc=some (.tup ws.dropLast):=zc
  generalize upd H pc (.tup ws.dropLast)=H1 at S1 hpc
  have ldl:ws.dropLast.length=wl.length:=by rw [uC];omega
  refine ⟨pc,rfl,⟨_,SqT.of hpc⟩,wI (K:=K) (a:=pc) (xs:=ws.dropLast) (fun i ys σ H2=>ys=(wl.take i).map nV/\Same H1 H2/\∃ o,σ=[o,some (.int ((p.r-p.l:Nat):Int)),some (.ref b)]) ⟨rfl,Same.refl _,none,rfl⟩
   (fun i ys σ H2 hi h9=>by obtain ⟨e,S,_⟩:=h9;exact (⟨by rw [e,ka,kL];exact km (show _<=1000 by omega) (by decide),SqT.of (S _ _ hpc)⟩)) ?_ ?_⟩
  case refine_2 =>
   rintro i y ys σ H2 hy ⟨rfl,S2,o,rfl⟩
   have hi:=(kf.mp hy).1
   have hy':ws[i]?=some y:=by
    rw [kb hi,List.getElem_dropLast] at hy
    rw [kb (by omega)]
    exact hy
   obtain ⟨tp,ep,hAp⟩:=hQ.get hy'
   have pm:tp∈ps:=kE ep
   obtain ⟨np,enp,gp⟩:=hG.get ep
   have hiw:i<wl.length:=by omega
   obtain ⟨P1,hP1,low1⟩:=hw i tp _ ep (kb hiw)
   have ln:=xH (kE enp)
   have S12:=S1.trans S2
   dsimp only [zW,tYes]
   refine iteT ?_
   refine ⟨_,rfl,_,rfl,y,tp,np,b,bvs,As,Ls,P1,H0,rfl,hAp.same S12,gp,hP1,S12 _ _ hb,hB.same S12,hO,h600,by omega,by have:=hP.small tp pm;omega,by decide,hP.sm.trans S12,fun l us A1 H3 S3 nl hl hs oA lA=>?_⟩
   refine ⟨_,rfl,l,us,A1,p.r-p.l,rfl,hl,hs,by omega,fun o4 H4 S4 low4=>?_⟩
   have e4:o4=some wl[i]:=Low.uniq (low4.of (P:=reg A1) (Q:=P1) fun w k=>oA.2 w k) low1
   subst e4
   refine ⟨?_,S2.trans (S3.trans S4),_,rfl⟩
   rw [<- ky hiw,kz]
   rfl
  rintro ys σ H2 ⟨rfl,S2,_⟩ lw1 nlw
  rw [ldl,kM]
  have S3:=S1.trans (S2.trans (zf (o:=.lst (wl.map nV)) nlw))
  have hlw:(upd H2 lw1 (.lst (wl.map nV))) lw1=some (.lst (wl.map nV)):=zc
  generalize upd H2 lw1 (.lst (wl.map nV))=H3 at S3 hlw
  try dsimp only
  have hpp3:=S3 _ _ hpp
  refine ⟨_,rfl,pp,_,_,_,rfl,rfl,SqT.of hpp3,rfl,_,rfl,pp,_,_,_,rfl,rfl,SqT.of hpp3,rfl,_,rfl,p.t,p.b,lw1,wl,rfl,hlw,by omega,fun lp H4 S4 hlp=>?_⟩
  have S34:=S3.trans S4
  have hpp4:=S4 _ _ hpp3
  refine ⟨_,rfl,_,rfl,_,rfl,lp,_,rfl,SqL.of hlp,fun l2 nl2=>?_⟩
  have pl:=_Sta.jl p.t wl
  have ec:cutV ((plc p.t wl++[p.b]).map nV) (some 1) none=((plc p.t wl++[p.b]).drop 1).map nV:=by
   have:=wA ((plc p.t wl++[p.b]).map nV) 1 (by rw [ka,kg];simp)
   rw [bG]
   exact this
  rw [ec]
  have S5:=zf (o:=.lst (((plc p.t wl++[p.b]).drop 1).map nV)) nl2
  have hl2:(upd H4 l2 (.lst (((plc p.t wl++[p.b]).drop 1).map nV))) l2=some (.lst (((plc p.t wl++[p.b]).drop 1).map nV)):=zc
  have hlp5:=S5 _ _ hlp
  have hpp5:=S5 _ _ hpp4
  generalize upd H4 l2 (.lst (((plc p.t wl++[p.b]).drop 1).map nV))=H5 at S5 hl2 hlp5 hpp5
  have lmin:min ((plc p.t wl++[p.b]).map nV).length (((plc p.t wl++[p.b]).drop 1).map nV).length=wl.length+1:=by
   rw [ka,ka,vh,kg,pl]
   simp
  have lz:((plc p.t wl).zip ((plc p.t wl++[p.b]).drop 1)).length=wl.length+1:=by
   rw [uO,vh,kg,pl]
   simp
  refine ⟨lp,l2,rfl,⟨_,SqL.of hlp5⟩,⟨_,SqL.of hl2⟩,qZ (K:=K) (a:=lp) (b:=l2) (xs:=(plc p.t wl++[p.b]).map nV) (ys:=((plc p.t wl++[p.b]).drop 1).map nV) (fun i ys σ H6=>z9 H6 ys ((((plc p.t wl).zip ((plc p.t wl++[p.b]).drop 1)).take i).map fun q=>⟨p.l,q.1,p.r,q.2⟩)/\Same H5 H6/\∃ o o2,σ=[o,o2,some (.ref pp)]) ⟨.nil,Same.refl _,none,none,rfl⟩
   (fun i ys σ H6 hi h9=>by obtain ⟨e,S,_⟩:=h9;exact (⟨by rw [e.len,ka,kL];exact km (show _<=1000 by omega) (by decide),SqL.of (S _ _ hlp5),SqL.of (S _ _ hl2)⟩)) ?_ ?_⟩
  case refine_2 =>
   intro i x y ys σ H6 tpa hx hy h8 ntp
   refine A_3 h8 fun hY S6 n8=>E_2 n8 fun o o2 e9=>?_;clear n8 h8;subst e9
   rw [kR] at hx hy
   obtain ⟨x1,hx1,rfl⟩:=vk.mp hx
   obtain ⟨y1,hy1,rfl⟩:=vk.mp hy
   have hil:i<wl.length+1:=by
    have:=(kf.mp hy1).1
    rw [vh,kg,pl] at this
    simp at this
    omega
   have hx2:(plc p.t wl)[i]?=some x1:=by
    rw [vI (by omega)] at hx1
    exact hx1
   have St:=zf (o:=.tup [nV x1,nV y1]) ntp
   have hpp6:=S6 _ _ hpp5
   refine ⟨tpa,_,rfl,SqT.of zc,rfl,_,_,rfl,_,_,rfl,rfl,?_⟩
   dsimp only [zW,tYes]
   refine iteT ?_
   generalize upd H6 tpa (.tup [nV x1,nV y1])=H7 at St
   have hpp7:=St _ _ hpp6
   refine YT (v1:=nV p.l) (v2:=nV x1) (v3:=nV p.r) (v4:=nV y1) (ya (zk rfl) zI (SqT.of hpp7) rfl) (zk rfl) (ya (zk rfl) zI (SqT.of hpp7) rfl) (zk rfl) (fun tq ntq=>?_)
   have Sq:=zf (o:=.tup [nV p.l,nV x1,nV p.r,nV y1]) ntq
   refine ⟨?_,S6.trans (St.trans Sq),_,_,rfl⟩
   have ez:((plc p.t wl).zip ((plc p.t wl++[p.b]).drop 1))[i]?=some (x1,y1):=ud.mpr ⟨hx2,hy1⟩
   obtain ⟨hzl,evz⟩:=kf.mp ez
   rw [<- ky hzl,evz,kz]
   exact (hY.same (St.trans Sq)).snoc ⟨tq,rfl,zc⟩
  rintro ys σ H6 ⟨hY,S6,_⟩ lr nlr
  rw [lmin,<- lz,kM,<- epc] at hY
  exact q lr ys _ (S34.trans (S5.trans (S6.trans (zf nlr)))) zc (hY.same (zf nlr))
noncomputable def spPo:Sp:=fun vs H Q _=>∃ (x:V) (k:Str) (b pp:Addr) (ps:List T) (nss:List (List Int)) (bvs:List V) (As:List Stc) (Ls:List R) (p:Pc) (pcs:List Pc) (H0:Hp),vs=[x,.ref b,.ref pp]/\At H x (.tup [.str k,.tup ps])/\zH ps nss/\nss.flatten.length<=24/\2<=ps.length/\sz (.tup [.str k,.tup ps])<=96/\H b=some (.lst bvs)/\yn H0 H bvs As/\OkSs As Ls/\(∀ A∈As,A.length<=600)/\Same H0 H/\H pp=some (.tup (pq p))/\p.l<=p.r/\p.t<=p.b /\
 ((k=bar/\PcsA Ls p.t p.b p.r ps p.l pcs)\/(k=dash/\PcsD Ls p.l p.r p.b ps p.t pcs))/\∀ (l:Addr) (us:List V) (H':Hp),Same H H'->H' l=some (.lst us)->z9 H' us pcs->Q (.ref l) H'
theorem scPo:zu ["tree","stairs","piece"] ["tree","stairs","piece"] (ze sPo):=⟨rfl,rfl,rfl,by decide +kernel,rfl,by decide +kernel,by decide +kernel⟩
theorem zdF {f fA fD:Addr} {fd dA dD:FuncData} (F:Fun K "pieces_of" "pieces_of" sPo f fd) (gKIND:GI mg "KIND" 0) (gPARTS:GI mg "PARTS" 1) (Z:Ns K mg) (Pa:Callee P w K mg base CX0 28 "pieces_across" fA dA ["parts","stairs","piece"] spPa)
  (Pd:Callee P w K mg base CX0 28 "pieces_down" fD dD ["parts","stairs","piece"] spPd):FnOk P w K mg base CX0 29 f fd ["tree","stairs","piece"] spPo:=by
 obtain ⟨gWIDE,gHIGH,gMOST_WORDS,gACROSS,tl,ti,tlist,tall,tmax,trev,_,_,_,_,_,_⟩:=Z
 refine F.ok scPo (fun vs H Q E h=>?_) (fun cdv A outer s H vs Q E hr h=>?_)
 ·refine E_12 h fun x k b pp ps nss bvs As Ls p pcs H0 n8=>A_2 n8 fun e9 _=>?_;clear n8 h;subst e9
  rfl
 ·refine E_12 h fun x k b pp ps nss bvs As Ls p pcs H0 n8=>A_16 n8 fun e9 hA hG n24 two hz hb hB hO h600 S0 hpp le1 le2 hk q=>?_;clear n8 h;subst e9
  refine ⟨_,(zd (zJ (zD xx (zl zw (pv 0) (zG rfl gKIND) (fun _ _=>rfl)) (zaS rfl gACROSS) (zE _))
   (zg (zm (zj Pa.ok hr rfl Pa.bound Pa.kp Pa.bd .nil zx (za (zl zw (pv 0) (zG rfl gPARTS) (fun _ _=>rfl)) (za (pv 1) (za (pv 2) zb))))))
   zF)
   (zg (zm (zj Pd.ok hr rfl Pd.bound Pd.kp Pd.bd .nil zx (za (zl zw (pv 0) (zG rfl gPARTS) (fun _ _=>rfl)) (za (pv 1) (za (pv 2) zb))))))),?_⟩
  cases hA with
  | @tup a0 vs0 ss e hL =>
  obtain ⟨b0,ws,rfl,e2,hQ⟩:=hL.knot
  have hPts:Pts H H0 b0 b ps Ls:=⟨⟨ws,e2,hQ⟩,⟨bvs,As,hb,hB,hO,h600⟩,two,⟨nss,hG,n24⟩,fun p hp=>by
   have:=y9 k ps
   have:=wS two hp
   omega,S0⟩
  refine ⟨_,rfl,a0,_,_,_,rfl,rfl,SqT.of e,rfl,rfl,_,rfl,?_⟩
  have ek:decide (V.str k=V.str "|")=decide (k=bar):=by
   rw [decide_eq_decide]
   exact ⟨fun z=>by injection z,fun z=>by rw [z];rfl⟩
  rw [ek]
  rcases hk with ⟨rfl,hA⟩ | ⟨rfl,hD⟩
  ·rw [decide_eq_true rfl]
   refine iteT ?_
   refine ⟨_,rfl,a0,_,_,_,rfl,rfl,SqT.of e,rfl,_,rfl,_,rfl,b0,b,pp,ps,Ls,p,pcs,H0,rfl,hPts,hpp,le2,hA,q⟩
  ·rw [decide_eq_false wp]
   refine iteF ?_
   refine zS ?_
   dsimp only
   refine ⟨_,rfl,a0,_,_,_,rfl,rfl,SqT.of e,rfl,_,rfl,_,rfl,b0,b,pp,ps,Ls,p,pcs,H0,rfl,hPts,hpp,le1,hD,q⟩
end
end _JJ
namespace _Sta
open _Tre _Lin
theorem SetL.get {Ls:List R}:∀ {ts:List T} {pcs:List Pc} {res:List (List (Int×Pc))} {i:Nat} {t:T},SetL Ls ts pcs res->ts[i]?=some t->∃ p a,pcs[i]?=some p/\res[i]?=some a/\zT Ls t p a
 | _,_,_,_,_,.nil,e=>by simp at e
 | _,_,_,0,_,.cons h _,e=>by simp at e;subst e;exact ⟨_,_,rfl,rfl,h⟩
 | _,_,_,i+1,t,.cons _ r,e=>by
  obtain ⟨p,a,h1,h2,h3⟩:=SetL.get (i:=i) (t:=t) r (by simpa using e)
  exact ⟨p,a,by simpa using h1,by simpa using h2,h3⟩
theorem SetL.len {Ls:List R}:∀ {ts:List T} {pcs:List Pc} {res:List (List (Int×Pc))},SetL Ls ts pcs res->res.length=ts.length/\pcs.length=ts.length
 | _,_,_,.nil=>⟨rfl,rfl⟩
 | _,_,_,.cons _ r=>by simp only [kH];exact ⟨by rw [r.len.1],by rw [r.len.2]⟩
theorem Je {α:Type} (L:List (List α)) (i:Nat):(L.take i).flatten.length<=L.flatten.length:=by
 have:=congrArg (fun z=>(List.flatten z).length) (u8 i L)
 simp only [vM,kg] at this
 omega
theorem SetL.sizes {Ls:List R} {ts:List T} {pcs:List Pc} {res:List (List (Int×Pc))} {nss:List (List Int)} (g:zH ts nss) (h:SetL Ls ts pcs res):res.flatten.length=nss.flatten.length:=by
 rw [<- SetL.keys g h,<- List.map_flatten,ka]
noncomputable def PcOk (p:Pc):Prop:=p.l<=p.r/\p.t<=p.b
theorem zaV {Ls:List R} (hL:∀ L∈Ls,Up L) {t:T} {P:R} {p:Pc} (h:HasR Ls t P) (m:Rm P p):PcOk p:=by
 have:=(HasR.up hL h).pos m
 exact ⟨by omega,by omega⟩
end _Sta
namespace _JJ
open PySem _L2 _Lin _Tre PySem.W
open _Sta (R Ok sbs exch reg OkS OkSs stN HasR zM Low Best tr Pc PcsA PcsD zT SetL plc PcOk)
theorem z9.upd {H:Hp} {l:Addr} {xs:List V} {o':HO} (hl:H l=some (.lst xs)):∀ {vs:List V} {ps:List Pc},z9 H vs ps->z9 (upd H l o') vs ps
 | _,_,.nil=>.nil
 | _,_,.cons ⟨a,e,z⟩ t=>.cons ⟨a,e,by rw [zy (xI z hl (by intro y;cases y))];exact z⟩ (z9.upd hl t)
noncomputable def jn (d:Nat):Sp:=fun vs H Q _=>∃ (x:V) (t:T) (n:List Int) (b pp:Addr) (bvs:List V) (As:List Stc) (Ls:List R) (p:Pc) (res:List (Int×Pc)) (H0:Hp),vs=[x,.ref b,.ref pp]/\At H x t/\Good t n/\n.length<=24/\sz t+3<=4*d/\d<=24/\H b=some (.lst bvs)/\yn H0 H bvs As/\OkSs As Ls/\(∀ A∈As,A.length<=600)/\(∀ L∈Ls,_Sta.Up L)/\Same H0 H/\H pp=some (.tup (pq p))/\PcOk p /\
 zT Ls t p res/\∀ (l:Addr) (us:List V) (H':Hp),Same H H'->H' l=some (.lst us)->yo H' us res->Q (.ref l) H'
section
variable {P:Program} {w:World} {K:PySem.W.Frag} {mg:Str->Option Value} {base:Heap} {kA:Addr}
theorem wV:zu ["tree","stairs","piece","found","part","own"] ["tree","stairs","piece"] (ze xN):=⟨rfl,rfl,rfl,by decide +kernel,rfl,by decide +kernel,by decide +kernel⟩
theorem zbN {f:Addr} {fd:FuncData} (F:Fun K "set_in" "set_in" xN f fd):FnOk P w K mg base CX0 30 f fd ["tree","stairs","piece"] (jn 0):=by
 refine F.ok wV (fun vs H Q E h=>?_) (fun cdv A outer s H vs Q E hr h=>?_)
 ·refine E_11 h fun x t n b pp bvs As Ls p res H0 n8=>A_2 n8 fun e9 _=>?_;clear n8 h;subst e9
  rfl
 ·refine E_11 h fun x t n b pp bvs As Ls p res H0 n8=>A_6 n8 fun e9 _ _ _ hz _=>?_;clear n8 h;subst e9
  omega
theorem zbO {f fW fP:Addr} {fd dW dP:FuncData} {d:Nat} (F:Fun K "set_in" "set_in" xN f fd) (gPARTS:GI mg "PARTS" 1) (tzip:mg "zip" = none) (Wo:Callee P w K mg base CX0 1 "is_whole" fW dW ["thing"] xG)
  (Po:Callee P w K mg base CX0 29 "pieces_of" fP dP ["tree","stairs","piece"] spPo) (Se:Callee P w K mg base CX0 (d+30) "set_in" f fd ["tree","stairs","piece"] (jn d)):FnOk P w K mg base CX0 (d+31) f fd ["tree","stairs","piece"] (jn (d+1)):=by
 refine F.ok wV (fun vs H Q E h=>?_) (fun cdv A outer s H vs Q E hr h=>?_)
 ·refine E_11 h fun x t n b pp bvs As Ls p res H0 n8=>A_2 n8 fun e9 _=>?_;clear n8 h;subst e9
  rfl
 ·refine E_11 h fun x t n b pp bvs As Ls p res H0 n8=>A_16 n8 fun e9 hA g n24 hz hd hb hB hO h600 hU S0 hpp pok hSI q=>?_;clear n8 h;subst e9
  refine ⟨_,(zd (zJ (yc (zj Wo.ok (hr.mono (by omega)) rfl Wo.bound Wo.kp Wo.bd .nil zx (za (pv 0) zb)))
   (zg (zm (z5 (za (yH (za (pv 0) (za (pv 2) zb))) zb))))
   zF)
   (zd (zt (i:=3) wV.nd rfl (Or.inl rfl) (z5 zb))
   (zd (yp PassesOwn.never rfl (zbM rfl tzip (za (zl zw (pv 0) (zG rfl gPARTS) (fun _ _=>rfl)) (za (zj Po.ok (hr.mono (by omega)) rfl Po.bound Po.kp Po.bd .nil zx (za (pv 0) (za (pv 1) (za (pv 2) zb)))) zb))) (jX rfl (zY (zn (i:=4) wV.nd rfl (Or.inl rfl)) (zY (zn (i:=5) wV.nd rfl (Or.inl rfl)) yW)))
   (zg (yi (yI vd uH uI Qy (pv 3) (za (zj Se.ok hr rfl Se.bound Se.kp Se.bd .nil zx (za (pv 4) (za (pv 1) (za (pv 5) zb)))) zb)))))
   (zg (zm (pv 3)))))),?_⟩
  refine ⟨_,rfl,x,t,rfl,hA,_,rfl,?_⟩
  cases g with
  | leaf i =>
   cases hA
   cases hSI
   refine iteT ?_
   refine ⟨_,rfl,_,rfl,by show 2<=sizeLine;decide,fun pt npt=>?_⟩
   have St:=zf (o:=.tup [.int i,.ref pp]) npt
   have hpt:(upd H pt (.tup [.int i,.ref pp])) pt=some (.tup [.int i,.ref pp]):=zc
   generalize upd H pt (.tup [.int i,.ref pp])=H1 at St hpt
   refine ⟨by show 1<=sizeLine;decide,fun l nl=>?_⟩
   have Sl:=zf (o:=.lst [.ref pt]) nl
   exact q l _ _ (St.trans Sl) zc (.cons ⟨pt,.ref pp,rfl,Sl _ _ hpt,pp,rfl,(St.trans Sl) _ _ hpp⟩ .nil)
  | @node k ps nss hk h2 hn hG =>
   obtain ⟨pcs,ress,hcut,hSL,rfl⟩ : ∃ pcs ress,((k=bar/\PcsA Ls p.t p.b p.r ps p.l pcs)\/(k=dash/\PcsD Ls p.l p.r p.b ps p.t pcs))/\SetL Ls ps pcs ress/\res=ress.flatten:=by
    cases hSI with
    | bar h r=>exact ⟨_,_,.inl ⟨rfl,h⟩,r,rfl⟩
    | dash h r=>exact ⟨_,_,.inr ⟨rfl,h⟩,r,rfl⟩
   have hpc:∀ (i:Nat) (t:T) (q:Pc),ps[i]?=some t->pcs[i]?=some q->PcOk q:=fun i t q e1 e2=>by
    rcases hcut with ⟨_,h⟩ | ⟨_,h⟩
    ·obtain ⟨_,_,P1,h1,h2⟩:=h.rm e1 e2
     exact _Sta.zaV hU h1 h2
    ·obtain ⟨_,_,P1,h1,h2⟩:=h.rm e1 e2
     exact _Sta.zaV hU h1 h2
   have hA0:=hA
   cases hA with
   | @tup a0 vs0 ss e hL =>
   obtain ⟨b0,ws,rfl,e2,hQ⟩:=hL.knot
   have lq:=hQ.len
   have nsz:=y9 k ps
   have lps:=xp ps
   have hlen:=hSL.len
   have hsize:=hSL.sizes hG
   refine iteF ?_
   refine zS ?_
   dsimp only
   refine ⟨by decide,fun l nl=>?_⟩
   have S1:=zf (o:=.lst []) nl
   have hl1:(upd H l (.lst [])) l=some (.lst []):=zc
   change tSeq _ _ _ _ (upd H l (.lst []))
   generalize upd H l (.lst [])=H1 at S1 hl1
   refine run_seq ?_
   refine ⟨_,rfl,a0,_,_,_,rfl,rfl,SqT.of (S1 _ _ e),rfl,_,rfl,_,rfl,_,rfl,.ref a0,k,b,pp,ps,nss,bvs,As,Ls,p,pcs,H0,rfl,hA0.same S1,hG,n24,h2,by omega,S1 _ _ hb,hB.same S1,hO,h600,S0.trans S1,S1 _ _ hpp,pok.1,pok.2,hcut,fun lpc us H2 S2 hlpc hPc=>?_⟩
   have S12:=S1.trans S2
   have lus:us.length=ps.length:=by rw [hPc.len,hlen.2]
   have hll:lpc≠l:=fun z=>by
    rw [z,S2 _ _ hl1] at hlpc
    injection hlpc with z2
    injection z2 with z3
    rw [<- z3] at lus
    simp at lus
    omega
   refine ⟨b0,lpc,rfl,⟨_,SqT.of (S12 _ _ e2)⟩,⟨_,SqL.of hlpc⟩,?_⟩
   refine zai (K:=K) (a:=b0) (b:=lpc) (xs:=ws) (ys:=us) (fun i σ H3=>∃ (o1 o2:Option V) (vs:List V),σ=[some (.ref a0),some (.ref b),some (.ref pp),some (.ref l),o1,o2]/\Same H H3/\H3 l=some (.lst vs)/\yo H3 vs (ress.take i).flatten/\H3 lpc=some (.lst us)/\z9 H3 us pcs) (by omega) ⟨none,none,[],rfl,S12,S2 _ _ hl1,.nil,hlpc,hPc⟩
    (fun i σ H3 hi h9=>by obtain ⟨_,_,_,_,S3,_,_,z,_⟩:=h9;exact (⟨SqT.of (S3 _ _ e2),SqL.of z⟩)) ?_ ?_
   ·intro i x1 y1 σ H3 tp hx hy h8 ntp
    refine E_3 h8 fun o1 o2 vs n8=>A_6 n8 fun e9 S3 hl3 hN hlp3 hPc3=>?_;clear n8 h8;subst e9
    obtain ⟨t1,et,hAt⟩:=hQ.get hx
    obtain ⟨p1,r1,ep,er,hS1⟩:=hSL.get et
    obtain ⟨p1',ep',pa1,rfl,hpa1⟩:=hPc3.get hy
    have e1:p1'=p1:=by rw [ep] at ep';injection ep' with z;exact z.symm
    subst e1
    obtain ⟨n1,en,gn⟩:=hG.get et
    have pm:t1∈ps:=kE et
    have two:=wS h2 pm
    have ln:=xH (kE en)
    have St:=zf (o:=.tup [x1,.ref pa1]) ntp
    refine ⟨tp,_,rfl,SqT.of zc,rfl,_,_,rfl,_,_,rfl,rfl,?_⟩
    generalize upd H3 tp (.tup [x1,.ref pa1])=H4 at St
    have S4:=S3.trans St
    refine ⟨_,rfl,.inl ⟨rfl,_,SqL.of (St _ _ hl3)⟩,_,rfl,_,rfl,_,rfl,x1,t1,n1,b,pa1,bvs,As,Ls,p1',r1,H0,rfl,hAt.same S4,gn,by omega,by omega,by omega,S4 _ _ hb,hB.same S4,hO,h600,hU,S0.trans S4,St _ _ hpa1,hpc i t1 p1' et ep,hS1,fun l5 us5 H5 S5 hl5 hN5=>?_⟩
    have hl5':=S5 _ _ (St _ _ hl3)
    have lr:us5.length=n1.length:=by rw [hN5.len,<- zT.keys gn hS1,ka]
    have lv:vs.length<=24:=by
     rw [hN.len]
     have:=_Sta.Je ress i
     omega
    refine I_4 l l5 vs us5 ⟨rfl,rfl,hl5',hl5,km (show _<=48 by omega) (by decide),?_⟩
    obtain ⟨hir,evr⟩:=kf.mp er
    refine ⟨_,_,_,rfl,zU (S4.trans S5) nl,zc,?_,?_,?_⟩
    ·rw [<- ky hir,evr,vM,u4]
     exact (((hN.same St).same S5).upd hl5').app (hN5.upd hl5')
    ·rw [zy hll]
     exact S5 _ _ (St _ _ hlp3)
    ·exact ((hPc3.same St).same S5).upd hl5'
   ·intro σ H3 h8
    refine E_3 h8 fun o1 o2 vs n8=>A_6 n8 fun e9 S3 hl3 hN _ _=>?_;clear n8 h8;subst e9
    rw [lq,<- hlen.1,kM] at hN
    exact ⟨_,rfl,q l vs H3 S3 hl3 hN⟩
theorem Jf {f fW fP:Addr} {fd dW dP:FuncData} (F:Fun K "set_in" "set_in" xN f fd) (gPARTS:GI mg "PARTS" 1) (tzip:mg "zip" = none) (Wo:Callee P w K mg base CX0 1 "is_whole" fW dW ["thing"] xG)
  (Po:Callee P w K mg base CX0 29 "pieces_of" fP dP ["tree","stairs","piece"] spPo) (bo:mg "set_in" = some (.ref f)) (kp:kD K (.ref f)=true) (bd:Binds K fd ["tree","stairs","piece"] []):∀ d,FnOk P w K mg base CX0 (d+30) f fd ["tree","stairs","piece"] (jn d)
 | 0=>zbN F
 | d+1=>zbO F gPARTS tzip Wo Po ⟨Jf F gPARTS tzip Wo Po bo kp bd d,bo,kp,bd⟩
end
end _JJ
namespace _JJ
open PySem _L2 _Lin _Tre PySem.W
open _Sta (R Ok sbs exch reg OkS OkSs stN HasR zM Low Best tr Pc PcsA PcsD zT SetL plc PcOk)
theorem zak {m n:Nat} {p:Array Nat} {ks:List Int} (o:_Srt.Ord m p) (hl:ks.length=m) (pm:ks.Perm (up n)) (u:_Srt.Up (fun i=>ks.getD i 0) p m):p.toList.map (fun i=>ks.getD i 0)=up n:=by
 have lz:p.size=m:=o.sz
 have p1:(p.toList.map (fun i=>ks.getD i 0)).Perm ks:=by
  have q1:p.toList.Perm (kQ m):=by
   have:=o.pm
   rw [Array.perm_iff_toList_perm] at this
   exact this
  have q2:=q1.map (fun i=>ks.getD i 0)
  have e:(kQ m).map (fun i=>ks.getD i 0)=ks:=by
   apply vZ
   ·rw [ka,vi,hl]
   ·intro i h1 h2
    rw [vN,vX,_L2.getD_at h2]
  rw [e] at q2
  exact q2
 have s1:(p.toList.map (fun i=>ks.getD i 0)).Pairwise (· <= ·):=by
  rw [List.pairwise_iff_getElem]
  intro i j hi hj hij
  rw [ka,Array.length_toList,lz] at hi hj
  have key:∀ k,k<m->∀ h,(p.toList.map (fun i=>ks.getD i 0))[k]'h=_Srt.kv (fun i=>ks.getD i 0) p k:=by
   intro k hk h
   have e:p.toList[k]'(by rw [Array.length_toList,lz];exact hk)=p.getD k 0:=by simp [Array.getD,lz,hk]
   rw [vN,e]
   rfl
  rw [key i hi,key j hj]
  exact u.le (by omega) hj
 exact List.Perm.eq_of_pairwise (fun _ _ _ _ a b=>bj a b) s1 (Yf n) (p1.trans pm)
noncomputable def pc0:Pc:=⟨0,0,0,0⟩
theorem yo.get {H:Hp}:∀ {vs:List V} {ps:List (Int×Pc)} {i:Nat} {v:V},yo H vs ps->vs[i]?=some v->∃ p,ps[i]?=some p/\NpAt H v p
 | _,_,_,_,.nil,e=>by simp at e
 | _,_,0,_,.cons r _,e=>by simp at e;subst e;exact ⟨_,rfl,r⟩
 | _,_,i+1,v,.cons _ t,e=>by
  obtain ⟨p,h1,h2⟩:=yo.get (i:=i) (v:=v) t (by simpa using e)
  exact ⟨p,by simpa using h1,h2⟩
theorem XD {H:Hp} {vs:List V} {res:List (Int×Pc)} (h:yo H vs res):∀ (l:List Nat),(∀ i∈l,i<res.length)->yo H (l.map fun i=>vs.getD i .non) (l.map fun i=>res.getD i (0,pc0))
 | [],_=>.nil
 | i::ls,hl=>by
  have hi:=hl i kh
  have hv:i<vs.length:=by rw [h.len];exact hi
  obtain ⟨q,e,r⟩:=h.get (kb hv)
  refine .cons ?_ (XD h ls fun j hj=>hl j (kj _ hj))
  have e1:res.getD i (0,pc0)=q:=by rw [ko,e];rfl
  show NpAt H (vs.getD i .non) (res.getD i (0,pc0))
  rw [e1,_L2.getD_at hv]
  exact r
theorem XE {H:Hp}:∀ {vs:List V} {res:List (Int×Pc)},yo H vs res->∃ rest:List (List V),rest.length=vs.length/\∀ (i:Nat) (x:V) (n:Int) (r:List V),vs[i]?=some x->(res.map (·.1))[i]?=some n->rest[i]?=some r->∃ p,x=.ref p/\H p=some (.tup (.int n::r))/\r.length=1
 | _,_,.nil=>⟨[],rfl,fun i x n r e=>by simp at e⟩
 | _,_,.cons ⟨a,u,e,z,p⟩ t=>by
  obtain ⟨rest,l,h⟩:=XE t
  refine ⟨[u]::rest,by simp only [kH,l],fun i x n r e1 e2 e3=>?_⟩
  match i,e1,e2,e3 with
  | 0,e1,e2,e3 =>
   cases e1
   cases e2
   cases e3
   exact ⟨a,e,z,rfl⟩
  | i+1,e1,e2,e3=>exact h i x n r (by simpa using e1) (by simpa using e2) (by simpa using e3)
noncomputable def YF (C4 C6 C7:Addr):Sp:=fun vs H Q E=>∃ (x y:V) (t:T) (wide:Nat),vs=[x,y,.int wide]/\At H x t/\sz t<=1000 /\
 ((∃ (n:List Int) (a:Addr) (xs:List V) (wss:List (List W)),yd t/\Good t n/\y=.ref a/\H a=some (.lst xs)/\Txs H xs wss/\xs.length=n.length/\(∀ (P:R) (k:Nat) (H':Hp),HasR (Lvs wss) t P->Same H H'->Low P wide (some k)->Q (.int k) H')/\∀ (P:R) (H':Hp),HasR (Lvs wss) t P->Same H H'->Low P wide none->E (.ref C7) none H')\/Refd C4 C6 H y t E)
noncomputable def Zh (C4 C6 C7:Addr):Sp:=fun vs H Q E=>∃ (x y:V) (t:T) (wide high:Nat),vs=[x,y,.int wide,.int high]/\At H x t/\sz t<=1000 /\
 ((∃ (n:List Int) (a:Addr) (xs:List V) (wss:List (List W)) (P:R),yd t/\Good t n/\y=.ref a/\H a=some (.lst xs)/\Txs H xs wss/\xs.length=n.length/\HasR (Lvs wss) t P /\
  ((∃ res,P wide high/\zT (Lvs wss) t ⟨0,0,wide,high⟩ res/\∀ (l:Addr) (us:List V) (pcs:List Pc) (H':Hp),Same H H'->H l=none->H' l=some (.lst us)->z9 H' us pcs->pcs.length=n.length->(∀ (i:Nat) (p:Pc),pcs[i]?=some p->((i:Int),p)∈res)->Q (.ref l) H')\/(¬ P wide high/\∀ H',Same H H'->E (.ref C7) none H')))\/Refd C4 C6 H y t E)
section
variable {P:Program} {w:World} {K:PySem.W.Frag} {mg:Str->Option Value} {base:Heap} {kA:Addr}
theorem zaW:zu ["tree","texts","wide","least"] ["tree","texts","wide"] (ze sHin):=⟨rfl,rfl,rfl,by decide +kernel,rfl,by decide +kernel,by decide +kernel⟩
theorem zcU {f fL C4 C6 C7:Addr} {fd dL:FuncData} (F:Fun K "height_in" "height_in" sHin f fd) (ex:Exc K mg "NoRoom" C7) (Lh:Callee P w K mg base (CXE P w) 29 "least_high" fL dL ["tree","texts","wide"] (spLh C4 C6)):FnOk P w K mg base (CXE P w) 30 f fd ["tree","texts","wide"] (YF C4 C6 C7):=by
 refine F.okE zaW (fun vs H Q E h=>?_) (fun cdv A outer s H vs Q E hr hh h=>?_)
 ·refine E_4 h fun x y t wide n8=>A_2 n8 fun e9 _=>?_;clear n8 h;subst e9
  rfl
 ·revert h;intro n7;refine E_4 n7 fun x y t wide n8=>A_4 n8 fun e9 hA hz h=>?_;clear n8 n7;subst e9
  refine ⟨_,(zd (zt (i:=3) zaW.nd rfl (Or.inl rfl) (zj Lh.ok hr rfl Lh.bound Lh.kp Lh.bd .nil xg (za (pv 0) (za (pv 1) (za (pv 2) zb)))))
   (zd (zJ (zD xc (pv 3) yj rfl)
   (zg (y4 ex hh rfl (za yk zb)))
   zF)
   (zg (zm (pv 3))))),?_⟩
  rcases h with ⟨n,a,xs,wss,iT,g,rfl,ha,hT,hl,q,qe⟩ | h
  ·refine ⟨_,rfl,_,rfl,_,rfl,x,.ref a,t,wide,rfl,hA,hz,.inl ⟨n,a,xs,wss,iT,g,rfl,ha,hT,hl,fun P1 o H1 hR S1 low=>?_⟩⟩
   cases o with
   | none=>exact ⟨_,rfl,rfl,_,rfl,iteT ⟨by show 1<=sizeLine;decide,qe P1 _ hR S1 low⟩⟩
   | some k=>exact ⟨_,rfl,rfl,_,rfl,iteF ⟨_,rfl,q P1 k H1 hR S1 low⟩⟩
  ·exact ⟨_,rfl,_,rfl,_,rfl,x,y,t,wide,rfl,hA,hz,.inr h⟩
theorem Yn:zu ["tree","texts","wide","high","found"] ["tree","texts","wide","high"] (ze xF):=⟨rfl,rfl,rfl,by decide +kernel,rfl,by decide +kernel,by decide +kernel⟩
theorem zbP {f fH fS fB C4 C6 C7:Addr} {fd dH dS dB:FuncData} (F:Fun K "setting" "setting" xF f fd) (ex:Exc K mg "NoRoom" C7) (ts:mg "sorted" = none) (Hi:Callee P w K mg base (CXE P w) 30 "height_in" fH dH ["tree","texts","wide"] (YF C4 C6 C7))
  (Se:Callee P w K mg base CX0 54 "set_in" fS dS ["tree","stairs","piece"] (jn 24)) (Bs:Callee P w K mg base CX0 6 "box_stairs" fB dB ["texts"] YA):FnOk P w K mg base (CXE P w) 55 f fd ["tree","texts","wide","high"] (Zh C4 C6 C7):=by
 refine F.okE Yn (fun vs H Q E h=>?_) (fun cdv A outer s H vs Q E hr hh h=>?_)
 ·refine E_5 h fun x y t wide high n8=>A_2 n8 fun e9 _=>?_;clear n8 h;subst e9
  rfl
 ·revert h;intro n7;refine E_5 n7 fun x y t wide high n8=>A_4 n8 fun e9 hA hz h=>?_;clear n8 n7;subst e9
  refine ⟨_,(zd (zJ (zD y8 (pv 3) (zj Hi.ok (hr.mono (by decide)) rfl Hi.bound Hi.kp Hi.bd .nil xg (za (pv 0) (za (pv 1) (za (pv 2) zb)))) (zE _))
   (zg (y4 ex hh rfl (za yk zb)))
   zF)
   (zd (zt (i:=4) Yn.nd rfl (Or.inl rfl) (zj Se.ok hr rfl Se.bound Se.kp Se.bd .nil zx (za (pv 0) (za (zj Bs.ok (hr.mono (by decide)) rfl Bs.bound Bs.kp Bs.bd .nil zx (za (pv 1) zb)) (za (yH (za zi (za zi (za (pv 2) (za (pv 3) zb))))) zb)))))
   (zg (zm (zV (Nc:=["number","box"]) (ix:=[none,none]) rfl rfl (by refine' z7 ?zz;case zz=>exact (JR rfl ts (pv 4))) (fun _ _ _ _ _=>(xZ (K:=K) (n:=2) rfl rfl (zY (zn (i:=0) (by show (["number","box"]:List Str).Nodup;decide +kernel) rfl (Or.inl rfl)) (zY (zn (i:=1) (by show (["number","box"]:List Str).Nodup;decide +kernel) rfl (Or.inl rfl)) yW)))) (fun _ _ _ _ _=>zR) (fun _ _ _ _ _=>(pv 1))))))),?_⟩
  rcases h with ⟨n,a,xs,wss,P1,iT,g,rfl,ha,hT,hl,hP,h⟩ | h
  ·have up1:=_Sta.HasR.up (yQ wss) hP
   refine ⟨_,rfl,_,rfl,_,rfl,_,rfl,x,.ref a,t,wide,rfl,hA,hz,.inl ⟨n,a,xs,wss,iT,g,rfl,ha,hT,hl,fun P2 k H1 hR S1 low=>?_,fun P2 H1 hR S1 low=>?_⟩⟩
   ·have eP:=_Sta.xq hR hP
    subst eP
    refine ⟨_,_,rfl,rfl,_,rfl,?_⟩
    rcases h with ⟨res,rm,hSI,q⟩ | ⟨nrm,qe⟩
    ·have hk:¬ ((high:Int)<(k:Int)):=by
      have:=low.2 high rm
      omega
     rw [decide_eq_false hk]
     refine iteF ?_
     refine zS ?_
     dsimp only
     have n24:=(iT.okN g).2
     have okw:=hT.okw
     have ok40:=hT.ok40
     have hsz:=g.szN
     have lw:=hT.len
     refine ⟨_,rfl,_,rfl,a,xs,wss,rfl,S1 _ _ ha,hT.same S1,by omega,fun lb rs H2 S2 nlb hlb hBs=>?_⟩
     refine ⟨_,rfl,_,rfl,by show 4<=sizeLine;decide,fun pp npp=>?_⟩
     have S3:=zf (o:=.tup [.int 0,.int 0,.int wide,.int high]) npp
     have hpp:(upd H2 pp (.tup [.int 0,.int 0,.int wide,.int high])) pp=some (.tup (pq ⟨0,0,wide,high⟩)):=zc
     generalize upd H2 pp (.tup [.int 0,.int 0,.int wide,.int high])=H3 at S3 hpp
     refine I_11 x t n lb pp rs (wss.map stN) (Lvs wss) ⟨0,0,wide,high⟩ res H1 ⟨rfl,hA.same (S1.trans (S2.trans S3)),g,n24,by omega,by decide,S3 _ _ hlb,hBs.same S3,Yl okw,fun A hA=>?_,yQ wss,S2.trans S3,hpp,⟨kP _,kP _⟩,hSI,fun lf us H4 S4 hlf hN=>?_⟩
     ·obtain ⟨ws,hw,rfl⟩:=kX.mp hA
      exact Wr (okw ws hw) (ok40 ws hw)
     have S14:=S1.trans (S2.trans (S3.trans S4))
     have hks:=zT.keys g hSI
     obtain ⟨yy,gy,l24,py⟩:=iT
     have e:=Good.uniq g gy
     subst e
     have lres:res.length=n.length:=by rw [<- hks,ka]
     have lus:us.length=n.length:=by rw [hN.len,lres]
     have nd:n.Nodup:=py.nodup_iff.mpr (Xn _)
     obtain ⟨rest,lrest,hrest⟩:=XE hN
     rw [hks] at hrest
     refine ⟨_,rfl,lf,us,n,rest,rfl,SqL.of hlf,by omega,by omega,lrest,nd,hrest,fun D p nD o u=>?_⟩
     rw [lus] at o u
     have eup:=zak o rfl py u
     have hps:yo H4 (p.toList.map fun i=>us.getD i .non) (p.toList.map fun i=>res.getD i (0,pc0)):=XD hN p.toList fun i hi=>by
      have m:i∈p:=by simpa using hi
      have m2:i∈(uV (kQ n.length)):=(Array.Perm.mem_iff o.pm).mp m
      rw [lres]
      simpa using m2
     have efst:(p.toList.map fun i=>res.getD i (0,pc0)).map (·.1)=up n.length:=by
      rw [<- eup,vU]
      apply ub
      intro i _
      show (res.getD i (0,pc0)).1=n.getD i 0
      rw [<- hks,ko,ko,kR]
      cases res[i]?<;>rfl
     have hmem:∀ q∈(p.toList.map fun i=>res.getD i (0,pc0)),q∈res:=fun q hq=>by
      obtain ⟨i,hi,rfl⟩:=kX.mp hq
      have m:i∈p:=by simpa using hi
      have m2:i∈(uV (kQ n.length)):=(Array.Perm.mem_iff o.pm).mp m
      have hil:i<res.length:=by rw [lres];simpa using m2
      rw [_L2.getD_at hil]
      exact vB hil
     generalize (p.toList.map fun i=>us.getD i .non)=ss at hps
     generalize (p.toList.map fun i=>res.getD i (0,pc0))=pk at hps efst hmem
     have S5:=zf (o:=.lst ss) nD
     have hD:(upd H4 D (.lst ss)) D=some (.lst ss):=zc
     have hps5:=hps.same S5
     generalize upd H4 D (.lst ss)=H5 at S5 hD hps5
     have lpk:pk.length=n.length:=by
      have:=congrArg List.length efst
      rwa [ka,xO] at this
     have lss:=hps.len
     refine ⟨D,rfl,⟨_,SqL.of hD⟩,yh (K:=K) (a:=D) (xs:=ss) (fun i ys σ H'=>z9 H' ys ((pk.take i).map (·.2))/\Same H5 H'/\∃ o o2,σ=[o,o2]) ⟨.nil,Same.refl _,none,none,rfl⟩
      (fun i ys σ H' hi h9=>by obtain ⟨h1,S3,_⟩:=h9;exact (⟨by rw [h1.len,ka,kL];exact km (show _<=1000000 by omega) (by decide),SqL.of (S3 _ _ hD)⟩)) ?_ ?_⟩
     case refine_2 =>
      intro i y ys σ H6 hy h8
      refine A_3 h8 fun hY S6 n8=>E_2 n8 fun o1 o2 e9=>?_;clear n8 h8;subst e9
      obtain ⟨q1,eq1,⟨aq,uq,rfl,zq,hq⟩⟩:=hps5.get hy
      obtain ⟨hil,ev⟩:=kf.mp eq1
      refine ⟨aq,_,rfl,SqT.of (S6 _ _ zq),rfl,_,_,rfl,_,_,rfl,rfl,?_⟩
      dsimp only [zW,tYes]
      refine iteT ⟨_,rfl,?_,S6,_,_,rfl⟩
      rw [<- ky hil,ev,kz]
      exact hY.snoc (hq.same S6)
     rintro ys σ H6 ⟨hY,S6,_⟩ lr nlr
     rw [lss,kM] at hY
     have S7:=zf (o:=.lst ys) nlr
     refine q lr ys _ _ (S14.trans (S5.trans (S6.trans S7))) ((S14.trans (S5.trans S6)).free nlr) zc (hY.same S7) (by rw [ka,lpk]) fun i p1 e1=>?_
     rw [kR] at e1
     obtain ⟨q1,eq1,rfl⟩:=vk.mp e1
     have e2:(pk.map (·.1))[i]?=some q1.1:=by rw [kR,eq1];rfl
     rw [efst] at e2
     have e3:q1.1=(i:Int):=by
      unfold up at e2
      rw [kR] at e2
      obtain ⟨j,ej,e4⟩:=vk.mp e2
      have:=(kf.mp ej).2
      rw [vX] at this
      rw [<- e4,this]
     rw [<- e3]
     exact hmem q1 (kE eq1)
    ·have hk:((high:Int)<(k:Int)):=by
      have:¬ k<=high:=fun z=>nrm (up1.up low.1 (kc _) z)
      omega
     rw [decide_eq_true hk]
     exact iteT ⟨by show 1<=sizeLine;decide,qe _ S1⟩
   ·have eP:=_Sta.xq hR hP
    subst eP
    rcases h with ⟨res,rm,_,_⟩ | ⟨_,qe⟩
    ·exact (low high rm).elim
    ·exact qe H1 S1
  ·exact ⟨_,rfl,_,rfl,_,rfl,_,rfl,x,y,t,wide,rfl,hA,hz,.inr h⟩
end
end _JJ
namespace _Sta
open _Tre _Lin
end _Sta
namespace _Sta
open PySem _L2 _Lin _Tre
mutual
theorem zT.room {Ls:List R}:∀ {t:T} {p:Pc} {res:List (Int×Pc)},zT Ls t p res->∀ {P:R},HasR Ls t P->Rm P p->∀ q∈res,0<=q.1/\∃ L,Ls[q.1.toNat]?=some L/\Rm L q.2
 | _,_,_,.leaf,P,h,rm,q,hq=>by
  rw [kq.mp hq]
  cases h with
  | leaf h0 h=>exact ⟨h0,P,h,rm⟩
 | _,_,_,.bar h r,P,_,_,q,hq=>SetL.room r (fun i t p e1 e2=>(PcsA.rm h e1 e2).2.2) q hq
 | _,_,_,.dash h r,P,_,_,q,hq=>SetL.room r (fun i t p e1 e2=>(PcsD.rm h e1 e2).2.2) q hq
theorem SetL.room {Ls:List R}:∀ {ts:List T} {pcs:List Pc} {res:List (List (Int×Pc))},SetL Ls ts pcs res->(∀ (i:Nat) (t:T) (p:Pc),ts[i]?=some t->pcs[i]?=some p->∃ P,HasR Ls t P/\Rm P p)->∀ q∈res.flatten,0<=q.1/\∃ L,Ls[q.1.toNat]?=some L/\Rm L q.2
 | _,_,_,.nil,_,q,hq=>by simp at hq
 | _,_,_,.cons h r,H,q,hq=>by
  rw [vg] at hq
  rcases ve.mp hq with z | z
  ·obtain ⟨P,hP,rm⟩:=H 0 _ _ rfl rfl
   exact zT.room h hP rm q z
  ·exact SetL.room r (fun i t p e1 e2=>H (i+1) t p (by simpa using e1) (by simpa using e2)) q z
end
end _Sta
namespace _Sta
open _Tre _Lin
noncomputable def inP (p:Pc) (x y:Nat):Bool:=decide (p.l<=x/\x<p.r/\p.t<=y/\y<p.b)
noncomputable def wthn (p q:Pc):Prop:=p.l<=q.l/\q.l<q.r/\q.r<=p.r/\p.t<=q.t/\q.t<q.b/\q.b<=p.b
theorem wthn.trans {p q s:Pc} (a:wthn p q) (b:wthn q s):wthn p s:=by
 unfold wthn at *
 omega
theorem Ww {a b c:Prop} [Decidable a] [Decidable b] [Decidable c] (h:c↔a\/b) (n:¬ (a/\b)):(if b then 1 else 0)+(if decide a=true then 1 else 0)=(if c then 1 else 0:Nat):=by
 by_cases ha:a
 ·have hb:¬ b:=fun z=>n ⟨ha,z⟩
  simp [ha,hb,h]
 ·by_cases hb:b
  ·simp [ha,hb,h]
  ·simp [ha,hb,h]
theorem PcsA.cov {Ls:List R} (hL:∀ L∈Ls,Up L) {top below right:Nat}:∀ {ts:List T} {left:Nat} {pcs:List Pc},PcsA Ls top below right ts left pcs->left<right/\top<below/\(∀ x y,pcs.countP (inP · x y)=if left<=x/\x<right/\top<=y/\y<below then 1 else 0)/\∀ q∈pcs,wthn ⟨left,top,right,below⟩ q
 | _,left,_,.one h rm=>by
  have up:=(HasR.up hL h).pos rm
  refine ⟨by omega,by omega,fun x y=>?_,fun q hq=>?_⟩
  ·rw [v8,List.countP_nil,uW]
   unfold inP
   by_cases c:left<=x/\x<right/\top<=y/\y<below
   ·rw [if_pos c,if_pos (decide_eq_true c)]
   ·rw [if_neg c,if_neg (by rw [decide_eq_false c];exact ku)]
  ·rw [kq.mp hq]
   unfold wthn
   exact ⟨kc _,by show left<right;omega,kc _,kc _,by show top<below;omega,kc _⟩
 | _,left,_,.cons (w:=w) h lw r=>by
  obtain ⟨a,b,c,d⟩:=PcsA.cov hL r
  have up:=(HasR.up hL h).pos lw.1
  refine ⟨by omega,b,fun x y=>?_,fun q hq=>?_⟩
  ·rw [v8,c]
   exact Ww (a:=left<=x/\x<left+w/\top<=y/\y<below) (by constructor<;>intro z<;>omega) (by omega)
  ·rcases kO.mp hq with rfl | z
   ·unfold wthn
    exact ⟨kc _,by show left<left+w;omega,by show left+w<=right;omega,kc _,b,kc _⟩
   ·exact wthn.trans (q:=⟨left+w,top,right,below⟩) ⟨by show left<=left+w;omega,a,kc _,kc _,b,kc _⟩ (d q z)
theorem PcsD.cov {Ls:List R} (hL:∀ L∈Ls,Up L) {left right below:Nat}:∀ {ts:List T} {top:Nat} {pcs:List Pc},PcsD Ls left right below ts top pcs->left<right/\top<below/\(∀ x y,pcs.countP (inP · x y)=if left<=x/\x<right/\top<=y/\y<below then 1 else 0)/\∀ q∈pcs,wthn ⟨left,top,right,below⟩ q
 | _,top,_,.one h rm=>by
  have up:=(HasR.up hL h).pos rm
  refine ⟨by omega,by omega,fun x y=>?_,fun q hq=>?_⟩
  ·rw [v8,List.countP_nil,uW]
   unfold inP
   by_cases c:left<=x/\x<right/\top<=y/\y<below
   ·rw [if_pos c,if_pos (decide_eq_true c)]
   ·rw [if_neg c,if_neg (by rw [decide_eq_false c];exact ku)]
  ·rw [kq.mp hq]
   unfold wthn
   exact ⟨kc _,by show left<right;omega,kc _,kc _,by show top<below;omega,kc _⟩
 | _,top,_,.cons (k:=k) h lw r=>by
  obtain ⟨a,b,c,d⟩:=PcsD.cov hL r
  have up:=(HasR.up hL h).pos lw.1
  refine ⟨a,by omega,fun x y=>?_,fun q hq=>?_⟩
  ·rw [v8,c]
   exact Ww (a:=left<=x/\x<right/\top<=y/\y<top+k) (by constructor<;>intro z<;>omega) (by omega)
  ·rcases kO.mp hq with rfl | z
   ·unfold wthn
    exact ⟨kc _,a,kc _,kc _,by show top<top+k;omega,by show top+k<=below;omega⟩
   ·exact wthn.trans (q:=⟨left,top+k,right,below⟩) ⟨kc _,a,kc _,by show top<=top+k;omega,b,kc _⟩ (d q z)
mutual
theorem zT.cov {Ls:List R} (hL:∀ L∈Ls,Up L):∀ {t:T} {p:Pc} {res:List (Int×Pc)},zT Ls t p res->p.l<p.r->p.t<p.b->(∀ x y,(res.map (·.2)).countP (inP · x y)=if p.l<=x/\x<p.r/\p.t<=y/\y<p.b then 1 else 0)/\∀ q∈res,wthn p q.2
 | _,p,_,.leaf,a,b=>⟨fun x y=>by
   show ([p]:List Pc).countP (inP · x y)=_
   rw [v8,List.countP_nil,uW]
   unfold inP
   by_cases c:p.l<=x/\x<p.r/\p.t<=y/\y<p.b
   ·rw [if_pos c,if_pos (decide_eq_true c)]
   ·rw [if_neg c,if_neg (by rw [decide_eq_false c];exact ku)],fun q hq=>by
   rw [kq.mp hq]
   exact ⟨kc _,a,kc _,kc _,b,kc _⟩⟩
 | _,p,_,.bar h r,a,b=>by
  obtain ⟨_,_,c,d⟩:=PcsA.cov hL h
  obtain ⟨e,f⟩:=SetL.cov hL r fun q hq=>d q hq
  exact ⟨fun x y=>by rw [e,c],f⟩
 | _,p,_,.dash h r,a,b=>by
  obtain ⟨_,_,c,d⟩:=PcsD.cov hL h
  obtain ⟨e,f⟩:=SetL.cov hL r fun q hq=>d q hq
  exact ⟨fun x y=>by rw [e,c],f⟩
theorem SetL.cov {Ls:List R} (hL:∀ L∈Ls,Up L) {p0:Pc}:∀ {ts:List T} {pcs:List Pc} {res:List (List (Int×Pc))},SetL Ls ts pcs res->(∀ q∈pcs,wthn p0 q)->(∀ x y,(res.flatten.map (·.2)).countP (inP · x y)=pcs.countP (inP · x y))/\∀ q∈res.flatten,wthn p0 q.2
 | _,_,_,.nil,_=>⟨fun _ _=>rfl,fun q hq=>by simp at hq⟩
 | _,_,_,.cons (p:=p) h r,H=>by
  have hp:=H p kh
  obtain ⟨c,d⟩:=zT.cov hL h hp.2.1 hp.2.2.2.2.1
  obtain ⟨e,f⟩:=SetL.cov hL r fun q hq=>H q (kj _ hq)
  refine ⟨fun x y=>?_,fun q hq=>?_⟩
  ·rw [vg,kz,List.countP_append,c,e,v8,Nat.add_comm]
   congr 1
   unfold inP
   by_cases z:p.l<=x/\x<p.r/\p.t<=y/\y<p.b
   ·rw [if_pos z,if_pos (decide_eq_true z)]
   ·rw [if_neg z,if_neg (by rw [decide_eq_false z];exact ku)]
  ·rw [vg] at hq
   rcases ve.mp hq with z | z
   ·exact hp.trans (d q z)
   ·exact f q z
end
end _Sta
namespace _Prt
open _Sta _Lin
noncomputable def over (x:Nat) (l r:W):W:=r.take x++l++r.drop (x+l.length)
theorem zal {x:Nat} {l r:W} (h:x+l.length<=r.length):(over x l r).length=r.length:=by
 unfold over
 rw [kg,kg,kL,vh]
 omega
theorem zbQ {x:Nat} {l r:W} (h:x+l.length<=r.length) (i:Nat):(over x l r)[i]?=if x<=i/\i<x+l.length then l[i-x]? else r[i]?:=by
 unfold over
 have lt:(r.take x).length=x:=by rw [kL];omega
 by_cases c:x<=i/\i<x+l.length
 ·rw [if_pos c,vI (by rw [kg,lt];omega),v7 (by rw [lt];omega),lt]
 ·rw [if_neg c]
  by_cases d:i<x
  ·rw [vI (by rw [kg,lt];omega),vI (by rw [lt];exact d),List.getElem?_take_of_lt d]
  ·rw [v7 (by rw [kg,lt];omega),kg,lt,List.getElem?_drop]
   congr 1
   omega
noncomputable def lay1 (rows:List W) (y x:Nat) (l:W):List W:=rows.set y (over x l (rows.getD y []))
noncomputable def lay:List W->Nat->Nat->List W->List W
 | rows,_,_,[]=>rows
 | rows,y,x,l::ls=>lay (lay1 rows y x l) (y+1) x ls
theorem XF:∀ (ls rows:List W) (y x:Nat) (l:W),lay rows y x (ls++[l])=lay1 (lay rows y x ls) (y+ls.length) x l
 | [],_,_,_,_=>rfl
 | a::r,rows,y,x,l=>by
  show lay (lay1 rows y x a) (y+1) x (r++[l])=lay1 (lay (lay1 rows y x a) (y+1) x r) (y+(r.length+1)) x l
  rw [XF,show y+(r.length+1)=y+1+r.length by omega]
noncomputable def Full (wide high:Nat) (rows:List W):Prop:=rows.length=high/\∀ r∈rows,r.length=wide
theorem Yo {wide high y x:Nat} {rows:List W} {l:W} (h:Full wide high rows) (hy:y<high) (hx:x+l.length<=wide):Full wide high (lay1 rows y x l):=by
 obtain ⟨h1,h2⟩:=h
 have hl:y<rows.length:=by omega
 have lr:(rows.getD y []).length=wide:=by
  rw [ko,kb hl]
  exact h2 _ (vB hl)
 refine ⟨by unfold lay1;rw [uK,h1],fun r hr=>?_⟩
 rcases List.mem_or_eq_of_mem_set hr with z | z
 ·exact h2 r z
 ·rw [z,zal (by omega),lr]
theorem jT {wide high x:Nat}:∀ {ls rows:List W} {y:Nat},Full wide high rows->y+ls.length<=high->(∀ l∈ls,x+l.length<=wide)->Full wide high (lay rows y x ls)
 | [],_,_,h,_,_=>h
 | a::r,rows,y,h,hy,hx=>jT (ls:=r) (Yo h (by rw [kH] at hy;omega) (hx a kh)) (by rw [kH] at hy;omega) fun l hl=>hx l (kj _ hl)
noncomputable def lns (p:Pc) (ws:List W):List W:=taken ((p.r:Int)-(p.l:Int)) ws
noncomputable def blank (wide high:Nat):List W:=kF high (kF wide 32)
theorem WY (wide high:Nat):Full wide high (blank wide high):=⟨va,fun r hr=>by rw [uJ hr,va]⟩
noncomputable def pgs (wide high:Nat) (pcs:List Pc) (wss:List (List W)):Nat->List W
 | 0=>blank wide high
 | k+1=>match pcs[k]?,wss[k]? with
  | some p,some ws=>lay (pgs wide high pcs wss k) p.t p.l (lns p ws)
  | _,_=>pgs wide high pcs wss k
theorem jU {wide high:Nat} {pcs:List Pc} {wss:List (List W)} {k:Nat} {p:Pc} {ws:List W} (e1:pcs[k]?=some p) (e2:wss[k]?=some ws):pgs wide high pcs wss (k+1)=lay (pgs wide high pcs wss k) p.t p.l (lns p ws):=by
 show (match pcs[k]?,wss[k]? with
  | some p,some ws=>lay (pgs wide high pcs wss k) p.t p.l (lns p ws)
  | _,_=>pgs wide high pcs wss k)=_
 rw [e1,e2]
theorem yO {wide high:Nat} {p:Pc} (i:wthn ⟨0,0,wide,high⟩ p):p.l<p.r/\p.r<=wide/\p.t<p.b/\p.b<=high:=⟨i.2.1,i.2.2.1,i.2.2.2.2.1,i.2.2.2.2.2⟩
structure Fit (wide high:Nat) (p:Pc) (ws:List W):Prop where
 ins:wthn ⟨0,0,wide,high⟩ p
 wid:∀ u∈ws,u.length<=p.r-p.l
 cnt:(lns p ws).length<=p.b-p.t
theorem Fit.line {wide high:Nat} {p:Pc} {ws:List W} (h:Fit wide high p ws):∀ l∈lns p ws,l.length<=p.r-p.l:=fun l hl=>by
 have i:=yO h.ins
 have:=JS (wide:=(p.r:Int)-(p.l:Int)) ws (fun u hu=>by have:=h.wid u hu;omega) l hl
 omega
theorem zcV {wide high:Nat} {p:Pc} {ws:List W} (i:wthn ⟨0,0,wide,high⟩ p) (rm:Rm (xb ws) p):Fit wide high p ws:=by
 obtain ⟨a,b,c⟩:=rm
 refine ⟨i,b,?_⟩
 have i:=yO i
 unfold lns
 rw [yJ,show (p.r:Int)-(p.l:Int)=((p.r-p.l:Nat):Int) by omega]
 omega
theorem wu {wide high:Nat} {pcs:List Pc} {wss:List (List W)} (h:∀ (k:Nat) (p:Pc) (ws:List W),pcs[k]?=some p->wss[k]?=some ws->Fit wide high p ws):∀ k,Full wide high (pgs wide high pcs wss k)
 | 0=>WY wide high
 | k+1=>by
  have ih:=wu h k
  cases e1:pcs[k]? with
  | none=>unfold pgs;rw [e1];exact ih
  | some p =>
   cases e2:wss[k]? with
   | none=>unfold pgs;rw [e1,e2];exact ih
   | some ws =>
    rw [jU e1 e2]
    have f:=h k p ws e1 e2
    have i:=yO f.ins
    have c:=f.cnt
    refine jT ih (by omega) fun l hl=>?_
    have:=f.line l hl
    omega
end _Prt
namespace _L2
open PySem PySem.Spec PyProof.Rows
section
variable {prog:Program} {w:World} {A:Around} {E:Value->Shared->Prop} {s:Shared}
theorem bind_eq {α β:Type} {M:Model} {m:Sem α} {f:α->Sem β} {a:α} {Q:β->Shared->Prop} (e:m=pure a) (h:wpAny M A (f a) Q E s):wpAny M A (m >>= f) Q E s:=by
 subst e
 exact wpAny_bind (wpAny_pure h)
theorem Jg (l:Addr) (items:Array Value) (n:Nat) (dct:Option Addr) (sl:Array (Option Value)) (k:Nat) (tk0:Tok) (hk:k<2^63) :
  Meets (Builtin.«enumerate.__new__» ⟨[.type "enumerate",.ref l],[("start",.int k tk0)]⟩) (fun _ R s=>s.heap.get? l=some {cls:=.type "list",dict:=dct,data:=.seq items n,slots:=sl} /\
   R (.ok (.ret (.ref (s.heap.push {cls:=.type "list_iterator",data:=.fields #[.ref l,.int 0 0]}).objs.size)))
    {s with heap:=(s.heap.push {cls:=.type "list_iterator",data:=.fields #[.ref l,.int 0 0]}).push {cls:=.type "enumerate",data:=.fields #[.none,.bool false,.ref s.heap.objs.size,rawInt k,.none,.none]}}) :=
 .of_wp fun prog w A R s h=>by
  obtain ⟨hp,g,d,tk,os⟩:=s
  obtain ⟨hl,h⟩:=h
  have hsub:=sub_enumerate
  have hL:Heap.IsList (Shared.heap ⟨hp,g,d,tk,os⟩) l items:=⟨_,hl,rfl,n,rfl⟩
  have hf:Builtin.SmallTypes.fitsIndex (k:Int)=true:=by
   unfold Builtin.SmallTypes.fitsIndex
   rw [vj,decide_eq_true_eq,decide_eq_true_eq]
   omega
  wp_walk using AutoSeq1.wpAny_loadPart' hl
  refine wpAny_stack_any fun st=>wpAny_pure ?_
  have key:∀ (f:Value->Sem Value),wpAny (model prog w) A.in1 (pyIter (Value.ref l) >>= fun i=>Builtin.SmallTypes.newRecord (Value.type "enumerate") (Builtin.SmallTypes.ownedTupleFields++[i,rawInt k,Value.none,Value.none]) >>= fun r=>ret r) (fun fin s'=>∃ v,fin=Fin.done (Flow.ret v)/\R (Except.ok (Flow.ret v)) s') (fun e s'=>R (Except.error e) s') ⟨hp,g,d,tk,os⟩:=by
   intro f
   wp_walk using wpAny_pyIter_list hL
   exact ⟨_,rfl,h⟩
  have key2:∀ b:Bool,True:=fun _=>trivial
  split
  ·rename_i c _ _ _ _ _
   cases (c == Value.type "enumerate")
   ·dsimp only
    rw [if_neg ku]
    with_reducible refine bind_eq (a:=(Value.ref l,some (Value.int k tk0))) (by kernel_rfl) ?_
    dsimp only
    with_reducible refine bind_eq (a:=Value.int k tk0) (by kernel_rfl) ?_
    with_reducible refine bind_eq (a:=some (k:Int)) (by kernel_rfl) ?_
    dsimp only
    rw [hf]
    exact key pure
   ·dsimp only
    rw [if_pos rfl]
    with_reducible refine bind_eq (a:=(Value.ref l,some (Value.int k tk0))) (by kernel_rfl) ?_
    dsimp only
    with_reducible refine bind_eq (a:=Value.int k tk0) (by kernel_rfl) ?_
    with_reducible refine bind_eq (a:=some (k:Int)) (by kernel_rfl) ?_
    dsimp only
    rw [hf]
    exact key pure
  ·dsimp only
   rw [if_neg ku]
   with_reducible refine bind_eq (a:=(Value.ref l,some (Value.int k tk0))) (by kernel_rfl) ?_
   dsimp only
   with_reducible refine bind_eq (a:=Value.int k tk0) (by kernel_rfl) ?_
   with_reducible refine bind_eq (a:=some (k:Int)) (by kernel_rfl) ?_
   dsimp only
   rw [hf]
   exact key pure
theorem zam (a b:Value):checkTypeCall "enumerate" ⟨[a],[("start",b)]⟩=pure ():=by kernel_rfl
theorem zan (a b:Value):checkBuiltinCall "enumerate.__new__" ⟨[.type "enumerate",a],[("start",b)]⟩=pure ():=by kernel_rfl
theorem zbR (o a b:Value):argsOk "object.__init__" ⟨[o,a],[("start",b)]⟩:=by
 unfold argsOk
 kernel_rfl
theorem Jh {T newId:String} {self:Value} {rest:List Value} {kw:List (Str×Value)} (hl:typeLookup (.type T) "__init__" = pure (some (.builtin "object.__init__"))) (hm:Bind.madeBy (.type T)=pure (some newId)) (hne:(some newId != some "object.__new__")=true) :
  Meets (Builtin.«object.__init__» ⟨self::rest,kw⟩) (fun _ R s=>s.TypeIs self T/\R (.ok (.ret .none)) s) :=
 .of_wp fun prog w A R s hs=>by
  obtain ⟨hT,hq⟩:=hs
  cases rest with
  | nil =>
   cases kw with
   | nil=>exact wpAny_pure ⟨_,rfl,hq⟩
   | cons a r =>
    (repeat (any_goals (first | assumption | wp_step)))
    exact ⟨_,rfl,hq⟩
  | cons a r =>
   (repeat (any_goals (first | assumption | wp_step)))
   exact ⟨_,rfl,hq⟩
theorem Ji {T newId:String} {Bn:Builtin} {args:List Value} {kw:List (Str×Value)} {S:PySem.Spec} {Q:Value->Shared->Prop} (ft:TypeCalled T newId "object.__init__") (hne:(some newId != some "object.__new__")=true)
  (hct:checkTypeCall T ⟨args,kw⟩=pure ()) (hcn:checkBuiltinCall newId ⟨.type T::args,kw⟩=pure ()) (hok:∀ obj,argsOk "object.__init__" ⟨obj::args,kw⟩) (entryN:entryFor table newId=some Bn)
  (g:Meets (Bn ⟨.type T::args,kw⟩) S) (h:S A.in1 (wants (fun obj s₁=>s₁.TypeIs obj T/\Q obj s₁) E) s):wpAny (model prog w) A (call (.type T) args kw) Q E s:=by
 obtain ⟨c,tl,hmro⟩:=ft.mro
 have hmade:=ft.made;have hsub:=ft.sub;have h1:=ft.notType;have h2:=ft.canCreate
 refine wpAny_call (codeAny_of_tree ?_)
 show wpAny _ _ (callAny (.type T) _) _ _ _
 refine wpAny_pure ⟨Code.quiet_builtin _ (by decide +kernel),codeAny_builtin F.entry_type_call ?_⟩
 rw [Around.under_plain (weight_type_call_type T args kw) (units_type_call_type T args kw)]
 (repeat (any_goals (first | assumption | wp_step)))
 refine codeAny_mono (codeAny_call_builtin ft.plain entryN (wpAny_of_eq hcn (g prog w A.in1 _ s h))) fun r s₁ hr=>?_
 match r,hr with
 | .error e,hr=>exact hr
 | .ok (.ret obj),hr =>
  obtain ⟨hT,hq⟩:=hr
  have hli:=ft.init.lookup;have hbi:=ft.init.bind obj
  (repeat (any_goals (first | assumption | wp_step)))
  refine codeAny_mono (codeAny_call_builtin ft.init.plain F.entry_object_init (ft.init.check _ _ _ _ _ _ _ _ hT (hok obj) (Jh ft.init.lookup ft.made hne prog w A.in1 (wants (fun r s₂=>r=.none/\Q obj s₂) E) s₁ ⟨hT,rfl,hq⟩))) fun r₂ s₂ hr₂=>?_
  match r₂,hr₂ with
  | .error e,hr₂=>exact hr₂
  | .ok (.ret r),hr₂ =>
   obtain ⟨rfl,hq⟩:=hr₂
   (repeat (any_goals (first | assumption | wp_step)))
  | .ok .next,hr₂=>exact hr₂.elim
  | .ok .brk,hr₂=>exact hr₂.elim
  | .ok .cont,hr₂=>exact hr₂.elim
 | .ok .next,hr=>exact hr.elim
 | .ok .brk,hr=>exact hr.elim
 | .ok .cont,hr=>exact hr.elim
end
end _L2
namespace _L2
open PySem PySem.Spec PyProof.Rows
section
variable {prog:Program} {w:World} {A:Around} {E:Value->Shared->Prop} {s:Shared} {env:Env}
theorem WZ {l:Addr} {items:Array Value} {k:Nat} {tk0:Tok} {Q:Value->Shared->Prop} (hk:k<2^63) (hL:s.heap.IsList l items)
  (h:∀ h',IsEnum h' (s.heap.objs.size+1) s.heap.objs.size k .none->h'.IsListIter s.heap.objs.size l 0->h'.objs.size=s.heap.objs.size+2->(∀ b o,s.heap.get? b=some o->h'.get? b=some o)->Q (.ref (s.heap.objs.size+1)) {s with heap:=h'}) :
  wpAny (model prog w) A (call (.type "enumerate") [.ref l] [("start",.int k tk0)]) Q E s:=by
 obtain ⟨⟨c,dct,dt,sl⟩,hl,hc,n,hd⟩:=hL
 cases (show c=.type "list" from hc)
 cases (show dt=.seq items n from hd)
 refine Ji F.called_enumerate (by decide) (zam _ _) (zan _ _) (fun obj=>zbR obj _ _) F.entry_enumerate_new (Jg l items n dct sl k tk0 hk) ⟨hl,?_⟩
 have hz:(s.heap.push {cls:=.type "list_iterator",data:=.fields #[.ref l,.int 0 0]}).objs.size=s.heap.objs.size+1:=Heap.size_push ..
 show _/\_
 rw [hz]
 have he:IsEnum ((s.heap.push {cls:=.type "list_iterator",data:=.fields #[.ref l,.int 0 0]}).push {cls:=.type "enumerate",data:=.fields #[.none,.bool false,.ref s.heap.objs.size,rawInt k,.none,.none]}) (s.heap.objs.size+1) s.heap.objs.size k .none:=by
  have:=Heap.get?_push_size (s.heap.push {cls:=.type "list_iterator",data:=.fields #[.ref l,.int 0 0]}) (o:={cls:=.type "enumerate",data:=.fields #[.none,.bool false,.ref s.heap.objs.size,rawInt k,.none,.none]}) rfl
  rwa [hz] at this
 exact ⟨⟨_,he,rfl⟩,h _ he ⟨_,Heap.get?_push_of_some _ (Heap.get?_push_size _ rfl),rfl,rfl⟩ (by rw [Heap.size_push,hz]) fun b o x=>Heap.get?_push_of_some _ (Heap.get?_push_of_some _ x)⟩
theorem Zi {M:Model} {pos:Pos} {T:String} {e:Expr} {kws:List Keyword} {Q:Value->Shared->Prop}
  (h:wpAny M A (spliced (backTo pos (starEach [e] env))) (fun vs s₁=>wpAny M A (evalAll ((backToKw pos (keywordEach kws env)).map (·.2))) (fun kvs s₂=>wpAny M A (call (.type T) vs (((backToKw pos (keywordEach kws env)).filterMap (·.1)).zip kvs)) Q E s₂) E s₁) E s)
  (he:starEach [e] env=[(false,eval e env)]) (hall:(backToKw pos (keywordEach kws env)).all (·.1.isSome)=true) (hkw:(backToKw pos (keywordEach kws env)).any (·.1.isNone)=false) :
  wpAny M A (callWith pos (.type T) [] (backTo pos (starEach [e] env)) (backToKw pos (keywordEach kws env))) Q E s:=by
 rw [he] at h ⊢
 have hp:(backTo pos [(false,eval e env)]).any (·.1)=false:=rfl
 unfold callWith
 refine wpAny_bind (wpAny_holding (wpAny_mono (evalArgs_kwB (Q:=fun a s₁=>wpAny M A (call (.type T) a.pos a.kw) Q E s₁) hall h) (fun a s₁ h₁=>wpAny_bind (wpAny_standAt ?_)) fun _ _ x=>x))
 simp only [hp,hkw,Bool.or_false]
 refine wpAny_bind (wpAny_pure (wpAny_bind (wpAny_mono h₁ (fun r s₂ hr=>wpAny_bind (wpAny_holding (wpAny_point (wpAny_pure hr)))) fun _ _ x=>x)))
end
noncomputable def ItES (K:PySem.W.Frag) (a:Addr) (k:Nat):It :=
 ⟨fun i H=>∃ xs x,SqL K H a xs/\xs[i]?=some x,fun i H x H'=>∃ p y,H p=none/\x=.ref p/\H'=upd H p (.tup [.int ((k+i:Nat):Int),y])/\∀ xs,SqL K H a xs->xs[i]?=some y,fun i H=>∃ xs,SqL K H a xs/\xs.length<=i⟩
theorem zao {prog:Program} {w:World} {A:Around} {it:Addr} {fp:List Addr} {n:Nat} {P:Nat->Value->Prop} {St:Nat->Heap->Prop} (k:Nat) (D:Draws prog w A it fp n P St) :
  Draws prog w A it fp (k+n) (fun i v=>P (i-k) v) (fun i h=>k<=i/\St (i-k) h) where
 live:=fun i h st=>D.live _ h st.2
 frame:=fun i h h' st hk=>⟨st.1,D.frame _ h h' st.2 hk⟩
 item:=fun i s Q E hi st hQ=>D.item (i-k) s Q E (by have:=st.1;omega) st.2 fun x h' tk a b c=>hQ x h' tk a ⟨by have:=st.1;omega,by rw [show i+1-k=i-k+1 by have:=st.1;omega];exact b⟩ c
 done:=fun s Q E st hE=>D.done s Q E (by have:=st.2;rwa [show k+n-k=n by omega] at this) hE
theorem W0 {P:Program} {w:World} {K:PySem.W.Frag} {elts:List Expr} {kx:Nat} {px:Pos} (a e it:Addr) (k:Nat) (hei:e≠it) :
  Turn P w K (.Tuple elts kx px) (ItES K a k) [e,it] e (fun i h=>(∃ old,IsEnum h e it ((k+i:Nat):Int) old)/\h.IsListIter it a i) where
 mem:=by simp
 obj:=fun i h st b hb=>by
  obtain ⟨⟨old,he⟩,⟨o,ho,c,d⟩⟩:=st
  rcases kO.mp hb with rfl | hb
  ·exact ⟨_,he,fun v z=>by
    have z':Data.fields _=Data.cell v:=z
    cases z'⟩
  ·obtain rfl:=kq.mp hb
   exact ⟨o,ho,fun v z=>by rw [d] at z;cases z⟩
 keep:=fun i h h' st q=>⟨let ⟨old,he⟩:=st.1;⟨old,q e (by simp) _ he⟩,st.2.at fun o z=>q it (by simp) o z⟩
 item:=by
  intro X hP hw hK hc i pins s σ H E I hf st hg
  subst hP hw hK
  obtain ⟨⟨old,he⟩,hit⟩:=st
  obtain ⟨xs,x,hq,hx⟩:=hg
  obtain ⟨its,rv,tp,hz⟩:=I.list hq
  obtain ⟨u,hu,ru⟩:=rv.get hx
  have hil:i<xs.length:=(kf.mp hx).1
  have tp':s.heap.IsList a its.toArray:=tp.isList
  have nai:a≠it:=fun z=>by
   obtain ⟨o,g1,g2,_⟩:=tp'
   obtain ⟨o',g1',g2',_⟩:=hit
   rw [z,g1'] at g1
   cases g1
   rw [g2'] at g2
   exact absurd g2 (by decide)
  have nae:a≠e:=fun z=>by
   obtain ⟨o,g1,g2,_⟩:=tp'
   rw [z,he] at g1
   cases g1
   have g3:Value.type "enumerate" = Value.type "list" := g2
   exact absurd g3 (by decide)
  have D:=zao k (Draws.list (prog:=X.prog) (w:=X.w) (A:=X.A.in1) (by exact I.ok.hd hc) it a nai its.toArray)
  refine wpAny_pyNext_enum_itemD (i:=k+i) D he ⟨Nat.le_add_right _ _,by rw [v5];exact ⟨hit,tp'⟩⟩ (by rw [kt,<- rv.length];omega) hei (by simp [hei,nae.symm]) fun y h' tk hP ho hs' hT hsz hk=>?_
  rw [v5] at hP
  have ey:y=u:=by
   rw [u6,hu] at hP
   exact (Option.some.inj hP).symm
  subst ey
  have hs2':=hs'.2
  rw [show k+i+1-k=i+1 by omega] at hs2'
  refine ⟨_,rfl,wpAny_letOwnedTupleGo_enum ho fun h2 he2 hs2=>?_⟩
  have ne1:s.heap.objs.size≠e:=ut (Heap.lt_size he)
  have k2:∀ b o,b≠e->b≠it->s.heap.get? b=some o->h2.get? b=some o:=fun b o n1 n2 q=>(hs2.2 b n1).trans (hk b o n1 n2 q)
  have I1:Inv X pins σ H {s with heap:=h2,toks:=tk+1}:=I.turned2 k2 (hf e (by simp)) (hf it (by simp))
  have hn:H s.heap.objs.size=none:=I.hok.fresh (kc _)
  have FP:=I.fpOk (b:=s.heap.objs.size) (kc _) hn
  have hT2:h2.get? s.heap.objs.size=some {cls:=.type "tuple",data:=.seq #[.int ((k+i:Nat):Int) tk,y]}:=(hs2.2 _ ne1).trans hT
  have I2:=I1.track (p:=s.heap.objs.size) (o:=.tup [.int ((k+i:Nat):Int),x]) hn (Heap.get?_none_of_le I.sz) FP.2.1 FP.2.2.2.2.1 FP.2.2.2.2.2
   ⟨by show 2<=sizeLine;decide,[.int ((k+i:Nat):Int) tk,y],.cons ⟨tk,rfl⟩ (.cons ru .nil),⟨_,hT2,rfl,_,rfl⟩⟩
  refine ⟨.ref s.heap.objs.size,_,I2,rfl,⟨_,x,hn,rfl,rfl,fun ys hy=>?_⟩,⟨⟨y,by rw [show ((k+(i+1):Nat):Int)=((k+i:Nat):Int)+1 by omega];exact he2⟩,hs2'.1.at fun o q=>(hs2.2 it hei.symm).trans q⟩,fun b hb=>?_⟩
  ·rw [I.list_inj hy hq];exact hx
  ·have hb2:b≠s.heap.objs.size:=by
    rcases kO.mp hb with rfl | hb
    ·exact ne1.symm
    ·obtain rfl:=kq.mp hb
     obtain ⟨o,g,_⟩:=hit
     exact vt (Heap.lt_size g)
   rw [zy hb2]
   exact (hf b hb).1
 done:=by
  intro X hP hw hK hc i pins s σ H E I hf st hg
  subst hP hw hK
  obtain ⟨⟨old,he⟩,hit⟩:=st
  obtain ⟨xs,hq,hx⟩:=hg
  obtain ⟨its,rv,tp,hz⟩:=I.list hq
  have tp':s.heap.IsList a its.toArray:=tp.isList
  have hl:=rv.length
  have hT:s.TypeIs (.ref e) "enumerate" := ⟨_,he,rfl⟩
  obtain ⟨f0,f1,f2,f3,f4,f5⟩:=hf it (by simp)
  unfold pyNext
  refine wpAny_bind (wpAny_attempt (wpAny_callSpecial?_slot (name:=Str.ofString "__next__") hT F.slot_enumerate_next ?_))
  refine wpAny_call_entry F.slot_enumerate_next hT F.entry_enumerate_next ?_ (F.args_enumerate_next_1 _)
  show wpAny _ _ (field (.ref e) 2 >>= _) _ _ _
  refine wpAny_bind (wpAny_field he rfl (x:=.ref it) rfl ?_)
  refine wpAny_bind (wpAny_nextOf_list_end (by exact I.ok.hd hc) hit tp' (by simp;omega) fun h' x ext hex=>?_)
  obtain ⟨o,g1,g2⟩:=hex
  refine wpAny_bind (wpAny_isInstance (T := "StopIteration") (b:=true) ⟨o,g1,g2⟩ isSubtype_stop ?_)
  exact wpAny_pure ⟨rfl,I.turned (t':=s.toks) (fun b ob nb q=>ext b ob nb q) f0 f1 f3 f4 f5⟩
 self:=fun _ _ _ _ _ st h=>let ⟨⟨_,he⟩,_⟩:=st;wpAny_pyIter_enum he h
noncomputable def iEnS (K:PySem.W.Frag) (tl tk:TE):TI:=fun σ H R=>tl σ H fun v H1=>tk σ H1 fun u H2=>∃ (a:Addr) (k:Nat),v=.ref a/\u=.int (k:Int)/\k<2^63/\(∃ xs,SqL K H2 a xs)/\R (ItES K a k) H2
theorem zap {X:Cx} {l sx:Expr} {tl tk:TE} {elts:List Expr} {kx:Nat} {px p kp pos:Pos} (hg:Gl X "enumerate") (hm:X.mg "enumerate" = none) (ha:PE X l tl) (hb:PE X sx tk) (hs:starEach [l] X.env=[(false,eval l X.env)]:=by rfl) :
  PI X (.Tuple elts kx px) (.Call (.Name "enumerate" p) [l] [⟨some "start",sx,kp⟩] pos) (iEnS X.K tl tk):=by
 intro pins s σ H R I h
 refine wpAny_Call_Name_kw (yK I hg hm boot_enumerate ?_ (by decide) (by decide))
 refine Zi (thn ((za ha zb hs) pos pins s σ H (fun vs H1=>match vs with
  | [v]=>tk σ H1 fun u H2=>∃ (a:Addr) (k:Nat),v=.ref a/\u=.int (k:Int)/\k<2^63/\(∃ xs,SqL X.K H2 a xs)/\R (ItES X.K a k) H2
  | _=>False) I h) fun us s1 ⟨vs,H1,I1,r1,q1⟩=>?_) hs rfl rfl
 match vs,q1 with
 | [v],q1 =>
 obtain ⟨u,rfl,ru⟩:=vals1 r1
 refine thn ((Wb (nm:=some "start") hb Qq) pos pins s1 σ H1 (fun ws H2=>match ws with
  | [u]=>∃ (a:Addr) (k:Nat),v=.ref a/\u=.int (k:Int)/\k<2^63/\(∃ xs,SqL X.K H2 a xs)/\R (ItES X.K a k) H2
  | _=>False) I1 q1) fun us2 s2 ⟨ws,H2,I2,r2,q2⟩=>?_
 match ws,q2 with
 | [z],q2 =>
 obtain ⟨u2,rfl,ru2⟩:=vals1 r2
 refine E_2 q2 fun a k n8=>A_5 n8 fun e9 n90 hk n92 q=>?_;clear n8 q2;subst e9;subst n90;obtain ⟨xs,hq⟩:=n92
 cases (show u=Value.ref a from ru)
 obtain ⟨t2,rfl⟩:=(show ∃ t,u2=Value.int (k:Int) t from ru2)
 show wpAny _ _ (call (.type "enumerate") [.ref a] [(Str.ofString "start",.int k t2)]) _ _ _
 obtain ⟨its,rv,tp,hz⟩:=I2.list hq
 refine WZ hk tp.isList fun h' he hit hsz hk'=>?_
 refine wpAny_pyIter_enum he ?_
 refine I_5 (s2.heap.objs.size+1) [s2.heap.objs.size+1,s2.heap.objs.size] _ _ H2 ⟨rfl,I2.kept (t':=s2.toks) hk',W0 a _ _ k (Nat.succ_ne_self _),⟨⟨_,he⟩,hit⟩,fun b hb=>?_,q⟩
 rcases kO.mp hb with rfl | hb
 ·exact I2.fpOk (ur _) (I2.hok.fresh (ur _))
 ·obtain rfl:=kq.mp hb
  exact I2.fpOk (kc _) (I2.hok.fresh (kc _))
theorem Jj {K:PySem.W.Frag} {a:Addr} {k:Nat} {xs:List V} {g:TG} {tb:TS} {D:Ends} {σ:St} {H:Hp} (Pv:Nat->St->Hp->Prop) (h0:Pv 0 σ H) (hl:∀ i σ H,i<=xs.length->Pv i σ H->SqL K H a xs)
  (hs:∀ i x σ H p,xs[i]?=some x->Pv i σ H->H p=none->g (.ref p) σ (upd H p (.tup [.int ((k+i:Nat):Int),x])) fun σ2 H2=>tb {D with nx:=Pv (i+1),ct:=Pv (i+1),bk:=D.nx} σ2 H2) (hd:∀ σ H,Pv xs.length σ H->D.nx σ H) :
  ∃ W:Nat->Nat->St->Hp->Prop,(∃ m,W 0 m σ H)/\∀ i m σ H,W i m σ H ->
   ((ItES K a k).stop i H/\D.nx σ H)\/((ItES K a k).go i H/\∃ N:St->Hp->Prop,(∀ σ' H',N σ' H'->∃ m',m'<m/\W (i+1) m' σ' H')/\∀ x H',(ItES K a k).yld i H x H'->g x σ H' fun σ2 H2=>tb {D with nx:=N,ct:=N,bk:=D.nx} σ2 H2):=by
 refine ⟨fun i m σ H=>m=xs.length-i/\i<=xs.length/\Pv i σ H,⟨xs.length,by simp,kP _,h0⟩,?_⟩
 rintro i m σ H ⟨rfl,hi,p⟩
 have q:=hl i σ H hi p
 by_cases hlt:i<xs.length
 ·refine .inr ⟨⟨xs,xs[i],q,by simp [hlt]⟩,Pv (i+1),fun σ' H' p'=>⟨xs.length-(i+1),by omega,rfl,hlt,p'⟩,fun x H' y=>?_⟩
  obtain ⟨pp,v,hn,e1,e2,y⟩:=y
  subst e1 e2
  exact hs i v σ H pp (y xs q) p hn
 ·have e:i=xs.length:=by omega
  subst e
  exact .inl ⟨⟨xs,q,kc _⟩,hd σ H p⟩
end _L2
namespace _L2
open PySem
theorem zbS {K:PySem.W.Frag} {a b:Addr} {xs ys:List V} {g:TG} {tb:TS} {D:Ends} {σ:St} {H:Hp} (Pv:Nat->St->Hp->Prop) (hl:xs.length=ys.length) (h0:Pv 0 σ H) (hq:∀ i σ H,i<=xs.length->Pv i σ H->SqL K H a xs/\SqL K H b ys)
  (hs:∀ i x y σ H p,xs[i]?=some x->ys[i]?=some y->Pv i σ H->H p=none->g (.ref p) σ (upd H p (.tup [x,y])) fun σ2 H2=>tb {D with nx:=Pv (i+1),ct:=Pv (i+1),bk:=D.nx} σ2 H2) (hd:∀ σ H,Pv xs.length σ H->D.nx σ H) :
  ∃ W:Nat->Nat->St->Hp->Prop,(∃ m,W 0 m σ H)/\∀ i m σ H,W i m σ H ->
   ((ItZ K a b).stop i H/\D.nx σ H)\/((ItZ K a b).go i H/\∃ N:St->Hp->Prop,(∀ σ' H',N σ' H'->∃ m',m'<m/\W (i+1) m' σ' H')/\∀ x H',(ItZ K a b).yld i H x H'->g x σ H' fun σ2 H2=>tb {D with nx:=N,ct:=N,bk:=D.nx} σ2 H2):=by
 refine ⟨fun i m σ H=>m=xs.length-i/\i<=xs.length/\Pv i σ H,⟨xs.length,by simp,kP _,h0⟩,?_⟩
 rintro i m σ H ⟨rfl,hi,p⟩
 obtain ⟨z1,z2⟩:=hq i σ H hi p
 by_cases hlt:i<xs.length
 ·refine .inr ⟨⟨xs,ys,xs[i],ys[i]'(by omega),z1,z2,kb _,kb _⟩,Pv (i+1),fun σ' H' p'=>⟨xs.length-(i+1),by omega,rfl,hlt,p'⟩,fun x H' y=>?_⟩
  obtain ⟨q,u,v,hn,e,e2,y1,y2⟩:=y
  subst e e2
  exact hs i u v σ H q (y1 xs z1) (y2 ys z2) p hn
 ·have e:i=xs.length:=by omega
  subst e
  exact .inl ⟨⟨xs,ys,z1,z2,by omega⟩,hd σ H p⟩
end _L2
namespace _L2
open PySem PySem.Spec PyProof.Rows PySem.Builtin PySem.Builtin.Str _Lin
theorem zaq (x y:Str):Txt.split x y≠[]:=by
 unfold Txt.split
 split
 ·simp
 ·split
  ·simp
  ·rw [StrLaws.partsBetween_eq]
   obtain ⟨p,q,e⟩:=StrLaws.partsFrom_ne x y.length 0 (occurrences x y 0 x.length (x.length+1))
   rw [e]
   simp
theorem XY {ws:List W} (hn:ws≠[]) (hw:∀ w∈ws,32∉w):Txt.split (txt (glue ws)) (txt [32])=ws.map txt:=by
 have j:=StrLaws.join_split (txt (glue ws)) (txt [32])
 have fr:=StrLaws.split_free (txt (glue ws)) 32
 have fr:∀ p∈Txt.split (txt (glue ws)) (txt [32]),32∉p.cps.toList:=fr
 have nn:Txt.split (txt (glue ws)) (txt [32])≠[]:=zaq _ _
 generalize Txt.split (txt (glue ws)) (txt [32])=ps at j fr nn
 have e:(ps.map fun p=>p.cps.toList).map txt=ps:=by
  rw [vU]
  conv=>rhs;rw [<- List.map_id ps]
  exact ub fun p _=>j8 p
 rw [<- e,wz] at j
 have j:=ZA j
 have ne:(ps.map fun p=>p.cps.toList)≠[]:=fun z=>nn (bz.mp z)
 have q:=jF _ _ ne hn (fun a ha=>by
  obtain ⟨p,hp,rfl⟩:=kX.mp ha
  exact fr p hp) (fun b hb=>hw b hb) j
 rw [<- q,e]
section
variable {X:Cx}
theorem Jk:MtR X "str.split" (fun x vs H Q=>∃ ws:List W,x=.str (txt (glue ws))/\vs=[.str " "]/\ws≠[]/\(∀ w∈ws,32∉w)/\(glue ws).length<=1000000/\ws.length<=1000000/\∀ l,H l=none->Q (.ref l) (upd H l (.lst (ws.map fun w=>V.str (txt w))))):=by
 intro pins s σ H x xs v us Q I rx rxs h
 refine E_1 h fun ws n8=>A_7 n8 fun e9 n90 hn hw hl hl2 q=>?_;clear n8 h;subst e9;subst n90
 obtain ⟨t,rfl⟩:=rx
 obtain ⟨z,rfl,u,rfl⟩:=vals1 rxs
 have eb:(" " : Str)=txt [32]:=by decide +kernel
 rw [eb]
 have hs:=XY hn hw
 have hx:(txt (glue ws)).length<=1000000:=by rw [zO];exact hl
 have big:(1000002:Nat)<=sizeLine:=by decide
 generalize txt (glue ws)=x at hs hx
 have hy:((txt [32]).length == 0)=false:=by decide +kernel
 have fin:∀ (l:List (Str×Tok)) (k:Nat),l.map (·.1)=Txt.split x (txt [32])->EP X pins σ Q (.ref s.heap.objs.size) {s with heap:=s.heap.push {cls:=.type "list",data:=.seq (strValues l).toArray},toks:=k}:=fun l k e =>
  ⟨.ref s.heap.objs.size,_,I.laid (t':=k) (fun b u e=>Heap.get?_push_of_some _ e) (kc _) (show z8 X.prog X.w _ _ _ (.lst (ws.map fun w=>V.str (txt w))) from ⟨by rw [ka];omega,strValues l,_,qJ (e.trans hs),Heap.get?_push_size _ rfl⟩),rfl,q _ (I.hok.fresh (kc _))⟩
 have hnn:(partsBetween x (occurrences x (txt [32]) 0 x.length (x.length+1)) (txt [32]).length).length<=sizeLine:=by
  have e1:=StrLaws.occ_length_le x (txt [32]) 0 x.length (x.length+1)
  rw [length_partsBetween]
  omega
 cases h1:(decide (x.length<(txt [32]).length) || decide (strKind x<strKind (txt [32])))
 ·cases hf:(occurrences x (txt [32]) 0 x.length (x.length+1)).isEmpty
  ·refine call_meets F.slot_str_split (typeIs_str _ _ _) F.entry_str_split (F.args_str_split_2 _ _) (meets_str_split_sep x (txt [32]) t u h1 hy hf (by omega) hnn) ?_
   show wants _ _ _ {s with toks:=_,heap:=s.heap.push {cls:=.type "list",data:=.seq (strsFrom s.toks (partsBetween x (occurrences x (txt [32]) 0 x.length (x.length+1)) (txt [32]).length)).toArray}}
   rw [strsFrom_eq]
   exact fin (numbered s.toks _) _ ((numbered_texts _ _).trans ((if_neg (ne_true_of_eq_false h1)).trans (if_neg (ne_true_of_eq_false hf))).symm)
  ·exact call_meets F.slot_str_split (typeIs_str _ _ _) F.entry_str_split (F.args_str_split_2 _ _) (meets_str_split_not_found x (txt [32]) t u h1 hy hf)
    (fin [(x,t)] s.toks ((if_neg (ne_true_of_eq_false h1)).trans (if_pos hf)).symm)
 ·exact call_meets F.slot_str_split (typeIs_str _ _ _) F.entry_str_split (F.args_str_split_2 _ _) (meets_str_split_cannot_occur x (txt [32]) t u h1)
   (fin [(x,t)] s.toks (if_pos h1).symm)
end
end _L2
namespace _L2
open PySem PySem.Spec PyProof.Rows PySem.Builtin PySem.Builtin.Str _Lin
noncomputable def cutN (w:List Nat) (lo hi:Option Int):List Nat:=(w.drop (_HT.sIx w.length 0 lo)).take (_HT.sIx w.length w.length hi-_HT.sIx w.length 0 lo)
noncomputable def W2 (n:Nat) (d:Int):Option Int->Int
 | none=>d
 | some i=>Max.max (0:Int) (Min.min (if i<0 then i+(n:Int) else i) (n:Int))
theorem Wx (n d:Nat) (v:Option Int):W2 n (d:Int) v=((_HT.sIx n d v:Nat):Int):=by
 cases v with
 | none=>rfl
 | some i =>
  show Max.max (0:Int) (Min.min (if i<0 then i+(n:Int) else i) (n:Int))=(((if i<0 then (i+(n:Int)).toNat else Min.min i.toNat n):Nat):Int)
  by_cases c:i<0
  ·rw [if_pos c,if_pos c]
   omega
  ·rw [if_neg c,if_neg c]
   omega
theorem Jl (n:Nat) (lo hi:Option Int):strSliceIndices lo hi 1 n=(kQ (_HT.sIx n n hi-_HT.sIx n 0 lo)).map fun k=>_HT.sIx n 0 lo+k:=by
 have e1:=Wx n 0 lo
 have e2:=Wx n n hi
 have key:strSliceIndices lo hi 1 n=sliceRange (W2 n ((0:Nat):Int) lo) (W2 n (n:Int) hi) 1:=by
  cases lo<;>cases hi<;>rfl
 rw [key,e1,e2]
 generalize _HT.sIx n 0 lo=a
 generalize _HT.sIx n n hi=b
 unfold sliceRange
 simp only [show ((1:Int)>0)=True from by simp,if_true]
 have ec:(if (a:Int)<(b:Int) then ((b:Int)-a+1-1) / 1 else 0).toNat=b-a:=by
  split
  ·rw [Int.ediv_one]
   omega
  ·show 0=b-a
   omega
 rw [ec]
 refine ub fun k _=>?_
 omega
theorem YN (n:Nat) (lo:Option Int):_HT.sIx n 0 lo<=n:=by
 cases lo with
 | none=>exact kP _
 | some i =>
  show (if i<0 then (i+(n:Int)).toNat else min i.toNat n)<=n
  split<;>omega
theorem zbT (n:Nat) (hi:Option Int):_HT.sIx n n hi<=n:=by
 cases hi with
 | none=>exact kc _
 | some i =>
  show (if i<0 then (i+(n:Int)).toNat else min i.toNat n)<=n
  split<;>omega
theorem zar (w:List Nat) (lo hi:Option Int):(cutN w lo hi).length<=w.length:=by
 unfold cutN
 rw [kL,vh]
 omega
theorem Jm (w:List Nat) (lo hi:Option Int):(if ((1:Int) == 1 && (strSliceIndices lo hi 1 (txt w).length).length == (txt w).length)=true then txt w else ⟨((strSliceIndices lo hi 1 (txt w).length).filterMap ((txt w).cps[·]?)).toArray⟩)=txt (cutN w lo hi):=by
 rw [zO,Jl]
 have a1:=YN w.length lo
 have b1:=zbT w.length hi
 have pk:=StrLaws.picks w (_HT.sIx w.length w.length hi-_HT.sIx w.length 0 lo) (_HT.sIx w.length 0 lo) (by omega)
 have e:(((kQ (_HT.sIx w.length w.length hi-_HT.sIx w.length 0 lo)).map fun k=>_HT.sIx w.length 0 lo+k).filterMap ((txt w).cps[·]?))=cutN w lo hi:=by
  unfold cutN
  rw [<- pk]
  refine congrArg (fun f=>List.filterMap f _) (funext fun i=>?_)
  show w.toArray[i]?=w[i]?
  simp
 rw [e]
 split
 ·rename_i c
  rw [ka,vi] at c
  have c:_HT.sIx w.length w.length hi-_HT.sIx w.length 0 lo=w.length:=by simpa using c
  unfold cutN
  have z:_HT.sIx w.length 0 lo=0\/w.length=0:=by omega
  rw [c]
  rcases z with z | z
  ·rw [z,bC,kM]
  ·rw [vY.mp z]
   simp
 ·rfl
section
variable {X:Cx}
noncomputable def rSlS:V->Option Int->Option Int->Hp->VK->Prop:=fun x lo hi H Q=>∃ w:List Nat,x=.str (txt w)/\w.length<=1000000/\Q (.str (txt (cutN w lo hi))) H
theorem XG:SlR X rSlS:=by
 intro pins s σ H x v vl vu lo hi sl Q I rx hs pl pu h
 refine E_1 h fun w n8=>A_3 n8 fun e9 hl q=>?_;clear n8 h;subst e9
 obtain ⟨t,rfl⟩:=rx
 refine ⟨"str",_,F.slot_str_getitem.lookup,typeIs_str _ _ _,?_⟩
 have big:(1000002:Nat)<=sizeLine:=by decide
 have fin:∀ (l u:Option (Int×Tok)),l.map (·.1)=lo->u.map (·.1)=hi->(sliceMade (txt w) t l u none).post (EP X pins σ Q) s:=fun l u e1 e2=>by
  unfold sliceMade slicePicked
  rw [e1,e2]
  refine post_val_or_str ?_
  have e:=Jm w lo hi
  refine ⟨?_,fun t' k=>?_⟩
  ·rw [show (if ((Option.map (fun x:Int×Tok=>x.1) none).getD 1 == 1 && (strSliceIndices lo hi ((Option.map (fun x:Int×Tok=>x.1) none).getD 1) (txt w).length).length == (txt w).length)=true then txt w else ⟨((strSliceIndices lo hi ((Option.map (fun x:Int×Tok=>x.1) none).getD 1) (txt w).length).filterMap ((txt w).cps[·]?)).toArray⟩)=txt (cutN w lo hi) from e,zO]
   have:=zar w lo hi
   omega
  ·rw [show (if ((Option.map (fun x:Int×Tok=>x.1) none).getD 1 == 1 && (strSliceIndices lo hi ((Option.map (fun x:Int×Tok=>x.1) none).getD 1) (txt w).length).length == (txt w).length)=true then txt w else ⟨((strSliceIndices lo hi ((Option.map (fun x:Int×Tok=>x.1) none).getD 1) (txt w).length).filterMap ((txt w).cps[·]?)).toArray⟩)=txt (cutN w lo hi) from e]
   exact ⟨.str (txt (cutN w lo hi)),H,I.tok k,⟨t',rfl⟩,q⟩
 obtain ⟨o,ho,hc,hd⟩:=hs
 cases pl with
 | none =>
  cases pu with
  | none=>exact wpAny_getItem_str_slice (l:=none) (u:=none) (st:=none) ⟨o,ho,hc,hd⟩ rfl (fin none none rfl rfl)
  | int j tj=>exact wpAny_getItem_str_slice (l:=none) (u:=some (j,tj)) (st:=none) ⟨o,ho,hc,hd⟩ rfl (fin none (some (j,tj)) rfl rfl)
 | int i ti =>
  cases pu with
  | none=>exact wpAny_getItem_str_slice (l:=some (i,ti)) (u:=none) (st:=none) ⟨o,ho,hc,hd⟩ rfl (fin (some (i,ti)) none rfl rfl)
  | int j tj=>exact wpAny_getItem_str_slice (l:=some (i,ti)) (u:=some (j,tj)) (st:=none) ⟨o,ho,hc,hd⟩ rfl (fin (some (i,ti)) (some (j,tj)) rfl rfl)
end
end _L2
namespace _Sta
open PySem _L2 _Lin _Tre
noncomputable def Tl (P:R) (c:Nat):Prop:=∀ w h,P w h->P w c
noncomputable def Tls:List R->List Nat->Prop
 | [],[]=>True
 | P::Ps,c::cs=>Tl P c/\Tls Ps cs
 | _,_=>False
theorem zcW {P Q:R} {c d:Nat} (u:Up P) (v:Up Q) (p:Tl P c) (q:Tl Q d):Tl (bes P Q) (c+d):=fun w h ⟨a,b,e,x,y⟩=>⟨a,b,e,u.up (p a h x) (kc _) (by omega),v.up (q b h y) (kc _) (by omega)⟩
theorem zcX {P Q:R} {c d:Nat} (p:Tl P c) (q:Tl Q d):Tl (dwn P Q) (c+d):=fun w h ⟨a,b,e,x,y⟩=>⟨c,d,kc _,p w a x,q w b y⟩
theorem ZO {f:R->R->R} (hf:∀ P Q,Up P->Up Q->Up (f P Q)) (hb:∀ P Q M N,Up P->Up Q->Tl P M->Tl Q N->Tl (f P Q) (M+N)):∀ (Ps:List R) (Ms:List Nat) (P:R) (M:Nat),Up P->(∀ Q∈Ps,Up Q)->Tl P M->Tls Ps Ms->Tl (Ps.foldl f P) (M+Ms.sum)
 | [],[],P,M,_,_,b,_=>b
 | Q::Ps,N::Ms,P,M,u,us,b,⟨bq,bs⟩=>by
  have:=ZO hf hb Ps Ms (f P Q) (M+N) (hf P Q u (us Q kh)) (fun U hU=>us U (kj _ hU)) (hb P Q M N u (us Q kh) b bq) bs
  rw [vn,<- Nat.add_assoc]
  exact this
theorem zaX:∀ nss:List (List Int),(nss.map fun n=>40*n.length).sum=40*nss.flatten.length
 | []=>rfl
 | n::r=>by
  rw [vf,vn,zaX r,vg,kg]
  omega
mutual
theorem tall {wss:List (List W)} (h40:∀ ws∈wss,ws.length<=40) (hU:∀ L∈wss.map xb,Up L):∀ {t:T} {n:List Int},Good t n->∀ {P:R},HasR (wss.map xb) t P->Tl P (40*n.length)
 | _,_,.leaf i,P,hR=>by
  cases hR with
  | leaf h0 h =>
   rw [kR] at h
   obtain ⟨ws,hw,rfl⟩:=vk.mp h
   intro w h ⟨a,b,c⟩
   have:=h40 ws (kE hw)
   have:=QM ws (w:Int)
   exact ⟨a,b,by show max 1 (cnt ws (w:Int))<=40*1;omega⟩
 | _,_,.node (ps:=ps) (nss:=nss) hk h2 hn hG,P,hR=>by
  have s40:=zaX nss
  cases hR with
  | bar h =>
   have:=W3 h40 hU hG h
   have u:=zM.up hU h
   cases nss with
   | nil=>exact absurd this (by simp [Tls])
   | cons n0 r =>
    rw [vf,vn] at s40
    rw [<- s40]
    exact ZO (fun _ _ a b=>Zd a b) (fun _ _ _ _ a b c d=>zcW a b c d) _ _ _ _ (u _ kh) (fun Q hQ=>u Q (kj _ hQ)) this.1 this.2
  | dash h =>
   have:=W3 h40 hU hG h
   have u:=zM.up hU h
   cases nss with
   | nil=>exact absurd this (by simp [Tls])
   | cons n0 r =>
    rw [vf,vn] at s40
    rw [<- s40]
    exact ZO (fun _ _ a b=>Xq a b) (fun _ _ _ _ _ _ c d=>zcX c d) _ _ _ _ (u _ kh) (fun Q hQ=>u Q (kj _ hQ)) this.1 this.2
theorem W3 {wss:List (List W)} (h40:∀ ws∈wss,ws.length<=40) (hU:∀ L∈wss.map xb,Up L):∀ {ts:List T} {nss:List (List Int)},zH ts nss->∀ {Ps:List R},zM (wss.map xb) ts Ps->Tls Ps (nss.map fun n=>40*n.length)
 | _,_,.nil,Ps,hR=>by
  cases hR
  exact trivial
 | _,_,.cons h r,Ps,hR=>by
  cases hR with
  | cons h' r'=>exact ⟨tall h40 hU h h',W3 h40 hU r r'⟩
end
end _Sta
namespace _JJ
open PySem _L2 _Lin _Tre PySem.W
open _Sta (R HasR Low Pc zT)
open _Prt (over lay lay1 lns pgs Full Fit)
theorem xj (n d:Nat):_HT.sIx n d none=d:=rfl
theorem Jn {r:W} {x:Nat} (h:x<=r.length):cutN r none (some (x:Int))=r.take x:=by
 unfold cutN
 rw [_HT.qX,xj,bC,bp h,Nat.sub_zero]
theorem Jo {r:W} {x:Nat} (h:x<=r.length):cutN r (some (x:Int)) none=r.drop x:=by
 unfold cutN
 rw [_HT.qX,xj,bp h,uv (by rw [vh];omega)]
noncomputable def PcR (res:List (Int×Pc)) (pcs:List Pc) (m:Nat):Prop:=pcs.length=m/\∀ (i:Nat) (p:Pc),pcs[i]?=some p->((i:Int),p)∈res
theorem zas {H:Hp} {l:Addr} {xs ys:List V} (hl:H l=some (.lst xs)) {vs:List V} {ps:List Pc} (h:z9 H vs ps):z9 (upd H l (.lst ys)) vs ps :=
 Paired.imp' (fun _ _ h9=>by obtain ⟨p,e,z⟩:=h9;exact (⟨p,e,by rw [zy (xI z hl (by intro z;cases z))];exact z⟩)) h
theorem W4 (wide k:Nat) (wss:List (List W)):(kF (Int.toNat (k:Int)) [V.str (txt (kF (Int.toNat (wide:Int)) 32))]).flatten=tx (pgs wide k [] wss 0):=by
 show _=tx (kF k (kF wide 32))
 rw [vp,vp]
 unfold tx
 rw [List.map_replicate]
 induction k with
 | zero=>rfl
 | succ k ih=>rw [vH,vg,ih];rfl
noncomputable def W5:Sp:=fun vs H Q _=>∃ (r l:W) (x:Nat),vs=[.str (txt r),.str (txt l),.int x]/\x+l.length<=r.length/\r.length<=1000/\Q (.str (txt (over x l r))) H
noncomputable def W6 (C4 C6 C7:Addr):Sp:=fun vs H Q E=>∃ (x:V) (t:T) (wide:Nat) (n:List Int) (a:Addr) (xs:List V) (wss:List (List W)) (P:R),vs=[x,.ref a,.int wide]/\At H x t/\sz t<=1000/\yd t/\Good t n/\H a=some (.lst xs)/\Txs H xs wss/\xs.length=n.length/\HasR (Lvs wss) t P/\1<=wide/\wide<=400 /\
 ((∃ (high:Nat) (res:List (Int×Pc)),Low P wide (some high)/\zT (Lvs wss) t ⟨0,0,wide,high⟩ res/\∀ (l:Addr) (pcs:List Pc) (H':Hp),Same H H'->H l=none->PcR res pcs n.length->H' l=some (.lst (tx (pgs wide high pcs wss n.length)))->Q (.ref l) H')\/(Low P wide none/\∀ H',Same H H'->E (.ref C7) none H'))
theorem Jp {wss:List (List W)} {t:T} {n:List Int} {P:R} {wide high:Nat} {res:List (Int×Pc)} {pcs:List Pc} (hR:HasR (Lvs wss) t P) (hP:P wide high) (hS:zT (Lvs wss) t ⟨0,0,wide,high⟩ res) (hp:PcR res pcs n.length):∀ (k:Nat) (p:Pc) (ws:List W),pcs[k]?=some p->wss[k]?=some ws->Fit wide high p ws:=by
 intro k p ws e1 e2
 have m:=hp.2 k p e1
 have ps:=(_Sta.HasR.up (yQ wss) hR).pos hP
 have cv:=(zT.cov (yQ wss) hS (by show 0<wide;omega) (by show 0<high;omega)).2 _ m
 obtain ⟨_,L,eL,rm⟩:=zT.room hS hR (by unfold _Sta.Rm;exact hP) _ m
 have:Lvs wss=wss.map _Sta.xb:=rfl
 rw [this,vp,kR,e2] at eL
 cases eL
 exact _Prt.zcV cv rm
section
variable {P:Program} {w:World} {K:PySem.W.Frag} {mg:Str->Option Value} {base:Heap} {kA:Addr}
theorem zbU:zu ["words","wide"] ["words","wide"] (ze wM):=⟨rfl,rfl,rfl,by decide +kernel,rfl,by decide +kernel,by decide +kernel⟩
theorem zat {f fR fT C:Addr} {fd fdR fdT:FuncData} (F:Fun K "lines" "lines" wM f fd) (Z:Nm K mg) (Re:Callee P w K mg base (CXE P w) 4 "refuse_no_words" fR fdR ["things"] (qh C))
  (Ta:Callee P w K mg base CX0 1 "taken" fT fdT ["words","wide"] jh):FnOk P w K mg base (CXE P w) 5 f fd ["words","wide"] (ZD C):=by
 obtain ⟨gOUT,gMOST,ti,tstr,tlist,tl,tall,tany,tord,_,_,_,_,_,_,_,_,_,_,_,_⟩:=Z
 refine F.okE zbU (fun vs H Q E h=>?_) (fun cdv A outer s H vs Q E hr hh h=>?_)
 ·refine E_2 h fun x wide n8=>A_2 n8 fun e9 _=>?_;clear n8 h;subst e9
  rfl
 ·revert h;intro n7;refine E_2 n7 fun x wide n8=>A_2 n8 fun e9 h=>?_;clear n8 n7;subst e9
  refine ⟨_,(zd (yi (zj Re.ok hr rfl Re.bound Re.kp Re.bd .nil xg (za (pv 0) zb)))
   (zd (zJ (yc (zh (Z4 rfl) (by rfl) tany PyProof.Rows.boot_any (za (zV (Nc:=["word","wide"]) (ix:=[none,some 1]) rfl rfl (by refine' z7 ?zz;case zz=>exact (pv 0)) (fun _ _ _ _ _=>(zn (i:=0) (by show (["word","wide"]:List Str).Nodup;decide +kernel) rfl (Or.inl rfl))) (fun _ _ _ _ _=>zR) (fun _ _ _ _ _=>(yq w5 (zh zZ (by rfl) tl kK (za (pv 0) zb)) (pv 1) (zE _)))) zb)))
   (zg JF)
   zF)
   (zg (zm (zj Ta.ok (hr.mono (by decide)) rfl Ta.bound Ta.kp Ta.bd .nil zx (za (pv 0) (za (pv 1) zb))))))),?_⟩
  rcases h with ⟨a,ws,rfl,ha,hw,hn,hwd,q⟩ | ⟨bad,qe⟩
  ·refine ⟨_,rfl,_,rfl,.inl ⟨a,ws,rfl,ha,hw,hn,fun H1 S1=>?_⟩⟩
   have ha1:=S1 _ _ ha
   refine ⟨_,rfl,a,rfl,⟨_,SqL.of ha1⟩,yh (K:=K) (a:=a) (xs:=tx ws) (fun i ys σ H'=>ys=((ws.take i).map fun u=>decide (wide<(u.length:Int))).map V.bl/\H'=H1/\∃ o,σ=[o,some (.int wide)]) ⟨rfl,rfl,none,rfl⟩
    (fun i ys σ H' hi h9=>by obtain ⟨e,e2,_⟩:=h9;exact (⟨by rw [e,ka,ka,kL];exact km (show _<=1000 by omega) (by decide),by rw [e2];exact SqL.of ha1⟩)) ?_ ?_⟩
   ·intro ys σ H' h8 la nl
    obtain ⟨e,rfl,_⟩:=h8
    rw [zL,kM] at e
    subst e
    have S2:=S1.trans (zf (o:=.lst ((ws.map fun u=>decide (wide<(u.length:Int))).map V.bl)) nl)
    refine ⟨la,ws.map fun u=>decide (wide<(u.length:Int)),rfl,SqL.of zc,_,rfl,?_⟩
    rw [J5,decide_eq_true hwd]
    refine iteF ?_
    refine ⟨_,rfl,_,rfl,a,ws,wide,rfl,S2 _ _ ha,hw,hn,fun l H3 S3 n3 h3=>?_⟩
    exact q l H3 (S2.trans S3) (S2.free n3) h3
   ·intro i x ys σ H' hx h8
    obtain ⟨e,rfl,o,rfl⟩:=h8
    subst e
    obtain ⟨v,hv,rfl⟩:=yN hx
    obtain ⟨hil,ev⟩:=kf.mp hv
    dsimp only [zW,tYes]
    refine iteT ?_
    refine zQ (xk (zk rfl) (km (hw v (kE hv)).2.1 (by decide))) (zk rfl) _ ?_
    refine ⟨?_,rfl,_,rfl⟩
    rw [<- ky hil,ev,kz,kz]
    rfl
  ·exact ⟨_,rfl,_,rfl,.inr ⟨bad,fun H' S=>qe H' S⟩⟩
theorem zdG:zu ["row","line","left"] ["row","line","left"] (ze sLov):=⟨rfl,rfl,rfl,by decide +kernel,rfl,by decide +kernel,by decide +kernel⟩
theorem zcY {f:Addr} {fd:FuncData} (F:Fun K "laid_over" "laid_over" sLov f fd) (tl:mg "len" = none):FnOk P w K mg base CX0 1 f fd ["row","line","left"] W5:=by
 refine F.ok zdG (fun vs H Q E h=>?_) (fun cdv A outer s H vs Q E hr h=>?_)
 ·refine E_3 h fun r l x n8=>A_2 n8 fun e9 _=>?_;clear n8 h;subst e9
  rfl
 ·refine E_3 h fun r l x n8=>A_4 n8 fun e9 hx hr1 q=>?_;clear n8 h;subst e9
  refine ⟨_,(zg (zm (zA yG (zA yG (yz XG (pv 0) xn (yr (pv 2))) (pv 1)) (yz XG (pv 0) (yr (zA yl (pv 2) (zh zZ (by rfl) tl kK (za (pv 1) zb)))) xn)))),?_⟩
  refine ⟨_,rfl,_,rfl,_,rfl,r,rfl,km hr1 (by decide),_,rfl,_,_,rfl,rfl,?_,?_⟩
  ·rw [zO,zO,Jn (by omega),kL]
   exact km (show _<=2000 by omega) (by decide)
  ·rw [xD,Jn (by omega)]
   refine ⟨_,rfl,_,rfl,_,rfl,_,rfl,?_,_,_,rfl,rfl,_,rfl,r,rfl,km hr1 (by decide),_,_,rfl,rfl,?_,?_⟩
   ·rw [zO]
    exact km (show l.length<=1000 by omega) (by decide)
   ·rw [zO,zO,zO,<- br,Jo (by omega),vh,kg,kL]
    exact km (show _<=3000 by omega) (by decide)
   ·rw [zO,<- br,Jo (by omega),xD]
    exact q
theorem qo:zu ["tree","texts","wide","high","rows","words","box","number","line"] ["tree","texts","wide"] (ze sPrd):=⟨rfl,rfl,rfl,by decide +kernel,rfl,by decide +kernel,by decide +kernel⟩
theorem zcZ {f fR fH fS fL fO C4 C6 C7:Addr} {fd dR dH dS dL dO:FuncData} (F:Fun K "printed" "printed" sPrd f fd) (ex:Exc K mg "NoRoom" C7) (gMW:GI mg "MOST_WIDE" 400) (gLEFT:GI mg "LEFT" 0) (gTOP:GI mg "TOP" 1) (gRIGHT:GI mg "RIGHT" 2) (tzip:mg "zip" = none) (tenum:mg "enumerate" = none)
  (Rt:Callee P w K mg base (CXE P w) 8 "refuse_no_texts" fR dR ["tree","texts"] (Yy C4 C6)) (Hi:Callee P w K mg base (CXE P w) 30 "height_in" fH dH ["tree","texts","wide"] (YF C4 C6 C7)) (Se:Callee P w K mg base (CXE P w) 55 "setting" fS dS ["tree","texts","wide","high"] (Zh C4 C6 C7))
  (Li:Callee P w K mg base (CXE P w) 5 "lines" fL dL ["words","wide"] (ZD C6)) (Lo:Callee P w K mg base CX0 1 "laid_over" fO dO ["row","line","left"] W5) :
  FnOk P w K mg base (CXE P w) 56 f fd ["tree","texts","wide"] (W6 C4 C6 C7):=by
 refine F.okE qo (fun vs H Q E h=>?_) (fun cdv A outer s H vs Q E hr hh h=>?_)
 ·refine E_8 h fun x t wide n a xs wss P1 n8=>A_2 n8 fun e9 _=>?_;clear n8 h;subst e9
  rfl
 ·revert h;intro n7;refine E_8 n7 fun x t wide n a xs wss P1 n8=>A_12 n8 fun e9 hA hz iT g ha hT hl hR w1 w4 h=>?_;clear n8 n7;subst e9
  refine ⟨_,(zd (yi (zj Rt.ok (hr.mono (show 8<=55 by decide)) rfl Rt.bound Rt.kp Rt.bd .nil xg (za (pv 0) (za (pv 1) zb))))
   (zd (zJ (ye (YL yS yS zi (pv 2) (zG rfl gMW)))
   (zg (y4 ex hh rfl (za yk zb)))
   zF)
   (zd (zt (i:=3) qo.nd rfl (Or.inl rfl) (zj Hi.ok (hr.mono (show 30<=55 by decide)) rfl Hi.bound Hi.kp Hi.bd .nil xg (za (pv 0) (za (pv 1) (za (pv 2) zb)))))
   (zd (zt (i:=4) qo.nd rfl (Or.inl rfl) (zA zcj (z5 (za (zA zbe yk (pv 2)) zb)) (pv 3)))
   (zd (PS.nox (yp PassesOwn.never rfl (qI rfl tzip (za (pv 1) (za (zj Se.ok hr rfl Se.bound Se.kp Se.bd .nil wc (za (pv 0) (za (pv 1) (za (pv 2) (za (pv 3) zb))))) zb))) (jX rfl (zY (zn (i:=5) qo.nd rfl (Or.inl rfl)) (zY (zn (i:=6) qo.nd rfl (Or.inl rfl)) yW)))
   (zg (id (yp PassesOwn.never rfl (zap rfl tenum (zj Li.ok (hr.mono (show 5<=55 by decide)) rfl Li.bound Li.kp Li.bd .nil wc (za (pv 5) (za (zA xv (zl zw (pv 6) (zG rfl gRIGHT) (fun _ _=>rfl)) (zl zw (pv 6) (zG rfl gLEFT) (fun _ _=>rfl))) zb))) (zl zw (pv 6) (zG rfl gTOP) (fun _ _=>rfl))) (jX rfl (zY (zn (i:=7) qo.nd rfl (Or.inl rfl)) (zY (zn (i:=8) qo.nd rfl (Or.inl rfl)) yW)))
    (zg (wG (zj Lo.ok (hr.mono (show 1<=55 by decide)) rfl Lo.bound Lo.kp Lo.bd .nil zx (za (zl zN (pv 4) (pv 7) (fun _ _=>rfl)) (za (pv 8) (za (zl zw (pv 6) (zG rfl gLEFT) (fun _ _=>rfl)) zb)))) (qv (pv 4) (pv 7) set_list))))))))
   (zg (zm (pv 4)))))))),?_⟩
  have n24:=(iT.okN g).2
  refine ⟨_,rfl,_,rfl,x,.ref a,t,rfl,hA,hz,.inl ⟨n,a,xs,_,iT,g,rfl,ha,hT.jts,by omega,.inl ⟨hl,by simp,fun H1 S1=>?_⟩⟩⟩
  dsimp only
  refine qF (p:=¬ (1<=(wide:Int)/\(wide:Int)<=400)) (Zy (z6 (p:=1<=(wide:Int)/\(wide:Int)<=400) (by
   rw [Bool.decide_and]
   exact QE zI (zk rfl) zI))) (fun c=>absurd ⟨by omega,by omega⟩ c) (fun _=>?_)
  refine zS ?_
  have up1:=_Sta.HasR.up (yQ wss) hR
  refine ⟨_,rfl,_,rfl,_,rfl,x,.ref a,t,wide,rfl,hA.same S1,hz,.inl ⟨n,a,xs,wss,iT,g,rfl,S1 _ _ ha,hT.same S1,hl,fun P2 k H2 hR2 S2 low2=>?_,fun P2 H2 hR2 S2 low2=>?_⟩⟩
  case refine_2 =>
   rw [_Sta.xq hR2 hR] at low2
   rcases h with ⟨high,res,low,_⟩ | ⟨_,qe⟩
   ·have:=low2.uniq low
    cases this
   ·exact qe H2 (S1.trans S2)
  rw [_Sta.xq hR2 hR] at low2
  rcases h with ⟨high,res,low,hSI,q⟩ | ⟨low,_⟩
  case inr =>
   have:=low2.uniq low
   cases this
  have ek:=low2.uniq low
  cases ek
  have rm:=low.1
  have tall:=_Sta.tall hT.ok40 (yQ wss) g hR wide k rm
  have hk:=low.2 _ tall
  have S12:=S1.trans S2
  refine zB ?_
  try dsimp only
  have e1:(" " : Str)=txt [32]:=by decide +kernel
  -- the page of blanks
  refine ⟨_,rfl,32,_,by rw [e1],rfl,by omega,by omega,by show 1<=sizeLine;decide,fun p0 np0=>?_⟩
  refine ⟨_,rfl,p0,_,_,rfl,rfl,zc,by omega,by omega,?_,fun lr nlr=>?_⟩
  ·rw [vo,vp,Nat.one_mul]
   exact km (show k<=1000 by omega) (by decide)
  have eb:(kF (Int.toNat (k:Int)) [V.str (txt (kF (Int.toNat (wide:Int)) 32))]).flatten=tx (pgs wide k [] wss 0):=W4 wide k wss
  rw [eb]
  have S3:=(zf (o:=.lst [V.str (txt (kF (Int.toNat (wide:Int)) 32))]) np0).trans (zf (o:=.lst (tx (pgs wide k [] wss 0))) nlr)
  have flr:H lr=none:=S12.free ((zf (o:=.lst [V.str (txt (kF (Int.toNat (wide:Int)) 32))]) np0).free nlr)
  have hlr:(upd (upd H2 p0 (.lst [V.str (txt (kF (Int.toNat (wide:Int)) 32))])) lr (.lst (tx (pgs wide k [] wss 0)))) lr=some (.lst (tx (pgs wide k [] wss 0))):=zc
  have S13:=S12.trans S3
  generalize upd (upd H2 p0 (.lst [V.str (txt (kF (Int.toNat (wide:Int)) 32))])) lr (.lst (tx (pgs wide k [] wss 0)))=H3 at S3 hlr S13
  refine zB ?_
  try dsimp only
  -- box by box
  refine ⟨_,rfl,_,rfl,_,rfl,_,rfl,_,rfl,x,.ref a,t,wide,k,rfl,hA.same S13,hz,.inl ⟨n,a,xs,wss,P1,iT,g,rfl,S13 _ _ ha,hT.same S13,hl,hR,.inl ⟨res,rm,hSI,fun D us pcs H4 S4 nD hD hPc lpc hres=>?_⟩⟩⟩
  have hPR:PcR res pcs n.length:=⟨lpc,hres⟩
  have hF:=Jp (n:=n) hR rm hSI hPR
  have hG:=_Prt.wu hF
  have S14:=S13.trans S4
  have lu:=hPc.len
  have lw:=hT.len
  have dne:D≠lr:=(zK hlr nD).symm
  refine ⟨a,D,rfl,⟨_,SqL.of (S14 _ _ ha)⟩,⟨_,SqL.of hD⟩,zbS (K:=K) (a:=a) (b:=D) (xs:=xs) (ys:=us) (fun i σ H5=>∃ (o5 o6 o7 o8:Option V),σ=[some x,some (.ref a),some (.int wide),some (.int k),some (.ref lr),o5,o6,o7,o8]/\Same H H5/\H5 lr=some (.lst (tx (pgs wide k pcs wss i)))/\H5 D=some (.lst us)/\z9 H5 us pcs)
   (by omega) ⟨none,none,none,none,rfl,S14,S4 _ _ hlr,hD,hPc⟩ (fun i σ H5 hi h9=>by obtain ⟨_,_,_,_,_,S5,_,z,_⟩:=h9;exact (⟨SqL.of (S5 _ _ ha),SqL.of z⟩)) ?_ ?_⟩
  ·intro i x1 y1 σ H5 tp hx1 hy1 h8 ntp
   refine E_4 h8 fun o5 o6 o7 o8 n8=>A_5 n8 fun e9 S5 hlr5 hD5 hPc5=>?_;clear n8 h8;subst e9
   obtain ⟨ws,ew,pa,rfl,hpa,hw,h40⟩:=hT.get hx1
   obtain ⟨p1,ep,pp,rfl,hpp⟩:=hPc5.get hy1
   have f1:=hF i p1 ws ep ew
   have fi:=_Prt.yO f1.ins
   have St:=zf (o:=.tup [.ref pa,.ref pp]) ntp
   refine ⟨tp,_,rfl,SqT.of zc,rfl,_,_,rfl,_,_,rfl,rfl,?_⟩
   generalize upd H5 tp (.tup [.ref pa,.ref pp])=H6 at St
   have S6:=S5.trans St
   have hlr6:=St _ _ hlr5
   have hD6:=St _ _ hD5
   have hPc6:=hPc5.same St
   have hpp6:=St _ _ hpp
   -- its lines
   refine ⟨_,rfl,_,rfl,_,_,_,_,rfl,rfl,SqT.of hpp6,rfl,_,rfl,_,_,_,_,rfl,rfl,SqT.of hpp6,rfl,_,_,rfl,rfl,.ref pa,_,rfl,.inl ⟨pa,ws,rfl,S6 _ _ hpa,hw,by omega,fun u hu=>?_,fun ll H7 S7 nll hll=>?_⟩⟩
   ·have:=f1.wid u hu
    omega
   have lne:ll≠lr:=(zK hlr6 nll).symm
   have S07:=S6.trans S7
   refine ⟨_,rfl,_,_,_,_,rfl,rfl,SqT.of (S7 _ _ hpp6),rfl,ll,p1.t,rfl,rfl,by omega,⟨_,SqL.of hll⟩,?_⟩
   refine Jj (K:=K) (a:=ll) (k:=p1.t) (xs:=tx (lns p1 ws)) (fun j σ H8=>∃ (o7 o8:Option V),σ=[some x,some (.ref a),some (.int wide),some (.int k),some (.ref lr),some (.ref pa),some (.ref pp),o7,o8]/\Same H H8/\H8 lr=some (.lst (tx (lay (pgs wide k pcs wss i) p1.t p1.l ((lns p1 ws).take j))))/\H8 D=some (.lst us)/\z9 H8 us pcs/\H8 ll=some (.lst (tx (lns p1 ws)))/\H8 pp=some (.tup (pq p1)))
    ⟨_,_,rfl,S07,S7 _ _ hlr6,S7 _ _ hD6,hPc6.same S7,hll,S7 _ _ hpp6⟩ (fun j σ H8 hj h9=>by obtain ⟨_,_,_,_,_,_,_,z,_⟩:=h9;exact (SqL.of z)) ?_ ?_
   ·intro j v σ H8 tq hv h8 ntq
    refine E_2 h8 fun o7 o8 n8=>A_7 n8 fun e9 S8 hlr8 hD8 hPc8 hll8 hpp8=>?_;clear n8 h8;subst e9
    obtain ⟨l1,el,rfl⟩:=yN hv
    obtain ⟨hjl,ev⟩:=kf.mp el
    have Sq:=zf (o:=.tup [.int ((p1.t+j:Nat):Int),.str (txt l1)]) ntq
    refine ⟨tq,_,rfl,SqT.of zc,rfl,_,_,rfl,_,_,rfl,rfl,?_⟩
    generalize upd H8 tq (.tup [.int ((p1.t+j:Nat):Int),.str (txt l1)])=H9 at Sq
    have S9:=S8.trans Sq
    have hlr9:=Sq _ _ hlr8
    have hpp9:=Sq _ _ hpp8
    have fl:Full wide k (lay (pgs wide k pcs wss i) p1.t p1.l ((lns p1 ws).take j)):=_Prt.jT (hG i) (by rw [kL];have:=f1.cnt;omega) fun l hl=>by
     have:=f1.line l (uh hl)
     omega
    have hy:p1.t+j<(lay (pgs wide k pcs wss i) p1.t p1.l ((lns p1 ws).take j)).length:=by rw [fl.1];have:=f1.cnt;omega
    have e9:atI (tx (lay (pgs wide k pcs wss i) p1.t p1.l ((lns p1 ws).take j))) ((p1.t+j:Nat):Int)=some (.str (txt ((lay (pgs wide k pcs wss i) p1.t p1.l ((lns p1 ws).take j)).getD (p1.t+j) []))):=by
     refine yw ?_
     unfold tx
     rw [kR,kb hy,_L2.getD_at hy]
     rfl
    have lr9:((lay (pgs wide k pcs wss i) p1.t p1.l ((lns p1 ws).take j)).getD (p1.t+j) []).length=wide:=by
     rw [_L2.getD_at hy]
     exact fl.2 _ (vB hy)
    have ll9:=f1.line l1 (kE el)
    refine ⟨_,rfl,_,rfl,lr,_,_,_,rfl,rfl,SqL.of hlr9,e9,_,rfl,_,rfl,_,_,_,_,rfl,rfl,SqT.of hpp9,rfl,_,l1,p1.l,rfl,by rw [lr9];omega,by rw [lr9];omega,?_⟩
    refine ⟨_,rfl,_,rfl,lr,_,_,p1.t+j,rfl,rfl,hlr9,?_,?_⟩
    ·rw [zL]
     unfold ixN
     rw [if_pos (by omega),if_pos (by omega),vp]
    ·have pne:pp≠lr:=xI hpp9 hlr9 (by intro z;cases z)
     refine ⟨_,_,rfl,zU S9 flr,?_,by rw [zy dne];exact Sq _ _ hD8,zas hlr9 (hPc8.same Sq),by rw [zy lne];exact Sq _ _ hll8,by rw [zy pne];exact hpp9⟩
     rw [zc,<- ky hjl,ev,_Prt.XF,kL,bp (vE hjl)]
     unfold lay1 tx
     rw [List.map_set]
   ·intro σ H8 h8
    refine E_2 h8 fun o7 o8 n8=>A_7 n8 fun e9 S8 hlr8 hD8 hPc8 hll8 hpp8=>?_;clear n8 h8;subst e9
    rw [zL,kM,<- _Prt.jU ep ew] at hlr8
    exact I_4 _ _ _ _ ⟨rfl,S8,hlr8,hD8,hPc8⟩
  ·intro σ H5 h8
   refine E_4 h8 fun o5 o6 o7 o8 n8=>A_5 n8 fun e9 S5 hlr5 hD5 hPc5=>?_;clear n8 h8;subst e9
   rw [hl] at hlr5
   exact ⟨_,rfl,q lr pcs H5 S5 flr hPR hlr5⟩
end
end _JJ
namespace _Lin
noncomputable def str1:W->List Nat->List W
 | cur,[]=>if cur=[] then [] else [cur]
 | cur,c::r=>if c=32 then (if cur=[] then str1 [] r else cur::str1 [] r) else str1 (cur++[c]) r
noncomputable def spl:List Nat->List W
 | []=>[[]]
 | c::r=>if c=32 then []::spl r else match spl r with
  | []=>[[c]]
  | p::ps=>(c::p)::ps
theorem XH:∀ t:List Nat,spl t≠[]
 | []=>by simp [spl]
 | c::r=>by
  unfold spl
  split
  ·simp
  ·split<;>simp
theorem Jq {p:W} {ps:List W} (h:ps≠[]):glue (p::ps)=p++32::glue ps:=by
 cases ps with
 | nil=>exact absurd rfl h
 | cons a r=>rfl
theorem qp:∀ t:List Nat,glue (spl t)=t
 | []=>rfl
 | c::r=>by
  have ih:=qp r
  have ne:=XH r
  unfold spl
  split
  ·rename_i e
   rw [Jq ne,ih,e]
   rfl
  ·cases h:spl r with
   | nil=>exact absurd h ne
   | cons p ps =>
    rw [h] at ih
    show glue ((c::p)::ps)=c::r
    rw [<- ih]
    cases ps with
    | nil=>rfl
    | cons a b=>rfl
theorem jV:∀ t:List Nat,∀ p∈spl t,32∉p
 | [],p,hp=>by
  rw [kq.mp hp]
  simp
 | c::r,p,hp=>by
  have ih:=jV r
  unfold spl at hp
  split at hp
  ·rcases kO.mp hp with e | e
   ·rw [e];simp
   ·exact ih p e
  ·rename_i nc
   cases h:spl r with
   | nil=>exact absurd h (XH r)
   | cons q qs =>
    rw [h] at hp ih
    rcases kO.mp hp with e | e
    ·rw [e]
     intro z
     rcases kO.mp z with y | y
     ·exact nc y.symm
     ·exact ih q kh y
    ·exact ih p (kj _ e)
theorem wC:∀ (p cur:W),32∉p->str1 cur p=if cur++p=[] then [] else [cur++p]
 | [],cur,_=>by
  rw [vq]
  rfl
 | c::r,cur,h=>by
  have hc:c≠32:=fun z=>h (by rw [z];exact kh)
  unfold str1
  rw [if_neg hc,wC r (cur++[c]) (fun z=>h (kj _ z)),ue]
  rfl
theorem wv:∀ (p cur r:W),str1 cur (p++32::r)=str1 cur p++str1 [] r
 | [],cur,r=>by
  show str1 cur (32::r)=str1 cur []++str1 [] r
  unfold str1
  rw [if_pos rfl]
  split
  ·cases r<;>rfl
  ·cases r<;>rfl
 | c::p,cur,r=>by
  show str1 cur (c::(p++32::r))=str1 cur (c::p)++str1 [] r
  by_cases hc:c=32
  ·have e:∀ t,str1 cur (c::t)=if cur=[] then str1 [] t else cur::str1 [] t:=fun t=>by
    conv=>lhs;unfold str1
    rw [if_pos hc]
   rw [e,e,wv p [] r]
   split
   ·rfl
   ·rfl
  ·have e:∀ t,str1 cur (c::t)=str1 (cur++[c]) t:=fun t=>by
    conv=>lhs;unfold str1
    rw [if_neg hc]
   rw [e,e,wv p (cur++[c]) r]
theorem qS:∀ rows:List W,str1 [] (glue rows)=(rows.map (str1 [])).flatten
 | []=>rfl
 | [a]=>by
  show str1 [] a=str1 [] a++[]
  rw [vq]
 | a::b::r=>by
  show str1 [] (a++32::glue (b::r))=str1 [] a++((b::r).map (str1 [])).flatten
  rw [wv,qS (b::r)]
theorem Zj:∀ ps:List W,(∀ p∈ps,32∉p)->str1 [] (glue ps)=ps.filter fun p=>decide (p≠[]):=fun ps h=>by
 rw [qS]
 induction ps with
 | nil=>rfl
 | cons p ps ih =>
  rw [vf,vg,ih fun z hz=>h z (kj _ hz),wC p [] (h p kh),List.nil_append,uc]
  by_cases e:p=[]
  ·subst e
   rfl
  ·rw [if_neg e,decide_eq_true e]
   rfl
end _Lin
namespace _JJ
open PySem _L2 _Lin
structure Q4 where
 l:Int
 t:Int
 r:Int
 b:Int
noncomputable def bq (b:Q4):List V:=[.int b.l,.int b.t,.int b.r,.int b.b]
noncomputable def BxAt (H:Hp) (v:V) (b:Q4):Prop:=∃ p,v=.ref p/\H p=some (.tup (bq b))
noncomputable def qr (H:Hp):List V->List Q4->Prop:=Paired (BxAt H)
theorem qr.len {H:Hp} {vs:List V} {bs:List Q4} (h:qr H vs bs):vs.length=bs.length:=Paired.length h
theorem qr.get {H:Hp}:∀ {vs:List V} {bs:List Q4} {i:Nat} {v:V},qr H vs bs->vs[i]?=some v->∃ b,bs[i]?=some b/\BxAt H v b
 | _,_,_,_,.nil,e=>by simp at e
 | _,_,0,_,.cons r _,e=>by simp at e;subst e;exact ⟨_,rfl,r⟩
 | _,_,i+1,v,.cons _ t,e=>by
  obtain ⟨p,h1,h2⟩:=qr.get (i:=i) (v:=v) t (by simpa using e)
  exact ⟨p,by simpa using h1,h2⟩
noncomputable def Grid (rows:List W) (wide high:Nat):Prop:=rows.length=high/\(∀ r∈rows,r.length=wide)/\1<=wide/\wide<=400/\high<=1000
noncomputable def prn (b:Q4) (wide high:Nat):Bool:=decide (0<=b.l/\0<=b.t/\b.b<=(high:Int)/\b.r<=(wide:Int))
noncomputable def cut1 (b:Q4) (r:W):W:=(r.drop b.l.toNat).take (b.r.toNat-b.l.toNat)
noncomputable def cutB (rows:List W) (b:Q4):List W:=(rows.drop b.t.toNat).take (b.b.toNat-b.t.toNat)
noncomputable def wds (rows:List W) (b:Q4):List W:=((cutB rows b).map fun r=>str1 [] (cut1 b r)).flatten
theorem six {n d:Nat} {i:Int} (h0:0<=i) (h1:i<=n):_HT.sIx n d (some i)=i.toNat:=by
 obtain ⟨j,rfl⟩:=uo h0
 rw [_HT.qX]
 omega
theorem Yp {rows:List W} {b:Q4} (h0:0<=b.t) (h1:b.t<=b.b) (h2:b.b<=(rows.length:Int)):cutV (tx rows) (some b.t) (some b.b)=tx (cutB rows b):=by
 unfold cutV cutB tx
 rw [ka,six h0 (by omega),six (by omega) h2,List.map_take,bG]
theorem zau {r:W} {b:Q4} (h0:0<=b.l) (h1:b.l<=b.r) (h2:b.r<=(r.length:Int)):cutN r (some b.l) (some b.r)=cut1 b r:=by
 unfold cutN cut1
 rw [six h0 (by omega),six (by omega) h2]
theorem jW {rows:List W} {b:Q4} {r:W} (h:r∈cutB rows b):r∈rows:=List.mem_of_mem_drop (uh h)
theorem XI (rows:List W) (b:Q4):(cutB rows b).length<=rows.length:=by
 unfold cutB
 rw [kL,vh]
 omega
theorem zav (r:W) (b:Q4):(cut1 b r).length<=r.length:=by
 unfold cut1
 rw [kL,vh]
 omega
theorem zbV {rows:List W} {b:Q4} (h0:0<=b.t) (h1:b.t<b.b) (h2:b.b<=(rows.length:Int)):cutB rows b≠[]:=fun z=>by
 have:=congrArg List.length z
 unfold cutB at this
 rw [kL,vh] at this
 simp at this
 omega
theorem Wy {B:Nat}:∀ {ls:List W},(∀ l∈ls,l.length<=B)->(ls.map List.length).sum<=B*ls.length
 | [],_=>kc _
 | a::r,h=>by
  have:=Wy (B:=B) (ls:=r) fun l hl=>h l (kj _ hl)
  have:=h a kh
  rw [vf,vn,kH,Nat.mul_add]
  omega
theorem XJ:∀ ls:List W,(glue ls).length<=(ls.map List.length).sum+ls.length
 | []=>kP _
 | [a]=>by
  show a.length<=a.length+0+1
  omega
 | a::b::r=>by
  have:=XJ (b::r)
  show (a++32::glue (b::r)).length<=(a.length+((b::r).map List.length).sum)+((b::r).length+1)
  rw [kg,kH]
  omega
theorem Wz:∀ t:List Nat,(spl t).length<=t.length+1
 | []=>kc _
 | c::r=>by
  have ih:=Wz r
  unfold spl
  split
  ·rw [kH,kH]
   omega
  ·split
   ·rw [kH,kH]
    show 0+1<=_
    omega
   ·rename_i p ps e
    rw [e] at ih
    rw [kH,kH] at *
    omega
theorem zc0 (rows:List W) (b:Q4):(spl (glue ((cutB rows b).map (cut1 b)))).filter (fun p=>decide (p≠[]))=wds rows b:=by
 rw [<- Zj _ (jV _),qp,qS,vU]
 rfl
theorem zaw (v:W):(!decide (V.str (txt v)=V.str ""))=decide (v≠[]):=by
 have e:("" : Str)=txt []:=by decide +kernel
 rw [e]
 by_cases c:v=[]
 ·subst c
  simp
 ·rw [decide_eq_true c,decide_eq_false fun z=>c (ZA (V.str.inj z))]
  rfl
structure Np (K:PySem.W.Frag) (mg:Str->Option Value):Prop where
 gLEFT:GI mg "LEFT" 0
 gTOP:GI mg "TOP" 1
 gRIGHT:GI mg "RIGHT" 2
 gBELOW:GI mg "BELOW" 3
 tl:mg "len" = none
 tall:mg "all" = none
noncomputable def W7:Sp:=fun vs H Q _=>∃ (a p:Addr) (rows:List W) (wide high:Nat) (b:Q4),vs=[.ref a,.ref p]/\H a=some (.lst (tx rows))/\Grid rows wide high/\H p=some (.tup (bq b))/\b.t<b.b/\∀ H',Same H H'->Q (.bl (prn b wide high)) H'
noncomputable def W8:Sp:=fun vs H Q _=>∃ (a p:Addr) (rows:List W) (wide high:Nat) (b:Q4),vs=[.ref a,.ref p]/\H a=some (.lst (tx rows))/\Grid rows wide high/\H p=some (.tup (bq b))/\b.t<b.b/\b.l<b.r/\prn b wide high=true/\∀ (l:Addr) (H':Hp),Same H H'->H l=none->H' l=some (.lst (tx (wds rows b)))->Q (.ref l) H'
section
variable {P:Program} {w:World} {K:PySem.W.Frag} {mg:Str->Option Value} {base:Heap}
theorem zdH:zu ["rows","box"] ["rows","box"] (ze sPrn):=⟨rfl,rfl,rfl,by decide +kernel,rfl,by decide +kernel,by decide +kernel⟩
theorem zc1 {f:Addr} {fd:FuncData} (F:Fun K "is_printed" "is_printed" sPrn f fd) (Z:Np K mg):FnOk P w K mg base CX0 1 f fd ["rows","box"] W7:=by
 obtain ⟨gLEFT,gTOP,gRIGHT,gBELOW,tl,tall⟩:=Z
 refine F.ok zdH (fun vs H Q E h=>?_) (fun cdv A outer s H vs Q E hr h=>?_)
 ·refine E_6 h fun a p rows wide high b n8=>A_2 n8 fun e9 _=>?_;clear n8 h;subst e9
  rfl
 ·refine E_6 h fun a p rows wide high b n8=>A_6 n8 fun e9 ha n91 hp tb q=>?_;clear n8 h;subst e9;obtain ⟨g1,g2,g3,g4,g5⟩:=n91
  refine ⟨_,(zd (zJ (PW.pt (yR (zD y8 (zl zw (pv 1) (zG rfl gLEFT) (fun _ _=>rfl)) zi (zE _)) (yR (zD y8 (zl zw (pv 1) (zG rfl gTOP) (fun _ _=>rfl)) zi (zE _)) (yZ (zD w5 (zl zw (pv 1) (zG rfl gBELOW) (fun _ _=>rfl)) (zh zo (by rfl) tl kK (za (pv 0) zb)) (zE _))))))
   (zg (zm xt))
   zF)
   (zg (zm (zh (y6 rfl) (by rfl) tall vS (za (zV (Nc:=["row","box"]) (ix:=[none,some 1]) rfl rfl (by refine' z7 ?zz;case zz=>exact (yz xB (pv 0) (yr (zl zw (pv 1) (zG rfl gTOP) (fun _ _=>rfl))) (yr (zl zw (pv 1) (zG rfl gBELOW) (fun _ _=>rfl))))) (fun _ _ _ _ _=>(zn (i:=0) (by show (["row","box"]:List Str).Nodup;decide +kernel) rfl (Or.inl rfl))) (fun _ _ _ _ _=>zR) (fun _ _ _ _ _=>(yq yS (zl (yF (K:=K) rfl) (pv 1) (zG rfl gRIGHT) (fun _ _=>rfl)) (zh zZ (by rfl) tl kK (za (pv 0) zb)) (zE _)))) zb))))),?_⟩
  refine qF (p:=b.l<0\/(b.t<0\/(rows.length:Int)<b.b)) (YS (z6 (zQ (ya (zk rfl) zI (SqT.of hp) rfl) zI)) (YS (z6 (zQ (ya (zk rfl) zI (SqT.of hp) rfl) zI)) (z6 (by rw [<- zL rows];exact (zQ (ya (zk rfl) zI (SqT.of hp) rfl) (yA (zk rfl) (SqL.of ha))))))) (fun c=>?_) (fun c=>?_)
  ·have e:prn b wide high=false:=decide_eq_false (by omega)
   rw [<- e]
   exact q H (Same.refl _)
  ·refine zS ?_
   dsimp only
   have c1:0<=b.l/\0<=b.t/\b.b<=(rows.length:Int):=by omega
   refine ⟨_,rfl,_,rfl,_,_,_,_,rfl,rfl,SqT.of hp,rfl,_,rfl,_,rfl,_,_,_,_,rfl,rfl,SqT.of hp,rfl,_,rfl,a,_,rfl,SqL.of ha,fun pc nc=>?_⟩
   rw [Yp c1.2.1 (by omega) c1.2.2]
   have S1:=zf (o:=.lst (tx (cutB rows b))) nc
   have hpc:(upd H pc (.lst (tx (cutB rows b)))) pc=some (.lst (tx (cutB rows b))):=zc
   have hp1:=S1 _ _ hp
   generalize upd H pc (.lst (tx (cutB rows b)))=H1 at S1 hpc hp1
   have ln:=XI rows b
   refine ⟨pc,rfl,⟨_,SqL.of hpc⟩,yh (K:=K) (a:=pc) (xs:=tx (cutB rows b)) (fun i ys σ H'=>ys=(kF i (decide (b.r<=(wide:Int)))).map V.bl/\H'=H1/\∃ o,σ=[o,some (.ref p)]) ⟨rfl,rfl,none,rfl⟩
    (fun i ys σ H' hi h9=>by obtain ⟨e,e2,_⟩:=h9;exact (⟨by rw [e,ka,va];rw [zL] at hi;exact km (show i<=1000 by omega) (by decide),by rw [e2];exact SqL.of hpc⟩)) ?_ ?_⟩
   case refine_2 =>
    rintro i x ys σ H' hx ⟨rfl,rfl,o,rfl⟩
    obtain ⟨v,hv,rfl⟩:=yN hx
    have lv:=g2 v (jW (kE hv))
    dsimp only [zW,tYes]
    refine iteT ?_
    refine ⟨_,rfl,_,_,_,_,rfl,rfl,SqT.of hp1,rfl,_,rfl,_,rfl,?_,_,_,rfl,rfl,?_,rfl,_,rfl⟩
    ·rw [zO,lv]
     exact km g4 (by decide)
    ·rw [zO,lv,ui,kz]
     rfl
   rintro ys σ H' ⟨rfl,rfl,_⟩ pl npl
   rw [zL]
   refine ⟨pl,kF (cutB rows b).length (decide (b.r<=(wide:Int))),rfl,SqL.of zc,?_⟩
   have e:((kF (cutB rows b).length (decide (b.r<=(wide:Int)))).all id)=prn b wide high:=by
    have ne:=zbV c1.2.1 tb c1.2.2
    have:0<(cutB rows b).length:=bv.mpr ne
    unfold prn
    by_cases c:b.r<=(wide:Int)
    ·rw [decide_eq_true c,decide_eq_true (by omega),vK]
     intro x hx
     exact uJ hx
    ·rw [decide_eq_false c,decide_eq_false (by omega)]
     obtain ⟨k,e⟩ : ∃ k,(cutB rows b).length=k+1:=⟨_,(Nat.succ_pred_eq_of_pos this).symm⟩
     rw [e,vH]
     rfl
   rw [e]
   exact q _ (S1.trans (zf npl))
theorem zaY:zu ["rows","box","signs"] ["rows","box"] (ze sWof):=⟨rfl,rfl,rfl,by decide +kernel,rfl,by decide +kernel,by decide +kernel⟩
theorem zc2 {f:Addr} {fd:FuncData} (F:Fun K "words_of" "words_of" sWof f fd) (Z:Np K mg):FnOk P w K mg base CX0 1 f fd ["rows","box"] W8:=by
 obtain ⟨gLEFT,gTOP,gRIGHT,gBELOW,tl,tall⟩:=Z
 refine F.ok zaY (fun vs H Q E h=>?_) (fun cdv A outer s H vs Q E hr h=>?_)
 ·refine E_6 h fun a p rows wide high b n8=>A_2 n8 fun e9 _=>?_;clear n8 h;subst e9
  rfl
 ·refine E_6 h fun a p rows wide high b n8=>A_8 n8 fun e9 ha n91 hp tb lr pr q=>?_;clear n8 h;subst e9;obtain ⟨g1,g2,g3,g4,g5⟩:=n91
  refine ⟨_,(zd (zt (i:=2) zaY.nd rfl (Or.inl rfl) (yI u3 PySem.F.slot_str_join PySem.F.type_str_join JV yk (by exact (za (zV (Nc:=["row","box"]) (ix:=[none,some 1]) rfl rfl (by refine' z7 ?zz;case zz=>exact (yz xB (pv 0) (yr (zl zw (pv 1) (zG rfl gTOP) (fun _ _=>rfl))) (yr (zl zw (pv 1) (zG rfl gBELOW) (fun _ _=>rfl))))) (fun _ _ _ _ _=>(zn (i:=0) (by show (["row","box"]:List Str).Nodup;decide +kernel) rfl (Or.inl rfl))) (fun _ _ _ _ _=>zR) (fun _ _ _ _ _=>(yz XG (pv 0) (yr (zl (yF (K:=K) rfl) (pv 1) (zG rfl gLEFT) (fun _ _=>rfl))) (yr (zl (yF (K:=K) rfl) (pv 1) (zG rfl gRIGHT) (fun _ _=>rfl)))))) zb))))
   (zg (zm (zV (Nc:=["word"]) (ix:=[none]) rfl rfl (by refine' z7 ?zz;case zz=>exact (yI u3 PySem.F.slot_str_split PySem.F.type_str_split Jk (pv 2) (by exact (za yk zb)))) (fun _ _ _ _ _=>(zn (i:=0) (by show (["word"]:List Str).Nodup;decide +kernel) rfl (Or.inl rfl))) (fun _ _ _ _ _=>(Zz (zD wZ (pv 0) yk (zE _)))) (fun _ _ _ _ _=>(pv 0)))))),?_⟩
  have c1:=of_decide_eq_true pr
  refine ⟨rfl,_,rfl,_,rfl,_,_,_,_,rfl,rfl,SqT.of hp,rfl,_,rfl,_,rfl,_,_,_,_,rfl,rfl,SqT.of hp,rfl,_,rfl,a,_,rfl,SqL.of ha,fun pc nc=>?_⟩
  rw [Yp c1.2.1 (by omega) (by omega)]
  have S1:=zf (o:=.lst (tx (cutB rows b))) nc
  have hpc:(upd H pc (.lst (tx (cutB rows b)))) pc=some (.lst (tx (cutB rows b))):=zc
  have hp1:=S1 _ _ hp
  generalize upd H pc (.lst (tx (cutB rows b)))=H1 at S1 hpc hp1
  have ln:=XI rows b
  refine ⟨pc,rfl,⟨_,SqL.of hpc⟩,yh (K:=K) (a:=pc) (xs:=tx (cutB rows b)) (fun i ys σ H'=>ys=tx (((cutB rows b).take i).map (cut1 b))/\H'=H1/\∃ o,σ=[o,some (.ref p)]) ⟨rfl,rfl,none,rfl⟩
   (fun i ys σ H' hi h9=>by obtain ⟨e,e2,_⟩:=h9;exact (⟨by rw [e,zL,ka,kL];exact km (show _<=1000 by omega) (by decide),by rw [e2];exact SqL.of hpc⟩)) ?_ ?_⟩
  case refine_2 =>
   rintro i x ys σ H' hx ⟨rfl,rfl,o,rfl⟩
   obtain ⟨v,hv,rfl⟩:=yN hx
   obtain ⟨hil,ev⟩:=kf.mp hv
   have lv:=g2 v (jW (kE hv))
   dsimp only [zW,tYes]
   refine iteT ?_
   refine ⟨_,rfl,_,rfl,_,_,_,_,rfl,rfl,SqT.of hp1,rfl,_,rfl,_,rfl,_,_,_,_,rfl,rfl,SqT.of hp1,rfl,_,rfl,v,rfl,by omega,?_,rfl,_,rfl⟩
   rw [zau c1.1 (by omega) (by omega),xo,<- ky hil,ev,kz]
   rfl
  rintro ys σ H' ⟨rfl,rfl,_⟩ pl npl
  rw [zL,kM]
  have S2:=S1.trans (zf (o:=.lst (tx ((cutB rows b).map (cut1 b)))) npl)
  have hpl:(upd H' pl (.lst (tx ((cutB rows b).map (cut1 b))))) pl=some (.lst (tx ((cutB rows b).map (cut1 b)))):=zc
  generalize upd H' pl (.lst (tx ((cutB rows b).map (cut1 b))))=H2 at S2 hpl
  have sm:(((cutB rows b).map (cut1 b)).map List.length).sum+((cutB rows b).map (cut1 b)).length<=500000:=by
   have:=Wy (B:=400) (ls:=(cutB rows b).map (cut1 b)) fun l hl=>by
    obtain ⟨r,hr,rfl⟩:=kX.mp hl
    have:=zav r b
    have:=g2 r (jW hr)
    omega
   rw [ka] at this ⊢
   omega
  refine ⟨pl,_,rfl,rfl,SqL.of hpl,by omega,?_⟩
  have gl:=XJ ((cutB rows b).map (cut1 b))
  have we:=zc0 rows b
  generalize glue ((cutB rows b).map (cut1 b))=g at gl we ⊢
  have sl:=Wz g
  refine ⟨_,rfl,rfl,spl g,by rw [qp],rfl,XH g,jV g,by rw [qp];omega,by omega,fun ps nps=>?_⟩
  have S3:=S2.trans (zf (o:=.lst (tx (spl g))) nps)
  have hps:(upd H2 ps (.lst (tx (spl g)))) ps=some (.lst (tx (spl g))):=zc
  have e2:(upd H2 ps (.lst ((spl g).map fun w=>V.str (txt w))))=upd H2 ps (.lst (tx (spl g))):=rfl
  rw [e2]
  generalize upd H2 ps (.lst (tx (spl g)))=H3 at S3 hps
  refine ⟨ps,rfl,⟨_,SqL.of hps⟩,yh (K:=K) (a:=ps) (xs:=tx (spl g)) (fun i ys σ H'=>ys=tx (((spl g).take i).filter fun p=>decide (p≠[]))/\H'=H3/\∃ o,σ=[o]) ⟨rfl,rfl,none,rfl⟩
   (fun i ys σ H' hi h9=>by obtain ⟨e,e2,_⟩:=h9;exact (⟨by rw [e,zL];exact km (km (u9 _ _) (by rw [kL];show _<=1000000;omega)) (by decide),by rw [e2];exact SqL.of hps⟩)) ?_ ?_⟩
  case refine_2 =>
   rintro i x ys σ H' hx ⟨rfl,rfl,o,rfl⟩
   obtain ⟨v,hv,rfl⟩:=yN hx
   obtain ⟨hil,ev⟩:=kf.mp hv
   dsimp only [zW]
   refine ⟨_,rfl,rfl,_,rfl,?_⟩
   rw [zaw,<- ky hil,ev,List.filter_append]
   by_cases c:v≠[]
   ·rw [decide_eq_true c]
    refine iteT ⟨_,rfl,?_,rfl,_,rfl⟩
    rw [xo,uc,decide_eq_true c]
    rfl
   ·rw [decide_eq_false c]
    refine iteF ⟨?_,rfl,_,rfl⟩
    rw [uc,decide_eq_false c]
    show _=tx (_++[])
    rw [vq]
  rintro ys σ H' ⟨rfl,rfl,_⟩ p5 n5
  rw [zL,kM,we]
  exact q p5 _ (S3.trans (zf n5)) (S3.free n5) zc
end
noncomputable def Wl (H0 H:Hp) (v:V) (ws:List W):Prop:=∃ p,v=.ref p/\H0 p=none/\H p=some (.lst (tx ws))
noncomputable def Wls (H0 H:Hp):List V->List (List W)->Prop:=Paired (Wl H0 H)
theorem Wl.same {H0 H H':Hp} (S:Same H H') {v:V} {ws:List W} (h:Wl H0 H v ws):Wl H0 H' v ws:=let ⟨p,e,n,z⟩:=h;⟨p,e,n,S _ _ z⟩
theorem Wls.same {H0 H H':Hp} (S:Same H H'):∀ {vs:List V} {bs:List (List W)},Wls H0 H vs bs->Wls H0 H' vs bs
 | _,_,.nil=>.nil
 | _,_,.cons h t=>.cons (h.same S) (Wls.same S t)
theorem Wls.len {H0 H:Hp} {vs:List V} {bs:List (List W)} (h:Wls H0 H vs bs):vs.length=bs.length:=Paired.length h
theorem Wls.app {H0 H:Hp}:∀ {vs us:List V} {bs cs:List (List W)},Wls H0 H vs bs->Wls H0 H us cs->Wls H0 H (vs++us) (bs++cs)
 | _,_,_,_,.nil,s=>s
 | _,_,_,_,.cons r t,s=>.cons r (Wls.app t s)
theorem Wls.notin {H0 H:Hp} {l:Addr} (hl:H l=none):∀ {vs:List V} {bs:List (List W)},Wls H0 H vs bs->V.ref l∉vs
 | _,_,.nil,z=>by simp at z
 | _,_,.cons ⟨p,e,_,hp⟩ t,z=>by
  rcases kO.mp z with y | y
  ·rw [e] at y
   cases y
   rw [hl] at hp
   cases hp
  ·exact Wls.notin hl t y
noncomputable def W9 (C:Addr):Sp:=fun vs H Q E=>∃ (a p:Addr) (rows:List W) (wide high:Nat) (bvs:List V) (bs:List Q4),vs=[.ref a,.ref p]/\H a=some (.lst (tx rows))/\Grid rows wide high/\H p=some (.lst bvs)/\qr H bvs bs/\(∀ b∈bs,b.t<b.b)/\bs.length<=1000 /\
 (((∀ b∈bs,b.l<b.r/\prn b wide high=true)/\∀ (l:Addr) (us:List V) (H':Hp),Same H H'->H l=none->H' l=some (.lst us)->Wls H H' us (bs.map (wds rows))->us.Nodup->V.ref l∉us->Q (.ref l) H') \/
  ((∃ b∈bs,prn b wide high=false)/\∀ H',Same H H'->E (.ref C) none H'))
section
variable {P:Program} {w:World} {K:PySem.W.Frag} {mg:Str->Option Value} {base:Heap}
theorem zdI:zu ["rows","boxes"] ["rows","boxes"] (ze sWin):=⟨rfl,rfl,rfl,by decide +kernel,rfl,by decide +kernel,by decide +kernel⟩
theorem zc3 {f fP fW C:Addr} {fd dP dW:FuncData} (F:Fun K "words_in" "words_in" sWin f fd) (Z:Np K mg) (ex:Exc K mg "NoPlace" C) (Pr:Callee P w K mg base CX0 1 "is_printed" fP dP ["rows","box"] W7) (Wf:Callee P w K mg base CX0 1 "words_of" fW dW ["rows","box"] W8) :
  FnOk P w K mg base (CXE P w) 3 f fd ["rows","boxes"] (W9 C):=by
 obtain ⟨gLEFT,gTOP,gRIGHT,gBELOW,tl,tall⟩:=Z
 refine F.okE zdI (fun vs H Q E h=>?_) (fun cdv A outer s H vs Q E hr hh h=>?_)
 ·refine E_7 h fun a p rows wide high bvs bs n8=>A_2 n8 fun e9 _=>?_;clear n8 h;subst e9
  rfl
 ·revert h;intro n7;refine E_7 n7 fun a p rows wide high bvs bs n8=>A_8 n8 fun e9 ha hG hp hB htb hn h=>?_;clear n8 n7;subst e9
  have hl:=hB.len
  refine ⟨_,(zd (zJ (ye (yc (zh (y6 rfl) (by rfl) tall vS (za (zV (Nc:=["box","rows"]) (ix:=[none,some 0]) rfl rfl (by refine' z7 ?zz;case zz=>exact (pv 1)) (fun _ _ _ _ _=>(zn (i:=0) (by show (["box","rows"]:List Str).Nodup;decide +kernel) rfl (Or.inl rfl))) (fun _ _ _ _ _=>zR) (fun _ _ _ _ _=>(zj Pr.ok (hr.mono (show 1<=2 by decide)) rfl Pr.bound Pr.kp Pr.bd .nil zx (za (pv 1) (za (pv 0) zb))))) zb))))
   (zg (y4 ex hh rfl (za yk zb)))
   zF)
   (zg (zm (zV (Nc:=["box","rows"]) (ix:=[none,some 0]) rfl rfl (by refine' z7 ?zz;case zz=>exact (pv 1)) (fun _ _ _ _ _=>(zn (i:=0) (by show (["box","rows"]:List Str).Nodup;decide +kernel) rfl (Or.inl rfl))) (fun _ _ _ _ _=>zR) (fun _ _ _ _ _=>(zj Wf.ok (hr.mono (show 1<=2 by decide)) rfl Wf.bound Wf.kp Wf.bd .nil zx (za (pv 1) (za (pv 0) zb)))))))),?_⟩
  refine ⟨_,rfl,p,rfl,⟨_,SqL.of hp⟩,yh (K:=K) (a:=p) (xs:=bvs) (fun i ys σ H'=>ys=(((bs.take i).map fun b=>prn b wide high)).map V.bl/\Same H H'/\∃ o,σ=[o,some (.ref a)]) ⟨rfl,Same.refl _,none,rfl⟩
   (fun i ys σ H' hi h9=>by obtain ⟨e,S,_⟩:=h9;exact (⟨by rw [e,ka,ka,kL];exact km (show _<=1000 by omega) (by decide),SqL.of (S _ _ hp)⟩)) ?_ ?_⟩
  case refine_2 =>
   rintro i x ys σ H' hx ⟨rfl,S,o,rfl⟩
   obtain ⟨b,hb,q,rfl,hq⟩:=hB.get hx
   obtain ⟨hil,ev⟩:=kf.mp hb
   dsimp only [zW,tYes]
   refine iteT ?_
   refine ⟨_,rfl,_,rfl,a,q,rows,wide,high,b,rfl,S _ _ ha,hG,S _ _ hq,htb b (kE hb),fun H2 S2=>⟨?_,S.trans S2,_,rfl⟩⟩
   rw [<- ky hil,ev,kz,kz]
   rfl
  rintro ys σ H1 ⟨rfl,S1,_⟩ pl npl
  rw [hl,kM]
  have S2:=S1.trans (zf (o:=.lst ((bs.map fun b=>prn b wide high).map V.bl)) npl)
  have hpl:(upd H1 pl (.lst ((bs.map fun b=>prn b wide high).map V.bl))) pl=some (.lst ((bs.map fun b=>prn b wide high).map V.bl)):=zc
  generalize upd H1 pl (.lst ((bs.map fun b=>prn b wide high).map V.bl))=H2 at S2 hpl
  refine ⟨pl,_,rfl,SqL.of hpl,_,rfl,?_⟩
  rcases h with ⟨hok,q⟩ | ⟨⟨b,hb,hno⟩,qe⟩
  ·have e:(bs.map fun b=>prn b wide high).all id=true:=by
    rw [vK]
    intro x hx
    obtain ⟨b,hb,rfl⟩:=kX.mp hx
    exact (hok b hb).2
   rw [e]
   refine iteF ?_
   refine zS ?_
   dsimp only
   refine ⟨_,rfl,p,rfl,⟨_,SqL.of (S2 _ _ hp)⟩,yh (K:=K) (a:=p) (xs:=bvs) (fun i ys σ H'=>Wls H H' ys ((bs.take i).map (wds rows))/\ys.Nodup/\Same H H'/\∃ o,σ=[o,some (.ref a)]) ⟨.nil,.nil,S2,none,rfl⟩
    (fun i ys σ H' hi h9=>by obtain ⟨e,_,S,_⟩:=h9;exact (⟨by rw [e.len,ka,kL];exact km (show _<=1000 by omega) (by decide),SqL.of (S _ _ hp)⟩)) ?_ ?_⟩
   case refine_2 =>
    intro i x ys σ H' hx h8
    refine A_4 h8 fun hw nd S n8=>E_1 n8 fun o e9=>?_;clear n8 h8;subst e9
    obtain ⟨b,hb,r,rfl,hr⟩:=hB.get hx
    obtain ⟨hil,ev⟩:=kf.mp hb
    obtain ⟨b1,b2⟩:=hok b (kE hb)
    dsimp only [zW,tYes]
    refine iteT ?_
    refine ⟨_,rfl,_,rfl,a,r,rows,wide,high,b,rfl,S _ _ ha,hG,S _ _ hr,htb b (kE hb),b1,b2,fun l H3 S3 nl hl3=>⟨?_,?_,S.trans S3,_,rfl⟩⟩
    ·rw [<- ky hil,ev,kz]
     exact (hw.same S3).app (.cons ⟨l,rfl,S.free nl,hl3⟩ .nil)
    ·rw [List.nodup_append]
     refine ⟨nd,vT.mpr ⟨kN,uZ⟩,fun z hz y hy e=>?_⟩
     rw [kq.mp hy] at e
     rw [e] at hz
     exact hw.notin nl hz
   rintro ys σ H3 ⟨hw,nd,S3,_⟩ l nl
   rw [hl,kM] at hw
   exact q l ys _ (S3.trans (zf nl)) (S3.free nl) zc (hw.same (zf nl)) nd (hw.notin nl)
  ·have e:(bs.map fun b=>prn b wide high).all id=false:=by
    rw [List.all_eq_false]
    exact ⟨_,kX.mpr ⟨b,hb,rfl⟩,by rw [hno];decide⟩
   rw [e]
   exact iteT ⟨by show 1<=sizeLine;decide,qe H2 S2⟩
end
end _JJ
namespace _Tre
noncomputable def grw (at':Int) (new:List Int) (i:Int):List Int:=if i=at' then at'::new else [i]
theorem Jr {at':Int} {new:List Int}:∀ {n:List Int},at'∉n->n.flatMap (grw at' new)=n
 | [],_=>rfl
 | i::r,h=>by
  rw [uB,Jr fun z=>h (kj _ z)]
  unfold grw
  rw [if_neg fun z=>h (by rw [z];exact kh)]
  rfl
theorem XL {at':Int} {new:List Int}:∀ {n:List Int},n.Nodup->at'∈n->(n.flatMap (grw at' new)).Perm (n++new)
 | [],_,h=>absurd h kN
 | i::r,nd,h=>by
  rw [vT] at nd
  rw [uB]
  by_cases c:i=at'
  ·subst c
   rw [Jr nd.1]
   unfold grw
   rw [if_pos rfl]
   exact List.Perm.cons _ u7
  ·have m:at'∈r:=by
    rcases kO.mp h with z | z
    ·exact absurd z.symm c
    ·exact z
   unfold grw
   rw [if_neg c]
   exact List.Perm.cons _ (XL nd.2 m)
theorem zc4 (m j:Nat):up (m+j)=up m++(kQ j).map fun k:Nat=>(m:Int)+(k:Int):=by
 unfold up
 rw [List.range_add,kz,vU]
 congr 1
theorem zc5 {m j:Nat} {at':Int} {n:List Int} (pm:n.Perm (up m)) (h0:0<=at') (h1:at'<m):(n.flatMap (grw at' ((kQ j).map fun k:Nat=>(m:Int)+(k:Int)))).Perm (up (m+j)):=by
 have nd:n.Nodup:=by
  rw [pm.nodup_iff]
  unfold up
  exact List.Pairwise.map _ (fun a b (e:a≠b) (z:(a:Int)=(b:Int))=>e (by omega)) List.nodup_range
 have mm:at'∈n:=by
  rw [pm.mem_iff]
  unfold up
  exact kX.mpr ⟨at'.toNat,vz.mpr (by omega),by show ((at'.toNat:Nat):Int)=at';omega⟩
 rw [zc4]
 exact (XL nd mm).trans (List.Perm.append pm (List.Perm.refl _))
end _Tre
namespace _JJ
open PySem _L2 _Lin _Tre PySem.W
noncomputable def yt:List Nat:=[33,34,35,36,38,39,40,41,42,43,44,45,46,47,48,49,50,51,52,53,54,55,56,57,58,59,60,61,62,63,64,65,66,67,68,69,70,71,72,73,74,75,76,77,78,79,80,81,82,83,84,85,86,87,88,89,90,91,92,93,94,95,96,97,98,99,100,101,102,103,104,105,106,107,108,109,110,111,112,113,114,115,116,117,118,119,120,121,122,123,124,125,126]
theorem wE:yt.length=93:=rfl
theorem XM:∀ c∈yt,good c:=by
 intro c hc
 have:(yt.all fun c=>decide (33<=c) && (decide (c<=126) && decide (c≠37)))=true:=by decide +kernel
 have:=vK.mp this c hc
 simp only [vj,decide_eq_true_eq] at this
 exact this
noncomputable def wW:Sp:=fun vs H Q _=>∃ c k:Int,vs=[.int c,.int k]/\0<=k/\k<=100000/\∀ n:Int,0<=n->Q (.int n) H
noncomputable def XN:Sp:=fun vs H Q _=>∃ cell:Int,vs=[.int cell]/\∀ u:W,okW u->Q (.str (txt u)) H
section
variable {P:Program} {w:World} {K:PySem.W.Frag} {mg:Str->Option Value} {base:Heap} {kA:Addr}
theorem zax:zu ["script","k"] ["script","k"] (ze x8):=⟨rfl,rfl,rfl,by decide +kernel,rfl,by decide +kernel,by decide +kernel⟩
theorem Js {f:Addr} {fd:FuncData} (F:Fun K "_law_cell_at" "_law_cell_at" x8 f fd) (tl:mg "len" = none):FnOk P w K mg base CX0 1 f fd ["script","k"] (jO K):=by
 refine F.ok zax (fun vs H Q E h=>?_) (fun cdv A outer s H vs Q E hr h=>?_)
 ·refine E_3 h fun a ns k n8=>A_2 n8 fun e9 _=>?_;clear n8 h;subst e9
  rfl
 ·refine E_3 h fun a ns k n8=>A_4 n8 fun e9 hS k1 q=>?_;clear n8 h;subst e9
  refine ⟨_,(zd (zJ (zD y8 (pv 1) (zh zo (by rfl) tl kK (za (pv 0) zb)) (zE _))
   (zg (zm (zl zN (pv 0) (pv 1) (fun _ _=>rfl))))
   zF)
   (zg (zm zi))),?_⟩
  refine ⟨_,rfl,_,rfl,_,_,rfl,.inl hS,_,_,rfl,rfl,_,rfl,?_⟩
  rw [ka]
  refine ite2 (fun c1=>?_) (fun c1=>?_)
  ·have c1:=of_decide_eq_true c1
   exact ⟨_,rfl,_,rfl,_,_,_,_,rfl,rfl,hS,QR k1 c1,q _⟩
  ·exact q _
theorem WA:zu ["cell","k","number"] ["cell","k"] (ze wR):=⟨rfl,rfl,rfl,by decide +kernel,rfl,by decide +kernel,by decide +kernel⟩
theorem zay {f:Addr} {fd:FuncData} (F:Fun K "_law_mixed" "_law_mixed" wR f fd):FnOk P w K mg base CX0 1 f fd ["cell","k"] wW:=by
 refine F.ok WA (fun vs H Q E h=>?_) (fun cdv A outer s H vs Q E hr h=>?_)
 ·refine E_2 h fun c k n8=>A_2 n8 fun e9 _=>?_;clear n8 h;subst e9
  rfl
 ·refine E_2 h fun c k n8=>A_4 n8 fun e9 k0 k1 q=>?_;clear n8 h;subst e9
  refine ⟨_,(zd (zt (i:=2) WA.nd rfl (Or.inl rfl) (zA yL (zA yl (zA yl (zA qw (zA yL (pv 0) zi) (zA yl (zA qw zi (pv 1)) zi)) (zA qw zi (pv 1))) zi) zi))
   (zg (zm (zA za2 (zA yL (zA qw (pv 2) (pv 2)) zi) zi)))),?_⟩
  have a0:=vV c (show (2147483629:Int)≠0 by decide)
  have a1:=vP c (show (0:Int)<2147483629 by decide)
  refine' xC (v:=.int ((c % 2147483629*(2*k+51431)+17*k+3) % 2147483587)) ?_ ?_
  ·exact wy (zQ (zQ (wy (wy (zk rfl) zI (by show (0:Int)<2147483629;decide)) (zQ (wy zI (zk rfl) (Or.inl ⟨by decide,by decide⟩)) zI) (Or.inl ⟨by omega,by omega⟩)) (wy zI (zk rfl) (Or.inl ⟨by decide,by decide⟩))) zI) zI (by show (0:Int)<2147483587;decide)
  generalize (c % 2147483629*(2*k+51431)+17*k+3)=u
  have u0:=vV u (show (2147483587:Int)≠0 by decide)
  have u1:=vP u (show (0:Int)<2147483587 by decide)
  refine' zba (v:=.int (u % 2147483587*(u % 2147483587) % 2147483563 / 7)) ?_ ?_
  ·exact wy (wy (wy (zk rfl) (zk rfl) (Or.inl ⟨by omega,by omega⟩)) zI (by show (0:Int)<2147483563;decide)) zI ⟨by decide,by decide⟩
  exact q _ (Int.ediv_nonneg (vV _ (by decide)) (by decide))
theorem wX:zu ["cell","some","word","k"] ["cell"] (ze sLw):=⟨rfl,rfl,rfl,by decide +kernel,rfl,by decide +kernel,by decide +kernel⟩
theorem zbW {f fM:Addr} {fd dM:FuncData} (F:Fun K "_law_word" "_law_word" sLw f fd) (tr:mg "range" = none) (Mx:Callee P w K mg base CX0 1 "_law_mixed" fM dM ["cell","k"] wW):FnOk P w K mg base CX0 2 f fd ["cell"] XN:=by
 refine F.ok wX (fun vs H Q E h=>?_) (fun cdv A outer s H vs Q E hr h=>?_)
 ·obtain ⟨cell,rfl,_⟩:=h
  rfl
 ·obtain ⟨cell,rfl,q⟩:=h
  refine ⟨_,(zd (zt (i:=1) wX.nd rfl (Or.inl rfl) yk)
   (zd (zt (i:=1) wX.nd rfl (Or.inl rfl) (zA yG (pv 1) yk))
   (zd (zt (i:=2) wX.nd rfl (Or.inl rfl) (zl ZB (pv 1) (zA yL (zj Mx.ok hr rfl Mx.bound Mx.kp Mx.bd .nil zx (za (pv 0) (za zi zb))) zi) (fun _ _=>rfl)))
   (zd (yp PassesOwn.never rfl (xm rfl tr (za (zA yL (zj Mx.ok hr rfl Mx.bound Mx.kp Mx.bd .nil zx (za (pv 0) (za zi zb))) zi) zb)) (zn (i:=3) wX.nd rfl (Or.inl rfl))
   (zg (zt (i:=2) wX.nd rfl (Or.inl rfl) (zA yG (pv 2) (zl ZB (pv 1) (zA yL (zj Mx.ok hr rfl Mx.bound Mx.kp Mx.bd .nil zx (za (pv 0) (za (zA yl zi (pv 3)) zb))) zi) (fun _ _=>rfl))))))
   (zg (zm (pv 2))))))),?_⟩
  have e1:("!\"#$&'()*+,-./0123456789:;<=>?\x40ABCDEFGHIJKLMNOPQRSTUVWXYZ[\\]^_\x60" : Str)=txt (yt.take 63):=by decide +kernel
  have e2:("abcdefghijklmnopqrstuvwxyz{|}~" : Str)=txt (yt.drop 63):=by decide +kernel
  have pick:∀ n:Int,atI yt (n % 93)=some (yt.getD (n % 93).toNat 0)/\good (yt.getD (n % 93).toNat 0):=fun n=>by
   have m0:=vV n (show (93:Int)≠0 by decide)
   have m1':=vP n (show (0:Int)<93 by decide)
   have hn:(n % 93).toNat<yt.length:=by rw [wE];omega
   have z:atI yt (((n % 93).toNat:Nat):Int)=some yt[(n % 93).toNat]:=yw (kb hn)
   rw [show (((n % 93).toNat:Nat):Int)=n % 93 by omega] at z
   rw [_L2.getD_at hn]
   exact ⟨z,XM _ (vB hn)⟩
  refine ⟨_,rfl,_,_,rfl,rfl,by decide +kernel,?_⟩
  rw [e1,e2,xD,u8]
  refine ⟨_,rfl,_,rfl,cell,1,rfl,by decide,by decide,fun n1 p1=>⟨_,_,rfl,rfl,(by show (0:Int)<93;decide),yt,_,_,rfl,rfl,by rw [wE];decide,(pick n1).1,?_⟩⟩
  have g1:=(pick n1).2
  generalize yt.getD (n1 % 93).toNat 0=c1 at g1
  refine zB ?_
  refine ⟨_,rfl,cell,2,rfl,by decide,by decide,fun n2 p2=>⟨_,_,rfl,rfl,(by show (0:Int)<6;decide),?_⟩⟩
  refine ⟨_,rfl,by have:=vV n2 (show (6:Int)≠0 by decide);omega,by have:=vP n2 (show (0:Int)<6 by decide);omega,?_⟩
  have k0:=vV n2 (show (6:Int)≠0 by decide)
  have k1:=vP n2 (show (0:Int)<6 by decide)
  obtain ⟨N,hN⟩ : ∃ N:Nat,n2 % 6=(N:Int):=⟨(n2 % 6).toNat,by omega⟩
  rw [hN,vp]
  refine yP (lo:=0) (n:=N) (fun i σ H5=>∃ (l:W) (o:Option V),σ=[some (.int cell),some (.str (txt yt)),some (.str (txt l)),o]/\H5=H/\l.length=i+1/\∀ c∈l,good c)
   ⟨[c1],none,rfl,rfl,rfl,fun c hc=>by rw [kq.mp hc];exact g1⟩ ?_ ?_
  ·intro i σ H5 hi h8
   refine E_2 h8 fun l o n8=>A_4 n8 fun e9 n90 ll lg=>?_;clear n8 h8;subst e9;subst n90
   refine zB ?_
   rw [show (0:Int)+(i:Int)=(i:Int) from bB _]
   refine ⟨_,rfl,_,rfl,_,rfl,_,rfl,_,_,rfl,rfl,cell,_,rfl,by omega,by omega,fun n3 p3=>⟨_,_,rfl,rfl,(by show (0:Int)<93;decide),yt,_,_,rfl,rfl,by rw [wE];decide,(pick n3).1,?_⟩⟩
   have g3:=(pick n3).2
   generalize yt.getD (n3 % 93).toNat 0=c3 at g3
   refine ⟨_,_,rfl,rfl,?_,?_⟩
   ·rw [zO,zO]
    exact km (show l.length+1<=100 by omega) (by decide)
   ·rw [xD]
    refine ⟨l++[c3],_,rfl,rfl,by rw [kg,ll];rfl,fun c hc=>?_⟩
    rcases ve.mp hc with z | z
    ·exact lg c z
    ·rw [kq.mp z];exact g3
  ·intro σ H5 h8
   refine E_2 h8 fun l o n8=>A_4 n8 fun e9 n90 ll lg=>?_;clear n8 h8;subst e9;subst n90
   exact ⟨_,rfl,q l ⟨by omega,by omega,lg⟩⟩
end
end _JJ
namespace _JJ
open PySem _L2 _Lin _Tre PySem.W
noncomputable def Qa (d:Addr) (H H':Hp):Prop:=∀ p o,p≠d->H p=some o->H' p=some o
theorem xQ {d:Addr} {H:Hp} {o:HO}:Qa d H (upd H d o):=fun p u n e=>by rw [zy n];exact e
section
variable {d:Addr} {H H':Hp} {us us':List V}
mutual
theorem At.x (hd:H d=some (.lst us)) (hd':H' d=some (.lst us')) (S:Qa d H H'):∀ {v:V} {t:T},At H v t->At H' v t
 | _,_,.non=>.non
 | _,_,.bl b=>.bl b
 | _,_,.int i=>.int i
 | _,_,.str x=>.str x
 | _,_,.tup e h=>.tup (S _ _ (xI e hd (by intro z;cases z)) e) (AtL.x hd hd' S h)
 | _,_,.lst (a:=a) e=>by
  by_cases z:a=d
  ·rw [z];exact .lst hd'
  ·exact .lst (S _ _ z e)
 | _,_,.dic e=>.dic (S _ _ (xI e hd (by intro z;cases z)) e)
theorem AtL.x (hd:H d=some (.lst us)) (hd':H' d=some (.lst us')) (S:Qa d H H'):∀ {vs:List V} {ts:List T},AtL H vs ts->AtL H' vs ts
 | _,_,.nil=>.nil
 | _,_,.cons h r=>.cons (At.x hd hd' S h) (AtL.x hd hd' S r)
end
end
noncomputable def nws (first:Int) (many:Nat):List Int:=(kQ (many-1)).map fun j:Nat=>first+(j:Int)
theorem ZP (first:Int) (many:Nat):(nws first many).length=many-1:=by unfold nws;rw [ka,vi]
theorem XO {H:Hp}:∀ ns:List Int,AtL H (ns.map V.int) (ns.map T.int)
 | []=>.nil
 | i::r=>.cons (.int i) (XO r)
theorem Yq:∀ ns:List Int,zH (ns.map T.int) (ns.map fun i=>[i])
 | []=>.nil
 | i::r=>.cons (.leaf i) (Yq r)
theorem Zk:∀ ns:List Int,(ns.map fun i=>[i]).flatten=ns
 | []=>rfl
 | i::r=>by rw [vf,vg,Zk r];rfl
theorem XZ {ns:List Int} {k:Str}:∀ p∈ns.map T.int,¬ HasK p k:=fun p hp ⟨_,e⟩=>by
 obtain ⟨i,_,rfl⟩:=kX.mp hp
 cases e
noncomputable def jo (d:Nat):Sp:=fun vs H Q _=>∃ (x:V) (t:T) (n:List Int) (at':Int) (k:Str) (many:Nat) (first:Int),vs=[x,.int at',.str k,.int many,.int first]/\At H x t/\Good t n/\isK k/\2<=many/\many<=3/\n.length<=24/\sz t+3<=4*d/\d<=24 /\
 ∀ (x':V) (t':T) (H':Hp),Same H H'->At H' x' t'->Good t' (n.flatMap (grw at' (nws first many)))->Q x' H'
noncomputable def jp (d:Nat):Sp:=fun vs H Q _=>∃ (x:V) (t:T) (n:List Int) (a:Addr) (ns:List Int),vs=[x,.ref a]/\At H x t/\Good t n/\H a=some (.lst (ns.map V.int))/\(∀ i∈n,0<=i/\i<(ns.length:Int))/\sz t+3<=4*d/\d<=24 /\
 ∀ (x':V) (t':T) (H':Hp),Same H H'->At H' x' t'->Good t' (n.map fun i=>ns.getD i.toNat 0)->(∀ k,HasK t' k->HasK t k)->Q x' H'
section
variable {P:Program} {w:World} {K:PySem.W.Frag} {mg:Str->Option Value} {base:Heap} {kA:Addr}
theorem Zl:zu ["tree","at","kind","many","first","parts","part","made"] ["tree","at","kind","many","first"] (ze (top 71)):=⟨rfl,rfl,rfl,by decide +kernel,rfl,by decide +kernel,by decide +kernel⟩
theorem zbX {f:Addr} {fd:FuncData} (F:Fun K "_law_split" "_law_split" (top 71) f fd):FnOk P w K mg base CX0 1 f fd ["tree","at","kind","many","first"] (jo 0):=by
 refine F.ok Zl (fun vs H Q E h=>?_) (fun cdv A outer s H vs Q E hr h=>?_)
 ·refine E_7 h fun x t n at' k many first n8=>A_2 n8 fun e9 _=>?_;clear n8 h;subst e9
  rfl
 ·refine E_7 h fun x t n at' k many first n8=>A_9 n8 fun e9 _ _ _ _ _ _ hz _=>?_;clear n8 h;subst e9
  omega
theorem zbY {f:Addr} {fd:FuncData} {d:Nat} (F:Fun K "_law_split" "_law_split" (top 71) f fd) (Zt:Nt K mg kA) (Sp:Callee P w K mg base CX0 (d+1) "_law_split" f fd ["tree","at","kind","many","first"] (jo d)):FnOk P w K mg base CX0 (d+2) f fd ["tree","at","kind","many","first"] (jo (d+1)):=by
 obtain ⟨_,_,_,_,_,ti,_,_,_,ttup,_,_,_,_,tr,_,_,_,kT⟩:=Zt
 refine F.ok Zl (fun vs H Q E h=>?_) (fun cdv A outer s H vs Q E hr h=>?_)
 ·refine E_7 h fun x t n at' k many first n8=>A_2 n8 fun e9 _=>?_;clear n8 h;subst e9
  rfl
 ·refine E_7 h fun x t n at' k many first n8=>A_10 n8 fun e9 hA g hk m2 m3 n24 hz hd q=>?_;clear n8 h;subst e9
  refine ⟨_,(zd (zJ (ye (yc (zh yg (by rfl) ti kW (za (pv 0) (za (yB rfl ttup vG) zb)))))
   (zd (zJ (zD wZ (pv 0) (pv 1) (zE _))
    (zg (zm (pv 0)))
    zF)
    (zg (zm (yH (za (pv 2) (za (qA xS rfl ttup vG (za (zA j2 (z5 (za (pv 1) zb)) (zV (Nc:=["k","first"]) (ix:=[none,some 4]) rfl rfl (by exact (xm rfl tr (za (zA xv (pv 3) zi) zb))) (fun _ _ _ _ _=>(zn (i:=0) (by show (["k","first"]:List Str).Nodup;decide +kernel) rfl (Or.inl rfl))) (fun _ _ _ _ _=>zR) (fun _ _ _ _ _=>(zA yl (pv 1) (pv 0))))) zb)) zb))))))
   zF)
   (zd (zt (i:=5) Zl.nd rfl (Or.inl rfl) (z5 zb))
   (zd (yp PassesOwn.never rfl (x9 (zl zw (pv 0) zi (fun _ _=>rfl))) (zn (i:=6) Zl.nd rfl (Or.inl rfl))
   (zd (zt (i:=7) Zl.nd rfl (Or.inl rfl) (zj Sp.ok hr rfl Sp.bound Sp.kp Sp.bd .nil zx (za (pv 6) (za (pv 1) (za (pv 2) (za (pv 3) (za (pv 4) zb)))))))
    (zg (zJ (PW.pt (wF (yc (zh yg (by rfl) ti kW (za (pv 7) (za (yB rfl ttup vG) zb)))) (xW (zD xx (zl zw (pv 7) zi (fun _ _=>rfl)) (zl zw (pv 0) zi (fun _ _=>rfl)) (zE _)))))
    (zg (yi (yI vd uH uI Za (pv 5) (za (zl zw (pv 7) zi (fun _ _=>rfl)) zb))))
    (zg (yi (yI vd vv vx yE (pv 5) (za (pv 7) zb))))))))
   (zg (zm (yH (za (zl zw (pv 0) zi (fun _ _=>rfl)) (za (qA xS rfl ttup vG (za (pv 5) zb)) zb)))))))),?_⟩
  refine ⟨_,rfl,_,_,_,_,rfl,rfl,hA.ty,kT t,_,rfl,?_⟩
  cases g with
  | leaf i =>
   cases hA
   refine iteT ⟨_,rfl,_,rfl,rfl,_,rfl,?_⟩
   by_cases c:i=at'
   ·subst c
    rw [decide_eq_true rfl]
    refine iteF ?_
    refine zS ?_
    refine ⟨_,rfl,_,rfl,by show 1<=sizeLine;decide,fun p0 np0=>?_⟩
    have S0:=zf (o:=.lst [V.int i]) np0
    have hp0:upd H p0 (.lst [V.int i]) p0=some (.lst [V.int i]):=zc
    generalize upd H p0 (.lst [V.int i])=H0 at S0 hp0
    refine ⟨_,rfl,_,_,rfl,rfl,_,rfl,by omega,by omega,?_⟩
    rw [show ((many:Int)-1).toNat=many-1 by omega]
    refine qG (lo:=0) (n:=many-1) (fun j ys σ H1=>ys=((kQ j).map fun j:Nat=>first+(j:Int)).map V.int/\H1=H0/\∃ o,σ=[o,some (.int first)]) ⟨rfl,rfl,none,rfl⟩
     (fun j ys σ H1 hj h9=>by obtain ⟨e,_,_⟩:=h9;exact (by rw [e,ka,ka,vi];exact km (show j<=10 by omega) (by decide))) ?_ ?_
    case refine_2 =>
     rintro j ys σ H1 hj ⟨rfl,rfl,o,rfl⟩
     dsimp only [zW,tYes]
     refine iteT ⟨_,rfl,_,rfl,_,_,rfl,rfl,?_,rfl,_,rfl⟩
     rw [List.range_succ,kz,kz,show (0:Int)+(j:Int)=(j:Int) from bB _]
     rfl
    rintro ys σ H1 ⟨rfl,rfl,_⟩ p1 np1
    rw [show (kQ (many-1)).map (fun j:Nat=>first+(j:Int))=nws first many from rfl]
    have S1:=zf (o:=.lst ((nws first many).map V.int)) np1
    have hp1:upd H1 p1 (.lst ((nws first many).map V.int)) p1=some (.lst ((nws first many).map V.int)):=zc
    have hp01:=S1 _ _ hp0
    have S01:=S0.trans S1
    refine I_4 p0 p1 _ _ ⟨rfl,rfl,hp01,hp1,?_,fun p2 np2=>?_⟩
    ·rw [ka,ZP,vo]
     exact km (show _<=10 by omega) (by decide)
    generalize upd H1 p1 (.lst ((nws first many).map V.int))=H2 at S01 np2
    have S2:=zf (o:=.lst ([V.int i]++(nws first many).map V.int)) np2
    have S02:=S01.trans S2
    refine ⟨p2,_,rfl,.inl ⟨SqL.of zc,fun p3 np3=>⟨by show 2<=sizeLine;decide,fun p4 np4=>?_⟩⟩⟩
    have S3:=zf (o:=.tup ([V.int i]++(nws first many).map V.int)) np3
    have S4:=zf (o:=.tup [V.str k,.ref p3]) np4
    have hp3:upd (upd H2 p2 (.lst ([V.int i]++(nws first many).map V.int))) p3 (.tup ([V.int i]++(nws first many).map V.int)) p3=some (.tup ((i::nws first many).map V.int)):=zc
    have S03:=S02.trans S3
    refine q (.ref p4) (.tup [.str k,.tup ((i::nws first many).map T.int)]) _ (S03.trans S4) (.tup zc (.cons (.str _) (.cons (.tup (S4 _ _ hp3) (XO _)) .nil))) ?_
    have e:[i].flatMap (grw i (nws first many))=i::nws first many:=by
     rw [uB,List.flatMap_nil,vq]
     unfold grw
     rw [if_pos rfl]
    rw [e]
    have gg:=Good.node (ps:=(i::nws first many).map T.int) hk (by rw [ka,kH,ZP];omega) XZ (Yq (i::nws first many))
    rwa [Zk] at gg
   ·rw [decide_eq_false fun z=>c (by injection z)]
    refine iteT ⟨_,rfl,q (.int i) (.int i) H (Same.refl _) (.int i) ?_⟩
    have e:[i].flatMap (grw at' (nws first many))=[i]:=by
     rw [uB,List.flatMap_nil,vq]
     unfold grw
     rw [if_neg c]
    rw [e]
    exact .leaf i
  | @node k0 ps nss hk0 h2 hn hG =>
   cases hA with
   | @tup a0 vs0 ss e hL =>
   obtain ⟨b0,ws,rfl,e2,hQ⟩:=hL.knot
   have lq:=hQ.len
   have nsz:=y9 k0 ps
   have lps:=xp ps
   refine iteF ?_
   refine zS ?_
   dsimp only
   refine ⟨by show 0<=sizeLine;decide,fun lp nlp=>?_⟩
   have S1:=zf (o:=.lst []) nlp
   have h1:(upd H lp (.lst [])) lp=some (.lst []):=zc
   generalize upd H lp (.lst [])=H1 at S1 h1
   dsimp only
   refine ⟨_,rfl,_,_,_,_,rfl,rfl,SqT.of (S1 _ _ e),rfl,b0,rfl,⟨_,SqT.of (S1 _ _ e2)⟩,?_⟩
   refine X9 (K:=K) (a:=b0) (xs:=ws) (fun i σ H3=>∃ (us:List V) (ts:List T) (mss:List (List Int)) (o6 o7:Option V),σ=[some (.ref a0),some (.int at'),some (.str k),some (.int many),some (.int first),some (.ref lp),o6,o7]/\Same H H3/\H3 lp=some (.lst us)/\AtL H3 us ts/\zH ts mss/\mss.flatten=(nss.take i).flatten.flatMap (grw at' (nws first many))/\(∀ p∈ts,¬ HasK p k0)/\i<=ts.length/\us.length<=300*i)
    ⟨[],[],[],none,none,rfl,S1,h1,.nil,.nil,rfl,fun p hp=>(kN hp).elim,kc _,kP _⟩ (fun i σ H3 _ h9=>by obtain ⟨_,_,_,_,_,_,S,_⟩:=h9;exact (SqT.of (S _ _ e2))) ?_ ?_
   ·intro i v σ H3 hi h8
    refine E_5 h8 fun us ts mss o6 o7 n8=>A_9 n8 fun e9 S3 hl3 hAL hGL hf hnK hc hu=>?_;clear n8 h8;subst e9
    obtain ⟨p,ep,hAp⟩:=hQ.get hi
    obtain ⟨np,enp,gp⟩:=hG.get ep
    have two:=wS h2 (kE ep)
    obtain ⟨hin,evn⟩:=kf.mp enp
    obtain ⟨hiw,_⟩:=kf.mp hi
    refine zB ?_
    refine ⟨_,rfl,_,rfl,_,rfl,_,rfl,_,rfl,v,p,np,at',k,many,first,rfl,hAp.same S3,gp,hk,m2,m3,km (xH (kE enp)) n24,by omega,by omega,fun x' t' H4 S4 hA' g'=>?_⟩
    have hl4:=S4 _ _ hl3
    have hAL4:=hAL.same S4
    have S04:=S3.trans S4
    obtain ⟨qs,qss,gq,ef,hnp,hsp,lp1,alt⟩:=g'.flat k0
    have z2:=xp qs
    have szt:=g'.szN
    have lg:(np.flatMap (grw at' (nws first many))).length<=72:=by
     have ln:∀ l:List Int,(l.flatMap (grw at' (nws first many))).length<=3*l.length:=fun l=>by
      induction l with
      | nil=>exact kc _
      | cons a r ih =>
       rw [uB,kg,kH]
       have:(grw at' (nws first many) a).length<=3:=by
        unfold grw
        split
        ·rw [kH,ZP];omega
        ·exact (by decide:1<=3)
       omega
     have:=ln np
     have:=xH (kE enp)
     omega
    have lus:=hAL.len
    refine zB ?_
    have fin:∀ (zs:List V),AtL H4 zs qs->∃ (us':List V) (ts:List T) (mss:List (List Int)) (o6 o7:Option V),[some (.ref a0),some (.int at'),some (.str k),some (.int many),some (.int first),some (.ref lp),some v,some x']=[some (.ref a0),some (.int at'),some (.str k),some (.int many),some (.int first),some (.ref lp),o6,o7]/\Same H (upd H4 lp (.lst (us++zs)))/\(upd H4 lp (.lst (us++zs))) lp=some (.lst us')/\AtL (upd H4 lp (.lst (us++zs))) us' ts/\zH ts mss/\mss.flatten=(nss.take (i+1)).flatten.flatMap (grw at' (nws first many))/\(∀ p∈ts,¬ HasK p k0)/\i+1<=ts.length/\us'.length<=300*(i+1):=fun zs hw=>by
     have lz:=hw.len
     refine I_5 (us++zs) (ts++qs) (mss++qss) _ _ ⟨rfl,zU S04 nlp,zc,(hAL4.app hw).x hl4 zc xQ,hGL.app gq,?_,?_,?_,?_⟩
     ·rw [<- ky hin,evn,vM,vM,List.flatMap_append,hf,ef,vg,List.flatten_nil,vq]
     ·intro p hp
      rcases ve.mp hp with z | z
      ·exact hnK p z
      ·exact hnp p z
     ·rw [kg];omega
     ·rw [kg];omega
    refine ⟨_,rfl,_,_,_,_,rfl,rfl,hA'.ty,kT t',_,rfl,?_⟩
    rcases alt with rfl | ⟨rfl,⟨j,rfl⟩ | ⟨k',rs,rfl,ne⟩⟩
    ·cases hA' with
     | @tup a5 vs5 ss5 e5 hL5 =>
     obtain ⟨b5,ws5,rfl,e6,hQ5⟩:=hL5.knot
     have lq5:=hQ5.len
     refine iteT ⟨_,rfl,_,_,_,_,rfl,rfl,SqT.of e5,rfl,_,rfl,_,_,_,_,rfl,rfl,SqT.of (S04 _ _ e),rfl,rfl,_,rfl,?_⟩
     rw [decide_eq_true rfl]
     refine iteT ⟨_,rfl,.inl ⟨rfl,_,SqL.of hl4⟩,_,rfl,_,_,_,_,rfl,rfl,SqT.of e5,rfl,lp,_,_,_,rfl,rfl,hl4,SqT.of e6,km (show _<=100000 by omega) (by decide),fin _ hQ5⟩
    ·cases hA'
     refine iteF (iteF ⟨_,rfl,.inl ⟨rfl,_,SqL.of hl4⟩,_,rfl,lp,_,_,rfl,rfl,hl4,vc (show _<=100000 by omega) (by decide),fin _ (.cons (.int _) .nil)⟩)
    ·cases hA' with
     | @tup a5 vs5 ss5 e5 hL5 =>
     obtain ⟨b5,ws5,rfl,e6,hQ5⟩:=hL5.knot
     refine iteT ⟨_,rfl,_,_,_,_,rfl,rfl,SqT.of e5,rfl,_,rfl,_,_,_,_,rfl,rfl,SqT.of (S04 _ _ e),rfl,rfl,_,rfl,?_⟩
     rw [decide_eq_false (fun z=>ne (by injection z))]
     exact iteF ⟨_,rfl,.inl ⟨rfl,_,SqL.of hl4⟩,_,rfl,lp,_,_,rfl,rfl,hl4,vc (show _<=100000 by omega) (by decide),fin _ (.cons (.tup e5 hL5) .nil)⟩
   ·intro σ H3 h8
    refine E_5 h8 fun us ts mss o6 o7 n8=>A_9 n8 fun e9 S3 hl3 hAL hGL hf hnK hc hu=>?_;clear n8 h8;subst e9
    refine ⟨_,rfl,_,_,_,_,rfl,rfl,SqT.of (S3 _ _ e),rfl,_,rfl,lp,us,rfl,.inl ⟨SqL.of hl3,fun p np=>⟨by show 2<=sizeLine;decide,fun r nr=>?_⟩⟩⟩
    have Sp:=zf (o:=.tup us) np
    have hp:(upd H3 p (.tup us)) p=some (.tup us):=zc
    generalize upd H3 p (.tup us)=H4 at Sp hp nr
    have Sr:=zf (o:=.tup [.str k0,.ref p]) nr
    have lG:=hG.len
    rw [lq,<- lG,kM] at hf
    refine q (.ref r) (.tup [.str k0,.tup ts]) _ ((S3.trans Sp).trans Sr) (.tup zc (.cons (.str _) (.cons (.tup (Sr _ _ hp) (hAL.same (Sp.trans Sr))) .nil))) ?_
    rw [<- hf]
    exact .node hk0 (by omega) hnK hGL
theorem Jt {f:Addr} {fd:FuncData} (F:Fun K "_law_split" "_law_split" (top 71) f fd) (Zt:Nt K mg kA) (bo:mg "_law_split" = some (.ref f)) (kp:kD K (.ref f)=true) (bd:Binds K fd ["tree","at","kind","many","first"] []):∀ d,FnOk P w K mg base CX0 (d+1) f fd ["tree","at","kind","many","first"] (jo d)
 | 0=>zbX F
 | d+1=>zbY F Zt ⟨Jt F Zt bo kp bd d,bo,kp,bd⟩
theorem zaZ:zu ["tree","names"] ["tree","names"] (ze (top 72)):=⟨rfl,rfl,rfl,by decide +kernel,rfl,by decide +kernel,by decide +kernel⟩
theorem zbZ {f:Addr} {fd:FuncData} (F:Fun K "_law_renamed" "_law_renamed" (top 72) f fd):FnOk P w K mg base CX0 1 f fd ["tree","names"] (jp 0):=by
 refine F.ok zaZ (fun vs H Q E h=>?_) (fun cdv A outer s H vs Q E hr h=>?_)
 ·refine E_5 h fun x t n a ns n8=>A_2 n8 fun e9 _=>?_;clear n8 h;subst e9
  rfl
 ·refine E_5 h fun x t n a ns n8=>A_7 n8 fun e9 _ _ _ _ hz _=>?_;clear n8 h;subst e9
  omega
theorem zb0 {f:Addr} {fd:FuncData} {d:Nat} (F:Fun K "_law_renamed" "_law_renamed" (top 72) f fd) (Zt:Nt K mg kA) (Re:Callee P w K mg base CX0 (d+1) "_law_renamed" f fd ["tree","names"] (jp d)):FnOk P w K mg base CX0 (d+2) f fd ["tree","names"] (jp (d+1)):=by
 obtain ⟨_,_,_,_,_,ti,_,_,_,ttup,_,_,_,_,tr,_,_,_,kT⟩:=Zt
 refine F.ok zaZ (fun vs H Q E h=>?_) (fun cdv A outer s H vs Q E hr h=>?_)
 ·refine E_5 h fun x t n a ns n8=>A_2 n8 fun e9 _=>?_;clear n8 h;subst e9
  rfl
 ·refine E_5 h fun x t n a ns n8=>A_8 n8 fun e9 hA g ha hr' hz hd q=>?_;clear n8 h;subst e9
  refine ⟨_,(zd (zJ (ye (yc (zh yg (by rfl) ti kW (za (pv 0) (za (yB rfl ttup vG) zb)))))
   (zg (zm (zl zN (pv 1) (pv 0) (fun _ _=>rfl))))
   zF)
   (zg (zm (yH (za (zl zw (pv 0) zi (fun _ _=>rfl)) (za (qA xS rfl ttup vG (za (zV (Nc:=["part","names"]) (ix:=[none,some 1]) rfl rfl (by exact (x9 (zl zw (pv 0) zi (fun _ _=>rfl)))) (fun _ _ _ _ _=>(zn (i:=0) (by show (["part","names"]:List Str).Nodup;decide +kernel) rfl (Or.inl rfl))) (fun _ _ _ _ _=>zR) (fun _ _ _ _ _=>(zj Re.ok hr rfl Re.bound Re.kp Re.bd .nil zx (za (pv 0) (za (pv 1) zb))))) zb)) zb)))))),?_⟩
  refine ⟨_,rfl,_,_,_,_,rfl,rfl,hA.ty,kT t,_,rfl,?_⟩
  cases g with
  | leaf i =>
   cases hA
   obtain ⟨i0,i1⟩:=hr' i kh
   refine iteT ⟨_,rfl,_,rfl,a,_,_,_,rfl,rfl,SqL.of ha,QR i0 i1,?_⟩
   exact q _ _ H (Same.refl _) (.int _) (.leaf _) fun k ⟨_,e⟩=>by cases e
  | @node k0 ps nss hk0 h2 hn hG =>
   cases hA with
   | @tup a0 vs0 ss e hL =>
   obtain ⟨b0,ws,rfl,e2,hQ⟩:=hL.knot
   have lq:=hQ.len
   have nsz:=y9 k0 ps
   have lps:=xp ps
   have lG:=hG.len
   refine iteF ?_
   refine zS ?_
   dsimp only
   refine ⟨_,rfl,_,_,_,_,rfl,rfl,SqT.of e,rfl,_,rfl,_,_,_,_,rfl,rfl,SqT.of e,rfl,b0,rfl,⟨_,SqT.of e2⟩,wI (K:=K) (a:=b0) (xs:=ws) (fun i ys σ H'=>(∃ o,σ=[o,some (.ref a)])/\Same H H'/\∃ (ts':List T) (mss:List (List Int)),AtL H' ys ts'/\zH ts' mss/\mss.flatten=(nss.take i).flatten.map (fun i=>ns.getD i.toNat 0)/\ts'.length=i/\∀ (j:Nat) (t':T),ts'[j]?=some t'->∃ t0∈ps,∀ k,HasK t' k->HasK t0 k)
     ⟨⟨none,rfl⟩,Same.refl _,[],[],.nil,.nil,rfl,rfl,fun j t' e=>by simp at e⟩
    (fun i ys σ H' hi h9=>by obtain ⟨_,S3,ts',mss,hY,_,_,l3,_⟩:=h9;exact (⟨by rw [hY.len,l3];exact km (show _<=1000000 by omega) (by decide),SqT.of (S3 _ _ e2)⟩)) ?_ ?_⟩
   case refine_2 =>
    rintro i y ys σ H1 hy ⟨⟨o,rfl⟩,S1,ts',mss,hY,hGL,hf,l3,hK⟩
    obtain ⟨pt,ep,hAp⟩:=hQ.get hy
    obtain ⟨np,enp,gp⟩:=hG.get ep
    obtain ⟨hin,evn⟩:=kf.mp enp
    have two:=wS h2 (kE ep)
    dsimp only [zW,tYes]
    refine iteT ⟨_,rfl,_,rfl,y,pt,np,a,ns,rfl,hAp.same S1,gp,S1 _ _ ha,fun z hz=>hr' z (List.mem_flatten.mpr ⟨np,kE enp,hz⟩),by omega,by omega,fun x' t' H2 S2 hx gx kx=>⟨⟨_,rfl⟩,S1.trans S2,ts'++[t'],mss++[_],(hY.same S2).app (.cons hx .nil),hGL.app (.cons gx .nil),?_,by rw [kg,l3];rfl,fun j u hu=>?_⟩⟩
    ·rw [vM,hf,u4,<- ky hin,evn,vM,kz,u4]
    ·by_cases hj:j<ts'.length
     ·rw [vI hj] at hu
      exact hK j u hu
     ·rw [v7 (by omega)] at hu
      have:j-ts'.length=0:=by
       cases h9:j-ts'.length with
       | zero=>rfl
       | succ z=>rw [h9] at hu;simp at hu
      rw [this] at hu
      injection hu with hu
      rw [<- hu]
      exact ⟨pt,kE ep,kx⟩
   rintro ys σ H1 ⟨_,S1,ts',mss,hY,hGL,hf,l3,hK⟩ la nl
   rw [lq,<- lG,kM] at hf
   have T1:=zf (o:=.lst ys) nl
   have hla:upd H1 la (.lst ys) la=some (.lst ys):=zc
   generalize upd H1 la (.lst ys)=H2 at T1 hla
   refine ⟨la,ys,rfl,.inl ⟨SqL.of hla,fun t1 nt1=>⟨by show 2<=sizeLine;decide,fun t2 nt2=>?_⟩⟩⟩
   have T2:=zf (o:=.tup ys) nt1
   have ht1:upd H2 t1 (.tup ys) t1=some (.tup ys):=zc
   have T12:=T1.trans T2
   generalize upd H2 t1 (.tup ys)=H3 at T2 ht1 T12 nt2
   have T3:=zf (o:=.tup [.str k0,.ref t1]) nt2
   have ht2:upd H3 t2 (.tup [.str k0,.ref t1]) t2=some (.tup [.str k0,.ref t1]):=zc
   have T13:=T12.trans T3
   generalize upd H3 t2 (.tup [.str k0,.ref t1])=H4 at T3 ht2 T13
   refine q (.ref t2) (.tup [.str k0,.tup ts']) H4 (S1.trans T13) (.tup ht2 (.cons (.str _) (.cons (.tup (T3 _ _ ht1) (hY.same T13)) .nil))) ?_ (fun k2 ⟨z,e9⟩=>?_)
   ·rw [<- hf]
    refine .node hk0 (by omega) (fun t' ht' hk'=>?_) hGL
    obtain ⟨j,hj,ej⟩:=vO.mp ht'
    obtain ⟨t0,h0,hk0'⟩:=hK j t' (by rw [kb hj,ej])
    exact hn t0 h0 (hk0' k0 hk')
   ·injection e9 with e9
    injection e9 with e9 _
    injection e9 with e9
    rw [e9]
    exact ⟨_,rfl⟩
theorem Ju {f:Addr} {fd:FuncData} (F:Fun K "_law_renamed" "_law_renamed" (top 72) f fd) (Zt:Nt K mg kA) (bo:mg "_law_renamed" = some (.ref f)) (kp:kD K (.ref f)=true) (bd:Binds K fd ["tree","names"] []):∀ d,FnOk P w K mg base CX0 (d+1) f fd ["tree","names"] (jp d)
 | 0=>zbZ F
 | d+1=>zb0 F Zt ⟨Ju F Zt bo kp bd d,bo,kp,bd⟩
end
end _JJ
namespace _JJ
open PySem _L2 _Lin _Tre PySem.W
theorem Paired.set' {α β:Type} {R:α->β->Prop} {v:α} {w:β} (r:R v w):∀ {us:List α} {ws:List β} (i:Nat),Paired R us ws->Paired R (us.set i v) (ws.set i w)
 | _,_,_,.nil=>.nil
 | _,_,0,.cons _ t=>.cons r t
 | _,_,i+1,.cons h t=>.cons h (Paired.set' r i t)
theorem Txs.ne {H:Hp} {us:List V} {wss:List (List W)} (h:Txs H us wss) {l:Addr} (n:H l=none):∀ v∈us,v≠.ref l:=fun v hv z=>by
 obtain ⟨i,hi,ei⟩:=vO.mp hv
 obtain ⟨ws,_,p,e,hp,_⟩:=h.get (kb hi)
 rw [ei,z] at e
 cases e
 rw [n] at hp
 cases hp
theorem Txs.updL {H:Hp} {l:Addr} {o:HO}:∀ {us:List V} {wss:List (List W)},Txs H us wss->(∀ v∈us,v≠.ref l)->Txs (upd H l o) us wss
 | _,_,.nil,_=>.nil
 | _,_,.cons ⟨p,e,hp,r⟩ t,h=>.cons ⟨p,e,by rw [zy (fun z=>h _ kh (by rw [e,z]))];exact hp,r⟩ (Txs.updL t fun v hv=>h v (kj _ hv))
theorem zaz (a b:List W):tx a++tx b=tx (a++b):=by
 unfold tx
 rw [kz]
structure Tx1 (H0 H:Hp) (lt:Addr) (us:List V) (wss:List (List W)):Prop where
 same:Same H0 H
 new:H0 lt=none
 out:H lt=some (.lst us)
 txs:Txs H us wss
 inn:∀ v∈us,v≠.ref lt
theorem Tx1.ex {H0 H H':Hp} {lt:Addr} {us:List V} {wss:List (List W)} (S:Same H H') (h:Tx1 H0 H lt us wss):Tx1 H0 H' lt us wss:=⟨h.same.trans S,h.new,S _ _ h.out,h.txs.same S,h.inn⟩
theorem Tx1.put {H0 H:Hp} {lt b:Addr} {us:List V} {wss:List (List W)} {ws:List W} (h:Tx1 H0 H lt us wss) (i:Nat) (hb:Tx H (.ref b) ws) (ne:b≠lt):Tx1 H0 (upd H lt (.lst (us.set i (.ref b)))) lt (us.set i (.ref b)) (wss.set i ws):=by
 have inn:∀ v∈us.set i (.ref b),v≠.ref lt:=fun v hv=>by
  rcases List.mem_or_eq_of_mem_set hv with z | z
  ·exact h.inn v z
  ·rw [z]
   intro e
   injection e with e
   exact ne e
 exact ⟨zU h.same h.new,h.new,zc,Txs.updL (Paired.set' hb i h.txs) inn,inn⟩
noncomputable def ZQ (K:PySem.W.Frag):Sp:=fun vs H Q _=>∃ (a:Addr) (ns:List Int) (head:Int),vs=[.ref a,.int head]/\SqL K H a (ns.map V.int) /\
 ∀ (l:Addr) (x:V) (lt:Addr) (t:T) (n:List Int) (us:List V) (wss:List (List W)) (H':Hp),Same H H'->H' l=some (.lst [x,.ref lt])->At H' x t->Good t n->n.Perm (up wss.length)->H' lt=some (.lst us)->Txs H' us wss->wss.length<=11->Q (.ref l) H'
theorem zaA {n ns:List Int} {m:Nat} (pm:n.Perm (up m)) (qm:ns.Perm (up m)):(n.map fun i=>ns.getD i.toNat 0).Perm (up m):=by
 refine (pm.map _).trans ?_
 have ln:=qm.length_eq
 rw [xO] at ln
 have e:(up m).map (fun i=>ns.getD i.toNat 0)=ns:=by
  apply vZ
  ·rw [ka,xO,ln]
  ·intro i h1 h2
   rw [vN]
   unfold up
   rw [vN,vX,vp,_L2.getD_at h2]
 rw [e]
 exact qm
section
variable {P:Program} {w:World} {K:PySem.W.Frag} {mg:Str->Option Value} {base:Heap} {kA:Addr}
theorem yx:zu ["cells","head","tree","texts","cell","way","at","many","k","left","names","dealt"] ["cells","head"] (ze (top 73)):=⟨rfl,rfl,rfl,by decide +kernel,rfl,by decide +kernel,by decide +kernel⟩
theorem zaB {f fM fS fL fR:Addr} {fd dM dS dL dR:FuncData} (F:Fun K "_law_grown" "_law_grown" (top 73) f fd) (tl:mg "len" = none) (tr:mg "range" = none) (tlist:mg "list" = none) (Mx:Callee P w K mg base CX0 1 "_law_mixed" fM dM ["cell","k"] wW) (Sp:Callee P w K mg base CX0 25 "_law_split" fS dS ["tree","at","kind","many","first"] (jo 24))
  (Lw:Callee P w K mg base CX0 2 "_law_word" fL dL ["cell"] XN) (Re:Callee P w K mg base CX0 25 "_law_renamed" fR dR ["tree","names"] (jp 24)):FnOk P w K mg base CX0 26 f fd ["cells","head"] (ZQ K):=by
 refine F.ok yx (fun vs H Q E h=>?_) (fun cdv A outer s H vs Q E hr h=>?_)
 ·refine E_3 h fun a ns head n8=>A_2 n8 fun e9 _=>?_;clear n8 h;subst e9
  rfl
 ·refine E_3 h fun a ns head n8=>A_3 n8 fun e9 hS q=>?_;clear n8 h;subst e9
  refine ⟨_,(zd (zt (i:=2) yx.nd rfl (Or.inl rfl) zi)
   (zd (zt (i:=3) yx.nd rfl (Or.inl rfl) (z5 (za (z5 zb) zb)))
   (zd (yp PassesOwn.never rfl (z7 (pv 0)) (zn (i:=4) yx.nd rfl (Or.inl rfl))
   (zd (zt (i:=5) yx.nd rfl (Or.inl rfl) (zA yL (zj Mx.ok (hr.mono (show 1<=25 by decide)) rfl Mx.bound Mx.kp Mx.bd .nil zx (za (pv 4) (za zi zb))) zi))
    (zd (zt (i:=6) yx.nd rfl (Or.inl rfl) (zA yL (zj Mx.ok (hr.mono (show 1<=25 by decide)) rfl Mx.bound Mx.kp Mx.bd .nil zx (za (pv 4) (za zi zb))) (zh zo (by rfl) tl kK (za (pv 3) zb))))
    (zd (zt (i:=7) yx.nd rfl (Or.inl rfl) (zA yl zi (zA yL (zj Mx.ok (hr.mono (show 1<=25 by decide)) rfl Mx.bound Mx.kp Mx.bd .nil zx (za (pv 4) (za zi zb))) zi)))
    (zg (zJ (PW.pt (wF (zD xx (pv 5) zi (zE _)) (xW (zD y8 (zA yl (zh zo (by rfl) tl kK (za (pv 3) zb)) (pv 7)) zi (zE _)))))
    (zd (zt (i:=2) yx.nd rfl (Or.inl rfl) (zj Sp.ok hr rfl Sp.bound Sp.kp Sp.bd .nil zx (za (pv 2) (za (pv 6) (za (zl ZB yk (zA yL (zj Mx.ok (hr.mono (show 1<=25 by decide)) rfl Mx.bound Mx.kp Mx.bd .nil zx (za (pv 4) (za zi zb))) zi) (fun _ _=>rfl)) (za (pv 7) (za (zh zo (by rfl) tl kK (za (pv 3) zb)) zb)))))))
     (zg (zt (i:=3) yx.nd rfl (Or.inl rfl) (zA j2 (pv 3) (zV (Nc:=["k"]) (ix:=[none]) rfl rfl (by exact (xm rfl tr (za (zA xv (pv 7) zi) zb))) (fun _ _ _ _ _=>(zn (i:=0) (by show (["k"]:List Str).Nodup;decide +kernel) rfl (Or.inl rfl))) (fun _ _ _ _ _=>zR) (fun _ _ _ _ _=>(z5 zb)))))))
    (zg (zJ (zD y8 (zh zo (by rfl) tl kK (za (zl zN (pv 3) (pv 6) (fun _ _=>rfl)) zb)) zi (zE _))
     (zg (wG (zA j2 (zl zN (pv 3) (pv 6) (fun _ _=>rfl)) (z5 (za (zj Lw.ok (hr.mono (show 2<=25 by decide)) rfl Lw.bound Lw.kp Lw.bd .nil zx (za (pv 4) zb)) zb))) (qv (pv 3) (pv 6) set_list)))
     zF))))))))
   (zd (zt (i:=9) yx.nd rfl (Or.inl rfl) (qR rfl rfl tlist rfl tr (za (zh zo (by rfl) tl kK (za (pv 3) zb)) zb)))
   (zd (zt (i:=10) yx.nd rfl (Or.inl rfl) (z5 zb))
   (zd (yp PassesOwn.never rfl (xm rfl tr (za (zh zo (by rfl) tl kK (za (pv 3) zb)) zb)) (zn (i:=8) yx.nd rfl (Or.inl rfl))
   (zg (yi (yI vd vv vx yE (pv 10) (za (yI vd PySem.F.slot_list_pop PySem.F.type_list_pop JJ (pv 9) (za (zA yL (zj Mx.ok (hr.mono (show 1<=25 by decide)) rfl Mx.bound Mx.kp Mx.bd .nil zx (za (pv 1) (za (zA yl zi (pv 8)) zb))) (zh zo (by rfl) tl kK (za (pv 9) zb))) zb)) zb)))))
   (zd (wH (i:=11) (Nc:=["k"]) (ix:=[none]) yx.nd rfl (Or.inl rfl) rfl rfl (by refine' z7 ?zz;case zz=>exact (pv 10)) (fun _ _ _ _ _=>(zn (i:=0) (by show (["k"]:List Str).Nodup;decide +kernel) rfl (Or.inl rfl))) (fun _ _ _ _ _=>zR) (fun _ _ _ _ _=>(z5 zb)))
   (zd (yp PassesOwn.never rfl (xm rfl tr (za (zh zo (by rfl) tl kK (za (pv 10) zb)) zb)) (zn (i:=8) yx.nd rfl (Or.inl rfl))
   (zg (wG (zl zN (pv 3) (pv 8) (fun _ _=>rfl)) (qv (pv 11) (zl zN (pv 10) (pv 8) (fun _ _=>rfl)) set_list))))
   (zg (zm (z5 (za (zj Re.ok hr rfl Re.bound Re.kp Re.bd .nil zx (za (pv 2) (za (pv 10) zb))) (za (pv 11) zb))))))))))))),?_⟩
  try dsimp only
  refine ⟨by show 0<=sizeLine;decide,fun p0 np0=>⟨by show 1<=sizeLine;decide,fun lt0 nlt0=>?_⟩⟩
  have S0:=zf (o:=.lst []) np0
  have X0:Tx1 H (upd (upd H p0 (.lst [])) lt0 (.lst [.ref p0])) lt0 [.ref p0] [[]]:=by
   have h0:(upd H p0 (.lst [])) p0=some (.lst (tx [])):=zc
   have T0:Txs (upd H p0 (.lst [])) [.ref p0] [[]]:=.cons ⟨p0,rfl,h0,fun u hu=>absurd hu kN,kP _⟩ .nil
   have S1:=zf (o:=.lst [.ref p0]) nlt0
   exact ⟨S0.trans S1,S0.free nlt0,zc,T0.same S1,T0.ne nlt0⟩
  generalize upd (upd H p0 (.lst [])) lt0 (.lst [.ref p0])=H1 at X0
  try dsimp only
  -- cell by cell
  refine ⟨_,rfl,a,rfl,⟨_,X0.same.seq hS⟩,?_⟩
  refine xA (K:=K) (a:=a) (xs:=ns.map V.int) (fun i σ H2=>∃ (x:V) (t:T) (n:List Int) (lt:Addr) (us:List V) (wss:List (List W)) (o4 o5 o6 o7:Option V),σ=[some (.ref a),some (.int head),some x,some (.ref lt),o4,o5,o6,o7,none,none,none,none]/\At H2 x t/\Good t n/\n.Perm (up wss.length)/\Tx1 H H2 lt us wss/\wss.length<=11)
   ⟨.int 0,.int 0,[0],lt0,_,_,none,none,none,none,rfl,.int 0,.leaf 0,.refl _,X0,by decide⟩ (fun i σ H2 _ h9=>by obtain ⟨_,_,_,_,_,_,_,_,_,_,_,_,_,_,X,_⟩:=h9;exact (X.same.seq hS)) ?_ ?_
  ·intro i v σ H2 hi h8
   refine E_10 h8 fun x t n lt us wss o4 o5 o6 o7 n8=>A_6 n8 fun e9 hA g pm X2 m11=>?_;clear n8 h8;subst e9
   rw [kR] at hi
   obtain ⟨cell,_,rfl⟩:=vk.mp hi
   have lu:=X2.txs.len
   have ln:=pm.length_eq
   rw [xO] at ln
   have n1:1<=n.length:=by
    have:=g.szN
    have:=qP t
    omega
   refine zB ?_
   refine ⟨_,rfl,cell,3,rfl,by decide,by decide,fun c3 p3=>⟨_,_,rfl,rfl,(by show (0:Int)<5;decide),?_⟩⟩
   refine zB ?_
   refine ⟨_,rfl,cell,4,rfl,by decide,by decide,fun c4 p4=>⟨_,rfl,lt,_,rfl,.inl (SqL.of X2.out),_,_,rfl,rfl,(by show (0:Int)<(us.length:Int);omega),?_⟩⟩
   have a0:=vV c4 (show (us.length:Int)≠0 by omega)
   have a1:=vP c4 (show (0:Int)<(us.length:Int) by omega)
   obtain ⟨at',hat⟩:=uo a0
   refine zB ?_
   dsimp only
   rw [hat]
   rw [hat] at a1
   refine ⟨_,rfl,cell,5,rfl,by decide,by decide,fun c5 p5=>⟨_,_,rfl,rfl,(by show (0:Int)<2;decide),_,_,rfl,rfl,?_⟩⟩
   obtain ⟨many,hmany,m2,m3⟩ : ∃ many:Nat,(2:Int)+c5 % 2=(many:Int)/\2<=many/\many<=3:=by
    have:=vV c5 (show (2:Int)≠0 by decide)
    have:=vP c5 (show (0:Int)<2 by decide)
    exact ⟨(2+c5 % 2).toNat,by omega,by omega,by omega⟩
   refine zB ?_
   dsimp only
   rw [hmany]
   refine yU (p:=c3 % 5=0/\(us.length:Int)+(many:Int)<12) (Zx (z6 (Zw (zk rfl) zI)) (z6 (zQ (zQ (yA (zk rfl) (SqL.of X2.out)) (zk rfl)) zI))) (fun c=>?_) (fun _=>?_)
   ·-- a box is parted
    refine ⟨_,rfl,_,rfl,_,rfl,cell,6,rfl,by decide,by decide,fun c6 p6=>?_⟩
    obtain ⟨ch,hch,hkk⟩:=QX c6
    have sz1:=g.szN
    refine ⟨_,_,rfl,rfl,(by show (0:Int)<2;decide),[124,45],_,ch,congrArg V.str zbu,rfl,by decide,hch,_,rfl,_,rfl,lt,_,rfl,.inl (SqL.of X2.out),x,t,n,(at':Int),_,many,_,rfl,hA,g,hkk,m2,m3,by omega,by omega,by decide,fun x' t' H3 S3 hA' g'=>?_⟩
    have X3:=X2.ex S3
    refine zB ?_
    try dsimp only
    refine ⟨_,rfl,_,rfl,_,_,rfl,rfl,_,rfl,by omega,by omega,?_⟩
    rw [show ((many:Int)-1).toNat=many-1 by omega]
    refine qG (lo:=0) (n:=many-1) (fun j ys σ H4=>Txs H4 ys (kF j [])/\Same H3 H4/\∃ o,σ=[o]) ⟨.nil,Same.refl _,none,rfl⟩
     (fun j ys σ H4 hj h9=>by obtain ⟨e,_,_⟩:=h9;exact (by rw [e.len,va];exact km (show j<=10 by omega) (by decide))) ?_ ?_
    case refine_2 =>
     intro j ys σ H4 hj h8
     refine A_3 h8 fun hY S4 n8=>E_1 n8 fun o e9=>?_;clear n8 h8;subst e9
     dsimp only [zW,tYes]
     refine iteT ⟨by show 0<=sizeLine;decide,fun p1 np1=>⟨?_,S4.trans (zf np1),_,rfl⟩⟩
     rw [ui]
     exact (hY.same (zf np1)).snoc ⟨p1,rfl,zc,fun u hu=>absurd hu kN,kP _⟩
    rintro ys σ H4 ⟨hY,S4,_⟩ p1 np1
    have S5:=zf (o:=.lst ys) np1
    have X5:=(X3.ex S4).ex S5
    have hY5:=hY.same S5
    have hp1:upd H4 p1 (.lst ys) p1=some (.lst ys):=zc
    have hA5:=(hA'.same S4).same S5
    generalize upd H4 p1 (.lst ys)=H5 at S5 X5 hY5 hp1 hA5
    have ly:=hY5.len
    rw [va] at ly
    refine I_4 lt p1 _ _ ⟨rfl,rfl,X5.out,hp1,km (show us.length+ys.length<=100 by omega) (by decide),fun p2 np2=>?_⟩
    have S6:=zf (o:=.lst (us++ys)) np2
    have T6:Txs H5 (us++ys) (wss++kF (many-1) []):=by
     have app:∀ {vs:List V} {ts:List (List W)},Txs H5 vs ts->Txs H5 (vs++ys) (ts++kF (many-1) []):=fun h=>by
      induction h with
      | nil=>exact hY5
      | cons h t ih=>exact .cons h ih
     exact app X5.txs
    have gu:=zc5 (j:=many-1) (at':=(at':Int)) pm (by omega) (by omega)
    have el:((us.length:Nat):Int)=((wss.length:Nat):Int):=by omega
    rw [show (((us.length:Nat):Int))=((wss.length:Nat):Int) by omega] at g'
    refine I_10 x' t' _ p2 (us++ys) (wss++kF (many-1) []) _ _ _ _ ⟨rfl,hA5.same S6,g',?_,⟨X5.same.trans S6,X5.same.free np2,zc,T6.same S6,T6.ne np2⟩,by rw [kg,va];omega⟩
    rw [kg,va]
    exact gu
   ·-- or gets a word
    have hi':at'<us.length:=by omega
    obtain ⟨ws,ew,pa,ev,hpa,hw,h40⟩:=X2.txs.get (kb hi')
    have eat:atI us (at':Int)=some (.ref pa):=yw (by rw [kb hi',ev])
    refine yU (p:=(((tx ws).length:Nat):Int)<40) (z6 (zQ (yA (yM (zk rfl) (zk rfl) (SqL.of X2.out) eat) (SqL.of hpa)) zI)) (fun c=>?_) (fun _=>?_)
    ·rw [zL] at c
     refine ⟨_,rfl,_,rfl,lt,_,_,_,rfl,rfl,SqL.of X2.out,eat,_,rfl,cell,rfl,fun u hu=>⟨by show 1<=sizeLine;decide,fun p1 np1=>?_⟩⟩
     have S3:=zf (o:=.lst [.str (txt u)]) np1
     have X3:=X2.ex S3
     have hp1:upd H2 p1 (.lst [.str (txt u)]) p1=some (.lst (tx [u])):=zc
     have hpa3:=S3 _ _ hpa
     have hA3:=hA.same S3
     generalize upd H2 p1 (.lst [.str (txt u)])=H3 at S3 X3 hp1 hpa3 hA3
     refine I_4 pa p1 _ _ ⟨rfl,rfl,hpa3,hp1,by rw [zL,zL];exact km (show ws.length+1<=100 by omega) (by decide),fun p2 np2=>?_⟩
     rw [zaz]
     have S4:=zf (o:=.lst (tx (ws++[u]))) np2
     have X4:=X3.ex S4
     have hp2:upd H3 p2 (.lst (tx (ws++[u]))) p2=some (.lst (tx (ws++[u]))):=zc
     have hA4:=hA3.same S4
     have ne:p2≠lt:=(zK X3.out np2).symm
     generalize upd H3 p2 (.lst (tx (ws++[u])))=H4 at S4 X4 hp2 hA4
     refine ⟨_,rfl,_,rfl,lt,_,_,at',rfl,rfl,X4.out,?_,?_⟩
     ·unfold ixN
      rw [if_pos (by omega),if_pos (by omega),vp]
     ·refine I_10 x t n lt _ (wss.set at' (ws++[u])) _ _ _ _ ⟨rfl,hA4.x X4.out zc xQ,g,by rw [uK];exact pm,X4.put at' ⟨p2,rfl,hp2,fun z hz=>?_,by rw [kg];show ws.length+1<=40;omega⟩ ne,by rw [uK];exact m11⟩
      rcases ve.mp hz with y | y
      ·exact hw z y
      ·rw [kq.mp y];exact hu
    ·exact I_10 x t n lt us wss _ _ _ _ ⟨rfl,hA,g,pm,X2,m11⟩
  intro σ H2 h8
  refine E_10 h8 fun x t n lt us wss o4 o5 o6 o7 n8=>A_6 n8 fun e9 hA g pm X2 m11=>?_;clear n8 h8;subst e9
  have lu:=X2.txs.len
  have ln:=pm.length_eq
  rw [xO] at ln
  try dsimp only
  -- the names
  refine ⟨_,rfl,lt,_,rfl,.inl (SqL.of X2.out),us.length,rfl,by omega,fun ll nll=>?_⟩
  have S3:=zf (o:=.lst ((kQ us.length).map fun i:Nat=>V.int i)) nll
  have h1:(upd H2 ll (.lst ((kQ us.length).map fun i:Nat=>V.int i))) ll=some (.lst ((up us.length).map V.int)):=by
   rw [zc]
   unfold up
   rw [vU]
   rfl
  have X3:=X2.ex S3
  have hA3:=hA.same S3
  have fll:=X2.same.free nll
  have nel:lt≠ll:=zK X2.out nll
  have innl:∀ v∈us,v≠.ref ll:=X2.txs.ne nll
  generalize upd H2 ll (.lst ((kQ us.length).map fun i:Nat=>V.int i))=H3 at S3 h1 X3 hA3
  refine zB ?_
  try dsimp only
  refine qY ⟨by show 0<=sizeLine;decide,fun li nli=>?_⟩
  have S4:=zf (o:=.lst []) nli
  have h2:(upd H3 li (.lst [])) li=some (.lst (([]:List Int).map V.int)):=zc
  have h1':=h1
  have h1:=S4 _ _ h1
  have X4:=X3.ex S4
  have hA4:=hA3.same S4
  have fli:=X3.same.free nli
  have nn:ll≠li:=fun z=>by
   have hz:=h1'
   rw [z,nli] at hz
   cases hz
  have nti:lt≠li:=zK X3.out nli
  have inni:∀ v∈us,v≠.ref li:=X3.txs.ne nli
  generalize upd H3 li (.lst [])=H4 at S4 h2 h1 X4 hA4
  refine run_seq (t:=_) ?_
  refine ⟨_,rfl,lt,_,rfl,.inl (SqL.of X4.out),_,rfl,by omega,by omega,?_⟩
  rw [vp]
  refine yP (lo:=0) (n:=us.length) (fun i σ H5=>∃ (nm ls:List Int) (o4 o5 o6 o7 o8:Option V),σ=[some (.ref a),some (.int head),some x,some (.ref lt),o4,o5,o6,o7,o8,some (.ref ll),some (.ref li),none]/\At H5 x t/\Tx1 H H5 lt us wss/\H5 ll=some (.lst (ls.map V.int))/\H5 li=some (.lst (nm.map V.int))/\(nm++ls).Perm (up us.length)/\nm.length=i)
   ⟨[],_,_,_,_,_,none,rfl,hA4,X4,h1,h2,.refl _,rfl⟩ ?_ ?_
  ·intro i σ H5 hi h8
   refine E_7 h8 fun nm ls o4 o5 o6 o7 o8 n8=>A_7 n8 fun e9 hA5 X5 hll hli pm5 l5=>?_;clear n8 h8;subst e9
   refine zB ?_
   rw [show (0:Int)+(i:Int)=(i:Int) from bB _]
   try dsimp only
   have ln5:=pm5.length_eq
   rw [kg,xO] at ln5
   refine ⟨_,rfl,.inl ⟨rfl,_,SqL.of hli⟩,_,rfl,.inl ⟨rfl,_,SqL.of hll⟩,_,rfl,_,rfl,_,_,rfl,rfl,head,_,rfl,by omega,by omega,fun c p=>?_⟩
   have b0:=vV c (show (ls.length:Int)≠0 by omega)
   have b1:=vP c (show (0:Int)<ls.length by omega)
   obtain ⟨k,hk⟩:=uo b0
   have kl:k<ls.length:=by omega
   refine ⟨_,rfl,_,_,rfl,.inl (SqL.of hll),_,_,rfl,rfl,by rw [ka];omega,?_⟩
   have hk':c % (((ls.map V.int).length:Nat):Int)=k:=by rw [ka];exact hk
   refine ⟨ll,ls.map V.int,k,k,.int ls[k],rfl,congrArg (fun z=>[V.int z]) hk',hll,by omega,by omega,?_,by rw [kR,kb kl];rfl,?_⟩
   ·rw [ka]
    exact PySem.StrLaws.seqIndex_nonneg (i:=(k:Int)) (n:=ls.length) (by omega) (by omega)
   ·have S7:Same H (upd H5 ll (.lst ((ls.map V.int).eraseIdx k))):=zU X5.same fll
    have k1:(upd H5 ll (.lst ((ls.map V.int).eraseIdx k))) ll=some (.lst ((ls.eraseIdx k).map V.int)):=by rw [zc,Yj]
    have k2:(upd H5 ll (.lst ((ls.map V.int).eraseIdx k))) li=some (.lst (nm.map V.int)):=by rw [zy nn.symm];exact hli
    have k3:=hA5.x hll k1 xQ
    have X6:Tx1 H (upd H5 ll (.lst ((ls.map V.int).eraseIdx k))) lt us wss:=⟨S7,X5.new,by rw [zy nel];exact X5.out,X5.txs.updL innl,X5.inn⟩
    generalize upd H5 ll (.lst ((ls.map V.int).eraseIdx k))=H7 at S7 k1 k2 k3 X6
    refine ⟨li,_,_,rfl,rfl,k2,by rw [ka];exact vc (show _<=24 by omega) (by decide),?_⟩
    have S8:Same H (upd H7 li (.lst (nm.map V.int++[V.int ls[k]]))):=zU S7 fli
    refine I_7 (nm++[ls[k]]) (ls.eraseIdx k) _ _ _ _ _ ⟨rfl,k3.x k2 zc xQ,⟨S8,X6.new,by rw [zy nti];exact X6.out,X6.txs.updL inni,X6.inn⟩,by rw [zy nn];exact k1,by rw [zc,kz];rfl,?_,by rw [kg,l5];rfl⟩
    rw [ue]
    exact ((Zc kl).append_left nm).trans pm5
  intro σ H5 h8
  refine E_7 h8 fun nm ls o4 o5 o6 o7 o8 n8=>A_7 n8 fun e9 hA5 X5 hll hli pm5 l5=>?_;clear n8 h8;subst e9
  have ln5:=pm5.length_eq
  rw [kg,xO] at ln5
  have el:ls=[]:=List.eq_nil_of_length_eq_zero (by omega)
  rw [el,vq] at pm5
  try dsimp only
  -- dealt
  refine ⟨_,rfl,li,rfl,⟨_,SqL.of hli⟩,yh (K:=K) (a:=li) (xs:=nm.map V.int) (fun j ys σ H6=>Txs H6 ys (kF j [])/\Same H5 H6/\∃ o,σ=[o]) ⟨.nil,Same.refl _,none,rfl⟩
   (fun j ys σ H6 hj h9=>by obtain ⟨e,S,_⟩:=h9;exact (⟨by rw [e.len,va];rw [ka] at hj;exact km (show j<=100 by omega) (by decide),SqL.of (S _ _ hli)⟩)) ?_ ?_⟩
  case refine_2 =>
   intro j v ys σ H6 hv h8
   refine A_3 h8 fun hY S6 n8=>E_1 n8 fun o e9=>?_;clear n8 h8;subst e9
   dsimp only [zW,tYes]
   refine iteT ⟨by show 0<=sizeLine;decide,fun p1 np1=>⟨?_,S6.trans (zf np1),_,rfl⟩⟩
   rw [ui]
   exact (hY.same (zf np1)).snoc ⟨p1,rfl,zc,fun u hu=>absurd hu kN,kP _⟩
  rintro ys σ H6 ⟨hY,S6,_⟩ ld nld
  rw [ka,l5] at hY
  have S7:=zf (o:=.lst ys) nld
  have Y7:Tx1 H (upd H6 ld (.lst ys)) ld ys (kF us.length []):=⟨(X5.same.trans S6).trans S7,(X5.same.trans S6).free nld,zc,hY.same S7,hY.ne nld⟩
  have X7:=(X5.ex S6).ex S7
  have hli7:=S7 _ _ (S6 _ _ hli)
  have hA7:=(hA5.same S6).same S7
  have ntd:lt≠ld:=zK (S6 _ _ X5.out) nld
  have nid:li≠ld:=zK (S6 _ _ hli) nld
  have innd:∀ v∈us,v≠.ref ld:=(X5.ex S6).txs.ne nld
  generalize upd H6 ld (.lst ys)=H7 at S7 Y7 X7 hli7 hA7
  try dsimp only
  refine ⟨_,rfl,li,_,rfl,.inl (SqL.of hli7),_,rfl,by rw [ka];omega,by rw [ka];omega,?_⟩
  rw [ka,vp,l5]
  refine yP (lo:=0) (n:=us.length) (fun i σ H8=>∃ (ds:List V) (wd:List (List W)) (o4 o5 o6 o7 o8:Option V),σ=[some (.ref a),some (.int head),some x,some (.ref lt),o4,o5,o6,o7,o8,some (.ref ll),some (.ref li),some (.ref ld)]/\At H8 x t/\Tx1 H H8 lt us wss/\Tx1 H H8 ld ds wd/\wd.length=us.length/\H8 li=some (.lst (nm.map V.int)))
   ⟨ys,_,_,_,_,_,_,rfl,hA7,X7,Y7,va,hli7⟩ ?_ ?_
  ·intro i σ H8 hi h8
   refine E_7 h8 fun ds wd o4 o5 o6 o7 o8 n8=>A_6 n8 fun e9 hA8 X8 Y8 lwd hli8=>?_;clear n8 h8;subst e9
   refine zB ?_
   rw [show (0:Int)+(i:Int)=(i:Int) from bB _]
   try dsimp only
   obtain ⟨ws,ew,pa,ev,hpa,hw,h40⟩:=X8.txs.get (kb hi)
   have hin:i<nm.length:=by omega
   have mem:nm[i]∈up us.length:=pm5.mem_iff.mp (vB hin)
   obtain ⟨z,hz0,hz⟩ : ∃ z:Nat,z<us.length/\nm[i]=(z:Int):=by
    unfold up at mem
    obtain ⟨z,hz,e⟩:=kX.mp mem
    exact ⟨z,vz.mp hz,e.symm⟩
   have lds:=Y8.txs.len
   have npd:pa≠ld:=fun e=>innd _ (vB hi) (by rw [ev,e])
   refine ⟨_,rfl,_,rfl,lt,_,_,.ref pa,rfl,rfl,SqL.of X8.out,yw (by rw [kb hi,ev]),?_⟩
   refine ⟨_,rfl,_,rfl,_,rfl,li,_,_,.int (z:Int),rfl,rfl,SqL.of hli8,yw (by rw [kR,kb hin,hz];rfl),ld,_,_,z,rfl,rfl,Y8.out,?_,?_⟩
   ·unfold ixN
    rw [if_pos (by omega),if_pos (by omega),vp]
   ·have Y9:=Y8.put z (b:=pa) (ws:=ws) ⟨pa,rfl,hpa,hw,h40⟩ npd
    refine I_7 _ _ _ _ _ _ _ ⟨rfl,hA8.x Y8.out zc xQ,⟨Y9.same,X8.new,by rw [zy ntd];exact X8.out,X8.txs.updL innd,X8.inn⟩,Y9,by rw [uK,lwd],by rw [zy nid];exact hli8⟩
  intro σ H8 h8
  refine E_7 h8 fun ds wd o4 o5 o6 o7 o8 n8=>A_6 n8 fun e9 hA8 X8 Y8 lwd hli8=>?_;clear n8 h8;subst e9
  try dsimp only
  have szg:=g.szN
  refine ⟨_,rfl,_,rfl,x,t,n,li,nm,rfl,hA8,g,hli8,fun i hi=>?_,by omega,by decide,fun x' t' H9 S9 hA' g' _=>?_⟩
  ·have:=pm.mem_iff.mp hi
   unfold up at this
   obtain ⟨z,hz,rfl⟩:=kX.mp this
   have:=vz.mp hz
   omega
  refine ⟨_,rfl,by show 2<=sizeLine;decide,fun lr nlr=>?_⟩
  have S10:=zf (o:=.lst [x',.ref ld]) nlr
  refine q lr x' ld t' _ ds wd _ ((Y8.same.trans S9).trans S10) zc (hA'.same S10) g' ?_ ((S9.trans S10) _ _ Y8.out) (Y8.txs.same (S9.trans S10)) (by omega)
  rw [lwd,lu]
  exact zaA pm (by rw [<- lu];exact pm5)
end
end _JJ
namespace _JJ
open PySem _L2 _Lin _Tre PySem.W
open _Sta (R Ok sbs exch reg OkS OkSs stN HasR zM Low Best)
noncomputable def YG:Sp:=fun vs H Q _=>∃ (a b:Addr) (f g:List (Option Nat)) (most:Nat),vs=[.ref a,.ref b]/\H a=some (.lst (tb f))/\H b=some (.lst (tb g))/\f.length=most+1/\g.length=most+1/\most<=1000000 /\
 ∀ (l:Addr) (h:List (Option Nat)) (H':Hp),Same H H'->H' l=some (.lst (tb h))->h.length=most+1->h.getD 0 none=none->(∀ w,1<=w->w<=most->Best (gd f) (gd g) w (w-1) (h.getD w none))->Q (.ref l) H'
section
variable {P:Program} {w:World} {K:PySem.W.Frag} {mg:Str->Option Value} {base:Heap} {kA:Addr}
theorem Qb:zu ["words","wide","rows","word"] ["words","wide"] (ze (top 74)):=⟨rfl,rfl,rfl,by decide +kernel,rfl,by decide +kernel,by decide +kernel⟩
theorem zc6 {f:Addr} {fd:FuncData} (F:Fun K "_law_lines" "_law_lines" (top 74) f fd) (tl:mg "len" = none):FnOk P w K mg base CX0 1 f fd ["words","wide"] wU:=by
 refine F.ok Qb (fun vs H Q E h=>?_) (fun cdv A outer s H vs Q E hr h=>?_)
 ·refine E_3 h fun a ws wide n8=>A_2 n8 fun e9 _=>?_;clear n8 h;subst e9
  rfl
 ·refine E_3 h fun a ws wide n8=>A_6 n8 fun e9 ha hw hn q1 q2=>?_;clear n8 h;subst e9
  refine ⟨_,(zd (zt (i:=2) Qb.nd rfl (Or.inl rfl) (z5 zb))
   (zd (yp PassesOwn.never rfl (z7 (pv 0)) (zn (i:=3) Qb.nd rfl (Or.inl rfl))
   (zd (zJ (zD w5 (zh zZ (by rfl) tl kK (za (pv 3) zb)) (pv 1) (zE _))
    (zg (zm yj))
    zF)
    (zg (zJ (PW.pt (wF (zD w5 (zh zo (by rfl) tl kK (za (pv 2) zb)) zi (zE _)) (xW (zD yS (zA yl (zA yl (zh zZ (by rfl) tl kK (za (zl zN (pv 2) (xU xw zi) (fun _ _=>rfl)) zb)) zi) (zh zZ (by rfl) tl kK (za (pv 3) zb))) (pv 1) (zE _)))))
    (zg (wG (zA yG (zA yG (zl zN (pv 2) (xU xw zi) (fun _ _=>rfl)) yk) (pv 3)) (qv (pv 2) (xU xw zi) set_list)))
    (zg (yi (yI vd vv vx yE (pv 2) (za (pv 3) zb))))))))
   (zg (zm (pv 2))))),?_⟩
  refine qY ⟨by show 0<=sizeLine;decide,fun l nl=>?_⟩
  have S1:=zf (o:=.lst []) nl
  have h1:(upd H l (.lst [])) l=some (.lst []):=zc
  generalize upd H l (.lst [])=H1 at S1 h1
  refine run_seq ⟨_,rfl,a,rfl,⟨_,SqL.of (S1 _ _ ha)⟩,?_⟩
  refine xA (K:=K) (a:=a) (xs:=tx ws) (fun i σ H2=>∃ o:Option V,σ=[some (.ref a),some (.int wide),some (.ref l),o]/\Same H H2/\H2 l=some (.lst (tx (taken wide (ws.take i))))/\∀ u∈ws.take i,u.length<=wide)
   ⟨none,rfl,S1,h1,fun u hu=>(kN hu).elim⟩ (fun i σ H2 _ h9=>by obtain ⟨_,_,S,_⟩:=h9;exact (SqL.of (S _ _ ha))) ?_ ?_
  ·intro i x σ H2 hi h8
   refine E_1 h8 fun o n8=>A_4 n8 fun e9 S hl hf=>?_;clear n8 h8;subst e9
   obtain ⟨v,hv,rfl⟩:=yN hi
   obtain ⟨hil,ev⟩:=kf.mp hv
   have et:taken wide (ws.take (i+1))=put wide (taken wide (ws.take i)) v:=by rw [<- ky hil,ev,yT]
   have bd:=wD wide (ws.take i) fun u hu=>(hw u (uh hu)).2.1
   have lb:=wk wide (ws.take i)
   rw [kL] at bd lb
   have vm:v∈ws:=kE hv
   have vb:=(hw v vm).2.1
   have hf':v.length<=wide->∀ u∈ws.take (i+1),u.length<=wide:=fun hv u hu=>by
    rw [<- ky hil,ev] at hu
    rcases ve.mp hu with z | z
    ·exact hf u z
    ·rw [kq.mp z];exact hv
   rw [et]
   generalize taken wide (ws.take i)=rows at hl bd lb ⊢
   refine zB ?_
   refine qF (p:=(wide:Int)<(v.length:Int)) (z6 (zQ (xk (zk rfl) (by omega)) (zk rfl))) (fun c=>?_) (fun c=>?_)
   ·refine q2 ?_ H2 S
    cases e:fits ws wide with
    | false=>rfl
    | true =>
     have:=wq.mp e v vm
     omega
   have vw:v.length<=wide:=by omega
   refine zS ?_
   dsimp only
   unfold put
   cases el:rows.getLast? with
   | none =>
    have e':rows=[]:=List.getLast?_eq_none_iff.mp el
    subst e'
    refine yU (p:=(((tx ([]:List W)).length:Nat):Int)>0/\False) (Xc (z6 (zQ (yA (zk rfl) (SqL.of hl)) zI)) (fun z=>absurd z (by decide))) (fun c=>c.2.elim) (fun _=>?_)
    exact ⟨_,rfl,.inl ⟨rfl,_,SqL.of hl⟩,_,rfl,l,_,_,rfl,rfl,hl,by show 0<sizeLine;decide,_,rfl,zU S nl,by rw [zc];rfl,hf' vw⟩
   | some r =>
    have sp:=xV el
    have rb:=bd r (bh el)
    have ers:tx rows=tx rows.dropLast++[V.str (txt r)]:=by
     conv=>lhs;rw [sp]
     rw [xo]
    have hl2:H2 l=some (.lst (tx rows.dropLast++[V.str (txt r)])):=by rw [<- ers];exact hl
    have ea:atI (tx rows.dropLast++[V.str (txt r)]) (-1)=some (V.str (txt r)):=jA _ _
    have rs:r.length<=100000:=by omega
    refine yU (p:=(((tx rows.dropLast++[V.str (txt r)]).length:Nat):Int)>0/\(r.length:Int)+1+v.length<=wide) (Xc (z6 (zQ (yA (zk rfl) (SqL.of hl2)) zI)) (fun _=>z6 (zQ (zQ (zQ (xk (yM (zk rfl) qg (SqL.of hl2) ea) (by omega)) zI) (xk (zk rfl) (by omega))) (zk rfl)))) (fun c=>?_) (fun c=>?_)
    ·have c:=c.2
     dsimp only
     rw [if_pos c]
     have sl:=Xi (tx rows.dropLast) (V.str (txt r)) (V.str (txt (r++32::v)))
     refine qb (w:=v) (qb (w:=[32]) (yM (zk rfl) qg (SqL.of hl2) ea) zI (by simp;omega)) (zk rfl) (by simp;omega) _ ?_
     refine ⟨_,rfl,_,rfl,l,_,_,_,rfl,rfl,hl2,sl.1,?_⟩
     refine ⟨_,rfl,zU S nl,?_,hf' vw⟩
     rw [zc]
     have e2:r++[32]++v=r++32::v:=by simp
     rw [e2,sl.2,xo]
    ·have c:¬ (r.length:Int)+1+v.length<=wide:=fun z=>c ⟨by rw [kg,vo];omega,z⟩
     dsimp only
     rw [if_neg c]
     refine ⟨_,rfl,.inl ⟨rfl,_,SqL.of hl⟩,_,rfl,l,_,_,rfl,rfl,hl,?_,_,rfl,zU S nl,by rw [zc,xo],hf' vw⟩
     rw [zL]
     exact vc (show rows.length<=1000 by omega) (by decide)
  ·intro σ H2 h8
   refine E_1 h8 fun o n8=>A_4 n8 fun e9 S hl hf=>?_;clear n8 h8;subst e9
   rw [zL,kM] at hl hf
   exact ⟨_,rfl,q1 (wq.mpr hf) l H2 S hl⟩
theorem qt:zu ["one","other","found","wide","best","k","high"] ["one","other"] (ze (top 75)):=⟨rfl,rfl,rfl,by decide +kernel,rfl,by decide +kernel,by decide +kernel⟩
theorem zc7 {f:Addr} {fd:FuncData} (F:Fun K "_law_beside" "_law_beside" (top 75) f fd) (tl:mg "len" = none) (tr:mg "range" = none) (tmax:mg "max" = none):FnOk P w K mg base CX0 1 f fd ["one","other"] YG:=by
 refine F.ok qt (fun vs H Q E h=>?_) (fun cdv A outer s H vs Q E hr h=>?_)
 ·refine E_5 h fun a b f g most n8=>A_2 n8 fun e9 _=>?_;clear n8 h;subst e9
  rfl
 ·refine E_5 h fun a b f g most n8=>A_7 n8 fun e9 ha hb lf lg hm q=>?_;clear n8 h;subst e9
  refine ⟨_,(zd (zt (i:=2) qt.nd rfl (Or.inl rfl) (z5 (za yj zb)))
   (zd (yp PassesOwn.never rfl (xL rfl tr (za zi (za (zh zo (by rfl) tl kK (za (pv 0) zb)) zb))) (zn (i:=3) qt.nd rfl (Or.inl rfl))
   (zd (zt (i:=4) qt.nd rfl (Or.inl rfl) yj)
    (zd (yp PassesOwn.never rfl (xL rfl tr (za zi (za (pv 3) zb))) (zn (i:=5) qt.nd rfl (Or.inl rfl))
    (zg (zJ (PW.pt (wF (zD Zq (zl zN (pv 0) (pv 5) (fun _ _=>rfl)) yj rfl) (xW (zD Zq (zl zN (pv 1) (zA xv (pv 3) (pv 5)) (fun _ _=>rfl)) yj rfl))))
     (zd (zt (i:=6) qt.nd rfl (Or.inl rfl) (zh (qx rfl) (by rfl) tmax uA (za (zl zN (pv 0) (pv 5) (fun _ _=>rfl)) (za (zl zN (pv 1) (zA xv (pv 3) (pv 5)) (fun _ _=>rfl)) zb))))
      (zg (zJ (PW.pt (yR (zD xc (pv 4) yj rfl) (yZ (zD y8 (pv 6) (pv 4) (zE _)))))
      (zg (zt (i:=4) qt.nd rfl (Or.inl rfl) (pv 6)))
      zF)))
     zF)))
    (zg (yi (yI vd vv vx yE (pv 2) (za (pv 4) zb)))))))
   (zg (zm (pv 2))))),?_⟩
  refine qY ⟨by show 1<=sizeLine;decide,fun l nl=>?_⟩
  have S1:=zf (o:=.lst [V.non]) nl
  have h1:(upd H l (.lst [V.non])) l=some (.lst (tb [none])):=zc
  generalize upd H l (.lst [V.non])=H1 at S1 h1
  refine run_seq ⟨_,rfl,a,_,rfl,.inl (SqL.of (S1 _ _ ha)),1,_,rfl,⟨by decide,by decide,by rw [xP];omega,by rw [xP];omega⟩,?_⟩
  rw [show ((((tb f).length:Nat):Int)-1).toNat=most by rw [xP];omega]
  refine yP (lo:=1) (n:=most) (fun i σ H2=>∃ (h:List (Option Nat)) (o4 o5 o6 o7:Option V),σ=[some (.ref a),some (.ref b),some (.ref l),o4,o5,o6,o7]/\Same H H2/\H2 l=some (.lst (tb h))/\h.length=i+1/\h.getD 0 none=none/\∀ w,1<=w->w<=i->Best (gd f) (gd g) w (w-1) (h.getD w none))
   ⟨[none],none,none,none,none,rfl,S1,h1,rfl,rfl,fun w h1 h2=>by omega⟩ ?_ ?_
  ·intro i σ H2 hi h8
   refine E_5 h8 fun h o4 o5 o6 o7 n8=>A_6 n8 fun e9 S2 hl lh h0 hB=>?_;clear n8 h8;subst e9
   refine zB ?_
   refine xC (v:=.non) zI ?_
   rw [show (1:Int)+(i:Int)=((i+1:Nat):Int) by omega]
   refine run_seq ?_
   refine ⟨_,rfl,1,((i+1:Nat):Int),rfl,⟨by decide,by decide,by omega,by omega⟩,?_⟩
   rw [show (((i+1:Nat):Int)-1).toNat=i by omega]
   refine yP (lo:=1) (n:=i) (fun k σ H3=>∃ (o:Option Nat) (o6 o7:Option V),σ=[some (.ref a),some (.ref b),some (.ref l),some (.int ((i+1:Nat):Int)),some (oV o),o6,o7]/\H3=H2/\Best (gd f) (gd g) (i+1) k o)
    ⟨none,o6,o7,rfl,rfl,_Sta.QY⟩ ?_ ?_
   ·intro k σ H3 hk h8
    refine E_3 h8 fun o o6 o7 n8=>A_3 n8 fun e9 n90 hb1=>?_;clear n8 h8;subst e9;subst n90
    refine zB ?_
    rw [show (1:Int)+(k:Int)=((k+1:Nat):Int) by omega]
    have e1:∀ {σ:St},σ[0]?=some (some (.ref a))->σ[5]?=some (some (.int ((k+1:Nat):Int)))->Evl (tOp (rIxL K) (tVar 0) (tVar 5)) σ H3 (oV (gd f (k+1))):=fun z1 z2=>yM (zk z1) (zk z2) (SqL.of (S2 _ _ ha)) (WV (by omega))
    have e2:∀ {σ:St},σ[1]?=some (some (.ref b))->σ[3]?=some (some (.int ((i+1:Nat):Int)))->σ[5]?=some (some (.int ((k+1:Nat):Int)))->Evl (tOp (rIxL K) (tVar 1) (tOp (rI0 fun i j=>.int (i-j)) (tVar 3) (tVar 5))) σ H3 (oV (gd g (i+1-(k+1)))):=fun z1 z2 z3=>yM (zk z1) (zQ (zk z2) (zk z3)) (SqL.of (S2 _ _ hb)) (by
     rw [show ((i+1:Nat):Int)-((k+1:Nat):Int)=((i+1-(k+1):Nat):Int) by omega]
     exact WV (by omega))
    refine yU (Zx (Xv (e1 rfl rfl)) (Xv (e2 rfl rfl rfl))) (fun c=>?_) (fun c=>?_)
    ·obtain ⟨v1,h1'⟩:=YD.mp c.1
     obtain ⟨v2,h2'⟩:=YD.mp c.2
     have hm1:=_Sta.Q0 (f:=gd f) (g:=gd g) (show k+1<i+1 by omega) h1' h2' hb1
     have e1':=fun {σ:St} z1 z2=>e1 (σ:=σ) z1 z2
     have e2':=fun {σ:St} z1 z2 z3=>e2 (σ:=σ) z1 z2 z3
     rw [h1'] at e1'
     rw [h2'] at e2'
     refine xC (v:=.int ((max v1 v2:Nat):Int)) (by rw [<- Wu];exact Z2 (g:=fun i j=>.int (if j>i then j else i)) (e1' rfl rfl) (e2' rfl rfl rfl)) ?_
     cases o with
     | none =>
      refine yU (p:=V.non=V.non\/False) (Wt (Ws (zk rfl)) (fun z=>absurd rfl z)) (fun c=>?_) (fun c=>absurd (Or.inl rfl) c)
      exact Wg (zk rfl) ⟨some (max v1 v2),_,_,rfl,rfl,hm1⟩
     | some v =>
      refine yU (p:=V.int (v:Int)=V.non\/((max v1 v2:Nat):Int)<(v:Int)) (Wt (Ws (zk rfl)) (fun _=>z6 (zQ (zk rfl) (zk rfl)))) (fun c=>?_) (fun c=>?_)
      ·have c:max v1 v2<v:=by
        rcases c with z | z
        ·cases z
        ·omega
       have hm1:Best (gd f) (gd g) (i+1) (k+1) (some (if max v1 v2<v then max v1 v2 else v)):=hm1
       rw [if_pos c] at hm1
       exact Wg (zk rfl) ⟨some (max v1 v2),_,_,rfl,rfl,hm1⟩
      ·have c:¬ max v1 v2<v:=fun z=>c (.inr (by omega))
       have hm1:Best (gd f) (gd g) (i+1) (k+1) (some (if max v1 v2<v then max v1 v2 else v)):=hm1
       rw [if_neg c] at hm1
       exact ⟨some v,_,_,rfl,rfl,hm1⟩
    ·refine ⟨o,_,_,rfl,rfl,_Sta.QZ ?_ hb1⟩
     cases z1:gd f (k+1) with
     | none=>exact .inl rfl
     | some v1 =>
      cases z2:gd g (i+1-(k+1)) with
      | none=>exact .inr rfl
      | some v2=>exact absurd ⟨YD.mpr ⟨v1,z1⟩,YD.mpr ⟨v2,z2⟩⟩ c
   ·intro σ H3 h8
    refine E_3 h8 fun o o6 o7 n8=>A_3 n8 fun e9 n90 hb1=>?_;clear n8 h8;subst e9;subst n90
    refine ⟨_,rfl,.inl ⟨rfl,_,SqL.of hl⟩,_,rfl,l,_,_,rfl,rfl,hl,?_,?_⟩
    ·rw [xP]
     exact vc (show h.length<=1000001 by omega) (by decide)
    ·refine I_5 (h++[o]) _ _ _ _ ⟨rfl,zU S2 nl,by rw [zc,ZJ],by rw [kg,lh];rfl,by rw [getD_snoc (by omega)];exact h0,fun w w1 w2=>?_⟩
     rcases vW w2 with c | c
     ·rw [getD_snoc (by omega)]
      exact hB w w1 (by omega)
     ·subst c
      rw [<- lh,getD_last,lh]
      exact hb1
  ·intro σ H2 h8
   refine E_5 h8 fun h o4 o5 o6 o7 n8=>A_6 n8 fun e9 S2 hl lh h0 hB=>?_;clear n8 h8;subst e9
   exact ⟨_,rfl,q l h H2 S2 hl lh h0 hB⟩
end
end _JJ
namespace _JJ
open PySem _L2 _Lin _Tre PySem.W
open _Sta (R Ok sbs exch reg OkS OkSs stN HasR zM Low Best)
theorem zb1 {wss:List (List W)} {i:Int} {P:R} (h:HasR (Lvs wss) (.int i) P):∃ (j:Nat) (ws:List W),i=(j:Int)/\wss[j]?=some ws/\P=_Sta.xb ws:=by
 cases h with
 | leaf h0 h =>
  have:Lvs wss=wss.map _Sta.xb:=rfl
  rw [this,kR] at h
  obtain ⟨ws,hw,e⟩:=vk.mp h
  exact ⟨i.toNat,ws,by omega,hw,e.symm⟩
section
variable {P:Program} {w:World} {K:PySem.W.Frag} {mg:Str->Option Value} {base:Heap} {kA:Addr}
theorem xz:zu ["tree","texts","most","found","wide","rows","total","part","table"] ["tree","texts","most"] (ze (top 76)):=⟨rfl,rfl,rfl,by decide +kernel,rfl,by decide +kernel,by decide +kernel⟩
theorem zb2 {f:Addr} {fd:FuncData} (F:Fun K "_law_table" "_law_table" (top 76) f fd):FnOk P w K mg base CX0 2 f fd ["tree","texts","most"] (jk 0):=by
 refine F.ok xz (fun vs H Q E h=>?_) (fun cdv A outer s H vs Q E hr h=>?_)
 ·refine E_8 h fun x t n a us wss P1 most n8=>A_2 n8 fun e9 _=>?_;clear n8 h;subst e9
  rfl
 ·refine E_8 h fun x t n a us wss P1 most n8=>A_9 n8 fun e9 _ _ _ _ _ _ hz _=>?_;clear n8 h;subst e9
  omega
theorem zb3 {f fL fB:Addr} {fd dL dB:FuncData} {d:Nat} (F:Fun K "_law_table" "_law_table" (top 76) f fd) (Zt:Nt K mg kA) (tmax:mg "max" = none) (tzip:mg "zip" = none) (Ll:Callee P w K mg base CX0 1 "_law_lines" fL dL ["words","wide"] wU) (Be:Callee P w K mg base CX0 1 "_law_beside" fB dB ["one","other"] YG) (Ta:Callee P w K mg base CX0 (d+2) "_law_table" f fd ["tree","texts","most"] (jk d)) :
  FnOk P w K mg base CX0 (d+3) f fd ["tree","texts","most"] (jk (d+1)):=by
 obtain ⟨_,_,_,_,_,ti,_,_,_,ttup,_,tl,_,_,tr,_,_,_,kT⟩:=Zt
 refine F.ok xz (fun vs H Q E h=>?_) (fun cdv A outer s H vs Q E hr h=>?_)
 ·refine E_8 h fun x t n a us wss P1 most n8=>A_2 n8 fun e9 _=>?_;clear n8 h;subst e9
  rfl
 ·refine E_8 h fun x t n a us wss P1 most n8=>A_10 n8 fun e9 hA g hR ha hT hm hz hd q=>?_;clear n8 h;subst e9
  refine ⟨_,(zd (zJ (ye (yc (zh yg (by rfl) ti kW (za (pv 0) (za (yB rfl ttup vG) zb)))))
   (zd (zt (i:=3) xz.nd rfl (Or.inl rfl) (z5 (za yj zb)))
    (zd (yp PassesOwn.never rfl (xL rfl tr (za zi (za (zA yl (pv 2) zi) zb))) (zn (i:=4) xz.nd rfl (Or.inl rfl))
    (zd (zt (i:=5) xz.nd rfl (Or.inl rfl) (zj Ll.ok (hr.mono (by omega)) rfl Ll.bound Ll.kp Ll.bd .nil zx (za (zl zN (pv 1) (pv 0) (fun _ _=>rfl)) (za (pv 4) zb))))
     (zg (yi (yI vd vv vx yE (pv 3) (za (YI (zD xc (pv 5) yj rfl) yj (zh (qx rfl) (by rfl) tmax uA (za zi (za (zh zo (by rfl) tl kK (za (pv 5) zb)) zb)))) zb))))))
    (zg (zm (pv 3)))))
   zF)
   (zd (zt (i:=6) xz.nd rfl (Or.inl rfl) yj)
   (zd (yp PassesOwn.never rfl (x9 (zl zw (pv 0) zi (fun _ _=>rfl))) (zn (i:=7) xz.nd rfl (Or.inl rfl))
   (zd (zt (i:=8) xz.nd rfl (Or.inl rfl) (zj Ta.ok hr rfl Ta.bound Ta.kp Ta.bd .nil zx (za (pv 7) (za (pv 1) (za (pv 2) zb)))))
    (zg (zJ (zD xc (pv 6) yj rfl)
    (zg (zt (i:=6) xz.nd rfl (Or.inl rfl) (pv 8)))
    (zg (zJ (zD xx (zl zw (pv 0) zi (fun _ _=>rfl)) yk (zE _))
     (zg (zt (i:=6) xz.nd rfl (Or.inl rfl) (zj Be.ok (hr.mono (by omega)) rfl Be.bound Be.kp Be.bd .nil zx (za (pv 6) (za (pv 8) zb)))))
     (zg (wH (i:=6) (Nc:=["a","b"]) (ix:=[none,none]) xz.nd rfl (Or.inl rfl) rfl rfl (by exact (qI rfl tzip (za (pv 6) (za (pv 8) zb)))) (fun _ _ _ _ _=>(xZ (K:=K) (n:=2) rfl rfl (zY (zn (i:=0) (by show (["a","b"]:List Str).Nodup;decide +kernel) rfl (Or.inl rfl)) (zY (zn (i:=1) (by show (["a","b"]:List Str).Nodup;decide +kernel) rfl (Or.inl rfl)) yW)))) (fun _ _ _ _ _=>zR) (fun _ _ _ _ _=>(YI (PW.pt (yR (zD xc (pv 0) yj rfl) (yZ (zD xc (pv 1) yj rfl)))) yj (zA yl (pv 0) (pv 1))))))))))))
   (zg (zm (pv 6)))))),?_⟩
  refine ⟨_,rfl,_,_,_,_,rfl,rfl,hA.ty,kT t,_,rfl,?_⟩
  have lu:=hT.len
  cases g with
  | leaf i =>
   cases hA
   obtain ⟨i,ws,rfl,ew,rfl⟩:=zb1 hR
   have hil:i<us.length:=by rw [lu];exact (kf.mp ew).1
   obtain ⟨ws',ew',pa,ev,hpa,hw,h40⟩:=hT.get (kb hil)
   rw [ew] at ew'
   cases ew'
   have ati:atI us (i:Int)=some (.ref pa):=yw (by rw [kb hil,ev])
   refine iteT ?_
   refine ⟨by show 1<=sizeLine;decide,fun l nl=>?_⟩
   have S1:=zf (o:=.lst [V.non]) nl
   have h1:(upd H l (.lst [V.non])) l=some (.lst (tb ((kQ (0+1)).map (lfT ws)))):=by
    rw [zc]
    have:lfT ws 0=none:=by unfold lfT;rw [if_neg (by omega)]
    show some (HO.lst [V.non])=some (HO.lst [oV (lfT ws 0)])
    rw [this]
    rfl
   generalize upd H l (.lst [V.non])=H1 at S1 h1
   try dsimp only
   refine ⟨_,rfl,_,_,rfl,rfl,1,(most:Int)+1,rfl,⟨by decide,by decide,by omega,by omega⟩,?_⟩
   rw [show ((most:Int)+1-1).toNat=most by omega]
   refine yP (lo:=1) (n:=most) (fun j σ H2=>∃ (o4 o5:Option V),σ=[some (.int (i:Int)),some (.ref a),some (.int most),some (.ref l),o4,o5,none,none,none]/\Same H H2/\H2 l=some (.lst (tb ((kQ (j+1)).map (lfT ws)))))
    ⟨none,none,rfl,S1,h1⟩ ?_ ?_
   ·intro j σ H2 hj h8
    refine E_2 h8 fun o4 o5 n8=>A_3 n8 fun e9 S2 hl2=>?_;clear n8 h8;subst e9
    refine zB ?_
    rw [show (1:Int)+(j:Int)=((j+1:Nat):Int) by omega]
    have put:∀ {H3:Hp} (o:Option Nat),Same H H3->H3 l=some (.lst (tb ((kQ (j+1)).map (lfT ws))))->o=lfT ws (j+1)->(upd H3 l (.lst (tb ((kQ (j+1)).map (lfT ws))++[oV o]))) l=some (.lst (tb ((kQ (j+1+1)).map (lfT ws)))):=fun o _ _ eo=>by
     rw [zc,ZJ,List.range_succ (n:=j+1),kz,eo]
     rfl
    have sm:(tb ((kQ (j+1)).map (lfT ws))).length<sizeLine:=by
     rw [xP,ka,vi]
     exact vc (show j+1<=1000001 by omega) (by decide)
    refine ⟨_,rfl,_,rfl,a,_,_,_,rfl,rfl,SqL.of (S2 _ _ ha),ati,_,rfl,pa,ws,j+1,rfl,S2 _ _ hpa,hw,by omega,fun hf lr H3 S3 hlr=>?_,fun hf H3 S3=>?_⟩
    ·refine zB ?_
     try dsimp only
     have hl3:=S3 _ _ hl2
     refine ⟨_,rfl,.inl ⟨rfl,_,SqL.of hl3⟩,_,rfl,rfl,_,rfl,iteF ⟨_,rfl,lr,_,rfl,.inl (SqL.of hlr),_,_,rfl,l,_,_,rfl,rfl,hl3,sm,?_⟩⟩
     have ev:(if (((tx (taken ((j+1:Nat):Int) ws)).length:Nat):Int)>((1:Nat):Int) then (((tx (taken ((j+1:Nat):Int) ws)).length:Nat):Int) else ((1:Nat):Int))=((max 1 (cnt ws ((j+1:Nat):Int)):Nat):Int):=by
      rw [Wu,zL,yJ]
     refine ⟨_,_,rfl,zU (S2.trans S3) nl,?_⟩
     show (upd H3 l (.lst (_++[V.int (if (((tx (taken ((j+1:Nat):Int) ws)).length:Nat):Int)>((1:Nat):Int) then (((tx (taken ((j+1:Nat):Int) ws)).length:Nat):Int) else ((1:Nat):Int))]))) l=_
     rw [ev]
     exact put (some (max 1 (cnt ws ((j+1:Nat):Int)))) (S2.trans S3) hl3 (by unfold lfT;rw [if_pos ⟨by omega,hf⟩])
    ·refine zB ?_
     try dsimp only
     have hl3:=S3 _ _ hl2
     refine ⟨_,rfl,.inl ⟨rfl,_,SqL.of hl3⟩,_,rfl,rfl,_,rfl,iteT ⟨l,_,_,rfl,rfl,hl3,sm,?_⟩⟩
     exact ⟨_,_,rfl,zU (S2.trans S3) nl,put none (S2.trans S3) hl3 (by unfold lfT;rw [if_neg (by rw [hf];intro z;cases z.2)])⟩
   ·intro σ H2 h8
    refine E_2 h8 fun o4 o5 n8=>A_3 n8 fun e9 S2 hl2=>?_;clear n8 h8;subst e9
    exact ⟨_,rfl,q l _ H2 S2 hl2 (zag ws most)⟩
  | @node k ps nss hk h2 hn hG =>
   cases hA with
   | @tup a0 vs0 ss e hL =>
   obtain ⟨b0,ws,rfl,e2,hQ⟩:=hL.knot
   have lq:=hQ.len
   have nsz:=y9 k ps
   have lps:=xp ps
   refine iteF ?_
   refine zS ?_
   try dsimp only
   obtain ⟨P0,Ps,hRL,eP⟩ : ∃ P0 Ps,zM (Lvs wss) ps (P0::Ps)/\((k=bar/\P1=Ps.foldl _Sta.bes P0)\/(k=dash/\P1=Ps.foldl _Sta.dwn P0)):=by
    cases hR with
    | bar h=>exact ⟨_,_,h,.inl ⟨rfl,rfl⟩⟩
    | dash h=>exact ⟨_,_,h,.inr ⟨rfl,rfl⟩⟩
   have lP:=hRL.len
   rw [kH] at lP
   have hup:=zM.up (yQ wss) hRL
   obtain ⟨op,eop⟩ : ∃ op:R->R->R,op=(if k=bar then _Sta.bes else _Sta.dwn):=⟨_,rfl⟩
   have hup0:=hup P0 kh
   have fop:∀ (Qs:List R),(∀ Q∈Qs,_Sta.Up Q)->_Sta.Up (Qs.foldl op P0):=fun Qs hQs=>by
    rw [eop]
    split
    ·exact _Sta.wT (fun _ _ a b=>_Sta.Zd a b) Qs P0 hup0 hQs
    ·exact _Sta.wT (fun _ _ a b=>_Sta.Xq a b) Qs P0 hup0 hQs
   have eP1:P1=Ps.foldl op P0:=by
    rw [eop]
    rcases eP with ⟨rfl,z⟩ | ⟨rfl,z⟩
    ·rw [if_pos rfl];exact z
    ·rw [if_neg wp];exact z
   refine ⟨_,rfl,a0,_,_,_,rfl,rfl,SqT.of e,rfl,b0,rfl,⟨_,SqT.of e2⟩,?_⟩
   refine X9 (K:=K) (a:=b0) (xs:=ws) (fun i σ H3=>∃ (v6:V) (o7 o8:Option V),σ=[some (.ref a0),some (.ref a),some (.int most),none,none,none,some v6,o7,o8]/\Same H H3/\((i=0/\v6=.non)\/∃ (j:Nat) (l:Addr) (f:List (Option Nat)),i=j+1/\v6=.ref l/\H3 l=some (.lst (tb f))/\TabOf ((Ps.take j).foldl op P0) most f))
    ⟨.non,none,none,rfl,Same.refl _,.inl ⟨rfl,rfl⟩⟩ (fun i σ H3 _ h9=>by obtain ⟨_,_,_,_,S,_⟩:=h9;exact (SqT.of (S _ _ e2))) ?_ ?_
   ·intro i y σ H3 hy h8
    refine E_3 h8 fun v6 o7 o8 n8=>A_3 n8 fun e9 S3 alt=>?_;clear n8 h8;subst e9
    obtain ⟨p,ep,hAp⟩:=hQ.get hy
    obtain ⟨np,enp,gp⟩:=hG.get ep
    obtain ⟨Pp,ePp,hPp⟩:=hRL.get ep
    have two:=wS h2 (kE ep)
    refine zB ?_
    refine ⟨_,rfl,_,rfl,_,rfl,y,p,np,a,us,wss,Pp,most,rfl,hAp.same S3,gp,hPp,S3 _ _ ha,hT.same S3,hm,by omega,by omega,fun lt g' H4 S4 hlt hg=>?_⟩
    have S34:=S3.trans S4
    refine zB ?_
    try dsimp only
    rcases alt with ⟨rfl,rfl⟩ | ⟨j,l,f,rfl,rfl,hl,ht⟩
    ·refine ⟨_,rfl,rfl,_,rfl,iteT ⟨_,rfl,?_⟩⟩
     have:Pp=P0:=by
      rw [List.getElem?_cons_zero] at ePp
      exact (Option.some.inj ePp).symm
     subst this
     exact ⟨_,_,_,rfl,S34,.inr ⟨0,lt,g',rfl,rfl,hlt,hg⟩⟩
    ·rw [uS] at ePp
     obtain ⟨hip,evp⟩:=kf.mp ePp
     have upP:=hup Pp (kj _ (kE ePp))
     have upF:=fop (Ps.take j) fun Q hQ=>hup Q (kj _ (uh hQ))
     have nxt:(Ps.take (j+1)).foldl op P0=op ((Ps.take j).foldl op P0) Pp:=by
      rw [<- ky hip,evp,uY]
      rfl
     have hl4:=S4 _ _ hl
     refine ⟨_,rfl,rfl,_,rfl,iteF ?_⟩
     refine ⟨_,rfl,a0,_,_,_,rfl,rfl,SqT.of (S34 _ _ e),rfl,rfl,_,rfl,?_⟩
     have ek:decide (V.str k=V.str "|")=decide (k=bar):=by
      rw [decide_eq_decide]
      exact ⟨fun z=>by injection z,fun z=>by rw [z];rfl⟩
     rw [ek]
     have fin:∀ {l5:Addr} {h5:List (Option Nat)} {H5:Hp},Same H H5->H5 l5=some (.lst (tb h5))->TabOf (op ((Ps.take j).foldl op P0) Pp) most h5->(j+1+1=0/\V.ref l5=.non)\/∃ (j':Nat) (l:Addr) (f:List (Option Nat)),j+1+1=j'+1/\V.ref l5=.ref l/\H5 l=some (.lst (tb f))/\TabOf ((Ps.take j').foldl op P0) most f:=fun S h t=>.inr ⟨j+1,_,_,rfl,rfl,h,by rw [nxt];exact t⟩
     rcases eP with ⟨rfl,_⟩ | ⟨rfl,_⟩
     ·rw [decide_eq_true rfl]
      rw [if_pos rfl] at eop
      subst eop
      refine iteT ⟨_,rfl,_,rfl,l,lt,f,g',most,rfl,hl4,hlt,ht.1,hg.1,hm,fun l5 h5 H5 S5 hl5 lh5 h05 hB5=>?_⟩
      exact ⟨_,_,_,rfl,S34.trans S5,fin (S34.trans S5) hl5 (zbI upF upP ht hg lh5 h05 hB5)⟩
     ·rw [decide_eq_false wp]
      rw [if_neg wp] at eop
      subst eop
      refine iteF ⟨_,rfl,_,rfl,l,lt,rfl,⟨_,SqL.of hl4⟩,⟨_,SqL.of hlt⟩,qZ (K:=K) (a:=l) (b:=lt) (xs:=tb f) (ys:=tb g') (fun j zs σ H6=>zs=tb (((f.zip g').take j).map fun p=>_Sta.addO p.1 p.2)/\Same H4 H6/\∃ o o2,σ=[o,o2]) ⟨rfl,Same.refl _,none,none,rfl⟩
       (fun j zs σ H6 hj h9=>by obtain ⟨e,S,_⟩:=h9;exact (⟨by rw [e,xP,ka,kL,uO,ht.1,hg.1];exact km (show _<=1000001 by omega) (by decide),SqL.of (S _ _ hl4),SqL.of (S _ _ hlt)⟩)) ?_ ?_⟩
      case refine_2 =>
       rintro j1 x1 y1 zs σ H6 tp hx hy ⟨rfl,S6,o,o2,rfl⟩ ntp
       have hx':=hx
       have hy':=hy
       unfold tb at hx' hy'
       rw [kR] at hx' hy'
       obtain ⟨u1,eu1,rfl⟩:=vk.mp hx'
       obtain ⟨u2,eu2,rfl⟩:=vk.mp hy'
       have ez:(f.zip g')[j1]?=some (u1,u2):=(ud (z:=(u1,u2))).mpr ⟨eu1,eu2⟩
       obtain ⟨hjl,evj⟩:=kf.mp ez
       have St:=zf (o:=.tup [oV u1,oV u2]) ntp
       refine ⟨tp,_,rfl,SqT.of zc,rfl,_,_,rfl,_,_,rfl,rfl,?_⟩
       have nx:∀ o:Option Nat,o=_Sta.addO u1 u2->tb (((f.zip g').take j1).map fun p=>_Sta.addO p.1 p.2)++[oV o]=tb (((f.zip g').take (j1+1)).map fun p=>_Sta.addO p.1 p.2):=fun o eo=>by
        rw [ZJ,<- ky hjl,evj,kz,eo]
        rfl
       dsimp only [zW,tYes]
       refine iteT ?_
       cases u1 with
       | none=>exact ⟨_,rfl,rfl,_,rfl,iteT (iteT ⟨nx none rfl,S6.trans St,_,_,rfl⟩)⟩
       | some z1 =>
        cases u2 with
        | none=>exact ⟨_,rfl,rfl,_,rfl,iteF ⟨_,rfl,rfl,_,rfl,iteT ⟨nx none rfl,S6.trans St,_,_,rfl⟩⟩⟩
        | some z2=>exact ⟨_,rfl,rfl,_,rfl,iteF ⟨_,rfl,rfl,_,rfl,iteF ⟨_,rfl,_,rfl,_,_,rfl,rfl,nx (some (z1+z2)) rfl,S6.trans St,_,_,rfl⟩⟩⟩
      rintro zs σ H6 ⟨rfl,S6,_⟩ p3 np3
      rw [show min (tb f).length (tb g').length=(f.zip g').length by rw [xP,xP,uO],kM]
      have S7:=zf (o:=.lst (tb ((f.zip g').map fun p=>_Sta.addO p.1 p.2))) np3
      exact ⟨_,_,_,rfl,(S34.trans S6).trans S7,fin ((S34.trans S6).trans S7) zc (zbH ht hg)⟩
   ·intro σ H3 h8
    refine E_3 h8 fun v6 o7 o8 n8=>A_3 n8 fun e9 S3 alt=>?_;clear n8 h8;subst e9
    rcases alt with ⟨z,_⟩ | ⟨j,l,f,ej,rfl,hl,ht⟩
    ·omega
    ·have:j=Ps.length:=by omega
     rw [this,kM,<- eP1] at ht
     exact ⟨_,rfl,q l f H3 S3 hl ht⟩
theorem Jv {f fL fB:Addr} {fd dL dB:FuncData} (F:Fun K "_law_table" "_law_table" (top 76) f fd) (Zt:Nt K mg kA) (tmax:mg "max" = none) (tzip:mg "zip" = none) (Ll:Callee P w K mg base CX0 1 "_law_lines" fL dL ["words","wide"] wU) (Be:Callee P w K mg base CX0 1 "_law_beside" fB dB ["one","other"] YG) (bo:mg "_law_table" = some (.ref f)) (kp:kD K (.ref f)=true) (bd:Binds K fd ["tree","texts","most"] []):∀ d,FnOk P w K mg base CX0 (d+2) f fd ["tree","texts","most"] (jk d)
 | 0=>zb2 F
 | d+1=>zb3 F Zt tmax tzip Ll Be ⟨Jv F Zt tmax tzip Ll Be bo kp bd d,bo,kp,bd⟩
end
end _JJ
namespace _Prt
open _Sta _Lin
open Classical in
theorem sub_len {α:Type}:∀ (l m:List α),l.Nodup->(∀ k∈l,k∈m)->l.length<=m.length
 | [],_,_,_=>kP _
 | k::l,m,nd,sub=>by
  obtain ⟨n1,n2⟩:=vT.mp nd
  have hk:=sub k kh
  have:=sub_len l (m.erase k) n2 fun k' hk'=>(List.mem_erase_of_ne (fun e:k'=k=>n1 (e ▸ hk'))).mpr (sub k' (kj _ hk'))
  have l1:=List.length_erase_of_mem hk
  have:=List.length_pos_of_mem hk
  rw [kH]
  omega
open Classical in
theorem XQ {α:Type}:∀ (l m:List α),l.Nodup->(∀ k∈l,k∈m)->m.length=l.length->m.Perm l
 | [],m,_,_,h=>by rw [vY.mp h]
 | k::l,m,nd,sub,h=>by
  obtain ⟨n1,n2⟩:=vT.mp nd
  have hk:=sub k kh
  refine (List.perm_cons_erase hk).trans (List.Perm.cons k (XQ l _ n2 (fun k' hk'=>?_) ?_))
  ·exact (List.mem_erase_of_ne (fun e:k'=k=>n1 (e ▸ hk'))).mpr (sub k' (kj _ hk'))
  ·rw [List.length_erase_of_mem hk,h]
   rfl
theorem zaC {res:List (Int×Pc)} {pcs:List Pc} (ln:res.length=pcs.length) (h:∀ (i:Nat) (p:Pc),pcs[i]?=some p->((i:Int),p)∈res):(res.map (·.2)).Perm pcs:=by
 have e2:((kQ pcs.length).map fun i:Nat=>((i:Int),pcs.getD i ⟨0,0,0,0⟩)).map (·.2)=pcs:=by
  rw [vU]
  apply vZ
  ·rw [ka,vi]
  ·intro i h1 h2
   rw [vN,vX]
   show pcs.getD i _=_
   rw [ko,kb h2]
   rfl
 have pm:res.Perm ((kQ pcs.length).map fun i:Nat=>((i:Int),pcs.getD i ⟨0,0,0,0⟩)):=by
  refine XQ _ _ ?_ (fun k hk=>?_) (by rw [ka,vi,ln])
  ·exact List.Pairwise.map _ (fun a b (e:a≠b) z=>e (by injection z with z _;omega)) List.nodup_range
  ·obtain ⟨i,hi,rfl⟩:=kX.mp hk
   have hi:=vz.mp hi
   refine h i _ ?_
   rw [ko,kb hi]
   rfl
 have:=pm.map (·.2)
 rwa [e2] at this
theorem qT {f:Pc->Bool}:∀ {pcs:List Pc} {i k:Nat} {p q:Pc},k<i->pcs[k]?=some p->pcs[i]?=some q->f p=true->f q=true->2<=pcs.countP f
 | [],_,_,_,_,_,e,_,_,_=>by simp at e
 | a::r,0,_,_,_,hk,_,_,_,_=>absurd hk (uM _)
 | a::r,i+1,0,p,q,_,e1,e2,f1,f2=>by
  rw [List.getElem?_cons_zero] at e1
  cases e1
  rw [uS] at e2
  rw [v8,if_pos f1]
  have:0<r.countP f:=List.countP_pos_iff.mpr ⟨q,kE e2,f2⟩
  omega
 | a::r,i+1,k+1,p,q,hk,e1,e2,f1,f2=>by
  rw [uS] at e1 e2
  have:=qT (pcs:=r) (Nat.lt_of_succ_lt_succ hk) e1 e2 f1 f2
  rw [v8]
  omega
structure Pgs (wide high:Nat) (pcs:List Pc):Prop where
 ins:∀ p∈pcs,wthn ⟨0,0,wide,high⟩ p
 cov:∀ x y,pcs.countP (inP · x y)=if x<wide/\y<high then 1 else 0
theorem Pgs.one {wide high:Nat} {pcs:List Pc} (h:Pgs wide high pcs) {i k:Nat} {p q:Pc} {x y:Nat} (e1:pcs[k]?=some p) (e2:pcs[i]?=some q) (f1:inP p x y=true) (f2:inP q x y=true):k=i:=by
 have c:=h.cov x y
 have le:pcs.countP (inP · x y)<=1:=by rw [c];split<;>omega
 rcases Nat.lt_trichotomy k i with z | z | z
 ·have:=qT (f:=(inP · x y)) z e1 e2 f1 f2
  omega
 ·exact z
 ·have:=qT (f:=(inP · x y)) z e2 e1 f2 f1
  omega
theorem Pgs.has {wide high:Nat} {pcs:List Pc} (h:Pgs wide high pcs) {x y:Nat}:(x<wide/\y<high)↔∃ (k:Nat) (p:Pc),pcs[k]?=some p/\inP p x y=true:=by
 have c:=h.cov x y
 constructor
 ·intro z
  rw [if_pos z] at c
  obtain ⟨p,hp,f⟩:=List.countP_pos_iff.mp (show 0<pcs.countP (inP · x y) by omega)
  obtain ⟨k,hk,e⟩:=vO.mp hp
  exact ⟨k,p,by rw [kb hk,e],f⟩
 ·intro ⟨k,p,e,f⟩
  have i:=yO (h.ins p (kE e))
  have f:=of_decide_eq_true f
  omega
theorem zc8 {res:List (Int×Pc)} {pcs:List Pc} {wide high:Nat} {Ls:List R} {t:_Tre.T} (hL:∀ L∈Ls,Up L) (hS:zT Ls t ⟨0,0,wide,high⟩ res) (w1:0<wide) (h1:0<high) (ln:res.length=pcs.length) (h:∀ (i:Nat) (p:Pc),pcs[i]?=some p->((i:Int),p)∈res):Pgs wide high pcs:=by
 obtain ⟨c,d⟩:=zT.cov hL hS w1 h1
 refine ⟨fun p hp=>?_,fun x y=>?_⟩
 ·obtain ⟨k,hk,e⟩:=vO.mp hp
  exact d _ (h k p (by rw [kb hk,e]))
 ·rw [<- (zaC ln h).countP_eq,c]
  by_cases z:x<wide/\y<high
  ·rw [if_pos z,if_pos ⟨kP _,z.1,kP _,z.2⟩]
  ·rw [if_neg z,if_neg fun q=>z ⟨q.2.1,q.2.2.2⟩]
noncomputable def qu (wide:Nat):Nat->List (Nat×Nat)
 | 0=>[]
 | h+1=>qu wide h++(kQ wide).map fun x=>(x,h)
theorem qU (wide:Nat):∀ h,(qu wide h).length=wide*h
 | 0=>rfl
 | h+1=>by
  show (qu wide h++(kQ wide).map fun x=>(x,h)).length=_
  rw [kg,qU,ka,vi,Nat.mul_succ]
theorem xR (wide:Nat):∀ (h x y:Nat),(x,y)∈qu wide h↔x<wide/\y<h
 | 0,x,y=>⟨fun z=>absurd z kN,fun z=>absurd z.2 (uM _)⟩
 | h+1,x,y=>by
  show (x,y)∈qu wide h++(kQ wide).map (fun x=>(x,h))↔_
  rw [ve,xR,kX]
  constructor
  ·rintro (z | ⟨u,hu,e⟩)
   ·omega
   ·injection e with e1 e2
    have:=vz.mp hu
    omega
  ·intro z
   by_cases c:y<h
   ·exact .inl ⟨z.1,c⟩
   ·exact .inr ⟨x,vz.mpr z.1,by rw [show h=y by omega]⟩
theorem XR (wide:Nat):∀ h,(qu wide h).Nodup
 | 0=>uZ
 | h+1=>by
  refine List.nodup_append.mpr ⟨XR wide h,List.Pairwise.map _ (fun a b (e:a≠b) z=>e (by injection z)) List.nodup_range,fun a ha b hb e=>?_⟩
  obtain ⟨x,y⟩:=a
  have:=(xR wide h x y).mp ha
  obtain ⟨u,_,e2⟩:=kX.mp hb
  rw [<- e2] at e
  injection e with _ e
  omega
theorem zaD {ds:List (Nat×Nat)} {wide high:Nat} (nd:ds.Nodup) (h:∀ x y,(x,y)∈ds↔x<wide/\y<high):ds.length=wide*high:=by
 rw [<- qU]
 refine bi (sub_len _ _ nd fun k hk=>?_) (sub_len _ _ (XR wide high) fun k hk=>?_)
 ·obtain ⟨x,y⟩:=k
  exact (xR wide high x y).mpr ((h x y).mp hk)
 ·obtain ⟨x,y⟩:=k
  exact (h x y).mpr ((xR wide high x y).mp hk)
noncomputable def cl (rows:List W) (y x:Nat):Nat:=(rows.getD y []).getD x 32
noncomputable def chr (ls:List W) (j i:Nat):Nat:=(ls.getD j []).getD i 32
theorem getD_at' {α:Type} {l:List α} {i:Nat} {d:α} (h:i<l.length):l.getD i d=l[i]:=by
 rw [ko,kb h]
 rfl
theorem zb4 {wide high y0 x0:Nat} {rows:List W} {a:W} (hF:Full wide high rows) (hy:y0<high) (hx:x0+a.length<=wide) (y x:Nat):cl (lay1 rows y0 x0 a) y x=if y=y0/\x0<=x/\x<x0+a.length then a.getD (x-x0) 32 else cl rows y x:=by
 have hl:y0<rows.length:=by rw [hF.1];exact hy
 have lr:(rows.getD y0 []).length=wide:=by
  rw [getD_at' hl]
  exact hF.2 _ (vB hl)
 unfold cl lay1
 rw [ko (l:=rows.set _ _),List.getElem?_set]
 by_cases c:y0=y
 ·subst c
  rw [if_pos rfl,if_pos hl]
  show (over x0 a (rows.getD y0 [])).getD x 32=_
  rw [ko,zbQ (by omega)]
  by_cases d:x0<=x/\x<x0+a.length
  ·rw [if_pos d,if_pos ⟨rfl,d⟩,ko]
  ·rw [if_neg d,if_neg fun z=>d z.2,ko (l:=rows.getD y0 [])]
 ·rw [if_neg c,if_neg fun z=>c z.1.symm,<- ko]
theorem Jw {wide high x0:Nat}:∀ {ls rows:List W} {y0:Nat},Full wide high rows->y0+ls.length<=high->(∀ l∈ls,x0+l.length<=wide)->∀ (y x:Nat),cl (lay rows y0 x0 ls) y x=if y0<=y/\y<y0+ls.length/\x0<=x/\x<x0+(ls.getD (y-y0) []).length then chr ls (y-y0) (x-x0) else cl rows y x
 | [],rows,y0,_,_,_,y,x=>by
  rw [if_neg (by rw [List.length_nil];omega)]
  rfl
 | a::r,rows,y0,hF,hy,hx,y,x=>by
  rw [kH] at hy ⊢
  have hF1:=Yo hF (show y0<high by omega) (hx a kh)
  show cl (lay (lay1 rows y0 x0 a) (y0+1) x0 r) y x=_
  rw [Jw hF1 (by omega) (fun l hl=>hx l (kj _ hl)),zb4 hF (by omega) (hx a kh)]
  by_cases c:y=y0
  ·subst c
   rw [if_neg (by omega),Nat.sub_self]
   show (if y=y/\x0<=x/\x<x0+a.length then a.getD (x-x0) 32 else cl rows y x)=if y<=y/\y<y+(r.length+1)/\x0<=x/\x<x0+a.length then a.getD (x-x0) 32 else cl rows y x
   by_cases d:x0<=x/\x<x0+a.length
   ·rw [if_pos ⟨rfl,d⟩,if_pos ⟨kc _,by omega,d⟩]
   ·rw [if_neg fun z=>d z.2,if_neg fun z=>d z.2.2]
  ·by_cases d:y0<y
   ·obtain ⟨m,rfl⟩ : ∃ m,y=y0+1+m:=⟨y-y0-1,by omega⟩
    have e1:y0+1+m-(y0+1)=m:=by omega
    have e2:y0+1+m-y0=m+1:=by omega
    rw [e1,e2]
    show (if y0+1<=y0+1+m/\y0+1+m<y0+1+r.length/\x0<=x/\x<x0+(r.getD m []).length then chr r m (x-x0) else _)=if y0<=y0+1+m/\y0+1+m<y0+(r.length+1)/\x0<=x/\x<x0+(r.getD m []).length then chr r m (x-x0) else _
    rw [if_neg (show ¬ (y0+1+m=y0/\x0<=x/\x<x0+a.length) from fun z=>c z.1)]
    by_cases g:m<r.length/\x0<=x/\x<x0+(r.getD m []).length
    ·rw [if_pos ⟨by omega,by omega,g.2⟩,if_pos ⟨by omega,by omega,g.2⟩]
    ·rw [if_neg fun z=>g ⟨by omega,z.2.2⟩,if_neg fun z=>g ⟨by omega,z.2.2⟩]
   ·rw [if_neg (by omega),if_neg fun z=>c z.1,if_neg (by omega)]
theorem zaE (wide high y x:Nat):cl (blank wide high) y x=32:=by
 unfold cl blank
 by_cases c:y<high
 ·rw [getD_at' (l:=kF high _) (by rw [va];exact c),u5]
  by_cases d:x<wide
  ·rw [getD_at' (by rw [va];exact d),u5]
  ·rw [ko,vF (by rw [va];omega)]
   rfl
 ·rw [ko (l:=kF high _),vF (by rw [va];omega)]
  rfl
theorem Jx {wide high:Nat} {pcs:List Pc} {wss:List (List W)} (hp:Pgs wide high pcs) (hF:∀ (k:Nat) (p:Pc) (ws:List W),pcs[k]?=some p->wss[k]?=some ws->Fit wide high p ws) {k:Nat} {p:Pc} {ws:List W} (e1:pcs[k]?=some p) (e2:wss[k]?=some ws) {x y:Nat} (hi:inP p x y=true):∀ K,cl (pgs wide high pcs wss K) y x=if k<K then chr (lns p ws) (y-p.t) (x-p.l) else 32
 | 0=>by rw [if_neg (uM _)];exact zaE wide high y x
 | K+1=>by
  have ih:=Jx hp hF e1 e2 hi K
  cases e3:pcs[K]? with
  | none =>
   have:¬ k=K:=fun z=>by rw [z,e3] at e1;cases e1
   unfold pgs
   rw [e3]
   show cl (pgs wide high pcs wss K) y x=_
   rw [ih]
   by_cases c:k<K
   ·rw [if_pos c,if_pos (by omega)]
   ·rw [if_neg c,if_neg (by omega)]
  | some q =>
   cases e4:wss[K]? with
   | none =>
    have:¬ k=K:=fun z=>by rw [z,e4] at e2;cases e2
    unfold pgs
    rw [e3,e4]
    show cl (pgs wide high pcs wss K) y x=_
    rw [ih]
    by_cases c:k<K
    ·rw [if_pos c,if_pos (by omega)]
    ·rw [if_neg c,if_neg (by omega)]
   | some vs =>
    have f:=hF K q vs e3 e4
    have i:=yO f.ins
    have cn:=f.cnt
    have hin:=of_decide_eq_true hi
    rw [jU e3 e4,Jw (wu hF K) (by omega) (fun l hl=>by have:=f.line l hl;omega),ih]
    by_cases c:k=K
    ·subst c
     rw [e1] at e3
     cases e3
     rw [e2] at e4
     cases e4
     rw [if_neg (vL _),if_pos (um _)]
     by_cases d:p.t<=y/\y<p.t+(lns p ws).length/\p.l<=x/\x<p.l+((lns p ws).getD (y-p.t) []).length
     ·rw [if_pos d]
     ·rw [if_neg d]
      unfold chr
      by_cases g:y-p.t<(lns p ws).length
      ·rw [ko (l:=(lns p ws).getD _ _),vF (by omega)]
       rfl
      ·rw [ko (l:=lns p ws),vF (by omega)]
       rfl
    ·have no:¬ (q.t<=y/\y<q.t+(lns q vs).length/\q.l<=x/\x<q.l+((lns q vs).getD (y-q.t) []).length):=fun z=>by
      refine c (hp.one e1 e3 hi (decide_eq_true ?_))
      have ll:=f.line _ (kE (l:=lns q vs) (i:=y-q.t) (by rw [kb (show y-q.t<(lns q vs).length by omega),<- getD_at' (d:=[]) (show y-q.t<(lns q vs).length by omega)]))
      omega
     rw [if_neg no]
     by_cases d:k<K
     ·rw [if_pos d,if_pos (by omega)]
     ·rw [if_neg d,if_neg (by omega)]
theorem jv:∀ k:Nat,str1 [] (kF k 32)=[]
 | 0=>by rw [List.replicate_zero,wC [] [] kN];rfl
 | k+1=>by
  rw [vH]
  have:=wv [] [] (kF k 32)
  rw [List.nil_append] at this
  rw [this,jv k,wC [] [] kN]
  rfl
theorem Jy {g:List W} (hg:∀ u∈g,u≠[]/\32∉u) (k:Nat):str1 [] (glue g++kF k 32)=g:=by
 have e:str1 [] (glue g)=g:=by
  rw [Zj g fun p hp=>(hg p hp).2]
  exact List.filter_eq_self.mpr fun p hp=>decide_eq_true (hg p hp).1
 cases k with
 | zero=>rw [List.replicate_zero,vq,e]
 | succ k=>rw [vH,wv,e,jv,vq]
theorem pad {l:W} {m:Nat} (h:l.length<=m):(kQ m).map (fun i=>l.getD i 32)=l++kF (m-l.length) 32:=by
 apply vZ
 ·rw [ka,vi,kg,va]
  omega
 ·intro i h1 h2
  rw [vN,vX]
  by_cases c:i<l.length
  ·rw [getD_at' c,List.getElem_append_left c]
  ·rw [ko,vF (by omega),List.getElem_append_right (by omega),u5]
   rfl
theorem zaF {G:List (List W)} {M:Nat} (h:G.length<=M):((kQ M).map fun j=>G.getD j []).flatten=G.flatten:=by
 obtain ⟨k,rfl⟩ : ∃ k,M=G.length+k:=⟨M-G.length,by omega⟩
 rw [List.range_add,kz,vM,vU]
 have e1:(kQ G.length).map (fun j=>G.getD j [])=G:=by
  apply vZ
  ·rw [ka,vi]
  ·intro i h1 h2
   rw [vN,vX,getD_at' h2]
 have e2:((kQ k).map ((fun j=>G.getD j [])∘fun x=>G.length+x)).flatten=[]:=by
  rw [List.flatten_eq_nil_iff]
  intro l hl
  obtain ⟨j,_,rfl⟩:=kX.mp hl
  show G.getD (G.length+j) []=[]
  rw [ko,vF (by omega)]
  rfl
 rw [e1,e2,vq]
theorem Qc {wide high:Nat} {pcs:List Pc} {wss:List (List W)} (hp:Pgs wide high pcs) (hF:∀ (k:Nat) (p:Pc) (ws:List W),pcs[k]?=some p->wss[k]?=some ws->Fit wide high p ws) {k K:Nat} {p:Pc} {ws:List W} (e1:pcs[k]?=some p) (e2:wss[k]?=some ws) (hk:k<K) (hw:∀ u∈ws,u≠[]/\32∉u) :
  ((((pgs wide high pcs wss K).drop p.t).take (p.b-p.t)).map fun r=>str1 [] ((r.drop p.l).take (p.r-p.l))).flatten=ws:=by
 have f:=hF k p ws e1 e2
 have i:=yO f.ins
 have fl:=wu hF K
 have rowsE:(((pgs wide high pcs wss K).drop p.t).take (p.b-p.t)).map (fun r=>str1 [] ((r.drop p.l).take (p.r-p.l)))=(kQ (p.b-p.t)).map fun j=>(grp ((p.r:Int)-(p.l:Int)) ws).getD j []:=by
  apply vZ
  ·rw [ka,ka,vi,kL,vh,fl.1]
   omega
  ·intro j h1 h2
   rw [ka,vi] at h2
   rw [vN,vN,vX]
   have hy:p.t+j<(pgs wide high pcs wss K).length:=by rw [fl.1];omega
   have er:(((pgs wide high pcs wss K).drop p.t).take (p.b-p.t))[j]'(by rw [ka] at h1;exact h1)=(pgs wide high pcs wss K)[p.t+j]:=by
    rw [List.getElem_take,List.getElem_drop]
   rw [er]
   have lr:=fl.2 _ (vB hy)
   have cut:(((pgs wide high pcs wss K)[p.t+j]).drop p.l).take (p.r-p.l)=(kQ (p.r-p.l)).map fun u=>((lns p ws).getD j []).getD u 32:=by
    apply vZ
    ·rw [kL,vh,lr,ka,vi]
     omega
    ·intro u g1 g2
     rw [ka,vi] at g2
     rw [vN,vX,List.getElem_take,List.getElem_drop]
     have hc:=Jx hp hF e1 e2 (x:=p.l+u) (y:=p.t+j) (decide_eq_true (by omega)) K
     rw [if_pos hk,show p.t+j-p.t=j by omega,show p.l+u-p.l=u by omega] at hc
     unfold cl chr at hc
     rw [getD_at' hy,getD_at' (show p.l+u<((pgs wide high pcs wss K)[p.t+j]).length by rw [lr];omega)] at hc
     exact hc
   have eg:(lns p ws).getD j []=glue ((grp ((p.r:Int)-(p.l:Int)) ws).getD j []):=by
    unfold lns
    rw [<- jG,ko,kR,ko]
    cases (grp ((p.r:Int)-(p.l:Int)) ws)[j]? with
    | none=>rfl
    | some g=>rfl
   have le:((lns p ws).getD j []).length<=p.r-p.l:=by
    by_cases c:j<(lns p ws).length
    ·rw [getD_at' c]
     exact f.line _ (vB c)
    ·rw [ko,vF (by omega)]
     exact kP _
   rw [cut,pad le,eg]
   refine Jy (fun u hu=>hw u ?_) _
   by_cases c:j<(grp ((p.r:Int)-(p.l:Int)) ws).length
   ·rw [getD_at' c] at hu
    rw [<- jH ((p.r:Int)-(p.l:Int)) ws]
    exact List.mem_flatten.mpr ⟨_,vB c,hu⟩
   ·rw [ko,vF (by omega)] at hu
    exact absurd hu kN
 rw [rowsE,zaF (by rw [x4];exact f.cnt),jH]
end _Prt
namespace _L2
open PySem PySem.Spec PyProof.Rows
section
variable {prog:Program} {w:World} {A:Around} {E:Value->Shared->Prop} {s:Shared}
theorem X1 (d:Addr) (hd:(d == sysModules)=false) (n:Nat):MeetsIn prog w (Builtin.«dict.__len__» ⟨[.ref d],[]⟩) (fun _ R s=>(∃ o es ep,s.heap.get? d=some o/\o.data=.dict es ep/\es.size=n)/\R (.ok (.ret (.int n s.toks))) {s with toks:=s.toks+1}) :=
 .of_wp fun A R s ⟨⟨o,es,ep,ho,hdat,en⟩,h⟩=>by
  show wpAny _ _ (dictSize d >>= _) _ _ s
  unfold dictSize
  refine wpAny_bind (wpAny_bind (wpAny_dictEntries ho hdat (wpAny_pure ?_)))
  show wpAny _ _ (Builtin.Dict.pendingCount d >>= _) _ _ s
  refine wpAny_bind (wpAny_pendingCount_other hd (wpAny_ret_mkInt ?_))
  rw [Nat.add_zero,en]
  exact h
theorem Yu {d:Addr} {o:Obj} {es:Array DictEntry} {ep:Nat} {Q:Value->Shared->Prop} (hd:(d == sysModules)=false) (ho:s.heap.get? d=some o) (hx:o.ExactDict) (hdat:o.data=.dict es ep) (hfit:(es.size:Int)<2^63)
  (h:Q (.int es.size (s.toks+1)) {s with toks:=s.toks+1+1}):wpAny (model prog w) A (call (.builtin "len") [.ref d]) Q E s:=by
 have ty:s.TypeIs (.ref d) "dict" := ⟨o,ho,hx.1⟩
 refine PySem.Calls.call_function_entry PySem.kind_len PySem.plain_len PySem.entry_len (PySem.args_len1 _) ?_
 unfold Builtin.«len»
 refine wpAny_bind (m:=oneArg "len" _) (wpAny_pure ?_)
 refine wpAny_bind (m:=callSpecial? (.ref d) (Str.ofString "__len__")) (wpAny_callSpecial?_slot (name:=Str.ofString "__len__") ty PySem.F.slot_dict_len (call_meetsIn PySem.F.slot_dict_len ty PySem.F.entry_dict_len (PySem.F.args_dict_len_1 _) (X1 d hd es.size) ⟨⟨o,es,ep,ho,hdat,rfl⟩,?_⟩))
 show wpAny _ _ _ _ _ {s with toks:=s.toks+1}
 refine wpAny_bind (wpAny_holding (wpAny_pure (wpAny_bind (wpAny_letGo ?_))))
 show wpAny _ _ (if ((es.size:Nat):Int)<0 then _ else _) _ _ _
 rw [if_neg (by omega)]
 show wpAny _ _ (if ((es.size:Nat):Int)≥2^63 then _ else _) _ _ _
 rw [if_neg (by omega)]
 exact wpAny_bind (wpAny_mkInt (wpAny_pure ⟨_,rfl,h⟩))
end
section
variable {X:Cx}
theorem Qd:yX X (.builtin "len") (fun xs H Q=>∃ a kvs,xs=[V.ref a]/\H a=some (.dT kvs)/\Q (.int (kvs.length:Nat)) H):=by
 intro pins s σ H xs us Q I r h
 refine E_2 h fun a kvs n8=>A_3 n8 fun e9 ha q=>?_;clear n8 h;subst e9
 obtain ⟨u,rfl,ru⟩:=vals1 r
 cases ru
 obtain ⟨z,hd,ts,rel,o,es,ep,ho,hx,hdat,he,_⟩:=zaQ I.hok ha
 have e:es.size=kvs.length:=by
  have:=congrArg List.length he
  rw [ka] at this
  have l:=Paired.length rel
  rw [Array.length_toList] at this
  omega
 have ez:(es.size:Int)<2^63:=by
  rw [sizeLine_eq] at z
  omega
 refine Yu hd ho hx hdat ez ?_
 rw [e]
 exact ⟨.int (kvs.length:Nat),H,I.tok _,⟨_,rfl⟩,q⟩
end
end _L2
namespace _L2
open PySem PySem.Spec PyProof.Rows PySem.W
section
variable {X:Cx}
noncomputable def WB (r r' r2:R2) (ta tb tc td:TE):TE:=fun σ H Q=>ta σ H fun x H1=>tb σ H1 fun y H2=>r x y H2 fun z H3=>∃ k,z=.bl k /\
 (if k=true then tc σ H3 fun w' H4=>r' y w' H4 fun z' H5=>∃ k',z'=.bl k'/\(if k'=true then td σ H5 fun v' H6=>r2 w' v' H6 Q else Q (.bl false) H5) else Q (.bl false) H3)
theorem Yr {a b c d:Expr} {ta tb tc td:TE} {pos:Pos} {op op' op2:CmpOp} {r r' r2:R2} (ho:OpR X (compareOp op) r) (ho':OpR X (compareOp op') r') (ho2:OpR X (compareOp op2) r2) (ha:PE X a ta) (hb:PE X b tb) (hc:PE X c tc) (hd:PE X d td)
  (hm:lastMarks [op,op',op2] [b,c,d]=false:=by with_unfolding_all rfl):PT X (.Compare a [op,op',op2] [b,c,d] pos) (ww (WB r r' r2 ta tb tc td)):=by
 intro pins s σ H Q I h
 refine isTrue_chain (thn (ha pins s σ H _ I h) fun v s1 ⟨x,H1,I1,r1,q1⟩=>test_link (thn (hb pins s1 σ H1 _ I1 q1) fun u s2 ⟨y,H2,I2,r2',q2⟩=>thn (ho pins s2 σ H2 x y v u _ I2 r1 r2' q2) fun e s3 ⟨z,H3,I3,r3,k,ek,q3⟩=>?_)) hm
 subst ek
 cases r3
 refine wpAny_truthy_bool ?_
 cases k with
 | false =>
  obtain ⟨k',e',q'⟩:=q3
  cases e'
  exact ite_ff ⟨H3,I3,q'⟩
 | true =>
  refine ite_tt (test_link (thn (hc pins s3 σ H3 _ I3 q3) fun w' s4 ⟨z',H4,I4,r4,q4⟩=>thn (ho' pins s4 σ H4 y z' u w' _ I4 r2' r4 q4) fun e2 s5 h9=>?_))
  obtain ⟨y2,H5,I5,r5,k2,ek2,q5⟩:=h9
  subst ek2
  cases r5
  refine wpAny_truthy_bool ?_
  cases k2 with
  | false =>
   obtain ⟨k',e',q'⟩:=q5
   cases e'
   exact ite_ff ⟨H5,I5,q'⟩
  | true =>
   refine ite_tt (test_last (thn (hd pins s5 σ H5 _ I5 q5) fun w3 s6 ⟨z3,H6,I6,r6,q6⟩=>thn (ho2 pins s6 σ H6 z' z3 w' w3 _ I6 r4 r6 q6) fun e3 s7 h9=>?_))
   obtain ⟨z4,H7,I7,r7,k3,ek3,q7⟩:=h9
   subst ek3
   cases r7
   exact wpAny_truthy_bool ⟨H7,I7,q7⟩
theorem Zm {σ:St} {H:Hp} {ta tb tc td:TE} {i j k l:Int} {f g h:Int->Int->Bool} (a:Evl ta σ H (.int i)) (b:Evl tb σ H (.int j)) (c:Evl tc σ H (.int k)) (d:Evl td σ H (.int l)) :
  Evl (WB (rI0 fun i j=>.bl (f i j)) (rI0 fun i j=>.bl (g i j)) (rI0 fun i j=>.bl (h i j)) ta tb tc td) σ H (.bl (f i j && (g j k && h k l))):=fun Q q=>a _ (b _ ⟨i,j,rfl,rfl,_,rfl,by
 cases e:f i j with
 | false =>
  rw [e] at q
  exact q
 | true =>
  rw [e] at q
  refine c _ ⟨j,k,rfl,rfl,_,rfl,?_⟩
  cases e2:g j k with
  | false =>
   rw [e2] at q
   exact q
  | true =>
   rw [e2] at q
   exact d _ ⟨k,l,rfl,rfl,q⟩⟩)
end
end _L2
namespace _JJ
open PySem _L2 _Lin _Tre PySem.W
open _Sta (R HasR Low Pc zT inP wthn)
open _Prt (Pgs Fit lns)
noncomputable def pk (q:Nat×Nat):List Key:=[Sum.inl (q.1:Int),Sum.inl (q.2:Int)]
theorem zc9 {a b:Nat×Nat} (h:pk a=pk b):a=b:=by
 unfold pk at h
 injection h with h1 h2
 injection h1 with h1
 injection h2 with h2 _
 injection h2 with h2
 exact Prod.ext (by omega) (by omega)
structure Pl (H0 H:Hp) (d:Addr) (ds:List (Nat×Nat)) (S:Nat->Nat->Prop):Prop where
 same:Same H0 H
 out:∃ kvs:List (List Key×V),H d=some (.dT kvs)/\kvs.map (·.1)=ds.map pk
 nd:ds.Nodup
 mem:∀ x y,(x,y)∈ds↔S x y
theorem Pl.ex {H0 H H':Hp} {d:Addr} {ds:List (Nat×Nat)} {S:Nat->Nat->Prop} (s:Same H H') (h:Pl H0 H d ds S):Pl H0 H' d ds S:=⟨h.same.trans s,let ⟨kvs,a,b⟩:=h.out;⟨kvs,s _ _ a,b⟩,h.nd,h.mem⟩
theorem Pl.iff {H0 H:Hp} {d:Addr} {ds:List (Nat×Nat)} {S S':Nat->Nat->Prop} (h:Pl H0 H d ds S) (e:∀ x y,S x y↔S' x y):Pl H0 H d ds S':=⟨h.same,h.out,h.nd,fun x y=>(h.mem x y).trans (e x y)⟩
theorem Jz {kvs:List (List Key×V)} {ds:List (Nat×Nat)} {q:Nat×Nat} (e:kvs.map (·.1)=ds.map pk) (h:q∉ds):valV kvs (pk q)=none:=by
 cases z:valV kvs (pk q) with
 | none=>rfl
 | some v =>
  have:=zbj z
  rw [e] at this
  obtain ⟨b,hb,eb⟩:=kX.mp this
  rw [zc9 eb] at hb
  exact absurd hb h
noncomputable def S0 (pcs:List Pc) (i:Nat) (x y:Nat):Prop:=∃ (k:Nat) (p:Pc),k<i/\pcs[k]?=some p/\inP p x y=true
noncomputable def S1 (pcs:List Pc) (i:Nat) (p:Pc) (j c:Nat) (x y:Nat):Prop:=S0 pcs i x y\/(inP p x y=true/\(y<p.t+j\/(y=p.t+j/\x<p.l+c)))
noncomputable def ZR:Sp:=fun vs H Q _=>∃ (D:Addr) (us:List V) (pcs:List Pc) (wide high:Nat),vs=[.ref D,.int wide,.int high]/\H D=some (.lst us)/\z9 H us pcs/\Pgs wide high pcs/\wide<=400/\high<=1000/\∀ H',Same H H'->Q (.bl true) H'
noncomputable def XS:Sp:=fun vs H Q _=>∃ (p:Addr) (pc:Pc) (wide high:Nat) (a:Addr) (ws:List W),vs=[.ref p,.ref a]/\H p=some (.tup (pq pc))/\Tx H (.ref a) ws/\Fit wide high pc ws/\∀ H',Same H H'->Q (.bl true) H'
section
variable {P:Program} {w:World} {K:PySem.W.Frag} {mg:Str->Option Value} {base:Heap} {kA:Addr}
theorem JA:zu ["box","words","rows"] ["box","words"] (ze (top 78)):=⟨rfl,rfl,rfl,by decide +kernel,rfl,by decide +kernel,by decide +kernel⟩
theorem zb5 {f fL:Addr} {fd dL:FuncData} (F:Fun K "_law_has_room" "_law_has_room" (top 78) f fd) (tl:mg "len" = none) (Ll:Callee P w K mg base CX0 1 "_law_lines" fL dL ["words","wide"] wU):FnOk P w K mg base CX0 2 f fd ["box","words"] XS:=by
 refine F.ok JA (fun vs H Q E h=>?_) (fun cdv A outer s H vs Q E hr h=>?_)
 ·refine E_6 h fun p pc wide high a ws n8=>A_2 n8 fun e9 _=>?_;clear n8 h;subst e9
  rfl
 ·refine E_6 h fun p pc wide high a ws n8=>A_5 n8 fun e9 hp n91 hF q=>?_;clear n8 h;subst e9;obtain ⟨a',ea,ha,hw,h40⟩:=n91
  cases ea
  refine ⟨_,(zd (zt (i:=2) JA.nd rfl (Or.inl rfl) (zj Ll.ok hr rfl Ll.bound Ll.kp Ll.bd .nil zx (za (pv 1) (za (zA xv (zl zw (pv 0) zi (fun _ _=>rfl)) (zl zw (pv 0) zi (fun _ _=>rfl))) zb))))
   (zg (zm (y3 (yq Zq (pv 2) yj rfl) (xu (yq yS (zh zo (by rfl) tl kK (za (pv 2) zb)) (zA xv (zl zw (pv 0) zi (fun _ _=>rfl)) (zl zw (pv 0) zi (fun _ _=>rfl))) (zE _))))))),?_⟩
  have fi:=_Prt.yO hF.ins
  have e1:(pc.r:Int)-(pc.l:Int)=((pc.r-pc.l:Nat):Int):=by omega
  have ft:fits ws (pc.r-pc.l)=true:=wq.mpr hF.wid
  refine ⟨_,rfl,_,rfl,_,_,_,_,rfl,rfl,SqT.of hp,rfl,_,rfl,_,_,_,_,rfl,rfl,SqT.of hp,rfl,_,_,rfl,rfl,a,ws,pc.r-pc.l,congrArg (fun z=>[V.ref a,V.int z]) e1,ha,hw,by omega,fun _ l H1 S1 hl=>?_,fun z=>by rw [ft] at z;cases z⟩
  refine zB ?_
  try dsimp only
  have cn:=hF.cnt
  unfold lns at cn
  rw [e1] at cn
  refine ⟨_,rfl,rfl,_,rfl,iteT ⟨_,rfl,l,_,rfl,.inl (SqL.of hl),_,rfl,_,_,_,_,rfl,rfl,SqT.of (S1 _ _ hp),rfl,_,rfl,_,_,_,_,rfl,rfl,SqT.of (S1 _ _ hp),rfl,_,_,rfl,rfl,_,_,rfl,rfl,?_⟩⟩
  dsimp only
  rw [zL,decide_eq_true (show (((taken ((pc.r-pc.l:Nat):Int) ws).length:Nat):Int)<=(pc.b:Int)-(pc.t:Int) by omega)]
  exact q _ S1
theorem wY:zu ["boxes","wide","high","seen_places","box","y","x"] ["boxes","wide","high"] (ze (top 77)):=⟨rfl,rfl,rfl,by decide +kernel,rfl,by decide +kernel,by decide +kernel⟩
theorem zaG {f:Addr} {fd:FuncData} (F:Fun K "_law_fills" "_law_fills" (top 77) f fd) (tl:mg "len" = none) (tr:mg "range" = none):FnOk P w K mg base CX0 1 f fd ["boxes","wide","high"] ZR:=by
 refine F.ok wY (fun vs H Q E h=>?_) (fun cdv A outer s H vs Q E hr h=>?_)
 ·refine E_5 h fun D us pcs wide high n8=>A_2 n8 fun e9 _=>?_;clear n8 h;subst e9
  rfl
 ·refine E_5 h fun D us pcs wide high n8=>A_7 n8 fun e9 hD hPc hG w4 h1 q=>?_;clear n8 h;subst e9
  refine ⟨_,(zd (zt (i:=3) wY.nd rfl (Or.inl rfl) J0)
   (zd (yp PassesOwn.never rfl (z7 (pv 0)) (zn (i:=4) wY.nd rfl (Or.inl rfl))
   (zd (zJ (PW.pt (yR (ye (Yr yS y8 yS zi (zl zw (pv 4) zi (fun _ _=>rfl)) (zl zw (pv 4) zi (fun _ _=>rfl)) (pv 1))) (yZ (ye (Yr yS y8 yS zi (zl zw (pv 4) zi (fun _ _=>rfl)) (zl zw (pv 4) zi (fun _ _=>rfl)) (pv 2))))))
    (zg (zm xt))
    zF)
    (zg (yp PassesOwn.never rfl (xL rfl tr (za (zl zw (pv 4) zi (fun _ _=>rfl)) (za (zl zw (pv 4) zi (fun _ _=>rfl)) zb))) (zn (i:=5) wY.nd rfl (Or.inl rfl))
    (zg (yp PassesOwn.never rfl (xL rfl tr (za (zl zw (pv 4) zi (fun _ _=>rfl)) (za (zl zw (pv 4) zi (fun _ _=>rfl)) zb))) (zn (i:=6) wY.nd rfl (Or.inl rfl))
     (zd (zJ (zcb (zcs (vc (Nat.add_le_add_left (show 1<=64 by decide) _) hr.units) (yH (za (pv 6) (za (pv 5) zb))) (pv 3)))
      (zg (zm xt))
      zF)
      (zg (zbi (vc (Nat.add_le_add_left (show 1<=64 by decide) _) hr.units) (pv 3) (yH (za (pv 6) (za (pv 5) zb))) xt rfl)))))))))
   (zg (zm (yq xx (zh Qd (by rfl) tl kK (za (pv 3) zb)) (zA qw (pv 1) (pv 2)) (zE _)))))),?_⟩
  have lu:=hPc.len
  refine fun d nd=>?_
  have P0:Pl H (upd H d (.dT [])) d [] (S0 pcs 0):=⟨zf nd,⟨[],zc,rfl⟩,uZ,fun x y=>⟨fun z=>absurd z kN,fun ⟨k,_,z,_⟩=>absurd z (uM _)⟩⟩
  generalize upd H d (.dT [])=H1 at P0
  try dsimp only
  have bnd:∀ {H':Hp} {ds:List (Nat×Nat)} {S:Nat->Nat->Prop},Pl H H' d ds S->(∀ x y,S x y->x<wide/\y<high)->ds.length<sizeLine:=fun {H' ds S} h hs=>by
   have:=_Prt.sub_len _ (_Prt.qu wide high) h.nd fun k hk=>by
    obtain ⟨x,y⟩:=k
    exact (_Prt.xR wide high x y).mpr (hs x y ((h.mem x y).mp hk))
   rw [_Prt.qU] at this
   have:wide*high<=400*1000:=Nat.mul_le_mul w4 h1
   exact vc (show ds.length<=400000 by omega) (by decide)
  have s0p:∀ i x y,S0 pcs i x y->x<wide/\y<high:=fun i x y ⟨k,p,_,e,z⟩=>hG.has.mpr ⟨k,p,e,z⟩
  refine ⟨_,rfl,D,rfl,⟨_,SqL.of (P0.same _ _ hD)⟩,?_⟩
  refine xA (K:=K) (a:=D) (xs:=us) (fun i σ H2=>∃ (ds:List (Nat×Nat)) (o4 o5 o6:Option V),σ=[some (.ref D),some (.int wide),some (.int high),some (.ref d),o4,o5,o6]/\Pl H H2 d ds (S0 pcs i))
   ⟨[],none,none,none,rfl,P0⟩ (fun i σ H2 _ h9=>by obtain ⟨_,_,_,_,_,X⟩:=h9;exact (SqL.of (X.same _ _ hD))) ?_ ?_
  ·intro i v σ H2 hv h8
   refine E_4 h8 fun ds o4 o5 o6 n8=>A_2 n8 fun e9 P2=>?_;clear n8 h8;subst e9
   obtain ⟨p,ep,pp,rfl,hpp⟩:=hPc.get hv
   have fi:=_Prt.yO (hG.ins p (kE ep))
   have hpp2:=P2.same _ _ hpp
   refine zB ?_
   have c3:∀ (i j k l:Int),((decide (i<=j) && (decide (j<k) && decide (k<=l)))=decide (i<=j/\j<k/\k<=l)):=fun i j k l=>by simp
   refine qF (p:=¬ (0<=(p.l:Int)/\(p.l:Int)<(p.r:Int)/\(p.r:Int)<=(wide:Int))\/¬ (0<=(p.t:Int)/\(p.t:Int)<(p.b:Int)/\(p.b:Int)<=(high:Int))) (YS (Zy (z6 ?_)) (Zy (z6 ?_))) (fun c1=>?_) (fun _=>?_)
   ·rw [<- c3]
    exact Zm zI (ya (zk rfl) zI (SqT.of hpp2) rfl) (ya (zk rfl) zI (SqT.of hpp2) rfl) (zk rfl)
   ·rw [<- c3]
    exact Zm zI (ya (zk rfl) zI (SqT.of hpp2) rfl) (ya (zk rfl) zI (SqT.of hpp2) rfl) (zk rfl)
   ·exfalso
    rcases c1 with z | z
    ·exact z ⟨by omega,by omega,by omega⟩
    ·exact z ⟨by omega,by omega,by omega⟩
   refine zS ?_
   try dsimp only
   -- row by row
   refine ⟨_,rfl,_,_,_,_,rfl,rfl,SqT.of hpp2,rfl,_,rfl,_,_,_,_,rfl,rfl,SqT.of hpp2,rfl,(p.t:Int),(p.b:Int),rfl,⟨by omega,by omega,by omega,by omega⟩,?_⟩
   rw [show ((p.b:Int)-(p.t:Int)).toNat=p.b-p.t by omega]
   refine yP (lo:=(p.t:Int)) (n:=p.b-p.t) (fun j σ H3=>∃ (ds:List (Nat×Nat)) (o5 o6:Option V),σ=[some (.ref D),some (.int wide),some (.int high),some (.ref d),some (.ref pp),o5,o6]/\Pl H H3 d ds (S1 pcs i p j 0))
    ⟨ds,_,_,rfl,P2.iff fun x y=>⟨.inl,fun z=>z.elim id fun ⟨hi,z⟩=>by have:=of_decide_eq_true hi;omega⟩⟩ ?_ ?_
   ·intro j σ H3 hj h8
    refine E_3 h8 fun ds o5 o6 n8=>A_2 n8 fun e9 P3=>?_;clear n8 h8;subst e9
    have hpp3:=P3.same _ _ hpp
    refine zB ?_
    rw [<- br]
    try dsimp only
    refine ⟨_,rfl,_,_,_,_,rfl,rfl,SqT.of hpp3,rfl,_,rfl,_,_,_,_,rfl,rfl,SqT.of hpp3,rfl,(p.l:Int),(p.r:Int),rfl,⟨by omega,by omega,by omega,by omega⟩,?_⟩
    rw [show ((p.r:Int)-(p.l:Int)).toNat=p.r-p.l by omega]
    refine yP (lo:=(p.l:Int)) (n:=p.r-p.l) (fun c σ H4=>∃ (ds:List (Nat×Nat)) (o6:Option V),σ=[some (.ref D),some (.int wide),some (.int high),some (.ref d),some (.ref pp),some (.int ((p.t+j:Nat):Int)),o6]/\Pl H H4 d ds (S1 pcs i p j c))
     ⟨ds,_,rfl,P3⟩ ?_ ?_
    ·intro c σ H4 hc h8
     refine E_2 h8 fun ds o6 n8=>A_2 n8 fun e9 P4=>?_;clear n8 h8;subst e9
     refine zB ?_
     rw [<- br]
     try dsimp only
     have inp:inP p (p.l+c) (p.t+j)=true:=decide_eq_true (by omega)
     have fresh:(p.l+c,p.t+j)∉ds:=fun z=>by
      rcases (P4.mem _ _).mp z with ⟨k,p',hk,e',z'⟩ | ⟨_,z' | z'⟩
      ·have:=hG.one e' ep z' inp
       omega
      ·omega
      ·omega
     obtain ⟨kvs,hd4,ek⟩:=P4.out
     refine ⟨_,rfl,_,rfl,by show 2<=sizeLine;decide,fun p1 np1=>?_⟩
     have T1:=zf (o:=.tup [V.int ((p.l+c:Nat):Int),V.int ((p.t+j:Nat):Int)]) np1
     have hp1:upd H4 p1 (.tup [V.int ((p.l+c:Nat):Int),V.int ((p.t+j:Nat):Int)]) p1=some (.tup ((pk (p.l+c,p.t+j)).map kV)):=zc
     have P5:=P4.ex T1
     have hd5:=T1 _ _ hd4
     generalize upd H4 p1 (.tup [V.int ((p.l+c:Nat):Int),V.int ((p.t+j:Nat):Int)])=H5 at T1 hp1 P5 hd5
     refine ⟨_,rfl,d,_,rfl,DGet.t hd5 hp1,_,rfl,?_⟩
     rw [Jz ek fresh]
     refine iteF ?_
     refine zS ?_
     try dsimp only
     refine ⟨_,rfl,_,rfl,_,rfl,by show 2<=sizeLine;decide,fun p2 np2=>?_⟩
     have T2:=zf (o:=.tup [V.int ((p.l+c:Nat):Int),V.int ((p.t+j:Nat):Int)]) np2
     have hp2:upd H5 p2 (.tup [V.int ((p.l+c:Nat):Int),V.int ((p.t+j:Nat):Int)]) p2=some (.tup ((pk (p.l+c,p.t+j)).map kV)):=zc
     have P6:=P5.ex T2
     have hd6:=T2 _ _ hd5
     generalize upd H5 p2 (.tup [V.int ((p.l+c:Nat):Int),V.int ((p.t+j:Nat):Int)])=H6 at T2 hp2 P6 hd6
     have lk:kvs.length=ds.length:=by
      have:=congrArg List.length ek
      rwa [ka,ka] at this
     have bl:=bnd P6 fun x y z=>z.elim (s0p i x y) fun ⟨hi,_⟩=>hG.has.mpr ⟨i,p,ep,hi⟩
     refine ⟨d,_,rfl,DPut.t hd6 hp2 (by rw [lk];exact bl),?_⟩
     rw [JY _ (Jz ek fresh)]
     refine ⟨ds++[(p.l+c,p.t+j)],_,rfl,zU P6.same nd,⟨_,zc,by rw [kz,kz,ek];rfl⟩,?_,fun x y=>?_⟩
     ·refine List.nodup_append.mpr ⟨P4.nd,vT.mpr ⟨kN,uZ⟩,fun a ha b hb e=>?_⟩
      rw [kq.mp hb] at e
      rw [e] at ha
      exact fresh ha
     ·rw [ve,P4.mem,kq]
      constructor
      ·rintro (z | z)
       ·exact z.elim .inl fun ⟨hi,z⟩=>.inr ⟨hi,z.elim .inl fun z=>.inr ⟨z.1,by omega⟩⟩
       ·injection z with z1 z2
        subst z1 z2
        exact .inr ⟨inp,.inr ⟨rfl,by omega⟩⟩
      ·rintro (z | ⟨hi,z | z⟩)
       ·exact .inl (.inl z)
       ·exact .inl (.inr ⟨hi,.inl z⟩)
       ·by_cases g:x<p.l+c
        ·exact .inl (.inr ⟨hi,.inr ⟨z.1,g⟩⟩)
        ·exact .inr (Prod.ext (by show x=p.l+c;omega) z.1)
    ·intro σ H4 h8
     refine E_2 h8 fun ds o6 n8=>A_2 n8 fun e9 P4=>?_;clear n8 h8;subst e9
     refine ⟨ds,_,_,rfl,P4.iff fun x y=>⟨fun z=>z.elim .inl fun ⟨hi,z⟩=>.inr ⟨hi,.inl ?_⟩,fun z=>z.elim .inl fun ⟨hi,z⟩=>.inr ⟨hi,?_⟩⟩⟩
     ·omega
     ·have:=of_decide_eq_true hi
      rcases z with z | z
      ·by_cases g:y<p.t+j
       ·exact .inl g
       ·exact .inr ⟨by omega,by omega⟩
      ·omega
   ·intro σ H3 h8
    refine E_3 h8 fun ds o5 o6 n8=>A_2 n8 fun e9 P3=>?_;clear n8 h8;subst e9
    refine I_4 ds _ _ _ ⟨rfl,P3.iff fun x y=>⟨fun z=>z.elim (fun h9=>by obtain ⟨k,p',hk,e⟩:=h9;exact (⟨k,p',by omega,e⟩)) fun ⟨hi,_⟩=>⟨i,p,by omega,ep,hi⟩,fun h9=>?_⟩⟩
    obtain ⟨k,p',hk,e',hi⟩:=h9
    by_cases g:k<i
    ·exact .inl ⟨k,p',g,e',hi⟩
    ·have:k=i:=by omega
     subst this
     rw [ep] at e'
     cases e'
     have:=of_decide_eq_true hi
     exact .inr ⟨hi,.inl (by omega)⟩
  ·intro σ H2 h8
   refine E_4 h8 fun ds o4 o5 o6 n8=>A_2 n8 fun e9 P2=>?_;clear n8 h8;subst e9
   obtain ⟨kvs,hd2,ek⟩:=P2.out
   have lk:kvs.length=ds.length:=by
    have:=congrArg List.length ek
    rwa [ka,ka] at this
   have fl:=_Prt.zaD (wide:=wide) (high:=high) P2.nd fun x y=>by
    rw [P2.mem,hG.has]
    exact ⟨fun ⟨k,p,_,e⟩=>⟨k,p,e⟩,fun ⟨k,p,e,z⟩=>⟨k,p,by rw [lu];exact (kf.mp e).1,e,z⟩⟩
   refine ⟨_,rfl,d,kvs,rfl,hd2,_,rfl,_,rfl,_,_,rfl,rfl,.inl ⟨by omega,by omega⟩,rfl,?_⟩
   rw [lk,fl,Int.natCast_mul,decide_eq_true rfl]
   exact q H2 P2.same
end
end _JJ
namespace _Sta
open _Tre _Lin
end _Sta
namespace _L2
open PySem PySem.Spec PyProof.Rows
noncomputable def gLst (K:PySem.W.Frag) (n:Nat) (t:TGs):TG:=fun v σ H Q=>∃ a xs,v=.ref a/\SqL K H a xs/\xs.length=n/\t xs σ H Q
theorem zda {X:Cx} {es:List Expr} {k:Nat} {t:TGs} {n:Nat} {pos:Pos} (hc:X.calm=true) (h:PGs X es t)
  (hn:(assignEach es X.env).length=n:=by rfl) (hst:(assignEach es X.env).findIdx? (·.1)=none:=by rfl):PG X (.Tuple es k pos) (gLst X.K n t):=by
 intro pins s σ H v u Q I r hw
 obtain ⟨a,xs,e1,hq,hl,hw⟩:=hw
 subst e1
 cases r
 obtain ⟨its,rv,ht,hz⟩:=I.list hq
 rw [assign_Tuple]
 refine wpAny_bind (wpAny_standAt ?_)
 unfold unpack
 have e:(assignEach es X.env).length=its.toArray.size:=by simp [hn,<- hl,rv.length]
 rw [e,hst]
 refine wpAny_bind (wpAny_holding (PySem.W.kun_itemsOf (I.ok.hd hc) ht.isList fun h' hx=>?_))
 have I1:Inv X pins σ H {s with heap:=h'}:=I.kept (t':=s.toks) fun b o e=>hx b o (vt (Heap.lt_size e)) e
 exact h pins _ σ H xs _ Q I1 (by simpa using rv) hw
end _L2
namespace _JJ
open PySem _L2 _Lin _Tre PySem.W
open _Sta (R HasR Low Pc zT)
open _Prt (over lay lay1 lns pgs Full Fit Pgs)
theorem PcR.uniq {res:List (Int×Pc)} {n:List Int} {pcs pcs':List Pc} {m:Nat} (hk:res.map (·.1)=n) (nd:n.Nodup) (h:PcR res pcs m) (h':PcR res pcs' m):pcs=pcs':=by
 refine List.ext_getElem? fun i=>?_
 by_cases c:i<m
 ·have e1:pcs[i]?=some (pcs[i]'(by rw [h.1];exact c)):=kb _
  have e2:pcs'[i]?=some (pcs'[i]'(by rw [h'.1];exact c)):=kb _
  have m1:=h.2 i _ e1
  have m2:=h'.2 i _ e2
  rw [e1,e2]
  rw [<- hk] at nd
  have key:∀ {l:List (Int×Pc)},(l.map (·.1)).Nodup->∀ {k:Int} {p q:Pc},(k,p)∈l->(k,q)∈l->p=q:=by
   intro l
   induction l with
   | nil=>intro _ k p q h;cases h
   | cons z r ih =>
    intro nd k p q hp hq
    rw [vf,vT] at nd
    rcases kO.mp hp with e1 | hp2
    ·rcases kO.mp hq with e2 | hq2
     ·rw [<- e1] at e2
      injection e2 with _ e3
      exact e3.symm
     ·exact absurd (kX.mpr ⟨(k,q),hq2,by rw [<- e1]⟩) nd.1
    ·rcases kO.mp hq with e2 | hq2
     ·exact absurd (kX.mpr ⟨(k,p),hp2,by rw [<- e2]⟩) nd.1
     ·exact ih nd.2 hp2 hq2
  rw [key nd m1 m2]
 ·rw [vF (by rw [h.1];omega),vF (by rw [h'.1];omega)]
noncomputable def q4 (p:Pc):Q4:=⟨p.l,p.t,p.r,p.b⟩
theorem JB {H:Hp}:∀ {vs:List V} {ps:List Pc},z9 H vs ps->qr H vs (ps.map q4)
 | _,_,.nil=>.nil
 | _,_,.cons ⟨a,e,z⟩ t=>.cons ⟨a,e,z⟩ (JB t)
theorem JC {H0 H:Hp}:∀ {vs:List V} {wss:List (List W)},Wls H0 H vs wss->(∀ ws∈wss,(∀ u∈ws,okW u)/\ws.length<=40)->Txs H vs wss
 | _,_,.nil,_=>.nil
 | _,_,.cons ⟨l,e,_,z⟩ t,h=>.cons ⟨l,e,z,(h _ kh).1,(h _ kh).2⟩ (JC t fun ws hw=>h ws (kj _ hw))
theorem zaH {u:W} (h:okW u):u≠[]/\32∉u:=⟨fun z=>by have:=h.1;rw [z] at this;exact absurd this (by decide),fun z=>by have:=h.2.2 32 z;exact absurd this.1 (by decide)⟩
noncomputable def Qe (K:PySem.W.Frag):Sp:=fun vs H Q _=>∃ (a:Addr) (ns:List Int),vs=[.ref a]/\SqL K H a (ns.map V.int)/\ns.length<=63/\∀ H',Q (.bl true) H'
section
variable {P:Program} {w:World} {K:PySem.W.Frag} {mg:Str->Option Value} {base:Heap} {kA:Addr}
theorem xr:zu ["script","tree","texts","wide","due","high","boxes","rows"] ["script"] (ze sLaw):=⟨rfl,rfl,rfl,by decide +kernel,rfl,by decide +kernel,by decide +kernel⟩
theorem zdb {f fGr fCe fMx fTa fLh fSe fFi fHr fPd fWi C3 C4 C6 C7:Addr} {fd dGr dCe dMx dTa dLh dSe dFi dHr dPd dWi:FuncData} (F:Fun K "law" "law" sLaw f fd) (Zt:Nt K mg kA) (tall:mg "all" = none) (Gr:Callee P w K mg base CX0 26 "_law_grown" fGr dGr ["cells","head"] (ZQ K)) (Ce:Callee P w K mg base CX0 1 "_law_cell_at" fCe dCe ["script","k"] (jO K)) (Mx:Callee P w K mg base CX0 1 "_law_mixed" fMx dMx ["cell","k"] wW)
  (Ta:Callee P w K mg base CX0 26 "_law_table" fTa dTa ["tree","texts","most"] (jk 24)) (Lh:Callee P w K mg base (CXE P w) 29 "least_high" fLh dLh ["tree","texts","wide"] (spLh C4 C6)) (Se:Callee P w K mg base (CXE P w) 55 "setting" fSe dSe ["tree","texts","wide","high"] (Zh C4 C6 C7)) (Fi:Callee P w K mg base CX0 1 "_law_fills" fFi dFi ["boxes","wide","high"] ZR) (Hr:Callee P w K mg base CX0 2 "_law_has_room" fHr dHr ["box","words"] XS)
  (Pd:Callee P w K mg base (CXE P w) 56 "printed" fPd dPd ["tree","texts","wide"] (W6 C4 C6 C7)) (Wi:Callee P w K mg base (CXE P w) 3 "words_in" fWi dWi ["rows","boxes"] (W9 C3)):FnOk P w K mg base CX0 57 f fd ["script"] (Qe K):=by
 obtain ⟨_,_,_,_,_,ti,tint,tbool,tstr,_,tlist,tl,_,_,tr,kI,kB,_,_⟩:=Zt
 refine F.ok xr (fun vs H Q E h=>?_) (fun cdv A outer s H vs Q E hr h=>?_)
 ·refine E_2 h fun a ns n8=>A_2 n8 fun e9 _=>?_;clear n8 h;subst e9
  rfl
 ·refine E_2 h fun a ns n8=>A_4 n8 fun e9 hS h63 q=>?_;clear n8 h;subst e9
  refine ⟨_,(zd (wG (zj Gr.ok (hr.mono (show 26<=56 by decide)) rfl Gr.bound Gr.kp Gr.bd .nil zx (za (yz xB (pv 0) (yr zi) (yr zi)) (za (zj Ce.ok (hr.mono (show 1<=56 by decide)) rfl Ce.bound Ce.kp Ce.bd .nil zx (za (pv 0) (za zi zb))) zb))) (zda rfl (zY (zn (i:=1) xr.nd rfl (Or.inl rfl)) (zY (zn (i:=2) xr.nd rfl (Or.inr rfl)) yW))))
   (zd (zt (i:=3) xr.nd rfl (Or.inr rfl) (zA yl zi (zA yL (zj Mx.ok (hr.mono (show 1<=56 by decide)) rfl Mx.bound Mx.kp Mx.bd .nil zx (za (zj Ce.ok (hr.mono (show 1<=56 by decide)) rfl Ce.bound Ce.kp Ce.bd .nil zx (za (pv 0) (za zi zb))) (za zi zb))) (zl zN (z5 (za zi (za zi zb))) (zA yL (zj Ce.ok (hr.mono (show 1<=56 by decide)) rfl Ce.bound Ce.kp Ce.bd .nil zx (za (pv 0) (za zi zb))) zi) (fun _ _=>rfl)))))
   (zd (zt (i:=4) xr.nd rfl (Or.inl rfl) (zl zN (zj Ta.ok (hr.mono (show 26<=56 by decide)) rfl Ta.bound Ta.kp Ta.bd .nil zx (za (pv 1) (za (pv 2) (za (pv 3) zb)))) (pv 3) (fun _ _=>rfl)))
   (zd (zt (i:=5) xr.nd rfl (Or.inl rfl) (zj Lh.ok (hr.mono (show 29<=56 by decide)) rfl Lh.bound Lh.kp Lh.bd .nil wc (za (pv 1) (za (pv 2) (za (pv 3) zb)))))
   (zd (zJ (PW.pt (yR (zD xc (pv 4) yj rfl) (yZ (zD xc (pv 5) yj rfl))))
   (zg (zm (y3 (yq xc (pv 4) yj rfl) (xu (yq xc (pv 5) yj rfl)))))
   zF)
   (zd (zJ (PW.pt (yR (ye (yc (zh yg (by rfl) ti kW (za (pv 5) (za (yB rfl tint PyProof.Rows.boot_int) zb))))) (yR (yc (zh yg (by rfl) ti kW (za (pv 5) (za (yB rfl tbool PyProof.Rows.boot_bool) zb)))) (yZ (zD wZ (pv 5) (pv 4) (zE _))))))
   (zg (zm xt))
   zF)
   (zd (zt (i:=6) xr.nd rfl (Or.inr rfl) (zj Se.ok (hr.mono (show 55<=56 by decide)) rfl Se.bound Se.kp Se.bd .nil wc (za (pv 1) (za (pv 2) (za (pv 3) (za (pv 5) zb))))))
   (zd (zJ (PW.pt (yR (ye (yc (zh yg (by rfl) ti kW (za (pv 6) (za (yB rfl tlist uw) zb))))) (yR (zD wZ (zh zo (by rfl) tl kK (za (pv 6) zb)) (zh zo (by rfl) tl kK (za (pv 2) zb)) (zE _)) (yZ (ye (yc (zj Fi.ok (hr.mono (show 1<=56 by decide)) rfl Fi.bound Fi.kp Fi.bd .nil zx (za (pv 6) (za (pv 3) (za (pv 5) zb))))))))))
   (zg (zm xt))
   zF)
   (zd (zJ (ye (yc (zh (y6 rfl) (by rfl) tall vS (za (zV (Nc:=["k","boxes","texts"]) (ix:=[none,some 6,some 2]) rfl rfl (by exact (xm rfl tr (za (zh zo (by rfl) tl kK (za (pv 2) zb)) zb))) (fun _ _ _ _ _=>(zn (i:=0) (by show (["k","boxes","texts"]:List Str).Nodup;decide +kernel) rfl (Or.inl rfl))) (fun _ _ _ _ _=>zR) (fun _ _ _ _ _=>(zj Hr.ok (hr.mono (show 2<=56 by decide)) rfl Hr.bound Hr.kp Hr.bd .nil zx (za (zl (YZ (K:=K) rfl) (pv 1) (pv 0) (fun _ _=>rfl)) (za (zl (YZ (K:=K) rfl) (pv 2) (pv 0) (fun _ _=>rfl)) zb))))) zb))))
   (zg (zm xt))
   zF)
   (zd (zt (i:=7) xr.nd rfl (Or.inl rfl) (zj Pd.ok hr rfl Pd.bound Pd.kp Pd.bd .nil wc (za (pv 1) (za (pv 2) (za (pv 3) zb)))))
   (zd (zJ (PW.pt (yR (ye (yc (zh yg (by rfl) ti kW (za (pv 7) (za (yB rfl tlist uw) zb))))) (yR (zD wZ (zh zo (by rfl) tl kK (za (pv 7) zb)) (pv 5) (zE _)) (yZ (ye (yc (zh (y6 rfl) (by rfl) tall vS (za (zV (Nc:=["row","wide"]) (ix:=[none,some 3]) rfl rfl (by refine' z7 ?zz;case zz=>exact (pv 7)) (fun _ _ _ _ _=>(zn (i:=0) (by show (["row","wide"]:List Str).Nodup;decide +kernel) rfl (Or.inl rfl))) (fun _ _ _ _ _=>zR) (fun _ _ _ _ _=>(yq xx (zh zZ (by rfl) tl kK (za (pv 0) zb)) (pv 1) (zE _)))) zb))))))))
   (zg (zm xt))
   zF)
   (zg (zm (yq (QH hr.units) (zj Wi.ok (hr.mono (show 3<=56 by decide)) rfl Wi.bound Wi.kp Wi.bd .nil wc (za (pv 7) (za (pv 6) zb))) (pv 2) (zE _))))))))))))))),?_⟩
  -- the tree and the texts
  refine ⟨_,rfl,_,rfl,_,rfl,a,_,rfl,hS,fun lc nlc=>?_⟩
  obtain ⟨cells,hcut⟩:=zaa ns (some 3) (some 63)
  dsimp only
  rw [hcut]
  have S1:=zf (o:=.lst (cells.map V.int)) nlc
  have hlc:(upd H lc (.lst (cells.map V.int))) lc=some (.lst (cells.map V.int)):=zc
  generalize upd H lc (.lst (cells.map V.int))=H1 at S1 hlc
  refine ⟨_,rfl,a,ns,0,rfl,S1.seq hS,by decide,fun c0=>⟨lc,cells,c0,rfl,SqL.of hlc,fun lg x lt t n us wss H2 S2 hlg hA g pm hlt hT m11=>?_⟩⟩
  have S12:=S1.trans S2
  refine ⟨lg,_,rfl,SqL.of hlg,rfl,_,_,rfl,_,_,rfl,rfl,?_⟩
  try dsimp only
  have lu:=hT.len
  have ln:=pm.length_eq
  rw [xO] at ln
  have n24:n.length<=24:=by omega
  have iT:yd t:=⟨n,g,n24,by rw [ln];exact pm⟩
  have gsz:=g.szN
  have rng:∀ i∈n,0<=i/\i<((Lvs wss).length:Int):=fun i hi=>by
   have:=pm.mem_iff.mp hi
   unfold up at this
   obtain ⟨j,hj,rfl⟩:=kX.mp this
   have:=vz.mp hj
   unfold Lvs
   rw [ka]
   omega
  obtain ⟨P1,hR⟩:=_Sta.ZI (Ls:=Lvs wss) g rng
  have hU:=yQ wss
  have hup:=HasR.up hU hR
  -- the width
  refine ⟨_,rfl,a,ns,1,rfl,S12.seq hS,by decide,fun c1=>⟨c1,7,rfl,by decide,by decide,fun c7 p7=>⟨by show 2<=sizeLine;decide,fun pz npz=>?_⟩⟩⟩
  have S3:=zf (o:=.lst [V.int 20,V.int 60]) npz
  have hpz:(upd H2 pz (.lst [V.int 20,V.int 60])) pz=some (.lst [V.int 20,V.int 60]):=zc
  have hA3:=hA.same S3
  have hlt3:=S3 _ _ hlt
  have hT3:=hT.same S3
  have S13:=S12.trans S3
  generalize upd H2 pz (.lst [V.int 20,V.int 60])=H3 at S3 hpz hA3 hlt3 hT3 S13
  refine ⟨_,rfl,a,ns,2,rfl,S13.seq hS,by decide,fun c2=>?_⟩
  obtain ⟨mo,hmo,m1,m60⟩ : ∃ mo:Int,atI [V.int 20,V.int 60] (c2 % 2)=some (.int mo)/\1<=mo/\mo<=60:=by
   rcases (show c2 % 2=0\/c2 % 2=1 by omega) with e | e<;>rw [e]
   ·exact ⟨20,rfl,by decide,by decide⟩
   ·exact ⟨60,rfl,by decide,by decide⟩
  refine ⟨_,_,rfl,rfl,(by show (0:Int)<2;decide),pz,_,_,_,rfl,rfl,SqL.of hpz,hmo,_,_,rfl,rfl,(by show (0:Int)<mo;omega),_,_,rfl,rfl,?_⟩
  obtain ⟨W,hW,W1,W60⟩ : ∃ W:Nat,(1:Int)+c7 % mo=(W:Int)/\1<=W/\W<=60:=by
   have:=vV c7 (show mo≠0 by omega)
   have:=vP c7 (show 0<mo by omega)
   exact ⟨(1+c7 % mo).toNat,by omega,by omega,by omega⟩
  refine zB ?_
  dsimp only
  rw [hW]
  -- due
  refine ⟨_,rfl,_,rfl,_,rfl,x,t,n,lt,us,wss,P1,W,rfl,hA3,g,hR,hlt3,hT3,by omega,by omega,by decide,fun ld fT H4 S4 hld hTab=>?_⟩
  refine ⟨_,rfl,ld,_,_,_,rfl,rfl,SqL.of hld,WV (by rw [hTab.1];omega),?_⟩
  have low1:=hTab.2 W (kc _)
  generalize fT.getD W none=due at low1
  refine zB ?_
  dsimp only
  -- high
  refine ⟨_,rfl,_,rfl,_,rfl,x,.ref lt,t,W,rfl,hA3.same S4,by omega,.inl ⟨n,lt,us,wss,iT,g,rfl,S4 _ _ hlt3,hT3.same S4,by omega,fun P2 o H5 hR2 S5 low2=>?_⟩⟩
  obtain rfl:=_Sta.xq hR2 hR
  obtain rfl:=low2.uniq low1
  refine zB ?_
  dsimp only
  have S35:=S4.trans S5
  have hA5:=hA3.same S35
  have hlt5:=S35 _ _ hlt3
  have hT5:=hT3.same S35
  cases o with
  | none=>exact ⟨_,rfl,rfl,_,rfl,iteT (iteT ⟨_,rfl,rfl,_,rfl,iteT ⟨_,rfl,rfl,q _⟩⟩)⟩
  | some k =>
  refine ⟨_,rfl,rfl,_,rfl,iteF ⟨_,rfl,rfl,_,rfl,iteF ?_⟩⟩
  refine zS ?_
  dsimp only
  have rm:P2 W k:=low1.1
  have k1:=(hup.pos rm).2
  have k40:k<=40*n.length:=low1.2 _ (_Sta.tall hT.ok40 hU g hR W k rm)
  rw [show oV (some k)=V.int ((k:Nat):Int) from rfl]
  refine ⟨_,rfl,_,_,_,_,rfl,rfl,(At.int (H:=H5) (k:Int)).ty,kI _,_,rfl,iteF ?_⟩
  refine ⟨_,rfl,_,_,_,_,rfl,rfl,(At.int (H:=H5) (k:Int)).ty,kB _,_,rfl,iteF ?_⟩
  refine ⟨_,rfl,_,rfl,rfl,_,rfl,?_⟩
  rw [decide_eq_true rfl]
  refine iteF ?_
  refine zS ?_
  dsimp only
  -- the boxes
  obtain ⟨res,hSI⟩:=_Sta.Q9 hU hR (p:=⟨0,0,W,k⟩) (by unfold _Sta.Rm;exact rm) (kP _) (kP _)
  refine ⟨_,rfl,_,rfl,_,rfl,_,rfl,x,.ref lt,t,W,k,rfl,hA5,by omega,.inl ⟨n,lt,us,wss,P2,iT,g,rfl,hlt5,hT5,by omega,hR,.inl ⟨res,rm,hSI,fun D vs pcs H6 S6 nD hD hPc lpc hres=>?_⟩⟩⟩
  have hPR:PcR res pcs n.length:=⟨lpc,hres⟩
  have hF:=Jp (n:=n) hR rm hSI hPR
  have lvs:=hPc.len
  have ks:=zT.keys g hSI
  have lres:res.length=pcs.length:=by rw [lpc,<- ks,ka]
  have hG:Pgs W k pcs:=_Prt.zc8 hU hSI (by omega) (by omega) lres hres
  refine zB ?_
  dsimp only
  have hlt6:=S6 _ _ hlt5
  have hT6:=hT5.same S6
  refine ⟨_,rfl,_,_,_,_,rfl,rfl,.of (.lst hD),rfl,_,rfl,iteF ?_⟩
  refine ⟨_,rfl,D,_,rfl,.inl (SqL.of hD),_,rfl,lt,_,rfl,.inl (SqL.of hlt6),rfl,_,rfl,?_⟩
  rw [show ((vs.length:Nat):Int)=((us.length:Nat):Int) by omega,decide_eq_true rfl]
  refine iteF ?_
  refine ⟨_,rfl,_,rfl,_,rfl,D,vs,pcs,W,k,rfl,hD,hPc,hG,by omega,by omega,fun H7 S7=>⟨_,rfl,iteF ?_⟩⟩
  refine zS ?_
  dsimp only
  have hD7:=S7 _ _ hD
  have hPc7:=hPc.same S7
  have hlt7:=S7 _ _ hlt6
  have hT7:=hT6.same S7
  -- each has its room
  refine ⟨_,rfl,lt,_,rfl,.inl (SqL.of hlt7),_,rfl,by omega,by omega,?_⟩
  rw [vp]
  refine qG (lo:=0) (n:=us.length) (fun j ys σ H8=>ys=(kF j true).map V.bl/\Same H7 H8/\∃ o,σ=[o,some (.ref D),some (.ref lt)]) ⟨rfl,Same.refl _,none,rfl⟩
   (fun j ys σ H8 hj h9=>by obtain ⟨e,_,_⟩:=h9;exact (by rw [e,ka,va];exact km (show j<=100 by omega) (by decide))) ?_ ?_
  case refine_2 =>
   rintro j ys σ H8 hj ⟨rfl,S8,o,rfl⟩
   obtain ⟨ws,ew,pa,ev,hpa,hw,h40⟩:=hT7.get (kb hj)
   obtain ⟨p1,ep,pp,ev2,hpp⟩:=hPc7.get (kb (show j<vs.length by omega))
   dsimp only [zW,tYes]
   rw [show (0:Int)+(j:Int)=(j:Int) from bB _]
   refine iteT ⟨_,rfl,_,rfl,D,_,_,.ref pp,rfl,rfl,SqL.of (S8 _ _ hD7),yw (by rw [kb (show j<vs.length by omega),ev2]),_,rfl,_,rfl,lt,_,_,.ref pa,rfl,rfl,SqL.of (S8 _ _ hlt7),yw (by rw [kb hj,ev]),pp,p1,W,k,pa,ws,rfl,S8 _ _ hpp,⟨pa,rfl,S8 _ _ hpa,hw,h40⟩,hF j p1 ws ep ew,fun H9 S9=>⟨?_,S8.trans S9,_,rfl⟩⟩
   rw [ui,kz]
   rfl
  rintro ys σ H8 ⟨rfl,S8,_⟩ lb nlb
  have S8':=zf (o:=.lst ((kF us.length true).map V.bl)) nlb
  have hlb:(upd H8 lb (.lst ((kF us.length true).map V.bl))) lb=some (.lst ((kF us.length true).map V.bl)):=zc
  have S79:=S8.trans S8'
  generalize upd H8 lb (.lst ((kF us.length true).map V.bl))=H9 at S8' hlb S79
  refine ⟨lb,_,rfl,SqL.of hlb,_,rfl,?_⟩
  have allr:∀ m:Nat,(kF m true).all id=true:=fun m=>by
   rw [vK]
   intro z hz
   exact uJ hz
  rw [allr]
  refine iteF ?_
  refine zS ?_
  dsimp only
  have S39:=(S35.trans S6).trans (S7.trans S79)
  have hA9:=hA3.same S39
  have hlt9:=S39 _ _ hlt3
  have hT9:=hT3.same S39
  -- the print
  refine ⟨_,rfl,_,rfl,_,rfl,x,t,W,n,lt,us,wss,P2,rfl,hA9,by omega,iT,g,hlt9,hT9,by omega,hR,W1,by omega,.inl ⟨k,res,low1,hSI,fun lf pcs2 H10 S10 nlf hPR2 hlf=>?_⟩⟩
  have nd:n.Nodup:=by
   rw [pm.nodup_iff]
   exact Xn _
  obtain rfl:=hPR.uniq ks nd hPR2
  refine zB ?_
  dsimp only
  have fl:=_Prt.wu hF n.length
  have hD10:=S10 _ _ (S79 _ _ hD7)
  have hPc10:=(hPc7.same S79).same S10
  have hlt10:=S10 _ _ hlt9
  have hT10:=hT9.same S10
  refine ⟨_,rfl,_,_,_,_,rfl,rfl,.of (.lst hlf),rfl,_,rfl,iteF ?_⟩
  refine ⟨_,rfl,lf,_,rfl,.inl (SqL.of hlf),_,rfl,rfl,_,rfl,?_⟩
  rw [show (((tx (pgs W k pcs wss n.length)).length:Nat):Int)=((k:Nat):Int) by rw [zL,fl.1],decide_eq_true rfl]
  refine iteF ?_
  refine ⟨_,rfl,lf,rfl,⟨_,SqL.of hlf⟩,yh (K:=K) (a:=lf) (xs:=tx (pgs W k pcs wss n.length)) (fun j ys σ H11=>ys=(kF j true).map V.bl/\H11=H10/\∃ o,σ=[o,some (.int W)]) ⟨rfl,rfl,none,rfl⟩
   (fun j ys σ H11 hj h9=>by obtain ⟨e,e2,_⟩:=h9;exact (⟨by rw [e,ka,va];rw [zL,fl.1] at hj;exact km (show j<=1000 by omega) (by decide),by rw [e2];exact SqL.of hlf⟩)) ?_ ?_⟩
  case refine_2 =>
   rintro j v ys σ H11 hv ⟨rfl,rfl,o,rfl⟩
   obtain ⟨r,er,rfl⟩:=yN hv
   have lr:=fl.2 r (kE er)
   dsimp only [zW,tYes]
   refine iteT ⟨_,rfl,_,rfl,by rw [zO,lr];exact km (show W<=1000 by omega) (by decide),_,rfl,rfl,?_⟩
   refine ⟨?_,rfl,_,rfl⟩
   rw [zO,lr,decide_eq_true rfl,ui,kz]
   rfl
  rintro ys σ H11 ⟨rfl,rfl,_⟩ lb2 nlb2
  have S11:=zf (o:=.lst ((kF (tx (pgs W k pcs wss n.length)).length true).map V.bl)) nlb2
  refine ⟨lb2,_,rfl,SqL.of zc,_,rfl,?_⟩
  rw [allr]
  generalize upd H11 lb2 (.lst ((kF (tx (pgs W k pcs wss n.length)).length true).map V.bl))=H12 at S11
  refine iteF ?_
  refine zS ?_
  dsimp only
  -- read
  have hB:=JB (hPc10.same S11)
  have rd:(pcs.map q4).map (wds (pgs W k pcs wss n.length))=wss:=by
   apply vZ
   ·rw [ka,ka]
    omega
   ·intro i h1 h2
    rw [vN,vN]
    rw [ka,ka] at h1
    have e1:pcs[i]?=some pcs[i]:=kb h1
    have e2:wss[i]?=some wss[i]:=kb h2
    have:=_Prt.Qc hG hF (K:=n.length) e1 e2 (by omega) fun u hu=>zaH (hT.okw _ (vB h2) u hu)
    exact this
  refine ⟨_,rfl,_,rfl,lf,D,pgs W k pcs wss n.length,W,k,vs,pcs.map q4,rfl,S11 _ _ hlf,⟨fl.1,fl.2,W1,by omega,by omega⟩,S11 _ _ hD10,hB,fun b hb=>?_,by rw [ka];omega,.inl ⟨fun b hb=>?_,fun l2 us2 H13 S13' nl2 hl2 hW2 _ _=>?_⟩⟩
  ·obtain ⟨p,hp,rfl⟩:=kX.mp hb
   have:=_Prt.yO (hG.ins p hp)
   show (p.t:Int)<(p.b:Int)
   omega
  ·obtain ⟨p,hp,rfl⟩:=kX.mp hb
   have:=_Prt.yO (hG.ins p hp)
   refine ⟨by show (p.l:Int)<(p.r:Int);omega,decide_eq_true ?_⟩
   show 0<=(p.l:Int)/\0<=(p.t:Int)/\(p.b:Int)<=(k:Int)/\(p.r:Int)<=(W:Int)
   omega
  rw [rd] at hW2
  have hT2:=JC hW2 fun ws hw=>⟨hT.okw ws hw,hT.ok40 ws hw⟩
  exact ⟨_,rfl,l2,lt,2,true,rfl,rfl,zcR hl2 (S13' _ _ (S11 _ _ hlt10)) hT2 ((hT10.same S11).same S13'),by decide,q _⟩
end
end _JJ
namespace _L2
open PySem PySem.Spec PyProof.Rows
end _L2
namespace _JJ
open PySem _L2 _Tre
theorem bl1 {α:Type} {p:List α->Prop} {us:List α} (hl:us.length=1) (q:∀ a0,p [a0]):p us:=match us,hl with
 | [a0],_=>q a0
theorem bl2 {α:Type} {p:List α->Prop} {us:List α} (hl:us.length=2) (q:∀ a0 a1,p [a0,a1]):p us:=match us,hl with
 | [a0,a1],_=>q a0 a1
theorem bl3 {α:Type} {p:List α->Prop} {us:List α} (hl:us.length=3) (q:∀ a0 a1 a2,p [a0,a1,a2]):p us:=match us,hl with
 | [a0,a1,a2],_=>q a0 a1 a2
theorem bl4 {α:Type} {p:List α->Prop} {us:List α} (hl:us.length=4) (q:∀ a0 a1 a2 a3,p [a0,a1,a2,a3]):p us:=match us,hl with
 | [a0,a1,a2,a3],_=>q a0 a1 a2 a3
theorem bl5 {α:Type} {p:List α->Prop} {us:List α} (hl:us.length=5) (q:∀ a0 a1 a2 a3 a4,p [a0,a1,a2,a3,a4]):p us:=match us,hl with
 | [a0,a1,a2,a3,a4],_=>q a0 a1 a2 a3 a4
theorem all_mk {l:PySem.W.OpenLaw} {w:World} {K:PySem.W.Frag} {h:Heap} {mg:Str->Option Value} {fa  f0 f1 f2 f3 f4 f5 f6 f7 f8 f9 f10 f11 f12 f13 f14 f15 f16 f17 f18 f19 f20 f21 f22 f23 f24 f25 f26 f27 f28 f29 f30 f31 f32 f33 f34 f35 f36 f37 f38 f39 f40 f41 f42 f43 f44 f45 f46 f47 f48 f49 f50 C0 C1 C2 C3 C4:Addr} (X:K.In h) (G:h.Ns mainGlobals mg) (hfa:mg "law" = some (.ref fa))
  {od0 od1 od2 od3 od4 od5 od6 od7 od8 od9 od10 od11 od12 od13 od14 od15 od16 od17 od18 od19 od20 od21 od22 od23 od24 od25 od26 od27 od28 od29 od30 od31 od32 od33 od34 od35 od36 od37 od38 od39 od40 od41 od42 od43 od44 od45 od46 od47 od48 od49 od50 an0 an1 an2 an3 an4 an5 an6 an7 an8 an9 an10 an11 an12 an13 an14 an15 an16 an17 an18 an19 an20 an21 an22 an23 an24 an25 an26 an27 an28 an29 an30 an31 an32 an33 an34 an35 an36 an37 an38 an39 an40 an41 an42 an43 an44 an45 an46 an47 an48 an49 an50:Option Addr} {sl0 sl1 sl2 sl3 sl4 sl5 sl6 sl7 sl8 sl9 sl10 sl11 sl12 sl13 sl14 sl15 sl16 sl17 sl18 sl19 sl20 sl21 sl22 sl23 sl24 sl25 sl26 sl27 sl28 sl29 sl30 sl31 sl32 sl33 sl34 sl35 sl36 sl37 sl38 sl39 sl40 sl41 sl42 sl43 sl44 sl45 sl46 sl47 sl48 sl49 sl50:Array (Option Value)} {oc0 kV0 dc0 pm0 cd0 ct0 oc1 kV1 dc1 pm1 cd1 ct1 oc2 kV2 dc2 pm2 cd2 ct2 oc3 kV3 dc3 pm3 cd3 ct3 oc4 kV4 dc4 pm4 cd4 ct4 oc5 kV5 dc5 pm5 cd5 ct5 oc6 kV6 dc6 pm6 cd6 ct6 oc7 kV7 dc7 pm7 cd7 ct7 oc8 kV8 dc8 pm8 cd8 ct8 oc9 kV9 dc9 pm9 cd9 ct9 oc10 kV10 dc10 pm10 cd10 ct10 oc11 kV11 dc11 pm11 cd11 ct11 oc12 kV12 dc12 pm12 cd12 ct12 oc13 kV13 dc13 pm13 cd13 ct13 oc14 kV14 dc14 pm14 cd14 ct14 oc15 kV15 dc15 pm15 cd15 ct15 oc16 kV16 dc16 pm16 cd16 ct16 oc17 kV17 dc17 pm17 cd17 ct17 oc18 kV18 dc18 pm18 cd18 ct18 oc19 kV19 dc19 pm19 cd19 ct19 oc20 kV20 dc20 pm20 cd20 ct20 oc21 kV21 dc21 pm21 cd21 ct21 oc22 kV22 dc22 pm22 cd22 ct22 oc23 kV23 dc23 pm23 cd23 ct23 oc24 kV24 dc24 pm24 cd24 ct24 oc25 kV25 dc25 pm25 cd25 ct25 oc26 kV26 dc26 pm26 cd26 ct26 oc27 kV27 dc27 pm27 cd27 ct27 oc28 kV28 dc28 pm28 cd28 ct28 oc29 kV29 dc29 pm29 cd29 ct29 oc30 kV30 dc30 pm30 cd30 ct30 oc31 kV31 dc31 pm31 cd31 ct31 oc32 kV32 dc32 pm32 cd32 ct32 oc33 kV33 dc33 pm33 cd33 ct33 oc34 kV34 dc34 pm34 cd34 ct34 oc35 kV35 dc35 pm35 cd35 ct35 oc36 kV36 dc36 pm36 cd36 ct36 oc37 kV37 dc37 pm37 cd37 ct37 oc38 kV38 dc38 pm38 cd38 ct38 oc39 kV39 dc39 pm39 cd39 ct39 oc40 kV40 dc40 pm40 cd40 ct40 oc41 kV41 dc41 pm41 cd41 ct41 oc42 kV42 dc42 pm42 cd42 ct42 oc43 kV43 dc43 pm43 cd43 ct43 oc44 kV44 dc44 pm44 cd44 ct44 oc45 kV45 dc45 pm45 cd45 ct45 oc46 kV46 dc46 pm46 cd46 ct46 oc47 kV47 dc47 pm47 cd47 ct47 oc48 kV48 dc48 pm48 cd48 ct48 oc49 kV49 dc49 pm49 cd49 ct49 oc50 kV50 dc50 pm50 cd50 ct50:Value} {kA:Addr} {odK:Option Addr} {nK:Nat} {slK:Array (Option Value)} {tk1 tk2:Tok} {t_LEFT_OUT t_MOST_SIGNS t_KIND t_PARTS t_MOST_BOXES t_WIDE t_HIGH t_MOST_WORDS t_LEFT t_TOP t_RIGHT t_BELOW t_MOST_WIDE t_ACROSS:Tok}
  (a0:kn K mainGlobals "is_sign" = some (some (.ref f0)))
  (l0:K.lookup f0=some ⟨oc0,od0,.func (kJ "is_sign" "is_sign" (zr q9) (zp q9) (ze q9) .none kV0 dc0 pm0 an0 cd0 ct0),sl0⟩)
  (c0:kG K cd0 "is_sign" = true)
  (k0:kD K (.ref f0)=true)
  (a1:kn K mainGlobals "is_word" = some (some (.ref f1)))
  (l1:K.lookup f1=some ⟨oc1,od1,.func (kJ "is_word" "is_word" (zr ja) (zp ja) (ze ja) .none kV1 dc1 pm1 an1 cd1 ct1),sl1⟩)
  (c1:kG K cd1 "is_word" = true)
  (k1:kD K (.ref f1)=true)
  (a2:kn K mainGlobals "are_words" = some (some (.ref f2)))
  (l2:K.lookup f2=some ⟨oc2,od2,.func (kJ "are_words" "are_words" (zr sAre) (zp sAre) (ze sAre) .none kV2 dc2 pm2 an2 cd2 ct2),sl2⟩)
  (c2:kG K cd2 "are_words" = true)
  (k2:kD K (.ref f2)=true)
  (a3:kn K mainGlobals "refuse_no_words" = some (some (.ref f3)))
  (l3:K.lookup f3=some ⟨oc3,od3,.func (kJ "refuse_no_words" "refuse_no_words" (zr x5) (zp x5) (ze x5) .none kV3 dc3 pm3 an3 cd3 ct3),sl3⟩)
  (c3:kG K cd3 "refuse_no_words" = true)
  (k3:kD K (.ref f3)=true)
  (a4:kn K mainGlobals "taken" = some (some (.ref f4)))
  (l4:K.lookup f4=some ⟨oc4,od4,.func (kJ "taken" "taken" (zr wL) (zp wL) (ze wL) .none kV4 dc4 pm4 an4 cd4 ct4),sl4⟩)
  (c4:kG K cd4 "taken" = true)
  (k4:kD K (.ref f4)=true)
  (a5:kn K mainGlobals "lines" = some (some (.ref f5)))
  (l5:K.lookup f5=some ⟨oc5,od5,.func (kJ "lines" "lines" (zr wM) (zp wM) (ze wM) .none kV5 dc5 pm5 an5 cd5 ct5),sl5⟩)
  (c5:kG K cd5 "lines" = true)
  (k5:kD K (.ref f5)=true)
  (a6:kn K mainGlobals "with_next_word" = some (some (.ref f6)))
  (l6:K.lookup f6=some ⟨oc6,od6,.func (kJ "with_next_word" "with_next_word" (zr jb) (zp jb) (ze jb) .none kV6 dc6 pm6 an6 cd6 ct6),sl6⟩)
  (c6:kG K cd6 "with_next_word" = true)
  (k6:kD K (.ref f6)=true)
  (a7:kn K mainGlobals "next_width" = some (some (.ref f7)))
  (l7:K.lookup f7=some ⟨oc7,od7,.func (kJ "next_width" "next_width" (zr wN) (zp wN) (ze wN) .none kV7 dc7 pm7 an7 cd7 ct7),sl7⟩)
  (c7:kG K cd7 "next_width" = true)
  (k7:kD K (.ref f7)=true)
  (a8:kn K mainGlobals "text_stairs" = some (some (.ref f8)))
  (l8:K.lookup f8=some ⟨oc8,od8,.func (kJ "text_stairs" "text_stairs" (zr x6) (zp x6) (ze x6) .none kV8 dc8 pm8 an8 cd8 ct8),sl8⟩)
  (c8:kG K cd8 "text_stairs" = true)
  (k8:kD K (.ref f8)=true)
  (a9:kn K mainGlobals "is_whole" = some (some (.ref f9)))
  (l9:K.lookup f9=some ⟨oc9,od9,.func (kJ "is_whole" "is_whole" (zr wO) (zp wO) (ze wO) .none kV9 dc9 pm9 an9 cd9 ct9),sl9⟩)
  (c9:kG K cd9 "is_whole" = true)
  (k9:kD K (.ref f9)=true)
  (a10:kn K mainGlobals "has_kind" = some (some (.ref f10)))
  (l10:K.lookup f10=some ⟨oc10,od10,.func (kJ "has_kind" "has_kind" (zr sHas) (zp sHas) (ze sHas) .none kV10 dc10 pm10 an10 cd10 ct10),sl10⟩)
  (c10:kG K cd10 "has_kind" = true)
  (k10:kD K (.ref f10)=true)
  (a11:kn K mainGlobals "is_branch" = some (some (.ref f11)))
  (l11:K.lookup f11=some ⟨oc11,od11,.func (kJ "is_branch" "is_branch" (zr sBr) (zp sBr) (ze sBr) .none kV11 dc11 pm11 an11 cd11 ct11),sl11⟩)
  (c11:kG K cd11 "is_branch" = true)
  (k11:kD K (.ref f11)=true)
  (a12:kn K mainGlobals "numbers_in" = some (some (.ref f12)))
  (l12:K.lookup f12=some ⟨oc12,od12,.func (kJ "numbers_in" "numbers_in" (zr sNum) (zp sNum) (ze sNum) .none kV12 dc12 pm12 an12 cd12 ct12),sl12⟩)
  (c12:kG K cd12 "numbers_in" = true)
  (k12:kD K (.ref f12)=true)
  (a13:kn K mainGlobals "is_tree" = some (some (.ref f13)))
  (l13:K.lookup f13=some ⟨oc13,od13,.func (kJ "is_tree" "is_tree" (zr jc) (zp jc) (ze jc) .none kV13 dc13 pm13 an13 cd13 ct13),sl13⟩)
  (c13:kG K cd13 "is_tree" = true)
  (k13:kD K (.ref f13)=true)
  (a14:kn K mainGlobals "refuse_no_tree" = some (some (.ref f14)))
  (l14:K.lookup f14=some ⟨oc14,od14,.func (kJ "refuse_no_tree" "refuse_no_tree" (zr jd) (zp jd) (ze jd) .none kV14 dc14 pm14 an14 cd14 ct14),sl14⟩)
  (c14:kG K cd14 "refuse_no_tree" = true)
  (k14:kD K (.ref f14)=true)
  (a15:kn K mainGlobals "boxes_of" = some (some (.ref f15)))
  (l15:K.lookup f15=some ⟨oc15,od15,.func (kJ "boxes_of" "boxes_of" (zr wP) (zp wP) (ze wP) .none kV15 dc15 pm15 an15 cd15 ct15),sl15⟩)
  (c15:kG K cd15 "boxes_of" = true)
  (k15:kD K (.ref f15)=true)
  (a16:kn K mainGlobals "is_text" = some (some (.ref f16)))
  (l16:K.lookup f16=some ⟨oc16,od16,.func (kJ "is_text" "is_text" (zr je) (zp je) (ze je) .none kV16 dc16 pm16 an16 cd16 ct16),sl16⟩)
  (c16:kG K cd16 "is_text" = true)
  (k16:kD K (.ref f16)=true)
  (a17:kn K mainGlobals "refuse_no_texts" = some (some (.ref f17)))
  (l17:K.lookup f17=some ⟨oc17,od17,.func (kJ "refuse_no_texts" "refuse_no_texts" (zr sRTx) (zp sRTx) (ze sRTx) .none kV17 dc17 pm17 an17 cd17 ct17),sl17⟩)
  (c17:kG K cd17 "refuse_no_texts" = true)
  (k17:kD K (.ref f17)=true)
  (a18:kn K mainGlobals "side_by_side" = some (some (.ref f18)))
  (l18:K.lookup f18=some ⟨oc18,od18,.func (kJ "side_by_side" "side_by_side" (zr sSbs) (zp sSbs) (ze sSbs) .none kV18 dc18 pm18 an18 cd18 ct18),sl18⟩)
  (c18:kG K cd18 "side_by_side" = true)
  (k18:kD K (.ref f18)=true)
  (a19:kn K mainGlobals "all_side_by_side" = some (some (.ref f19)))
  (l19:K.lookup f19=some ⟨oc19,od19,.func (kJ "all_side_by_side" "all_side_by_side" (zr sAll) (zp sAll) (ze sAll) .none kV19 dc19 pm19 an19 cd19 ct19),sl19⟩)
  (c19:kG K cd19 "all_side_by_side" = true)
  (k19:kD K (.ref f19)=true)
  (a20:kn K mainGlobals "exchanged" = some (some (.ref f20)))
  (l20:K.lookup f20=some ⟨oc20,od20,.func (kJ "exchanged" "exchanged" (zr jf) (zp jf) (ze jf) .none kV20 dc20 pm20 an20 cd20 ct20),sl20⟩)
  (c20:kG K cd20 "exchanged" = true)
  (k20:kD K (.ref f20)=true)
  (a21:kn K mainGlobals "box_stairs" = some (some (.ref f21)))
  (l21:K.lookup f21=some ⟨oc21,od21,.func (kJ "box_stairs" "box_stairs" (zr sBst) (zp sBst) (ze sBst) .none kV21 dc21 pm21 an21 cd21 ct21),sl21⟩)
  (c21:kG K cd21 "box_stairs" = true)
  (k21:kD K (.ref f21)=true)
  (a22:kn K mainGlobals "stairs_of" = some (some (.ref f22)))
  (l22:K.lookup f22=some ⟨oc22,od22,.func (kJ "stairs_of" "stairs_of" (zr sSo) (zp sSo) (ze sSo) .none kV22 dc22 pm22 an22 cd22 ct22),sl22⟩)
  (c22:kG K cd22 "stairs_of" = true)
  (k22:kD K (.ref f22)=true)
  (a23:kn K mainGlobals "tree_stairs" = some (some (.ref f23)))
  (l23:K.lookup f23=some ⟨oc23,od23,.func (kJ "tree_stairs" "tree_stairs" (zr sTst) (zp sTst) (ze sTst) .none kV23 dc23 pm23 an23 cd23 ct23),sl23⟩)
  (c23:kG K cd23 "tree_stairs" = true)
  (k23:kD K (.ref f23)=true)
  (a24:kn K mainGlobals "lowest" = some (some (.ref f24)))
  (l24:K.lookup f24=some ⟨oc24,od24,.func (kJ "lowest" "lowest" (zr sLow) (zp sLow) (ze sLow) .none kV24 dc24 pm24 an24 cd24 ct24),sl24⟩)
  (c24:kG K cd24 "lowest" = true)
  (k24:kD K (.ref f24)=true)
  (a25:kn K mainGlobals "narrowest" = some (some (.ref f25)))
  (l25:K.lookup f25=some ⟨oc25,od25,.func (kJ "narrowest" "narrowest" (zr jg) (zp jg) (ze jg) .none kV25 dc25 pm25 an25 cd25 ct25),sl25⟩)
  (c25:kG K cd25 "narrowest" = true)
  (k25:kD K (.ref f25)=true)
  (a26:kn K mainGlobals "least_high" = some (some (.ref f26)))
  (l26:K.lookup f26=some ⟨oc26,od26,.func (kJ "least_high" "least_high" (zr sLh) (zp sLh) (ze sLh) .none kV26 dc26 pm26 an26 cd26 ct26),sl26⟩)
  (c26:kG K cd26 "least_high" = true)
  (k26:kD K (.ref f26)=true)
  (a27:kn K mainGlobals "edges" = some (some (.ref f27)))
  (l27:K.lookup f27=some ⟨oc27,od27,.func (kJ "edges" "edges" (zr wQ) (zp wQ) (ze wQ) .none kV27 dc27 pm27 an27 cd27 ct27),sl27⟩)
  (c27:kG K cd27 "edges" = true)
  (k27:kD K (.ref f27)=true)
  (a28:kn K mainGlobals "pieces_across" = some (some (.ref f28)))
  (l28:K.lookup f28=some ⟨oc28,od28,.func (kJ "pieces_across" "pieces_across" (zr sPa) (zp sPa) (ze sPa) .none kV28 dc28 pm28 an28 cd28 ct28),sl28⟩)
  (c28:kG K cd28 "pieces_across" = true)
  (k28:kD K (.ref f28)=true)
  (a29:kn K mainGlobals "pieces_down" = some (some (.ref f29)))
  (l29:K.lookup f29=some ⟨oc29,od29,.func (kJ "pieces_down" "pieces_down" (zr sPd) (zp sPd) (ze sPd) .none kV29 dc29 pm29 an29 cd29 ct29),sl29⟩)
  (c29:kG K cd29 "pieces_down" = true)
  (k29:kD K (.ref f29)=true)
  (a30:kn K mainGlobals "pieces_of" = some (some (.ref f30)))
  (l30:K.lookup f30=some ⟨oc30,od30,.func (kJ "pieces_of" "pieces_of" (zr sPo) (zp sPo) (ze sPo) .none kV30 dc30 pm30 an30 cd30 ct30),sl30⟩)
  (c30:kG K cd30 "pieces_of" = true)
  (k30:kD K (.ref f30)=true)
  (a31:kn K mainGlobals "set_in" = some (some (.ref f31)))
  (l31:K.lookup f31=some ⟨oc31,od31,.func (kJ "set_in" "set_in" (zr xN) (zp xN) (ze xN) .none kV31 dc31 pm31 an31 cd31 ct31),sl31⟩)
  (c31:kG K cd31 "set_in" = true)
  (k31:kD K (.ref f31)=true)
  (a32:kn K mainGlobals "height_in" = some (some (.ref f32)))
  (l32:K.lookup f32=some ⟨oc32,od32,.func (kJ "height_in" "height_in" (zr sHin) (zp sHin) (ze sHin) .none kV32 dc32 pm32 an32 cd32 ct32),sl32⟩)
  (c32:kG K cd32 "height_in" = true)
  (k32:kD K (.ref f32)=true)
  (a33:kn K mainGlobals "setting" = some (some (.ref f33)))
  (l33:K.lookup f33=some ⟨oc33,od33,.func (kJ "setting" "setting" (zr xF) (zp xF) (ze xF) .none kV33 dc33 pm33 an33 cd33 ct33),sl33⟩)
  (c33:kG K cd33 "setting" = true)
  (k33:kD K (.ref f33)=true)
  (a34:kn K mainGlobals "laid_over" = some (some (.ref f34)))
  (l34:K.lookup f34=some ⟨oc34,od34,.func (kJ "laid_over" "laid_over" (zr sLov) (zp sLov) (ze sLov) .none kV34 dc34 pm34 an34 cd34 ct34),sl34⟩)
  (c34:kG K cd34 "laid_over" = true)
  (k34:kD K (.ref f34)=true)
  (a35:kn K mainGlobals "printed" = some (some (.ref f35)))
  (l35:K.lookup f35=some ⟨oc35,od35,.func (kJ "printed" "printed" (zr sPrd) (zp sPrd) (ze sPrd) .none kV35 dc35 pm35 an35 cd35 ct35),sl35⟩)
  (c35:kG K cd35 "printed" = true)
  (k35:kD K (.ref f35)=true)
  (a36:kn K mainGlobals "is_printed" = some (some (.ref f36)))
  (l36:K.lookup f36=some ⟨oc36,od36,.func (kJ "is_printed" "is_printed" (zr sPrn) (zp sPrn) (ze sPrn) .none kV36 dc36 pm36 an36 cd36 ct36),sl36⟩)
  (c36:kG K cd36 "is_printed" = true)
  (k36:kD K (.ref f36)=true)
  (a37:kn K mainGlobals "words_of" = some (some (.ref f37)))
  (l37:K.lookup f37=some ⟨oc37,od37,.func (kJ "words_of" "words_of" (zr sWof) (zp sWof) (ze sWof) .none kV37 dc37 pm37 an37 cd37 ct37),sl37⟩)
  (c37:kG K cd37 "words_of" = true)
  (k37:kD K (.ref f37)=true)
  (a38:kn K mainGlobals "words_in" = some (some (.ref f38)))
  (l38:K.lookup f38=some ⟨oc38,od38,.func (kJ "words_in" "words_in" (zr sWin) (zp sWin) (ze sWin) .none kV38 dc38 pm38 an38 cd38 ct38),sl38⟩)
  (c38:kG K cd38 "words_in" = true)
  (k38:kD K (.ref f38)=true)
  (a39:kn K mainGlobals "_law_cell_at" = some (some (.ref f39)))
  (l39:K.lookup f39=some ⟨oc39,od39,.func (kJ "_law_cell_at" "_law_cell_at" (zr x8) (zp x8) (ze x8) .none kV39 dc39 pm39 an39 cd39 ct39),sl39⟩)
  (c39:kG K cd39 "_law_cell_at" = true)
  (k39:kD K (.ref f39)=true)
  (a40:kn K mainGlobals "_law_mixed" = some (some (.ref f40)))
  (l40:K.lookup f40=some ⟨oc40,od40,.func (kJ "_law_mixed" "_law_mixed" (zr wR) (zp wR) (ze wR) .none kV40 dc40 pm40 an40 cd40 ct40),sl40⟩)
  (c40:kG K cd40 "_law_mixed" = true)
  (k40:kD K (.ref f40)=true)
  (a41:kn K mainGlobals "_law_word" = some (some (.ref f41)))
  (l41:K.lookup f41=some ⟨oc41,od41,.func (kJ "_law_word" "_law_word" (zr sLw) (zp sLw) (ze sLw) .none kV41 dc41 pm41 an41 cd41 ct41),sl41⟩)
  (c41:kG K cd41 "_law_word" = true)
  (k41:kD K (.ref f41)=true)
  (a42:kn K mainGlobals "_law_split" = some (some (.ref f42)))
  (l42:K.lookup f42=some ⟨oc42,od42,.func (kJ "_law_split" "_law_split" (zr (top 71)) (zp (top 71)) (ze (top 71)) .none kV42 dc42 pm42 an42 cd42 ct42),sl42⟩)
  (c42:kG K cd42 "_law_split" = true)
  (k42:kD K (.ref f42)=true)
  (a43:kn K mainGlobals "_law_renamed" = some (some (.ref f43)))
  (l43:K.lookup f43=some ⟨oc43,od43,.func (kJ "_law_renamed" "_law_renamed" (zr (top 72)) (zp (top 72)) (ze (top 72)) .none kV43 dc43 pm43 an43 cd43 ct43),sl43⟩)
  (c43:kG K cd43 "_law_renamed" = true)
  (k43:kD K (.ref f43)=true)
  (a44:kn K mainGlobals "_law_grown" = some (some (.ref f44)))
  (l44:K.lookup f44=some ⟨oc44,od44,.func (kJ "_law_grown" "_law_grown" (zr (top 73)) (zp (top 73)) (ze (top 73)) .none kV44 dc44 pm44 an44 cd44 ct44),sl44⟩)
  (c44:kG K cd44 "_law_grown" = true)
  (k44:kD K (.ref f44)=true)
  (a45:kn K mainGlobals "_law_lines" = some (some (.ref f45)))
  (l45:K.lookup f45=some ⟨oc45,od45,.func (kJ "_law_lines" "_law_lines" (zr (top 74)) (zp (top 74)) (ze (top 74)) .none kV45 dc45 pm45 an45 cd45 ct45),sl45⟩)
  (c45:kG K cd45 "_law_lines" = true)
  (k45:kD K (.ref f45)=true)
  (a46:kn K mainGlobals "_law_beside" = some (some (.ref f46)))
  (l46:K.lookup f46=some ⟨oc46,od46,.func (kJ "_law_beside" "_law_beside" (zr (top 75)) (zp (top 75)) (ze (top 75)) .none kV46 dc46 pm46 an46 cd46 ct46),sl46⟩)
  (c46:kG K cd46 "_law_beside" = true)
  (k46:kD K (.ref f46)=true)
  (a47:kn K mainGlobals "_law_table" = some (some (.ref f47)))
  (l47:K.lookup f47=some ⟨oc47,od47,.func (kJ "_law_table" "_law_table" (zr (top 76)) (zp (top 76)) (ze (top 76)) .none kV47 dc47 pm47 an47 cd47 ct47),sl47⟩)
  (c47:kG K cd47 "_law_table" = true)
  (k47:kD K (.ref f47)=true)
  (a48:kn K mainGlobals "_law_fills" = some (some (.ref f48)))
  (l48:K.lookup f48=some ⟨oc48,od48,.func (kJ "_law_fills" "_law_fills" (zr (top 77)) (zp (top 77)) (ze (top 77)) .none kV48 dc48 pm48 an48 cd48 ct48),sl48⟩)
  (c48:kG K cd48 "_law_fills" = true)
  (k48:kD K (.ref f48)=true)
  (a49:kn K mainGlobals "_law_has_room" = some (some (.ref f49)))
  (l49:K.lookup f49=some ⟨oc49,od49,.func (kJ "_law_has_room" "_law_has_room" (zr (top 78)) (zp (top 78)) (ze (top 78)) .none kV49 dc49 pm49 an49 cd49 ct49),sl49⟩)
  (c49:kG K cd49 "_law_has_room" = true)
  (k49:kD K (.ref f49)=true)
  (a50:kn K mainGlobals "law" = some (some (.ref f50)))
  (l50:K.lookup f50=some ⟨oc50,od50,.func (kJ "law" "law" (zr sLaw) (zp sLaw) (ze sLaw) .none kV50 dc50 pm50 an50 cd50 ct50),sl50⟩)
  (c50:kG K cd50 "law" = true)
  (k50:kD K (.ref f50)=true)
  (C0m:kn K mainGlobals "PartError" = some (some (.ref C0)))
  (C1m:kn K mainGlobals "NoPlace" = some (some (.ref C1)))
  (C2m:kn K mainGlobals "NoTree" = some (some (.ref C2)))
  (C3m:kn K mainGlobals "NoTexts" = some (some (.ref C3)))
  (C4m:kn K mainGlobals "NoRoom" = some (some (.ref C4)))
  (z_len:kn K mainGlobals "len" = some none)
  (z_range:kn K mainGlobals "range" = some none)
  (z_min:kn K mainGlobals "min" = some none)
  (z_max:kn K mainGlobals "max" = some none)
  (z_sum:kn K mainGlobals "sum" = some none)
  (z_zip:kn K mainGlobals "zip" = some none)
  (z_isinstance:kn K mainGlobals "isinstance" = some none)
  (z_int:kn K mainGlobals "int" = some none)
  (z_bool:kn K mainGlobals "bool" = some none)
  (z_str:kn K mainGlobals "str" = some none)
  (z_tuple:kn K mainGlobals "tuple" = some none)
  (z_list:kn K mainGlobals "list" = some none)
  (z_all:kn K mainGlobals "all" = some none)
  (z_any:kn K mainGlobals "any" = some none)
  (z_ord:kn K mainGlobals "ord" = some none)
  (z_sorted:kn K mainGlobals "sorted" = some none)
  (z_reversed:kn K mainGlobals "reversed" = some none)
  (z_enumerate:kn K mainGlobals "enumerate" = some none)
  (g_LEFT_OUT:kn K mainGlobals "LEFT_OUT" = some (some (.int 37 t_LEFT_OUT)))
  (g_MOST_SIGNS:kn K mainGlobals "MOST_SIGNS" = some (some (.int 12 t_MOST_SIGNS)))
  (g_KIND:kn K mainGlobals "KIND" = some (some (.int 0 t_KIND)))
  (g_PARTS:kn K mainGlobals "PARTS" = some (some (.int 1 t_PARTS)))
  (g_MOST_BOXES:kn K mainGlobals "MOST_BOXES" = some (some (.int 24 t_MOST_BOXES)))
  (g_WIDE:kn K mainGlobals "WIDE" = some (some (.int 0 t_WIDE)))
  (g_HIGH:kn K mainGlobals "HIGH" = some (some (.int 1 t_HIGH)))
  (g_MOST_WORDS:kn K mainGlobals "MOST_WORDS" = some (some (.int 40 t_MOST_WORDS)))
  (g_LEFT:kn K mainGlobals "LEFT" = some (some (.int 0 t_LEFT)))
  (g_TOP:kn K mainGlobals "TOP" = some (some (.int 1 t_TOP)))
  (g_RIGHT:kn K mainGlobals "RIGHT" = some (some (.int 2 t_RIGHT)))
  (g_BELOW:kn K mainGlobals "BELOW" = some (some (.int 3 t_BELOW)))
  (g_MOST_WIDE:kn K mainGlobals "MOST_WIDE" = some (some (.int 400 t_MOST_WIDE)))
  (g_ACROSS:kn K mainGlobals "ACROSS" = some (some (.str "|" t_ACROSS)))
  (ex1:uz K C1 [.type "ValueError",.type "Exception",.type "BaseException",.type "object"] "ValueError.__new__" = true)
  (ex2:uz K C2 [.type "ValueError",.type "Exception",.type "BaseException",.type "object"] "ValueError.__new__" = true)
  (ex3:uz K C3 [.type "ValueError",.type "Exception",.type "BaseException",.type "object"] "ValueError.__new__" = true)
  (ex4:uz K C4 [.type "ValueError",.type "Exception",.type "BaseException",.type "object"] "ValueError.__new__" = true)
  (hKINDS:kn K mainGlobals "KINDS" = some (some (.ref kA)))
  (lkK:K.lookup kA=some ⟨.type "tuple",odK,.seq #[.str "|" tk1,.str "-" tk2] nK,slK⟩)
  (kt0:kC K (.type "NoneType") (.type "str")=some false)
  (kt1:kC K (.type "bool") (.type "str")=some false)
  (kt2:kC K (.type "int") (.type "str")=some false)
  (kt3:kC K (.type "list") (.type "str")=some false)
  (kt4:kC K (.type "tuple") (.type "str")=some false)
  (kt5:kC K (.type "dict") (.type "str")=some false)
  (kt6:kC K (.type "NoneType") (.type "list")=some false)
  (kt7:kC K (.type "str") (.type "list")=some false)
  (kt8:kC K (.type "int") (.type "list")=some false)
  (kt9:kC K (.type "tuple") (.type "list")=some false)
  (kt10:kC K (.type "dict") (.type "list")=some false)
  (q_int0:kC K (.type "NoneType") (.type "int")=some false)
  (q_int1:kC K (.type "bool") (.type "int")=some true)
  (q_int2:kC K (.type "int") (.type "int")=some true)
  (q_int3:kC K (.type "str") (.type "int")=some false)
  (q_int4:kC K (.type "tuple") (.type "int")=some false)
  (q_int5:kC K (.type "list") (.type "int")=some false)
  (q_int6:kC K (.type "dict") (.type "int")=some false)
  (q_bool0:kC K (.type "NoneType") (.type "bool")=some false)
  (q_bool1:kC K (.type "bool") (.type "bool")=some true)
  (q_bool2:kC K (.type "int") (.type "bool")=some false)
  (q_bool3:kC K (.type "str") (.type "bool")=some false)
  (q_bool4:kC K (.type "tuple") (.type "bool")=some false)
  (q_bool5:kC K (.type "list") (.type "bool")=some false)
  (q_bool6:kC K (.type "dict") (.type "bool")=some false)
  (q_str0:kC K (.type "NoneType") (.type "str")=some false)
  (q_str1:kC K (.type "bool") (.type "str")=some false)
  (q_str2:kC K (.type "int") (.type "str")=some false)
  (q_str3:kC K (.type "str") (.type "str")=some true)
  (q_str4:kC K (.type "tuple") (.type "str")=some false)
  (q_str5:kC K (.type "list") (.type "str")=some false)
  (q_str6:kC K (.type "dict") (.type "str")=some false)
  (q_tuple0:kC K (.type "NoneType") (.type "tuple")=some false)
  (q_tuple1:kC K (.type "bool") (.type "tuple")=some false)
  (q_tuple2:kC K (.type "int") (.type "tuple")=some false)
  (q_tuple3:kC K (.type "str") (.type "tuple")=some false)
  (q_tuple4:kC K (.type "tuple") (.type "tuple")=some true)
  (q_tuple5:kC K (.type "list") (.type "tuple")=some false)
  (q_tuple6:kC K (.type "dict") (.type "tuple")=some false)
  (kt11:kC K (.type "bool") (.type "list")=some false) :
  ∃ fd:FuncData,(∀ (s:Shared) (v:Value),BindsTo s fd ⟨[v],[]⟩ [("script",v)])/\∀ base:Heap,K.In base->base.Ns mainGlobals mg->FnOk l.prog w K mg base CX0 57 fa fd ["script"] (Qe K):=by
 have e:=hfa.symm.trans (ke X G a50)
 cases e
 have F0:=zC (st:=q9) l0 c0 k0
 have F1:=zC (st:=ja) l1 c1 k1
 have F2:=zC (st:=sAre) l2 c2 k2
 have F3:=zC (st:=x5) l3 c3 k3
 have F4:=zC (st:=wL) l4 c4 k4
 have F5:=zC (st:=wM) l5 c5 k5
 have F6:=zC (st:=jb) l6 c6 k6
 have F7:=zC (st:=wN) l7 c7 k7
 have F8:=zC (st:=x6) l8 c8 k8
 have F9:=zC (st:=wO) l9 c9 k9
 have F10:=zC (st:=sHas) l10 c10 k10
 have F11:=zC (st:=sBr) l11 c11 k11
 have F12:=zC (st:=sNum) l12 c12 k12
 have F13:=zC (st:=jc) l13 c13 k13
 have F14:=zC (st:=jd) l14 c14 k14
 have F15:=zC (st:=wP) l15 c15 k15
 have F16:=zC (st:=je) l16 c16 k16
 have F17:=zC (st:=sRTx) l17 c17 k17
 have F18:=zC (st:=sSbs) l18 c18 k18
 have F19:=zC (st:=sAll) l19 c19 k19
 have F20:=zC (st:=jf) l20 c20 k20
 have F21:=zC (st:=sBst) l21 c21 k21
 have F22:=zC (st:=sSo) l22 c22 k22
 have F23:=zC (st:=sTst) l23 c23 k23
 have F24:=zC (st:=sLow) l24 c24 k24
 have F25:=zC (st:=jg) l25 c25 k25
 have F26:=zC (st:=sLh) l26 c26 k26
 have F27:=zC (st:=wQ) l27 c27 k27
 have F28:=zC (st:=sPa) l28 c28 k28
 have F29:=zC (st:=sPd) l29 c29 k29
 have F30:=zC (st:=sPo) l30 c30 k30
 have F31:=zC (st:=xN) l31 c31 k31
 have F32:=zC (st:=sHin) l32 c32 k32
 have F33:=zC (st:=xF) l33 c33 k33
 have F34:=zC (st:=sLov) l34 c34 k34
 have F35:=zC (st:=sPrd) l35 c35 k35
 have F36:=zC (st:=sPrn) l36 c36 k36
 have F37:=zC (st:=sWof) l37 c37 k37
 have F38:=zC (st:=sWin) l38 c38 k38
 have F39:=zC (st:=x8) l39 c39 k39
 have F40:=zC (st:=wR) l40 c40 k40
 have F41:=zC (st:=sLw) l41 c41 k41
 have F42:=zC (st:=(top 71)) l42 c42 k42
 have F43:=zC (st:=(top 72)) l43 c43 k43
 have F44:=zC (st:=(top 73)) l44 c44 k44
 have F45:=zC (st:=(top 74)) l45 c45 k45
 have F46:=zC (st:=(top 75)) l46 c46 k46
 have F47:=zC (st:=(top 76)) l47 c47 k47
 have F48:=zC (st:=(top 77)) l48 c48 k48
 have F49:=zC (st:=(top 78)) l49 c49 k49
 have F50:=zC (st:=sLaw) l50 c50 k50
 have Z:Nm K mg:=⟨⟨_,ke X G g_LEFT_OUT⟩,⟨_,ke X G g_MOST_SIGNS⟩,(ki X G z_isinstance),(ki X G z_str),(ki X G z_list),(ki X G z_len),(ki X G z_all),(ki X G z_any),(ki X G z_ord),kt0,kt1,kt2,kt3,kt4,kt5,kt6,kt7,kt8,kt9,kt10,kt11⟩
 have Zt:Nt K mg kA:=⟨⟨_,ke X G g_KIND⟩,⟨_,ke X G g_PARTS⟩,⟨_,ke X G g_MOST_BOXES⟩,ke X G hKINDS,fun H=>.inr ⟨_,_,_,lkK,rfl,rfl,(show 2<=sizeLine by decide),.cons ⟨_,rfl⟩ (.cons ⟨_,rfl⟩ .nil)⟩,(ki X G z_isinstance),(ki X G z_int),(ki X G z_bool),(ki X G z_str),(ki X G z_tuple),(ki X G z_list),(ki X G z_len),(ki X G z_any),(ki X G z_sorted),(ki X G z_range),(fun t=>by cases t;exact q_int0;exact q_int1;exact q_int2;exact q_int3;exact q_int4;exact q_int5;exact q_int6),(fun t=>by cases t;exact q_bool0;exact q_bool1;exact q_bool2;exact q_bool3;exact q_bool4;exact q_bool5;exact q_bool6),(fun t=>by cases t;exact q_str0;exact q_str1;exact q_str2;exact q_str3;exact q_str4;exact q_str5;exact q_str6),(fun t=>by cases t;exact q_tuple0;exact q_tuple1;exact q_tuple2;exact q_tuple3;exact q_tuple4;exact q_tuple5;exact q_tuple6)⟩
 have Zs:Ns K mg:=⟨⟨_,ke X G g_WIDE⟩,⟨_,ke X G g_HIGH⟩,⟨_,ke X G g_MOST_WORDS⟩,⟨_,ke X G g_ACROSS⟩,(ki X G z_len),(ki X G z_isinstance),(ki X G z_list),(ki X G z_all),(ki X G z_max),(ki X G z_reversed),kt6,kt7,kt8,kt9,kt10,kt11⟩
 refine ⟨kJ "law" "law" (zr sLaw) (zp sLaw) (ze sLaw) .none kV50 dc50 pm50 an50 cd50 ct50,fun s v=>.of_eq rfl,fun base B _=>?_⟩
 have Y0:Callee l.prog w K mg base CX0 1 "is_sign" f0 _ ["sign"] Xg:=⟨zbm F0 Z,ke X G a0,k0,F0.binds fun _ _ _ _ _ _ us hl=>bl1 (p:=fun us=>bindArgs _ ⟨us,[]⟩=pure (kZ _ us)) hl fun _=>rfl⟩
 have Y1:Callee l.prog w K mg base CX0 2 "is_word" f1 _ ["thing"] Xh:=⟨zbn F1 Z Y0,ke X G a1,k1,F1.binds fun _ _ _ _ _ _ us hl=>bl1 (p:=fun us=>bindArgs _ ⟨us,[]⟩=pure (kZ _ us)) hl fun _=>rfl⟩
 have Y2:Callee l.prog w K mg base CX0 3 "are_words" f2 _ ["things"] Yv:=⟨zcy F2 Z Y1,ke X G a2,k2,F2.binds fun _ _ _ _ _ _ us hl=>bl1 (p:=fun us=>bindArgs _ ⟨us,[]⟩=pure (kZ _ us)) hl fun _=>rfl⟩
 have Y3:Callee l.prog w K mg base (CXE l.prog w) 4 "refuse_no_words" f3 _ ["things"] (qh C3):=⟨QT F3 ⟨ke X G C3m,ex3⟩ Y2,ke X G a3,k3,F3.binds fun _ _ _ _ _ _ us hl=>bl1 (p:=fun us=>bindArgs _ ⟨us,[]⟩=pure (kZ _ us)) hl fun _=>rfl⟩
 have Y4:Callee l.prog w K mg base CX0 1 "taken" f4 _ ["words","wide"] jh:=⟨J4 F4 (ki X G z_len),ke X G a4,k4,F4.binds fun _ _ _ _ _ _ us hl=>bl2 (p:=fun us=>bindArgs _ ⟨us,[]⟩=pure (kZ _ us)) hl fun _ _=>rfl⟩
 have Y5:Callee l.prog w K mg base (CXE l.prog w) 5 "lines" f5 _ ["words","wide"] (ZD C3):=⟨zat F5 Z Y3 Y4,ke X G a5,k5,F5.binds fun _ _ _ _ _ _ us hl=>bl2 (p:=fun us=>bindArgs _ ⟨us,[]⟩=pure (kZ _ us)) hl fun _ _=>rfl⟩
 have Y6:Callee l.prog w K mg base CX0 1 "with_next_word" f6 _ ["row","behind"] Xl:=⟨zbo F6 (ki X G z_len),ke X G a6,k6,F6.binds fun _ _ _ _ _ _ us hl=>bl2 (p:=fun us=>bindArgs _ ⟨us,[]⟩=pure (kZ _ us)) hl fun _ _=>rfl⟩
 have Y7:Callee l.prog w K mg base CX0 2 "next_width" f7 _ ["rows"] Xm:=⟨zbp F7 (ki X G z_min) (ki X G z_zip) Y6,ke X G a7,k7,F7.binds fun _ _ _ _ _ _ us hl=>bl1 (p:=fun us=>bindArgs _ ⟨us,[]⟩=pure (kZ _ us)) hl fun _=>rfl⟩
 have Y8:Callee l.prog w K mg base (CXE l.prog w) 5 "text_stairs" f8 _ ["words"] (jL C3):=⟨QU F8 (ki X G z_len) (ki X G z_max) Y3 Y4 Y7,ke X G a8,k8,F8.binds fun _ _ _ _ _ _ us hl=>bl1 (p:=fun us=>bindArgs _ ⟨us,[]⟩=pure (kZ _ us)) hl fun _=>rfl⟩
 have Y9:Callee l.prog w K mg base CX0 1 "is_whole" f9 _ ["thing"] xG:=⟨J7 F9 Zt,ke X G a9,k9,F9.binds fun _ _ _ _ _ _ us hl=>bl1 (p:=fun us=>bindArgs _ ⟨us,[]⟩=pure (kZ _ us)) hl fun _=>rfl⟩
 have Y10:Callee l.prog w K mg base CX0 1 "has_kind" f10 _ ["thing"] WR:=⟨zcC F10 Zt,ke X G a10,k10,F10.binds fun _ _ _ _ _ _ us hl=>bl1 (p:=fun us=>bindArgs _ ⟨us,[]⟩=pure (kZ _ us)) hl fun _=>rfl⟩
 have Y11:Callee l.prog w K mg base CX0 2 "is_branch" f11 _ ["thing"] spBr:=⟨zdu F11 Zt Y10,ke X G a11,k11,F11.binds fun _ _ _ _ _ _ us hl=>bl1 (p:=fun us=>bindArgs _ ⟨us,[]⟩=pure (kZ _ us)) hl fun _=>rfl⟩
 have Y12:Callee l.prog w K mg base CX0 4 "numbers_in" f12 _ ["thing"] Yw:=⟨zcE F12 Zt Y9 Y11,ke X G a12,k12,F12.binds fun _ _ _ _ _ _ us hl=>bl1 (p:=fun us=>bindArgs _ ⟨us,[]⟩=pure (kZ _ us)) hl fun _=>rfl⟩
 have Y13:Callee l.prog w K mg base CX0 5 "is_tree" f13 _ ["thing"] Xo:=⟨zbt F13 Zt Y12,ke X G a13,k13,F13.binds fun _ _ _ _ _ _ us hl=>bl1 (p:=fun us=>bindArgs _ ⟨us,[]⟩=pure (kZ _ us)) hl fun _=>rfl⟩
 have Y14:Callee l.prog w K mg base (CXE l.prog w) 6 "refuse_no_tree" f14 _ ["thing"] (Xp C2):=⟨zbv F14 ⟨ke X G C2m,ex2⟩ Y13,ke X G a14,k14,F14.binds fun _ _ _ _ _ _ us hl=>bl1 (p:=fun us=>bindArgs _ ⟨us,[]⟩=pure (kZ _ us)) hl fun _=>rfl⟩
 have Y15:Callee l.prog w K mg base (CXE l.prog w) 7 "boxes_of" f15 _ ["tree"] (ZH C2):=⟨zab F15 (ki X G z_len) Y14 Y12,ke X G a15,k15,F15.binds fun _ _ _ _ _ _ us hl=>bl1 (p:=fun us=>bindArgs _ ⟨us,[]⟩=pure (kZ _ us)) hl fun _=>rfl⟩
 have Y16:Callee l.prog w K mg base CX0 4 "is_text" f16 _ ["thing"] Xu:=⟨zbD F16 Zs Y2,ke X G a16,k16,F16.binds fun _ _ _ _ _ _ us hl=>bl1 (p:=fun us=>bindArgs _ ⟨us,[]⟩=pure (kZ _ us)) hl fun _=>rfl⟩
 have Y17:Callee l.prog w K mg base (CXE l.prog w) 8 "refuse_no_texts" f17 _ ["tree","texts"] (Yy C2 C3):=⟨zcJ F17 Zs ⟨ke X G C3m,ex3⟩ Y15 Y16,ke X G a17,k17,F17.binds fun _ _ _ _ _ _ us hl=>bl2 (p:=fun us=>bindArgs _ ⟨us,[]⟩=pure (kZ _ us)) hl fun _ _=>rfl⟩
 have Y18:Callee l.prog w K mg base CX0 1 "side_by_side" f18 _ ["one","other"] WT:=⟨zcK F18 Zs,ke X G a18,k18,F18.binds fun _ _ _ _ _ _ us hl=>bl2 (p:=fun us=>bindArgs _ ⟨us,[]⟩=pure (kZ _ us)) hl fun _ _=>rfl⟩
 have Y19:Callee l.prog w K mg base CX0 2 "all_side_by_side" f19 _ ["parts"] Yz:=⟨zcL F19 Y18,ke X G a19,k19,F19.binds fun _ _ _ _ _ _ us hl=>bl1 (p:=fun us=>bindArgs _ ⟨us,[]⟩=pure (kZ _ us)) hl fun _=>rfl⟩
 have Y20:Callee l.prog w K mg base CX0 1 "exchanged" f20 _ ["stairs"] Ze:=⟨zbE F20 Zs,ke X G a20,k20,F20.binds fun _ _ _ _ _ _ us hl=>bl1 (p:=fun us=>bindArgs _ ⟨us,[]⟩=pure (kZ _ us)) hl fun _=>rfl⟩
 have Y21:Callee l.prog w K mg base CX0 6 "box_stairs" f21 _ ["texts"] YA:=⟨zcN F21 Y8,ke X G a21,k21,F21.binds fun _ _ _ _ _ _ us hl=>bl1 (p:=fun us=>bindArgs _ ⟨us,[]⟩=pure (kZ _ us)) hl fun _=>rfl⟩
 have Y22:Callee l.prog w K mg base CX0 27 "stairs_of" f22 _ ["tree","boxes"] (spSo 24):=⟨zaU F22 ⟨_,ke X G g_KIND⟩ ⟨_,ke X G g_PARTS⟩ Zs Y9 Y19 Y20 (ke X G a22) k22 (F22.binds fun _ _ _ _ _ _ us hl=>bl2 (p:=fun us=>bindArgs _ ⟨us,[]⟩=pure (kZ _ us)) hl fun _ _=>rfl) 24,ke X G a22,k22,F22.binds fun _ _ _ _ _ _ us hl=>bl2 (p:=fun us=>bindArgs _ ⟨us,[]⟩=pure (kZ _ us)) hl fun _ _=>rfl⟩
 have Y23:Callee l.prog w K mg base (CXE l.prog w) 28 "tree_stairs" f23 _ ["tree","texts"] (WU C2 C3):=⟨zcQ F23 Y17 Y22 Y21,ke X G a23,k23,F23.binds fun _ _ _ _ _ _ us hl=>bl2 (p:=fun us=>bindArgs _ ⟨us,[]⟩=pure (kZ _ us)) hl fun _ _=>rfl⟩
 have Y24:Callee l.prog w K mg base CX0 1 "lowest" f24 _ ["stairs","wide"] YE:=⟨zcS F24 ⟨_,ke X G g_WIDE⟩ ⟨_,ke X G g_HIGH⟩ (ki X G z_min),ke X G a24,k24,F24.binds fun _ _ _ _ _ _ us hl=>bl2 (p:=fun us=>bindArgs _ ⟨us,[]⟩=pure (kZ _ us)) hl fun _ _=>rfl⟩
 have Y25:Callee l.prog w K mg base CX0 1 "narrowest" f25 _ ["stairs","high"] Xw:=⟨zbL F25 ⟨_,ke X G g_WIDE⟩ ⟨_,ke X G g_HIGH⟩ (ki X G z_min),ke X G a25,k25,F25.binds fun _ _ _ _ _ _ us hl=>bl2 (p:=fun us=>bindArgs _ ⟨us,[]⟩=pure (kZ _ us)) hl fun _ _=>rfl⟩
 have Y26:Callee l.prog w K mg base (CXE l.prog w) 29 "least_high" f26 _ ["tree","texts","wide"] (spLh C2 C3):=⟨zdB F26 Y23 Y24,ke X G a26,k26,F26.binds fun _ _ _ _ _ _ us hl=>bl3 (p:=fun us=>bindArgs _ ⟨us,[]⟩=pure (kZ _ us)) hl fun _ _ _=>rfl⟩
 have Y27:Callee l.prog w K mg base CX0 1 "edges" f27 _ ["first","last","lengths"] jm:=⟨zaj F27,ke X G a27,k27,F27.binds fun _ _ _ _ _ _ us hl=>bl3 (p:=fun us=>bindArgs _ ⟨us,[]⟩=pure (kZ _ us)) hl fun _ _ _=>rfl⟩
 have Y28:Callee l.prog w K mg base CX0 28 "pieces_across" f28 _ ["parts","stairs","piece"] spPa:=⟨zdD F28 ⟨_,ke X G g_LEFT⟩ ⟨_,ke X G g_TOP⟩ ⟨_,ke X G g_RIGHT⟩ ⟨_,ke X G g_BELOW⟩ (ki X G z_zip) Y25 Y22 Y27,ke X G a28,k28,F28.binds fun _ _ _ _ _ _ us hl=>bl3 (p:=fun us=>bindArgs _ ⟨us,[]⟩=pure (kZ _ us)) hl fun _ _ _=>rfl⟩
 have Y29:Callee l.prog w K mg base CX0 28 "pieces_down" f29 _ ["parts","stairs","piece"] spPd:=⟨zdE F29 ⟨_,ke X G g_LEFT⟩ ⟨_,ke X G g_TOP⟩ ⟨_,ke X G g_RIGHT⟩ ⟨_,ke X G g_BELOW⟩ (ki X G z_zip) Y24 Y22 Y27,ke X G a29,k29,F29.binds fun _ _ _ _ _ _ us hl=>bl3 (p:=fun us=>bindArgs _ ⟨us,[]⟩=pure (kZ _ us)) hl fun _ _ _=>rfl⟩
 have Y30:Callee l.prog w K mg base CX0 29 "pieces_of" f30 _ ["tree","stairs","piece"] spPo:=⟨zdF F30 ⟨_,ke X G g_KIND⟩ ⟨_,ke X G g_PARTS⟩ Zs Y28 Y29,ke X G a30,k30,F30.binds fun _ _ _ _ _ _ us hl=>bl3 (p:=fun us=>bindArgs _ ⟨us,[]⟩=pure (kZ _ us)) hl fun _ _ _=>rfl⟩
 have Y31:Callee l.prog w K mg base CX0 54 "set_in" f31 _ ["tree","stairs","piece"] (jn 24):=⟨Jf F31 ⟨_,ke X G g_PARTS⟩ (ki X G z_zip) Y9 Y30 (ke X G a31) k31 (F31.binds fun _ _ _ _ _ _ us hl=>bl3 (p:=fun us=>bindArgs _ ⟨us,[]⟩=pure (kZ _ us)) hl fun _ _ _=>rfl) 24,ke X G a31,k31,F31.binds fun _ _ _ _ _ _ us hl=>bl3 (p:=fun us=>bindArgs _ ⟨us,[]⟩=pure (kZ _ us)) hl fun _ _ _=>rfl⟩
 have Y32:Callee l.prog w K mg base (CXE l.prog w) 30 "height_in" f32 _ ["tree","texts","wide"] (YF C2 C3 C4):=⟨zcU F32 ⟨ke X G C4m,ex4⟩ Y26,ke X G a32,k32,F32.binds fun _ _ _ _ _ _ us hl=>bl3 (p:=fun us=>bindArgs _ ⟨us,[]⟩=pure (kZ _ us)) hl fun _ _ _=>rfl⟩
 have Y33:Callee l.prog w K mg base (CXE l.prog w) 55 "setting" f33 _ ["tree","texts","wide","high"] (Zh C2 C3 C4):=⟨zbP F33 ⟨ke X G C4m,ex4⟩ (ki X G z_sorted) Y32 Y31 Y21,ke X G a33,k33,F33.binds fun _ _ _ _ _ _ us hl=>bl4 (p:=fun us=>bindArgs _ ⟨us,[]⟩=pure (kZ _ us)) hl fun _ _ _ _=>rfl⟩
 have Y34:Callee l.prog w K mg base CX0 1 "laid_over" f34 _ ["row","line","left"] W5:=⟨zcY F34 (ki X G z_len),ke X G a34,k34,F34.binds fun _ _ _ _ _ _ us hl=>bl3 (p:=fun us=>bindArgs _ ⟨us,[]⟩=pure (kZ _ us)) hl fun _ _ _=>rfl⟩
 have Y35:Callee l.prog w K mg base (CXE l.prog w) 56 "printed" f35 _ ["tree","texts","wide"] (W6 C2 C3 C4):=⟨zcZ F35 ⟨ke X G C4m,ex4⟩ ⟨_,ke X G g_MOST_WIDE⟩ ⟨_,ke X G g_LEFT⟩ ⟨_,ke X G g_TOP⟩ ⟨_,ke X G g_RIGHT⟩ (ki X G z_zip) (ki X G z_enumerate) Y17 Y32 Y33 Y5 Y34,ke X G a35,k35,F35.binds fun _ _ _ _ _ _ us hl=>bl3 (p:=fun us=>bindArgs _ ⟨us,[]⟩=pure (kZ _ us)) hl fun _ _ _=>rfl⟩
 have Y36:Callee l.prog w K mg base CX0 1 "is_printed" f36 _ ["rows","box"] W7:=⟨zc1 F36 ⟨⟨_,ke X G g_LEFT⟩,⟨_,ke X G g_TOP⟩,⟨_,ke X G g_RIGHT⟩,⟨_,ke X G g_BELOW⟩,(ki X G z_len),(ki X G z_all)⟩,ke X G a36,k36,F36.binds fun _ _ _ _ _ _ us hl=>bl2 (p:=fun us=>bindArgs _ ⟨us,[]⟩=pure (kZ _ us)) hl fun _ _=>rfl⟩
 have Y37:Callee l.prog w K mg base CX0 1 "words_of" f37 _ ["rows","box"] W8:=⟨zc2 F37 ⟨⟨_,ke X G g_LEFT⟩,⟨_,ke X G g_TOP⟩,⟨_,ke X G g_RIGHT⟩,⟨_,ke X G g_BELOW⟩,(ki X G z_len),(ki X G z_all)⟩,ke X G a37,k37,F37.binds fun _ _ _ _ _ _ us hl=>bl2 (p:=fun us=>bindArgs _ ⟨us,[]⟩=pure (kZ _ us)) hl fun _ _=>rfl⟩
 have Y38:Callee l.prog w K mg base (CXE l.prog w) 3 "words_in" f38 _ ["rows","boxes"] (W9 C1):=⟨zc3 F38 ⟨⟨_,ke X G g_LEFT⟩,⟨_,ke X G g_TOP⟩,⟨_,ke X G g_RIGHT⟩,⟨_,ke X G g_BELOW⟩,(ki X G z_len),(ki X G z_all)⟩ ⟨ke X G C1m,ex1⟩ Y36 Y37,ke X G a38,k38,F38.binds fun _ _ _ _ _ _ us hl=>bl2 (p:=fun us=>bindArgs _ ⟨us,[]⟩=pure (kZ _ us)) hl fun _ _=>rfl⟩
 have Y39:Callee l.prog w K mg base CX0 1 "_law_cell_at" f39 _ ["script","k"] (jO K):=⟨Js F39 (ki X G z_len),ke X G a39,k39,F39.binds fun _ _ _ _ _ _ us hl=>bl2 (p:=fun us=>bindArgs _ ⟨us,[]⟩=pure (kZ _ us)) hl fun _ _=>rfl⟩
 have Y40:Callee l.prog w K mg base CX0 1 "_law_mixed" f40 _ ["cell","k"] wW:=⟨zay F40,ke X G a40,k40,F40.binds fun _ _ _ _ _ _ us hl=>bl2 (p:=fun us=>bindArgs _ ⟨us,[]⟩=pure (kZ _ us)) hl fun _ _=>rfl⟩
 have Y41:Callee l.prog w K mg base CX0 2 "_law_word" f41 _ ["cell"] XN:=⟨zbW F41 (ki X G z_range) Y40,ke X G a41,k41,F41.binds fun _ _ _ _ _ _ us hl=>bl1 (p:=fun us=>bindArgs _ ⟨us,[]⟩=pure (kZ _ us)) hl fun _=>rfl⟩
 have Y42:Callee l.prog w K mg base CX0 25 "_law_split" f42 _ ["tree","at","kind","many","first"] (jo 24):=⟨Jt F42 Zt (ke X G a42) k42 (F42.binds fun _ _ _ _ _ _ us hl=>bl5 (p:=fun us=>bindArgs _ ⟨us,[]⟩=pure (kZ _ us)) hl fun _ _ _ _ _=>rfl) 24,ke X G a42,k42,F42.binds fun _ _ _ _ _ _ us hl=>bl5 (p:=fun us=>bindArgs _ ⟨us,[]⟩=pure (kZ _ us)) hl fun _ _ _ _ _=>rfl⟩
 have Y43:Callee l.prog w K mg base CX0 25 "_law_renamed" f43 _ ["tree","names"] (jp 24):=⟨Ju F43 Zt (ke X G a43) k43 (F43.binds fun _ _ _ _ _ _ us hl=>bl2 (p:=fun us=>bindArgs _ ⟨us,[]⟩=pure (kZ _ us)) hl fun _ _=>rfl) 24,ke X G a43,k43,F43.binds fun _ _ _ _ _ _ us hl=>bl2 (p:=fun us=>bindArgs _ ⟨us,[]⟩=pure (kZ _ us)) hl fun _ _=>rfl⟩
 have Y44:Callee l.prog w K mg base CX0 26 "_law_grown" f44 _ ["cells","head"] (ZQ K):=⟨zaB F44 (ki X G z_len) (ki X G z_range) (ki X G z_list) Y40 Y42 Y41 Y43,ke X G a44,k44,F44.binds fun _ _ _ _ _ _ us hl=>bl2 (p:=fun us=>bindArgs _ ⟨us,[]⟩=pure (kZ _ us)) hl fun _ _=>rfl⟩
 have Y45:Callee l.prog w K mg base CX0 1 "_law_lines" f45 _ ["words","wide"] wU:=⟨zc6 F45 (ki X G z_len),ke X G a45,k45,F45.binds fun _ _ _ _ _ _ us hl=>bl2 (p:=fun us=>bindArgs _ ⟨us,[]⟩=pure (kZ _ us)) hl fun _ _=>rfl⟩
 have Y46:Callee l.prog w K mg base CX0 1 "_law_beside" f46 _ ["one","other"] YG:=⟨zc7 F46 (ki X G z_len) (ki X G z_range) (ki X G z_max),ke X G a46,k46,F46.binds fun _ _ _ _ _ _ us hl=>bl2 (p:=fun us=>bindArgs _ ⟨us,[]⟩=pure (kZ _ us)) hl fun _ _=>rfl⟩
 have Y47:Callee l.prog w K mg base CX0 26 "_law_table" f47 _ ["tree","texts","most"] (jk 24):=⟨Jv F47 Zt (ki X G z_max) (ki X G z_zip) Y45 Y46 (ke X G a47) k47 (F47.binds fun _ _ _ _ _ _ us hl=>bl3 (p:=fun us=>bindArgs _ ⟨us,[]⟩=pure (kZ _ us)) hl fun _ _ _=>rfl) 24,ke X G a47,k47,F47.binds fun _ _ _ _ _ _ us hl=>bl3 (p:=fun us=>bindArgs _ ⟨us,[]⟩=pure (kZ _ us)) hl fun _ _ _=>rfl⟩
 have Y48:Callee l.prog w K mg base CX0 1 "_law_fills" f48 _ ["boxes","wide","high"] ZR:=⟨zaG F48 (ki X G z_len) (ki X G z_range),ke X G a48,k48,F48.binds fun _ _ _ _ _ _ us hl=>bl3 (p:=fun us=>bindArgs _ ⟨us,[]⟩=pure (kZ _ us)) hl fun _ _ _=>rfl⟩
 have Y49:Callee l.prog w K mg base CX0 2 "_law_has_room" f49 _ ["box","words"] XS:=⟨zb5 F49 (ki X G z_len) Y45,ke X G a49,k49,F49.binds fun _ _ _ _ _ _ us hl=>bl2 (p:=fun us=>bindArgs _ ⟨us,[]⟩=pure (kZ _ us)) hl fun _ _=>rfl⟩
 exact zdb F50 Zt (ki X G z_all) Y44 Y39 Y40 Y47 Y26 Y33 Y48 Y49 Y35 Y38
end _JJ
theorem PySem.W.Fast.tw17699411145438388106:True:=True.intro
theorem PySem.W.Fast.te12148502424929602462:True:=True.intro
theorem PySem.W.Fast.tw8172748601890956515:True:=True.intro
theorem PySem.W.Fast.tw7052842577625275063:True:=True.intro
theorem PySem.W.Fast.tw4196962793567896507:True:=True.intro
theorem PySem.W.Fast.tw14726014918108028065:True:=True.intro
theorem PySem.W.Fast.tw16539153416073604172:True:=True.intro
theorem PySem.W.Fast.tw3335648281738524807:True:=True.intro
theorem PySem.W.Fast.tw14451620427954989494:True:=True.intro
theorem PySem.W.Fast.tw12245911619634977984:True:=True.intro
theorem PySem.W.Fast.tw17167313367271681344:True:=True.intro
theorem PySem.W.Fast.tw10878268466959991833:True:=True.intro
theorem PySem.W.Fast.tw10173140776149322771:True:=True.intro
theorem PySem.W.Fast.tw181499033032068563:True:=True.intro
theorem PySem.W.Fast.tw10411701788537363729:True:=True.intro
theorem PySem.W.Fast.tw16183155390242583485:True:=True.intro
theorem PySem.W.Fast.tw17087830799291091832:True:=True.intro
theorem PySem.W.Fast.tw5094076008599068257:True:=True.intro
theorem PySem.W.Fast.tw3355672207376971765:True:=True.intro
theorem PySem.W.Fast.tw12754919470268828320:True:=True.intro
theorem PySem.W.Fast.tw6571649643966218593:True:=True.intro
theorem PySem.W.Fast.tw13556571000750696555:True:=True.intro
theorem PySem.W.Fast.tw1704137225949605187:True:=True.intro
theorem PySem.W.Fast.tw15370091786075156904:True:=True.intro
theorem PySem.W.Fast.tw16603205572203810091:True:=True.intro
theorem PySem.W.Fast.tw5652450566808412698:True:=True.intro
theorem PySem.W.Fast.tw17995114618299563679:True:=True.intro
theorem PySem.W.Fast.tw17910431007002234914:True:=True.intro
theorem PySem.W.Fast.tw15904601067096195309:True:=True.intro
theorem PySem.W.Fast.tw9623872951350391268:True:=True.intro
theorem PySem.W.Fast.tw15219481895753769238:True:=True.intro
theorem PySem.W.Fast.tw3154783548957858096:True:=True.intro
theorem PySem.W.Fast.tw17810489656341576499:True:=True.intro
theorem PySem.W.Fast.tw18090474199320849037:True:=True.intro
theorem PySem.W.Fast.tw5626280049244334703:True:=True.intro
theorem PySem.W.Fast.tw4444710868104904332:True:=True.intro
theorem PySem.W.Fast.tw935114600262823390:True:=True.intro
theorem PySem.W.Fast.tw9443314887642512770:True:=True.intro
theorem PySem.W.Fast.tw5605856224232722124:True:=True.intro
theorem PySem.W.Fast.tw10457004438039895789:True:=True.intro
theorem PySem.W.Fast.tw14561087564362520785:True:=True.intro
theorem PySem.W.Fast.tw16020640164078567890:True:=True.intro
theorem PySem.W.Fast.tw15240780895703963315:True:=True.intro
theorem PySem.W.Fast.tw12686647696504606978:True:=True.intro
theorem PySem.W.Fast.tw14108361916429095169:True:=True.intro
theorem PySem.W.Fast.tw13009432902306018277:True:=True.intro
theorem PySem.W.Fast.tw7884266378968692634:True:=True.intro
theorem PySem.W.Fast.tw18136312838017469869:True:=True.intro
theorem PySem.W.Fast.tw10681542429072072790:True:=True.intro
theorem PySem.W.Fast.tw298070979278708160:True:=True.intro
theorem PySem.W.Fast.tw337032834271026603:True:=True.intro
theorem PySem.W.Fast.tw706403447694269089:True:=True.intro
theorem PySem.W.Fast.tw1789382432329330226:True:=True.intro
theorem PySem.W.Fast.tw8230643337491128085:True:=True.intro
theorem PySem.W.Fast.tw8878081931368813114:True:=True.intro
theorem PySem.W.Fast.tw5218257865052894427:True:=True.intro
theorem PySem.W.Fast.tw3518465626382814121:True:=True.intro
theorem PySem.W.Fast.tw18137341386847307249:True:=True.intro
theorem PySem.W.Fast.tw8924007135480308677:True:=True.intro
theorem PySem.W.Fast.tw13388937598687499397:True:=True.intro
theorem PySem.W.Fast.tw7654838107538727747:True:=True.intro
theorem PySem.W.Fast.tw15419442812060406706:True:=True.intro
theorem PySem.W.Fast.tw5411640467592240821:True:=True.intro
theorem PySem.W.Fast.tw15925080269367397049:True:=True.intro
theorem PySem.W.Fast.tw13076177376396298552:True:=True.intro
theorem PySem.W.Fast.tw9311383251303353678:True:=True.intro
theorem PySem.W.Fast.tw13566933988557118027:True:=True.intro
theorem PySem.W.Fast.tw2256297555360869086:True:=True.intro
theorem PySem.W.Fast.tw7913260321962597956:True:=True.intro
theorem PySem.W.Fast.tw11884669177149816776:True:=True.intro
theorem PySem.W.Fast.tw13613421151369760674:True:=True.intro
theorem PySem.W.Fast.tw14857562717089104732:True:=True.intro
theorem PySem.W.Fast.tw14647200050426239141:True:=True.intro
theorem PySem.W.Fast.tw2998897081120777153:True:=True.intro
theorem PySem.W.Fast.tw17381181336080804383:True:=True.intro
theorem PySem.W.Fast.tw1085824014575787437:True:=True.intro
theorem PySem.W.Fast.tw9915164008718387335:True:=True.intro
theorem PySem.W.Fast.tw13458986622931805790:True:=True.intro
theorem PySem.W.Fast.tw10507978523862197847:True:=True.intro
theorem PySem.W.Fast.tw6407788546998427227:True:=True.intro
theorem PySem.W.Fast.tw6596693045796621213:True:=True.intro
theorem PySem.W.Fast.tw7038241659694808979:True:=True.intro
theorem PySem.W.Fast.tw18010949133283369140:True:=True.intro
theorem PySem.W.Fast.tw10144214771611219562:True:=True.intro
theorem PySem.W.Fast.tw9475665588732900694:True:=True.intro
theorem PySem.W.Fast.tw10356281232357653499:True:=True.intro
theorem PySem.W.Fast.tw1084530350846143797:True:=True.intro
theorem PySem.W.Fast.tw18392224426473786437:True:=True.intro
theorem PySem.W.Fast.tw9125015945805338055:True:=True.intro
theorem PySem.W.Fast.tw11706688697618288204:True:=True.intro
theorem PySem.W.Fast.tw15544085599528152351:True:=True.intro
theorem PySem.W.Fast.tw10458718832008138336:True:=True.intro
theorem PySem.W.Fast.tw2114540244029067387:True:=True.intro
theorem PySem.W.Fast.tw2573989373897137166:True:=True.intro
theorem PySem.W.Fast.tw17439346014572040901:True:=True.intro
theorem PySem.W.Fast.tw8398010505103612988:True:=True.intro
theorem PySem.W.Fast.tw8450022403779035930:True:=True.intro
theorem PySem.W.Fast.tw8442965012840020196:True:=True.intro
theorem PySem.W.Fast.tw4916953483048345815:True:=True.intro
theorem PySem.W.Fast.tw9388199086357656371:True:=True.intro
theorem PySem.W.Fast.tw17487205266979557894:True:=True.intro
theorem PySem.W.Fast.tw15907946762621502897:True:=True.intro
theorem PySem.W.Fast.tw13167717900360361714:True:=True.intro
theorem PySem.W.Fast.tw17692960617178429426:True:=True.intro
theorem PySem.W.Fast.tw17901661649491566911:True:=True.intro
theorem PySem.W.Fast.tw8136038159946562980:True:=True.intro
theorem PySem.W.Fast.tw8830566288729767846:True:=True.intro
theorem PySem.W.Fast.tw3201189497652366966:True:=True.intro
theorem PySem.W.Fast.tw1323170532996692307:True:=True.intro
theorem PySem.W.Fast.tw11664809379433108740:True:=True.intro
theorem PySem.W.Fast.tw2395120067314391161:True:=True.intro
theorem PySem.W.Fast.tw4599975766778628770:True:=True.intro
theorem PySem.W.Fast.tw15248542970700369571:True:=True.intro
theorem PySem.W.Fast.tw8587456983887158337:True:=True.intro
theorem PySem.W.Fast.tw10391748415865084634:True:=True.intro
theorem PySem.W.Fast.tw8931008705097858367:True:=True.intro
theorem PySem.W.Fast.tw1525711031950308247:True:=True.intro
theorem PySem.W.Fast.tw3940023613376122421:True:=True.intro
theorem PySem.W.Fast.tw4215667297439698352:True:=True.intro
theorem PySem.W.Fast.tw15209744816740772814:True:=True.intro
theorem PySem.W.Fast.tw3719662558618849304:True:=True.intro
theorem PySem.W.Fast.tw3894487561300820809:True:=True.intro
theorem PySem.W.Fast.tw16762397448338688952:True:=True.intro
theorem PySem.W.Fast.tw8693943508204410556:True:=True.intro
theorem PySem.W.Fast.tw17330346060618824905:True:=True.intro
theorem PySem.W.Fast.tw3904708257733037337:True:=True.intro
theorem PySem.W.Fast.tw10250823287984765839:True:=True.intro
theorem PySem.W.Fast.tw2777245817204073759:True:=True.intro
theorem PySem.W.Fast.tw17958892654515429066:True:=True.intro
theorem PySem.W.Fast.tw6387142416301006657:True:=True.intro
theorem PySem.W.Fast.tw8408414180874096027:True:=True.intro
theorem PySem.W.Fast.tw16663742189948525514:True:=True.intro
theorem PySem.W.Fast.tw5433875779841608334:True:=True.intro
theorem PySem.W.Fast.tw13690903053718391896:True:=True.intro
theorem PySem.W.Fast.tw5211404767079425542:True:=True.intro
theorem PySem.W.Fast.tw17434774184513503738:True:=True.intro
theorem PySem.W.Fast.tw3697427765433286834:True:=True.intro
theorem PySem.W.Fast.tw2880450492610282866:True:=True.intro
theorem PySem.W.Fast.tw14929137800670873925:True:=True.intro
theorem PySem.W.Fast.tw12418430849014786949:True:=True.intro
theorem PySem.W.Fast.tw18112282817029943089:True:=True.intro
theorem PySem.W.Fast.tw2506132946352171763:True:=True.intro
theorem PySem.W.Fast.tw13754209141346011725:True:=True.intro
theorem PySem.W.Fast.tw3769992781496375040:True:=True.intro
theorem PySem.W.Fast.tw1154815800742915335:True:=True.intro
theorem PySem.W.Fast.tw13112694374068612887:True:=True.intro
theorem PySem.W.Fast.tw3461290958043988271:True:=True.intro
theorem PySem.W.Fast.tw4482287018117052782:True:=True.intro
theorem PySem.W.Fast.tw2870061166079827587:True:=True.intro
theorem PySem.W.Fast.tw11507891266893127346:True:=True.intro
theorem PySem.W.Fast.tw9172802807513205237:True:=True.intro
theorem PySem.W.Fast.tw15482451399356656787:True:=True.intro
theorem PySem.W.Fast.tw9038924677720849477:True:=True.intro
theorem PySem.W.Fast.tw9169598473293100511:True:=True.intro
theorem PySem.W.Fast.tw16419777505628517300:True:=True.intro
theorem PySem.W.Fast.tw4549188304520495526:True:=True.intro
theorem PySem.W.Fast.tw11295286551077192349:True:=True.intro
theorem PySem.W.Fast.tw2915349862998027329:True:=True.intro
theorem PySem.W.Fast.tw18281871505396751072:True:=True.intro
theorem PySem.W.Fast.tw17228284123406121007:True:=True.intro
theorem PySem.W.Fast.tw9914915433575251923:True:=True.intro
open PySem PySem.W PyProof.Rows
set_option maxRecDepth 100000 in
set_option maxHeartbeats 0 in
theorem PySem.Challenge.cw_pagepart_k81_whole_least_page_holds : PySem.Challenge.rw_pagepart_k81_whole_least_page.Holds := by
 w_on;o_law;k_head;(case hw=>w_witness2)
 k_fill
 refine _L2.JL (l:=PySem.Challenge.rw_pagepart_k81_whole_least_page) (n:=63) (k:=57) (x := "script") (CX:=_L2.CX0) (sp:=fun K=>_JJ.Qe K) rfl (by decide) rfl ⟨rfl,by decide,by decide⟩ (fun w h Y=>PySem.W.kIn_of Y) ?F (fun K H a ns hl hO hS=>⟨a,ns,rfl,hS,hl,fun _=>rfl⟩) fun _ _ _ _ z=>z
 case F =>
  intro w mg fa h KX G hmg
  refine' _root_._JJ.all_mk KX G hmg  ?a0 ?l0 ?c0 ?k0 ?a1 ?l1 ?c1 ?k1 ?a2 ?l2 ?c2 ?k2 ?a3 ?l3 ?c3 ?k3 ?a4 ?l4 ?c4 ?k4 ?a5 ?l5 ?c5 ?k5 ?a6 ?l6 ?c6 ?k6 ?a7 ?l7 ?c7 ?k7 ?a8 ?l8 ?c8 ?k8 ?a9 ?l9 ?c9 ?k9 ?a10 ?l10 ?c10 ?k10 ?a11 ?l11 ?c11 ?k11 ?a12 ?l12 ?c12 ?k12 ?a13 ?l13 ?c13 ?k13 ?a14 ?l14 ?c14 ?k14 ?a15 ?l15 ?c15 ?k15 ?a16 ?l16 ?c16 ?k16 ?a17 ?l17 ?c17 ?k17 ?a18 ?l18 ?c18 ?k18 ?a19 ?l19 ?c19 ?k19 ?a20 ?l20 ?c20 ?k20 ?a21 ?l21 ?c21 ?k21 ?a22 ?l22 ?c22 ?k22 ?a23 ?l23 ?c23 ?k23 ?a24 ?l24 ?c24 ?k24 ?a25 ?l25 ?c25 ?k25 ?a26 ?l26 ?c26 ?k26 ?a27 ?l27 ?c27 ?k27 ?a28 ?l28 ?c28 ?k28 ?a29 ?l29 ?c29 ?k29 ?a30 ?l30 ?c30 ?k30 ?a31 ?l31 ?c31 ?k31 ?a32 ?l32 ?c32 ?k32 ?a33 ?l33 ?c33 ?k33 ?a34 ?l34 ?c34 ?k34 ?a35 ?l35 ?c35 ?k35 ?a36 ?l36 ?c36 ?k36 ?a37 ?l37 ?c37 ?k37 ?a38 ?l38 ?c38 ?k38 ?a39 ?l39 ?c39 ?k39 ?a40 ?l40 ?c40 ?k40 ?a41 ?l41 ?c41 ?k41 ?a42 ?l42 ?c42 ?k42 ?a43 ?l43 ?c43 ?k43 ?a44 ?l44 ?c44 ?k44 ?a45 ?l45 ?c45 ?k45 ?a46 ?l46 ?c46 ?k46 ?a47 ?l47 ?c47 ?k47 ?a48 ?l48 ?c48 ?k48 ?a49 ?l49 ?c49 ?k49 ?a50 ?l50 ?c50 ?k50 ?C0m ?C1m ?C2m ?C3m ?C4m ?z_len ?z_range ?z_min ?z_max ?z_sum ?z_zip ?z_isinstance ?z_int ?z_bool ?z_str ?z_tuple ?z_list ?z_all ?z_any ?z_ord ?z_sorted ?z_reversed ?z_enumerate ?g_LEFT_OUT ?g_MOST_SIGNS ?g_KIND ?g_PARTS ?g_MOST_BOXES ?g_WIDE ?g_HIGH ?g_MOST_WORDS ?g_LEFT ?g_TOP ?g_RIGHT ?g_BELOW ?g_MOST_WIDE ?g_ACROSS ?ex1 ?ex2 ?ex3 ?ex4 ?hKINDS ?lkK ?kt0 ?kt1 ?kt2 ?kt3 ?kt4 ?kt5 ?kt6 ?kt7 ?kt8 ?kt9 ?kt10 ?q_int0 ?q_int1 ?q_int2 ?q_int3 ?q_int4 ?q_int5 ?q_int6 ?q_bool0 ?q_bool1 ?q_bool2 ?q_bool3 ?q_bool4 ?q_bool5 ?q_bool6 ?q_str0 ?q_str1 ?q_str2 ?q_str3 ?q_str4 ?q_str5 ?q_str6 ?q_tuple0 ?q_tuple1 ?q_tuple2 ?q_tuple3 ?q_tuple4 ?q_tuple5 ?q_tuple6 ?kt11
  (case a0=>k_is)
  (case l0=>k_is)
  (case c0=>k_is)
  (case k0=>k_is)
  (case a1=>k_is)
  (case l1=>k_is)
  (case c1=>k_is)
  (case k1=>k_is)
  (case a2=>k_is)
  (case l2=>k_is)
  (case c2=>k_is)
  (case k2=>k_is)
  (case a3=>k_is)
  (case l3=>k_is)
  (case c3=>k_is)
  (case k3=>k_is)
  (case a4=>k_is)
  (case l4=>k_is)
  (case c4=>k_is)
  (case k4=>k_is)
  (case a5=>k_is)
  (case l5=>k_is)
  (case c5=>k_is)
  (case k5=>k_is)
  (case a6=>k_is)
  (case l6=>k_is)
  (case c6=>k_is)
  (case k6=>k_is)
  (case a7=>k_is)
  (case l7=>k_is)
  (case c7=>k_is)
  (case k7=>k_is)
  (case a8=>k_is)
  (case l8=>k_is)
  (case c8=>k_is)
  (case k8=>k_is)
  (case a9=>k_is)
  (case l9=>k_is)
  (case c9=>k_is)
  (case k9=>k_is)
  (case a10=>k_is)
  (case l10=>k_is)
  (case c10=>k_is)
  (case k10=>k_is)
  (case a11=>k_is)
  (case l11=>k_is)
  (case c11=>k_is)
  (case k11=>k_is)
  (case a12=>k_is)
  (case l12=>k_is)
  (case c12=>k_is)
  (case k12=>k_is)
  (case a13=>k_is)
  (case l13=>k_is)
  (case c13=>k_is)
  (case k13=>k_is)
  (case a14=>k_is)
  (case l14=>k_is)
  (case c14=>k_is)
  (case k14=>k_is)
  (case a15=>k_is)
  (case l15=>k_is)
  (case c15=>k_is)
  (case k15=>k_is)
  (case a16=>k_is)
  (case l16=>k_is)
  (case c16=>k_is)
  (case k16=>k_is)
  (case a17=>k_is)
  (case l17=>k_is)
  (case c17=>k_is)
  (case k17=>k_is)
  (case a18=>k_is)
  (case l18=>k_is)
  (case c18=>k_is)
  (case k18=>k_is)
  (case a19=>k_is)
  (case l19=>k_is)
  (case c19=>k_is)
  (case k19=>k_is)
  (case a20=>k_is)
  (case l20=>k_is)
  (case c20=>k_is)
  (case k20=>k_is)
  (case a21=>k_is)
  (case l21=>k_is)
  (case c21=>k_is)
  (case k21=>k_is)
  (case a22=>k_is)
  (case l22=>k_is)
  (case c22=>k_is)
  (case k22=>k_is)
  (case a23=>k_is)
  (case l23=>k_is)
  (case c23=>k_is)
  (case k23=>k_is)
  (case a24=>k_is)
  (case l24=>k_is)
  (case c24=>k_is)
  (case k24=>k_is)
  (case a25=>k_is)
  (case l25=>k_is)
  (case c25=>k_is)
  (case k25=>k_is)
  (case a26=>k_is)
  (case l26=>k_is)
  (case c26=>k_is)
  (case k26=>k_is)
  (case a27=>k_is)
  (case l27=>k_is)
  (case c27=>k_is)
  (case k27=>k_is)
  (case a28=>k_is)
  (case l28=>k_is)
  (case c28=>k_is)
  (case k28=>k_is)
  (case a29=>k_is)
  (case l29=>k_is)
  (case c29=>k_is)
  (case k29=>k_is)
  (case a30=>k_is)
  (case l30=>k_is)
  (case c30=>k_is)
  (case k30=>k_is)
  (case a31=>k_is)
  (case l31=>k_is)
  (case c31=>k_is)
  (case k31=>k_is)
  (case a32=>k_is)
  (case l32=>k_is)
  (case c32=>k_is)
  (case k32=>k_is)
  (case a33=>k_is)
  (case l33=>k_is)
  (case c33=>k_is)
  (case k33=>k_is)
  (case a34=>k_is)
  (case l34=>k_is)
  (case c34=>k_is)
  (case k34=>k_is)
  (case a35=>k_is)
  (case l35=>k_is)
  (case c35=>k_is)
  (case k35=>k_is)
  (case a36=>k_is)
  (case l36=>k_is)
  (case c36=>k_is)
  (case k36=>k_is)
  (case a37=>k_is)
  (case l37=>k_is)
  (case c37=>k_is)
  (case k37=>k_is)
  (case a38=>k_is)
  (case l38=>k_is)
  (case c38=>k_is)
  (case k38=>k_is)
  (case a39=>k_is)
  (case l39=>k_is)
  (case c39=>k_is)
  (case k39=>k_is)
  (case a40=>k_is)
  (case l40=>k_is)
  (case c40=>k_is)
  (case k40=>k_is)
  (case a41=>k_is)
  (case l41=>k_is)
  (case c41=>k_is)
  (case k41=>k_is)
  (case a42=>k_is)
  (case l42=>k_is)
  (case c42=>k_is)
  (case k42=>k_is)
  (case a43=>k_is)
  (case l43=>k_is)
  (case c43=>k_is)
  (case k43=>k_is)
  (case a44=>k_is)
  (case l44=>k_is)
  (case c44=>k_is)
  (case k44=>k_is)
  (case a45=>k_is)
  (case l45=>k_is)
  (case c45=>k_is)
  (case k45=>k_is)
  (case a46=>k_is)
  (case l46=>k_is)
  (case c46=>k_is)
  (case k46=>k_is)
  (case a47=>k_is)
  (case l47=>k_is)
  (case c47=>k_is)
  (case k47=>k_is)
  (case a48=>k_is)
  (case l48=>k_is)
  (case c48=>k_is)
  (case k48=>k_is)
  (case a49=>k_is)
  (case l49=>k_is)
  (case c49=>k_is)
  (case k49=>k_is)
  (case a50=>k_is)
  (case l50=>k_is)
  (case c50=>k_is)
  (case k50=>k_is)
  (case C0m=>k_is)
  (case C1m=>k_is)
  (case C2m=>k_is)
  (case C3m=>k_is)
  (case C4m=>k_is)
  (case z_len=>k_is)
  (case z_range=>k_is)
  (case z_min=>k_is)
  (case z_max=>k_is)
  (case z_sum=>k_is)
  (case z_zip=>k_is)
  (case z_isinstance=>k_is)
  (case z_int=>k_is)
  (case z_bool=>k_is)
  (case z_str=>k_is)
  (case z_tuple=>k_is)
  (case z_list=>k_is)
  (case z_all=>k_is)
  (case z_any=>k_is)
  (case z_ord=>k_is)
  (case z_sorted=>k_is)
  (case z_reversed=>k_is)
  (case z_enumerate=>k_is)
  (case g_LEFT_OUT=>k_is)
  (case g_MOST_SIGNS=>k_is)
  (case g_KIND=>k_is)
  (case g_PARTS=>k_is)
  (case g_MOST_BOXES=>k_is)
  (case g_WIDE=>k_is)
  (case g_HIGH=>k_is)
  (case g_MOST_WORDS=>k_is)
  (case g_LEFT=>k_is)
  (case g_TOP=>k_is)
  (case g_RIGHT=>k_is)
  (case g_BELOW=>k_is)
  (case g_MOST_WIDE=>k_is)
  (case g_ACROSS=>k_is)
  (case ex1=>kernel_rfl)
  (case ex2=>kernel_rfl)
  (case ex3=>kernel_rfl)
  (case ex4=>kernel_rfl)
  (case hKINDS=>k_is)
  (case lkK=>k_is)
  (case kt0=>kernel_rfl)
  (case kt1=>kernel_rfl)
  (case kt2=>kernel_rfl)
  (case kt3=>kernel_rfl)
  (case kt4=>kernel_rfl)
  (case kt5=>kernel_rfl)
  (case kt6=>kernel_rfl)
  (case kt7=>kernel_rfl)
  (case kt8=>kernel_rfl)
  (case kt9=>kernel_rfl)
  (case kt10=>kernel_rfl)
  (case q_int0=>kernel_rfl)
  (case q_int1=>kernel_rfl)
  (case q_int2=>kernel_rfl)
  (case q_int3=>kernel_rfl)
  (case q_int4=>kernel_rfl)
  (case q_int5=>kernel_rfl)
  (case q_int6=>kernel_rfl)
  (case q_bool0=>kernel_rfl)
  (case q_bool1=>kernel_rfl)
  (case q_bool2=>kernel_rfl)
  (case q_bool3=>kernel_rfl)
  (case q_bool4=>kernel_rfl)
  (case q_bool5=>kernel_rfl)
  (case q_bool6=>kernel_rfl)
  (case q_str0=>kernel_rfl)
  (case q_str1=>kernel_rfl)
  (case q_str2=>kernel_rfl)
  (case q_str3=>kernel_rfl)
  (case q_str4=>kernel_rfl)
  (case q_str5=>kernel_rfl)
  (case q_str6=>kernel_rfl)
  (case q_tuple0=>kernel_rfl)
  (case q_tuple1=>kernel_rfl)
  (case q_tuple2=>kernel_rfl)
  (case q_tuple3=>kernel_rfl)
  (case q_tuple4=>kernel_rfl)
  (case q_tuple5=>kernel_rfl)
  (case q_tuple6=>kernel_rfl)
  (case kt11=>kernel_rfl)
#print axioms PySem.Challenge.cw_pagepart_k81_whole_least_page_holds
