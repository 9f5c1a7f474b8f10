import PyProof.Rows.All
import Wide.All
import OpenK.AllK
import Wide.FinOn
import Lean
import PyProof.EqAt
import PyProof.EqKinds
import PyProof.TupleCall
import PyProof.Draws
import PyProof.EnumMake
import PyProof.TupleIter
import PyProof.WalksMore
import PyProof.MinMaxWalk
import PyProof.SeqI3
import KE.KSortTup
import KE.KLam
import KE.KIsAll
import PyProof.Rows.CallKwBuiltin
import PyProof.SumWalk
import PyProof.CompFree
import PyProof.CompUse
import PyProof.ConsumeWalk
import PyProof.NeKinds
import PyProof.Rows.StrJoin2
import PyProof.Rows.SortShell
import PyProof.StrBlock2
import PyProof.StrWalks
import PyProof.FString5
import PyProof.ZipIter
import PyProof.Rows.StrSplitAre
import PyProof.StrLawsTight
import PyProof.SumWalkG
import KE.KRevIter
import PyProof.AutoSeq1
import PyProof.Rows.SortWalk
import PyProof.Rows.SeqMore
import PyProof.ListNew
import PyProof.CollectWalk
import PyProof.Conv_int_bool
import PySem.SetOps
import PyProof.Rows.SetFrom
import PyProof.Rows.FactsT2
import KE.KUnpack
import PySem.Challenge.RW_pagepart_k84_whole_page_of_a_setting
open List renaming getElem?_eq_getElem→kc,length_map→ke,getElem?_eq_some_iff→kf,mem_cons_self→kg,mem_cons_of_mem→kn,mem_singleton→kq,length_append→kt,size_toArray→ku,mem_of_getElem?→ky,take_append_getElem→kC,map_append→kF,length_cons→kG,take_length→kJ,mem_cons→kK,getElem?_map→kM,mem_append_right→kO,getD_eq_getElem?_getD→kP,length_take→kQ,range→kR,mem_map→kU,map_cons→kY,flatten_cons→k5,not_mem_nil→k6,mem_append→k7,sum_cons→va,replicate→ve,pairwise_cons→vf,mem_iff_getElem→vg,append_nil→vh,length_drop→vk,map_map→vm,length_singleton→vo,mem_range→vp,length_range→vq,getElem_mem→vv,length_replicate→vz,length_filter_le→vA,mem_filter→vD,pairwise_iff_getElem→vE,lookup_cons→vI,mem_append_left→vJ,take_append_drop→vK,flatten_append→vL,all_eq_true→vM,length_eq_zero_iff→vN,getElem?_eq_none→vY,dropLast_concat_getLast→vZ,replicate_succ'→v6,countP_cons→v7,append_assoc→ud,take_succ_cons→uf,nodup_cons→ug,nil_append→uh,getElem?_append_left→ui,getElem?_zip_eq_some→uj,foldl_append→uo,take_add_one→ur,filterMap_cons→uu,map_congr_left→uv,take_of_length_le→uy,flatten_nil→uz,getElem?_toArray→uA,drop_eq_getElem_cons→uB,length_zip→uC,toArray→uD,any_eq_true→uJ,drop_zero→uK,pairwise_singleton→uL,getElem_cons_drop→uS,perm_append_comm→uV,filter_congr→uW,flatMap_cons→uX,getElem?_append_right→uY,length_dropLast→uZ,mem_of_mem_take→u4,ext_getElem→u8,filter_cons→u9,getElem_map→ba,length_pos_iff→bc,map_drop→bh,length_erase_of_mem→bi,sum_append→bm,length_nil→bp,getElem_range→bu,map_id→bv,getElem?_cons_succ→bz,length_pos_of_mem→bB,mem_iff_getElem?→bD,dropLast_concat→bG,pairwise_append→bH,mem_erase_of_ne→bI,forIn_cons→bJ,length_reverse→bM,filter_eq_self→bN,lookup→bQ
open Nat renaming le_refl→km,le_trans→kw,zero_le→kN,ne_of_lt→vc,lt_of_lt_of_le→vd,succ_le_succ→vw,lt_of_le_of_lt→vC,le_of_lt→vF,lt_succ_of_lt→vG,lt_succ_self→vH,lt_irrefl→vP,le_succ→vV,le_of_lt_succ→ua,not_lt→uc,ne_of_gt→uw,succ_pos→ux,le_of_succ_le→uE,add_sub_cancel_left→uM,le_zero→uN,le_of_eq→uO,sub_le→uP,lt_of_le_of_ne→uQ,le_antisymm→uU,le_add_right→u5,zero_add→u6,le_max_right→u7,add_sub_cancel'→bb,not_lt_zero→bj,lt_or_eq_of_le→br,add_assoc→bF,le_max_left→bK
open PySem.W renaming mg_none_of→ko,mg_of→kE,nsIn→k9,fnOf→v8,kitOne→ue,keepIn→um,methodObj→bO
open Bool renaming false_ne_true→kH,and_eq_true→vi,eq_iff_iff→vn,false_eq_true→uR,or_eq_true→bn,not_eq_true'→bA,or_false→bE
open PySem renaming boot_len→kW,mem_of_lookup→uH
open Int renaming le_refl→kX,eq_ofNat_of_zero_le→vO,le_trans→vT,le_of_lt→vU,emod_lt_of_pos→vW,emod_nonneg→v5,toNat_natCast→v9,ofNat_le→uk,le_antisymm→ut,ofNat_lt→uT,natCast_add→bL,add_mul→bP
open Option renaming map_eq_some_iff→kZ,isSome_iff_exists→bf
open PyProof.Rows renaming boot_isinstance→k8,boot_tuple→vx,callWith_type1→vB,boot_all→vS,boot_list→vX,callWith_builtin1→uI,boot_any→bC
open PySem.F renaming plainAttrs_list→vj,slot_list_append→vQ,type_list_append→vR,slot_list_extend→uF,type_list_extend→uG
set_option Elab.async false
set_option linter.all false
set_option maxHeartbeats 4000000
set_option maxRecDepth 100000
section
variable {A B C D F I J L M N O Q R S T U:Type} {G:Prop}
theorem E_1 {p:A->Prop}:(∃ a,p a)->(∀ a,p a->G)->G:=by rintro ⟨a,h⟩ k;exact k a h
theorem E_2 {p:A->B->Prop}:(∃ a b,p a b)->(∀ a b,p a b->G)->G:=by rintro ⟨a,b,h⟩ k;exact k a b h
theorem E_3 {p:A->B->C->Prop}:(∃ a b c,p a b c)->(∀ a b c,p a b c->G)->G:=by rintro ⟨a,b,c,h⟩ k;exact k a b c h
theorem E_4 {p:A->B->C->D->Prop}:(∃ a b c d,p a b c d)->(∀ a b c d,p a b c d->G)->G:=by rintro ⟨a,b,c,d,h⟩ k;exact k a b c d h
theorem I_4 {p:A->B->C->D->Prop} (a:A) (b:B) (c:C) (d:D) (h:p a b c d):∃ a b c d,p a b c d:=⟨a,b,c,d,h⟩
theorem E_5 {p:A->B->C->D->F->Prop}:(∃ a b c d f,p a b c d f)->(∀ a b c d f,p a b c d f->G)->G:=by rintro ⟨a,b,c,d,f,h⟩ k;exact k a b c d f h
theorem I_5 {p:A->B->C->D->F->Prop} (a:A) (b:B) (c:C) (d:D) (f:F) (h:p a b c d f):∃ a b c d f,p a b c d f:=⟨a,b,c,d,f,h⟩
theorem E_6 {p:A->B->C->D->F->I->Prop}:(∃ a b c d f i,p a b c d f i)->(∀ a b c d f i,p a b c d f i->G)->G:=by rintro ⟨a,b,c,d,f,i,h⟩ k;exact k a b c d f i h
theorem I_6 {p:A->B->C->D->F->I->Prop} (a:A) (b:B) (c:C) (d:D) (f:F) (i:I) (h:p a b c d f i):∃ a b c d f i,p a b c d f i:=⟨a,b,c,d,f,i,h⟩
theorem E_7 {p:A->B->C->D->F->I->J->Prop}:(∃ a b c d f i j,p a b c d f i j)->(∀ a b c d f i j,p a b c d f i j->G)->G:=by rintro ⟨a,b,c,d,f,i,j,h⟩ k;exact k a b c d f i j h
theorem I_7 {p:A->B->C->D->F->I->J->Prop} (a:A) (b:B) (c:C) (d:D) (f:F) (i:I) (j:J) (h:p a b c d f i j):∃ a b c d f i j,p a b c d f i j:=⟨a,b,c,d,f,i,j,h⟩
theorem E_8 {p:A->B->C->D->F->I->J->L->Prop}:(∃ a b c d f i j l,p a b c d f i j l)->(∀ a b c d f i j l,p a b c d f i j l->G)->G:=by rintro ⟨a,b,c,d,f,i,j,l,h⟩ k;exact k a b c d f i j l h
theorem E_9 {p:A->B->C->D->F->I->J->L->M->Prop}:(∃ a b c d f i j l m,p a b c d f i j l m)->(∀ a b c d f i j l m,p a b c d f i j l m->G)->G:=by rintro ⟨a,b,c,d,f,i,j,l,m,h⟩ k;exact k a b c d f i j l m h
theorem I_9 {p:A->B->C->D->F->I->J->L->M->Prop} (a:A) (b:B) (c:C) (d:D) (f:F) (i:I) (j:J) (l:L) (m:M) (h:p a b c d f i j l m):∃ a b c d f i j l m,p a b c d f i j l m:=⟨a,b,c,d,f,i,j,l,m,h⟩
theorem E_10 {p:A->B->C->D->F->I->J->L->M->N->Prop}:(∃ a b c d f i j l m n,p a b c d f i j l m n)->(∀ a b c d f i j l m n,p a b c d f i j l m n->G)->G:=by rintro ⟨a,b,c,d,f,i,j,l,m,n,h⟩ k;exact k a b c d f i j l m n h
theorem I_10 {p:A->B->C->D->F->I->J->L->M->N->Prop} (a:A) (b:B) (c:C) (d:D) (f:F) (i:I) (j:J) (l:L) (m:M) (n:N) (h:p a b c d f i j l m n):∃ a b c d f i j l m n,p a b c d f i j l m n:=⟨a,b,c,d,f,i,j,l,m,n,h⟩
theorem E_11 {p:A->B->C->D->F->I->J->L->M->N->O->Prop}:(∃ a b c d f i j l m n o,p a b c d f i j l m n o)->(∀ a b c d f i j l m n o,p a b c d f i j l m n o->G)->G:=by rintro ⟨a,b,c,d,f,i,j,l,m,n,o,h⟩ k;exact k a b c d f i j l m n o h
theorem I_11 {p:A->B->C->D->F->I->J->L->M->N->O->Prop} (a:A) (b:B) (c:C) (d:D) (f:F) (i:I) (j:J) (l:L) (m:M) (n:N) (o:O) (h:p a b c d f i j l m n o):∃ a b c d f i j l m n o,p a b c d f i j l m n o:=⟨a,b,c,d,f,i,j,l,m,n,o,h⟩
theorem E_12 {p:A->B->C->D->F->I->J->L->M->N->O->Q->Prop}:(∃ a b c d f i j l m n o q,p a b c d f i j l m n o q)->(∀ a b c d f i j l m n o q,p a b c d f i j l m n o q->G)->G:=by rintro ⟨a,b,c,d,f,i,j,l,m,n,o,q,h⟩ k;exact k a b c d f i j l m n o q h
end
section
variable {A B C D F I J L M N O Q R S T U V W X Y Z A21 A22 A23 G:Prop}
theorem A_2:A/\B->(A->B->G)->G:=by rintro ⟨a,b⟩ k;exact k a b
theorem A_3:A/\B/\C->(A->B->C->G)->G:=by rintro ⟨a,b,c⟩ k;exact k a b c
theorem A_4:A/\B/\C/\D->(A->B->C->D->G)->G:=by rintro ⟨a,b,c,d⟩ k;exact k a b c d
theorem A_5:A/\B/\C/\D/\F->(A->B->C->D->F->G)->G:=by rintro ⟨a,b,c,d,f⟩ k;exact k a b c d f
theorem A_6:A/\B/\C/\D/\F/\I->(A->B->C->D->F->I->G)->G:=by rintro ⟨a,b,c,d,f,i⟩ k;exact k a b c d f i
theorem A_7:A/\B/\C/\D/\F/\I/\J->(A->B->C->D->F->I->J->G)->G:=by rintro ⟨a,b,c,d,f,i,j⟩ k;exact k a b c d f i j
theorem A_8:A/\B/\C/\D/\F/\I/\J/\L->(A->B->C->D->F->I->J->L->G)->G:=by rintro ⟨a,b,c,d,f,i,j,l⟩ k;exact k a b c d f i j l
theorem A_9:A/\B/\C/\D/\F/\I/\J/\L/\M->(A->B->C->D->F->I->J->L->M->G)->G:=by rintro ⟨a,b,c,d,f,i,j,l,m⟩ k;exact k a b c d f i j l m
theorem A_10:A/\B/\C/\D/\F/\I/\J/\L/\M/\N->(A->B->C->D->F->I->J->L->M->N->G)->G:=by rintro ⟨a,b,c,d,f,i,j,l,m,n⟩ k;exact k a b c d f i j l m n
theorem A_11:A/\B/\C/\D/\F/\I/\J/\L/\M/\N/\O->(A->B->C->D->F->I->J->L->M->N->O->G)->G:=by rintro ⟨a,b,c,d,f,i,j,l,m,n,o⟩ k;exact k a b c d f i j l m n o
theorem A_13:A/\B/\C/\D/\F/\I/\J/\L/\M/\N/\O/\Q/\R->(A->B->C->D->F->I->J->L->M->N->O->Q->R->G)->G:=by rintro ⟨a,b,c,d,f,i,j,l,m,n,o,q,r⟩ k;exact k a b c d f i j l m n o q r
theorem A_16:A/\B/\C/\D/\F/\I/\J/\L/\M/\N/\O/\Q/\R/\S/\T/\U->(A->B->C->D->F->I->J->L->M->N->O->Q->R->S->T->U->G)->G:=by rintro ⟨a,b,c,d,f,i,j,l,m,n,o,q,r,s,t,u⟩ k;exact k a b c d f i j l m n o q r s t u
end
local macro_rules|`(tactic|trivial)=>`(tactic|exact ⟨rfl,rfl,rfl,by decide +kernel,rfl,by decide +kernel,by decide +kernel⟩)
local macro_rules|`(())=>`(by lia)
local macro_rules|`(⋯)=>`(by decide)
local macro_rules|`(command|def $d:declId $s:optDeclSig $v:declVal)=>`(command|noncomputable def $d:declId $s:optDeclSig $v:declVal)
local macro_rules|`(command|abbrev $d:declId $s:optDeclSig $v:declVal)=>`(command|noncomputable abbrev $d:declId $s:optDeclSig $v:declVal)
namespace _L2
open PySem
theorem Zz0:0<=sizeLine:=⋯
theorem Zz1:1<=sizeLine:=⋯
theorem Zz2:2<=sizeLine:=⋯
theorem Zz3:3<=sizeLine:=⋯
theorem Zz4:4<=sizeLine:=⋯
end _L2
namespace _L2
open PySem PySem.Spec PyProof.Rows
abbrev Key:=Sum Int Str
def zcD:Key->Value->Bool
 |.inl k,v=>Value.isInt k v
 |.inr x,v=>Value.isStrOf x v
def keyH(w:World):Key->Int
 |.inl k=>hashInt k
 |.inr x=>hashStr w x
theorem yF:∀{k:Key}{v:Value},zcD k v=true->(∃i t,k=Sum.inl i/\v=Value.int i t)\/(∃x t,k=Sum.inr x/\v=Value.str x t)
 |.inl i,v,h=>by
  obtain⟨t,e⟩:=Value.isInt_shape (k:=i) (v:=v) h;exact .inl ⟨i,t,rfl,e⟩
 |.inr x,v,h=>by
  obtain⟨t,e⟩:=Value.isStrOf_shape (x:=x) (v:=v) h;exact .inr ⟨x,t,rfl,e⟩
theorem zet(a b:Int):decide ((Sum.inl a:Key)=Sum.inl b)=(a==b):=by
 by_cases e:a=b
 .subst e;simp
 .have h:¬(Sum.inl a:Key)=Sum.inl b:=λq=>e (Sum.inl.inj q);rw[decide_eq_false h];exact(beq_eq_false_iff_ne.mpr e).symm
theorem zeu(a b:Str):decide ((Sum.inr a:Key)=Sum.inr b)=decide (a=b):=by
 by_cases e:a=b
 .subst e;simp
 .have h:¬(Sum.inr a:Key)=Sum.inr b:=λq=>e (Sum.inr.inj q);rw[decide_eq_false h,decide_eq_false e]
theorem zev(a:Int)(b:Str):decide ((Sum.inl a:Key)=Sum.inr b)=false:=decide_eq_false (λq=>nomatch q)
theorem zew(a:Str)(b:Int):decide ((Sum.inr a:Key)=Sum.inl b)=false:=decide_eq_false (λq=>nomatch q)
def ZU(prog:Program)(w:World):PySem.KeyKind prog w Key where
 is:=zcD
 hash:=keyH w
 inj:=λv a b ha hb=>by
  rcases yF ha with⟨i,t,rfl,rfl⟩|⟨x,t,rfl,rfl⟩
  .rcases yF hb with⟨j,u,rfl,e⟩|⟨y,u,rfl,e⟩
   .injection e with e1 _;rw[e1]
   .exact nomatch e
  .rcases yF hb with⟨j,u,rfl,e⟩|⟨y,u,rfl,e⟩
   .exact nomatch e
   .injection e with e1 _;rw[e1]
 byValue:=λk v h=>by
  rcases yF h with⟨i,t,rfl,rfl⟩|⟨x,t,rfl,rfl⟩<;>rfl
 pyHash:=λhv h=>by
  rcases yF hv with⟨i,t,rfl,rfl⟩|⟨x,t,rfl,rfl⟩
  .exact wpAny_pyHash_int h
  .exact wpAny_pyHash_str h
 eqBool:=λhu hv h=>by
  rcases yF hu with⟨i,t,rfl,rfl⟩|⟨x,t,rfl,rfl⟩
  .rcases yF hv with⟨j,u,rfl,rfl⟩|⟨y,u,rfl,rfl⟩
   .rw[zet]at h;exact wpAny_eqBool_int h
   .rw[zev]at h;exact SeqAt.EqAt.int_str i t y u _ _ _ _ h
  .rcases yF hv with⟨j,u,rfl,rfl⟩|⟨y,u,rfl,rfl⟩
   .rw[zew]at h;exact SeqAt.EqAt.str_int x t j u _ _ _ _ h
   .rw[zeu]at h;exact wpAny_eqBool_str h
 «strs»:=λk x t v h=>by
  rcases yF h with⟨i,u,rfl,e⟩|⟨y,u,rfl,e⟩
  .exact nomatch e
  .injection e with e1 _;subst e1;cases v<;>rfl
inductive V where
 |non|bl (b:Bool)|int (i:Int)|str (x:Str)|byt (b:Array UInt8)|flt (b:UInt64)|ref (a:Addr)|ty (n:String)
 deriving DecidableEq
def RelV:V->Value->Prop
 |.non,u=>u=Value.none
 |.bl b,u=>u=Value.bool b
 |.int i,u=>∃t,u=Value.int i t
 |.str x,u=>∃t,u=Value.str x t
 |.byt b,u=>∃t,u=Value.bytes b t
 |.flt b,u=>∃t,u=Value.float b t
 |.ref a,u=>u=Value.ref a
 |.ty n,u=>u=Value.type n
abbrev Vals:List V->List Value->Prop:=Paired RelV
theorem Vals.length{xs:List V}{us:List Value}(r:Vals xs us):xs.length=us.length:=Paired.length r
theorem Vals.get:∀{xs:List V}{us:List Value}{i:Nat}{x:V},Vals xs us->xs[i]?=some x->∃u,us[i]?=some u/\RelV x u
 |_,_,_,_,.nil,e=>by simp at e
 |_,_,0,_,.cons r _,e=>by simp at e;subst e;exact⟨_,rfl,r⟩
 |_,_,i+1,x,.cons _ t,e=>by
  obtain⟨u,h1,h2⟩:=Vals.get (i:=i) (x:=x) t (by simpa using e);exact⟨u,by simpa using h1,h2⟩
theorem Vals.set{x:V}{u:Value}(r:RelV x u):∀{xs:List V}{us:List Value}(i:Nat),Vals xs us->Vals (xs.set i x) (us.set i u)
 |_,_,_,.nil=>.nil
 |_,_,0,.cons _ t=>.cons r t
 |_,_,i+1,.cons q t=>.cons q (Vals.set r i t)
theorem Vals.append:∀{xs ys:List V}{us ws:List Value},Vals xs us->Vals ys ws->Vals (xs++ys) (us++ws)
 |_,_,_,_,.nil,s=>s
 |_,_,_,_,.cons r t,s=>.cons r (Vals.append t s)
theorem Vals.take:∀{xs:List V}{us:List Value}(n:Nat),Vals xs us->Vals (xs.take n) (us.take n)
 |_,_,0,_=>.nil
 |_,_,_+1,.nil=>.nil
 |_,_,n+1,.cons r t=>.cons r (Vals.take n t)
theorem Vals.drop:∀{xs:List V}{us:List Value}(n:Nat),Vals xs us->Vals (xs.drop n) (us.drop n)
 |_,_,0,r=>r
 |_,_,_+1,.nil=>.nil
 |_,_,n+1,.cons _ t=>Vals.drop n t
def RelO:Option V->Option Value->Prop
 |some v,some u=>RelV v u
 |none,none=>True
 |_,_=>False
def KV{κ:Type}:List (κ×V)->List (κ×Value)->Prop:=Paired λ(p:κ×V)(q:κ×Value)=>p.1=q.1/\RelV p.2 q.2
def kV:Key->V
 |.inl i=>.int i
 |.inr x=>.str x
inductive HO where
  |lst(xs:List V)
  |tup(xs:List V)
  |dK(kvs:List (Key×V))|dT (kvs:List (List Key×V))
  |set(S:Int->Bool)(n:Nat)
  |ins(C dx:Addr)(fs:List (Str×V))
  |own(x:Addr)
  |xd(fs:List (Str×V))
  |met(f x:Addr)
  |rng(lo hi:Int)
  |frz(o:Obj)(u:HO)
  |tbl(ps:Array Value)
  |ext(φ:Heap->Prop)
abbrev Hp:=Addr->Option HO
def upd(H:Hp)(a:Addr)(o:HO):Hp:=λb=>if b=a then some o else H b
theorem zc{H:Hp}{a:Addr}{o:HO}:upd H a o a=some o:=by unfold upd;rw[if_pos rfl]
theorem zN{H:Hp}{a b:Addr}{o:HO}(h:b≠a):upd H a o b=H b:=by unfold upd;rw[if_neg h]
theorem qu{H:Hp}{a b:Addr}{o u:HO}(h:H a=some o)(h':H b=some u)(d:o≠u):a≠b:=by
 intro e;subst e;rw[h]at h';exact d (Option.some.inj h')
theorem yd{H:Hp}{a b:Addr}{o:HO}(h:H a=some o)(h':H b=none):a≠b:=by
 intro e;subst e;rw[h]at h';cases h'
section
variable(P:Program)(w:World)
def yq(H:Hp)(h:Heap)(a:Addr):HO->Prop
 |.lst xs=>xs.length<=sizeLine/\∃(its:List Value)(n:Nat),Vals xs its/\h.get? a=some {cls:=.type "list",data:=.seq its.toArray n}
 |.tup xs=>xs.length<=sizeLine/\∃its:List Value,Vals xs its/\IsTup h a its.toArray
 |.dK kvs=>kvs.length<=sizeLine/\(a==sysModules)=false/\∃vs,KV kvs vs/\h.DictOf (ZU P w) a vs
 |.dT kvs=>kvs.length<=sizeLine/\(a==sysModules)=false/\∃xs:List (List Key×Addr×Value),
   Paired (λ(p:List Key×V)(q:List Key×Addr×Value)=>p.1=q.1/\H q.2.1=some (.tup (p.1.map kV))/\RelV p.2 q.2.2) kvs xs /\
   ∃o es ep,h.get? a=some o/\o.ExactDict/\o.data=.dict es ep/\es.toList=xs.map (entryOfKey (tupleKind (ZU P w)))/\(xs.map (·.1)).Nodup
 |.set S n=>h.SetOf (intKind P w) a S n
 |.ins C dx fs=>H dx=some (.own a)/\fs.length<=1000/\dx≠a/\h.get? a=some (PySem.W.instObj C dx) /\
   ∃mA,h.Ns1 dx mA/\(∀f,RelO (fs.lookup f) (mA f))/\PySem.Within mA (fs.map (·.1))
 |.own _=>∃o,h.get? a=some o
 |.xd fs=>∃mA,h.Ns1 a mA/\∀f,RelO (fs.lookup f) (mA f)
 |.rng lo hi=>∃t u v,h.get? a=some {cls:=.type "range",data:=.fields #[.int lo t,.int hi u,.int 1 v]}
 |.frz o u=>h.get? a=some o/\yq H h a u
 |.tbl ps=>h.get? a=some {cls:=.none,data:=.fields ps}
 |.met f x=>h.get? a=some (bO (.ref f) (.ref x))
 |.ext φ=>φ h/\(∃o,h.get? a=some o)/\∀h1 h2:Heap,φ h1->(∀o,h1.get? a=some o->h2.get? a=some o)->φ h2
def HOk(H:Hp)(h:Heap):Prop:=∀a o,H a=some o->yq P w H h a o
end
section
variable{P:Program}{w:World}{H H':Hp}{h h':Heap}{a:Addr}{o:HO}
theorem yq.lt(x:yq P w H h a o):a<h.objs.size:=by
 cases o with
 |lst xs=>obtain⟨_,_,_,_,e⟩:=x;exact Heap.lt_size e
 |tup xs=>obtain⟨_,_,_,p⟩:=x;exact p.lt
 |dK kvs=>obtain⟨_,_,_,_,o,_,_,e,_⟩:=x;exact Heap.lt_size e
 |dT kvs=>obtain⟨_,_,_,_,o,_,_,e,_⟩:=x;exact Heap.lt_size e
 |set S n=>obtain⟨o,_,_,_,e,_⟩:=x;exact Heap.lt_size e
 |ins C dx fs=>obtain⟨_,_,_,e,_⟩:=x;exact Heap.lt_size e
 |own y=>obtain⟨_,e⟩:=x;exact Heap.lt_size e
 |xd fs=>obtain⟨_,⟨_,_,_,e,_⟩,_⟩:=x;exact Heap.lt_size e
 |rng lo hi=>obtain⟨_,_,_,e⟩:=x;exact Heap.lt_size e
 |frz ob u=>obtain⟨e,_⟩:=x;exact Heap.lt_size e
 |tbl ps=>exact Heap.lt_size (show h.get? a=some _ from x)
 |met f y=>exact Heap.lt_size (show h.get? a=some _ from x)
 |ext φ=>obtain⟨_,⟨_,e⟩,_⟩:=x;exact Heap.lt_size e
theorem Paired.mapP{α β:Type}{F G:α->β->Prop}:∀{l₁:List α}{l₂:List β},Paired F l₁ l₂->(∀a b,F a b->G a b)->Paired G l₁ l₂
 |_,_,.nil,_=>.nil
 |_,_,.cons r t,f=>.cons (f _ _ r) (Paired.mapP t f)
theorem Paired.imp'{α β:Type}{F G:α->β->Prop}(f:∀a b,F a b->G a b){l₁:List α}{l₂:List β}(r:Paired F l₁ l₂):Paired G l₁ l₂:=Paired.mapP r f
theorem yq.stay(x:yq P w H h a o)(k:∀b u,(b=a\/H b=some (.own a))->h.get? b=some u->h'.get? b=some u)
  (ho:∀b,H b=some (.own a)->H' b=some (.own a))(ht:∀b xs,H b=some (.tup xs)->H' b=some (.tup xs)):yq P w H' h' a o:=by
 induction o with
 |lst xs=>obtain⟨z,its,n,r,e⟩:=x;exact⟨z,its,n,r,k _ _ (.inl rfl) e⟩
 |tup xs=>obtain⟨z,its,r,ob,e,c⟩:=x;exact⟨z,its,r,ob,k _ _ (.inl rfl) e,c⟩
 |dK kvs=>obtain⟨z,y,vs,r,ob,es,ep,e,c⟩:=x;exact⟨z,y,vs,r,ob,es,ep,k _ _ (.inl rfl) e,c⟩
 |dT kvs =>
  obtain⟨z,y,xs,r,ob,es,ep,e,c⟩:=x;exact⟨z,y,xs,Paired.mapP r λp q z=>⟨z.1,ht _ _ z.2.1,z.2.2⟩,ob,es,ep,k _ _ (.inl rfl) e,c⟩
 |set S n=>obtain⟨ob,es,ep,t,e,c⟩:=x;exact⟨ob,es,ep,t,k _ _ (.inl rfl) e,c⟩
 |ins C dx fs =>
  obtain⟨d,z,ne,e,mA,⟨od,es,ep,e2,c⟩,r⟩:=x;exact⟨ho _ d,z,ne,k _ _ (.inl rfl) e,mA,⟨od,es,ep,k _ _ (.inr d) e2,c⟩,r⟩
 |own y=>obtain⟨ob,e⟩:=x;exact⟨ob,k _ _ (.inl rfl) e⟩
 |xd fs=>obtain⟨mA,⟨od,es,ep,e,c⟩,r⟩:=x;exact⟨mA,⟨od,es,ep,k _ _ (.inl rfl) e,c⟩,r⟩
 |rng lo hi=>obtain⟨t,u,v,e⟩:=x;exact⟨t,u,v,k _ _ (.inl rfl) e⟩
 |frz ob u ih=>obtain⟨e,q⟩:=x;exact⟨k _ _ (.inl rfl) e,ih q⟩
 |tbl ps =>
  have e:h.get? a=some {cls:=.none,data:=.fields ps}:=x;show h'.get? a=some {cls:=.none,data:=.fields ps};exact k a _ (.inl rfl) e
 |met f y =>
  have e:h.get? a=some (bO (.ref f) (.ref y)):=x;show h'.get? a=some (bO (.ref f) (.ref y));exact k a _ (.inl rfl) e
 |ext φ=>obtain⟨p,⟨o,e⟩,st⟩:=x;exact⟨st _ _ p λo q=>k _ _ (.inl rfl) q,⟨o,k _ _ (.inl rfl) e⟩,st⟩
theorem HOk.lt(x:HOk P w H h)(e:H a=some o):a<h.objs.size:=(x a o e).lt
theorem HOk.fresh(x:HOk P w H h)(e:h.objs.size<=a):H a=none:=by
 cases q:H a with
 |none=>rfl
 |some u=>exact absurd (vd (x.lt q) e) (vP _)
theorem HOk.kept(x:HOk P w H h)(k:∀b u,h.get? b=some u->h'.get? b=some u):HOk P w H h':=λa o e =>
 (x a o e).stay (λb u _ q=>k b u q) (λ_ q=>q) λ_ _ q=>q
theorem HOk.laid(x:HOk P w H h)(k:∀b u,h.get? b=some u->h'.get? b=some u)(hp:h.objs.size<=a)(new:yq P w (upd H a o) h' a o):HOk P w (upd H a o) h':=λb u e=>by
 have hn:=x.fresh hp;by_cases hb:b=a
 .subst hb;rw[zc]at e;cases e;exact new
 .rw[zN hb]at e;exact(x b u e).stay (λc v _ q=>k c v q) (λc q=>by rw[zN (yd q hn)];exact q) λc xs q=>by rw[zN (yd q hn)];exact q
end
def Rd(H:Hp)(a:Addr)(u:HO):Prop:=H a=some u\/∃o,H a=some (.frz o u)
theorem Rd.ok{P:Program}{w:World}{H:Hp}{h:Heap}{a:Addr}{u:HO}(r:Rd H a u)(x:HOk P w H h):yq P w H h a u:=by
 rcases r with r|⟨o,r⟩
 .exact x a u r
 .obtain⟨_,q⟩:=x a _ r;exact q
def Mut:Option HO->Prop
 |some (.lst _)=>True
 |some (.dK _)=>True
 |some (.dT _)=>True
 |some (.set _ _)=>True
 |some (.ins _ _ _)=>True
 |some (.ext _)=>True
 |_=>False
section
variable{P:Program}{w:World}{H:Hp}{h h':Heap}{x e:Addr}{o':HO}
theorem HOk.write(ok:HOk P w H h)(mu:Mut (H x))(he:e=x\/H e=some (.own x))(k:∀b u,b≠e->h.get? b=some u->h'.get? b=some u)(heo:∃u,h'.get? e=some u)
  (new:yq P w (upd H x o') h' x o'):HOk P w (upd H x o') h':=λb u q=>by
 have nown:∀c y,H c=some (.own y)->c≠x:=λc y r z=>by subst z;rw[r]at mu;exact mu
 have ntup:∀c xs,H c=some (.tup xs)->c≠x:=λc xs r z=>by subst z;rw[r]at mu;exact mu
 by_cases hb:b=x
 .subst hb;rw[zc]at q;cases q;exact new
 .rw[zN hb]at q;by_cases hbe:b=e
  .have q':H b=some (.own x):=by
    rcases he with z|z
    .exact absurd (hbe.trans z) hb
    .rw[hbe];exact z
   rw[q]at q';cases q';obtain⟨v,hv⟩:=heo;exact⟨v,by rw[hbe];exact hv⟩
  .refine(ok b u q).stay (λc v hc r=>k c v ?_ r) (λc r=>by rw[zN (nown c b r)];exact r) λc xs r=>by rw[zN (ntup c xs r)];exact r
   rcases hc with rfl|hc
   .exact hbe
   .rintro rfl;rcases he with z|z
    .exact nown c b hc z
    .rw[hc]at z;cases z;exact hb rfl
end
structure Un(fs ex:List Addr)(H H':Hp)(h h':Heap):Prop where
 keep:∀b o,h.get? b=some o->H b=none->b∉fs->b∉ex->h'.get? b=some o
 slot:∀b o,h.get? b=some o->H b=none->b∈fs->b∉ex->∃sl,h'.get? b=some {o with slots:=sl}
 free:∀b o,h.get? b=some o->H b=none->b∉ex->H' b=none
 there:∀b o,h.get? b=some o->b∉ex->∃o',h'.get? b=some o'
 tups:∀b xs,H b=some (.tup xs)->H' b=some (.tup xs)
 frzs:∀b o u,H b=some (.frz o u)->H' b=some (.frz o u)
 tbls:∀b ps,H b=some (.tbl ps)->∃more,H' b=some (.tbl (ps++more))
section
variable{fs fs' ex ex':List Addr}{H H1 H2:Hp}{h h1 h2 h':Heap}{a x e:Addr}{o:HO}
theorem Un.any(u:Un fs ex H H1 h h1){b:Addr}{ob:Obj}(q:h.get? b=some ob)(n:H b=none)(hx:b∉ex):∃sl,h1.get? b=some {ob with slots:=sl}:=by
 by_cases hb:b∈fs
 .exact u.slot b ob q n hb hx
 .exact⟨ob.slots,u.keep b ob q n hb hx⟩
theorem Un.kept(k:∀b u,h.get? b=some u->h'.get? b=some u):Un fs ex H H h h' :=
 ⟨λb ob q _ _ _=>k b ob q,λb ob q _ _ _=>⟨ob.slots,k b ob q⟩,λ_ _ _ n _=>n,λb ob q _=>⟨ob,k b ob q⟩,λ_ _ q=>q,λ_ _ _ q=>q,λ_ ps q=>⟨#[],by rw[q];simp⟩⟩
theorem Un.refl:Un fs ex H H h h:=Un.kept λ_ _ q=>q
theorem Un.laid(k:∀b u,h.get? b=some u->h'.get? b=some u)(hp:h.objs.size<=a)(hn:H a=none):Un fs ex H (upd H a o) h h' where
 keep:=λb u q _ _ _=>k b u q
 slot:=λb u q _ _ _=>⟨u.slots,k b u q⟩
 free:=λb u q n _=>by rw[zN (vc (vd (Heap.lt_size q) hp))];exact n
 there:=λb u q _=>⟨u,k b u q⟩
 tups:=λb xs q=>by rw[zN (yd q hn)];exact q
 frzs:=λb u xs q=>by rw[zN (yd q hn)];exact q
 tbls:=λb ps q=>⟨#[],by rw[zN (yd q hn),q];simp⟩
theorem Un.write(mu:Mut (H x))(he:e=x\/H e=some (.own x))(k:∀b u,b≠e->h.get? b=some u->h'.get? b=some u)(heo:∃u,h'.get? e=some u):Un fs ex H (upd H x o) h h':=by
 have hx:∀b,H b=none->b≠x:=λb n z=>by subst z;rw[n]at mu;exact mu
 have hb:∀b,H b=none->b≠e:=λb n z=>by
  subst z;rcases he with r|r
  .exact hx b n r
  .rw[n]at r;cases r
 have hm:∀b u,H b=some u->¬Mut (some u)->b≠x:=λb u q nm z=>by subst z;rw[q]at mu;exact nm mu
 refine⟨λb u q n _ _=>k b u (hb b n) q,λb u q n _ _=>⟨u.slots,k b u (hb b n) q⟩,λb u q n _=>by rw[zN (hx b n)];exact n,λb u q _=>?_,
  λb xs q=>by rw[zN (hm b _ q λz=>z)];exact q,λb u xs q=>by rw[zN (hm b _ q λz=>z)];exact q,λb ps q=>⟨#[],by rw[zN (hm b _ q λz=>z),q];simp⟩⟩
 by_cases hbe:b=e
 .subst hbe;exact heo
 .exact⟨u,k b u hbe q⟩
end
def trk(h:Heap)(H:Hp):List Addr:=(kR h.objs.size).filter λa=>(H a).isSome
def hidT(h:Heap)(H:Hp):Heap:=PySem.W.hideAll h (trk h H)
theorem JO(h:Heap)(H:Hp):(hidT h H).objs.size=h.objs.size:=PySem.W.hideAll_size _ _
theorem zbB{h:Heap}{H:Hp}{b:Addr}{o:Obj}(e:h.get? b=some o)(n:H b=none):(hidT h H).get? b=some o :=
 PySem.W.hideAll_get _ e λhm=>by
  have q:(H b).isSome=true:=(vD.mp hm).2;rw[n]at q;simp at q
theorem zc9{h:Heap}{H:Hp}{b:Addr}{o:Obj}(e:(hidT h H).get? b=some o):h.get? b=some o/\H b=none:=by
 have e':h.get? b=some o:=PySem.W.of_hideAll (trk h H) e;refine⟨e',?_⟩;cases q:H b with
 |none=>rfl
 |some x =>
  have hm:b∈trk h H:=vD.mpr ⟨vp.mpr (Heap.lt_size e'),by simp[q]⟩;have z:(hidT h H).get? b=none:=PySem.W.hideAll_none (trk h H) hm;rw[z]at e;cases e
structure Mod(K:PySem.W.Frag)(mg:Str->Option Value)(base:Heap):Prop where
 kin:K.In base
 glob:base.Ns mainGlobals mg
 blt:∃mb,base.Ns builtinsNs mb/\∀x:Str,x ≠ "__name__" -> mb x=bootBuiltins x
 nolimit:base.NoLimit
structure Cx where
 prog:Program
 w:World
 K:PySem.W.Frag
 mg:Str->Option Value
 base:Heap
 A:Around
 N:List Str
 s₀:Shared
 H₀:Hp
 env:Env
 outer:List Env
 stack:List Env
 ex:List Addr
 fn:Str->Bool
 calm:Bool
 pn:List (Addr×Obj)
 xe:Value->Shared->Prop
def frs(l:List Env):List Addr:=l.filterMap (·.frame)
abbrev Cx.fs (X:Cx):List Addr:=frs X.outer
def Vis(sc:Scope)(x:Str):Prop:=sc.names.lookup x=some .local\/sc.names.lookup x=some .cell\/sc.names.lookup x=some .free
def Loc(sc:Scope)(x:Str):Prop:=sc.names.lookup x=some .local\/sc.names.lookup x=some .cell
def Look(env:Env)(h:Heap)(m:Str->Option Value)(x:Str)(u:Value):Prop :=
 (env.kindOf x=some .local/\m x=some u)\/((env.kindOf x=some .cell\/env.kindOf x=some .free)/\∃c,env.cells.lookup x=some c/\h.IsCell c (some u))
structure Cx.Ok(X:Cx):Prop where
 mod:Mod X.K X.mg X.base
 kind:X.env.scope.kind=.function
 glob:X.env.globals=mainGlobals
 blt:X.env.builtins=builtinsNs
 above:X.s₀.heap.objs.size<=X.env.locals
 inj:∀x y c,X.env.cells.lookup x=some c->X.env.cells.lookup y=some c->x=y
 has:∀x,(X.env.kindOf x=some .cell\/X.env.kindOf x=some .free)->∃c,X.env.cells.lookup x=some c
 cab:∀x c,X.fn x=true->X.env.cells.lookup x=some c->X.s₀.heap.objs.size<=c
 hd:X.calm=true->X.A.handled=none
 frames:X.A.frames=some X.stack
 stk:X.stack=X.outer\/(X.stack=X.env::X.outer/\X.env.frame=some X.env.locals)
 exf:∀b∈X.ex,b≠X.env.locals/\∀x c,X.env.cells.lookup x=some c->c≠b
 bs:∀b o,X.base.get? b=some o->X.s₀.heap.get? b=some o/\X.H₀ b=none
 bsz:X.base.objs.size<=X.s₀.heap.objs.size
 noex:∀b o,X.base.get? b=some o->b∉X.ex
 exfs:∀b∈X.ex,b∉X.fs
 funs:X.s₀.heap.FunFrames X.base X.outer
 frf:∀b∈X.fs,X.H₀ b=none
structure Inv(X:Cx)(pins:List (Addr×Obj))(σ:List (Option V))(H:Hp)(s:Shared):Prop where
 ok:X.Ok
 os:s.os=X.s₀.os
 bare:AllBare s.gens
 base:Un X.fs X.ex X.H₀ H X.s₀.heap s.heap
 loc:∃m,s.heap.Ns X.env.locals m/\∀(i:Nat)(x:Str)(v:V),X.N[i]?=some x->σ[i]?=some (some v)->Vis X.env.scope x->∃u,RelV v u/\Look X.env s.heap m x u
 cell:∀x c,X.env.cells.lookup x=some c->∃v,s.heap.IsCell c v
 free:H X.env.locals=none
 freeC:∀x c,X.env.cells.lookup x=some c->H c=none
 pin:∀p∈X.pn++pins,s.heap.get? p.1=some p.2/\H p.1=none/\p.1≠X.env.locals/\p.1∉X.fs/\∀v,p.2.data≠.cell v
 hok:HOk X.prog X.w H s.heap
 len:σ.length=X.N.length
section
variable{X:Cx}{pins:List (Addr×Obj)}{σ:List (Option V)}{H H':Hp}{s:Shared}{h':Heap}
theorem Cx.Ok.nofr(ok:X.Ok){b:Addr}{o:Obj}(e:X.base.get? b=some o):b∉X.fs:=λhb=>by
 have:=(ok.funs.mem hb).1;rw[e]at this;cases this
theorem Inv.bs(I:Inv X pins σ H s):∀b o,X.base.get? b=some o->s.heap.get? b=some o/\H b=none:=λb o e =>
 ⟨I.base.keep b o (I.ok.bs b o e).1 (I.ok.bs b o e).2 (I.ok.nofr e) (I.ok.noex b o e),I.base.free b o (I.ok.bs b o e).1 (I.ok.bs b o e).2 (I.ok.noex b o e)⟩
theorem Inv.bk(I:Inv X pins σ H s):∀b o,X.base.get? b=some o->s.heap.get? b=some o:=λb o e=>(I.bs b o e).1
theorem Inv.mod(I:Inv X pins σ H s):Mod X.K X.mg X.base:=I.ok.mod
theorem Inv.kIn(I:Inv X pins σ H s):X.K.In s.heap:=I.ok.mod.kin.keeps I.bk
theorem Inv.lt(I:Inv X pins σ H s):X.env.locals<s.heap.objs.size:=let ⟨_,hn,_⟩:=I.loc;hn.lt
theorem Inv.sz(I:Inv X pins σ H s):X.s₀.heap.objs.size<=s.heap.objs.size:=kw I.ok.above (vF I.lt)
theorem Inv.nofs(I:Inv X pins σ H s){a:Addr}(h:s.heap.objs.size<=a):a∉X.fs:=λhb=>by
 obtain⟨_,o,ho,_⟩:=I.ok.funs.mem hb;exact absurd (vd (Heap.lt_size ho) (kw I.sz h)) (vP _)
theorem Inv.cne(I:Inv X pins σ H s):∀x c,X.env.cells.lookup x=some c->c≠X.env.locals:=λx c e z=>by
 obtain⟨v,o,ho,hd⟩:=I.cell x c e;obtain⟨m,⟨o',es,ep,ho',hd',_⟩,_⟩:=I.loc;rw[z,ho']at ho;cases ho;rw[hd']at hd;cases hd
theorem Inv.funs(I:Inv X pins σ H s):s.heap.FunFrames X.base X.outer:=by
 have all:∀(l:List Env),(∀b∈frs l,b∈X.fs)->X.s₀.heap.FunFrames X.base l->s.heap.FunFrames X.base l:=by
  intro l
  induction l with
  |nil=>intro _ _;exact trivial
  |cons env r ih =>
   intro hs hl;obtain⟨hk,⟨L,o,hf,hn,ho,hd⟩,hr⟩:=hl;have hL:L∈X.fs:=hs L (by unfold frs;rw[uu,hf];exact kg);obtain⟨sl,e⟩:=I.base.slot L o ho (I.ok.frf L hL) hL λz=>I.ok.exfs L z hL;exact⟨hk,⟨L,_,hf,hn,e,hd⟩,ih (λb hb=>hs b (by unfold frs;rw[uu,hf];exact kn _ hb)) hr⟩
 exact all X.outer (λ_ hb=>hb) I.ok.funs
theorem Inv.stack(I:Inv X pins σ H s):s.heap.FunFrames X.base X.stack:=by
 rcases I.ok.stk with e|⟨e,hf⟩
 .rw[e];exact I.funs
 .rw[e];obtain⟨m,hn,_⟩:=I.loc;refine .cons (by rw[I.ok.kind];decide) hf hn ?_ I.funs;exact Heap.get?_none_of_le (kw I.ok.bsz I.ok.above)
theorem Inv.stkSub(I:Inv X pins σ H s):∀b∈frs X.stack,b∈X.env.locals::X.fs:=λb hb=>by
 rcases I.ok.stk with e|⟨e,hf⟩
 .rw[e]at hb;exact kn _ hb
 .rw[e]at hb;unfold frs at hb;rw[uu,hf]at hb;exact hb
theorem Inv.stkFree(I:Inv X pins σ H s):∀b∈frs X.stack,H b=none:=λb hb=>by
 rcases kK.mp (I.stkSub b hb)with e|hb
 .rw[e];exact I.free
 .obtain⟨_,o,ho,_⟩:=I.ok.funs.mem hb;exact I.base.free b o ho (I.ok.frf b hb) λz=>I.ok.exfs b z hb
theorem Inv.step{g':Array GenState}{t':Nat}{d':Drawn}{ch:List Addr}(I:Inv X pins σ H s)
  (hch:∀b∈ch,(b∈X.ex\/X.s₀.heap.objs.size<=b)/\b≠X.env.locals/\(∀x c,X.env.cells.lookup x=some c->c≠b)/\∀p∈X.pn++pins,p.1≠b)
  (keep:∀b o,b≠X.env.locals->b∉X.fs->b∉ch->s.heap.get? b=some o->H b=none->h'.get? b=some o)
  (slot:∀b o,b≠X.env.locals->b∈X.fs->b∉ch->s.heap.get? b=some o->H b=none->∃sl,h'.get? b=some {o with slots:=sl})(free:∀b o,b∉ch->s.heap.get? b=some o->H b=none->H' b=none)
  (there:∀b o,b∉ch->s.heap.get? b=some o->∃o',h'.get? b=some o')
  (tups:∀b xs,H b=some (.tup xs)->H' b=some (.tup xs))(frzs:∀b o u,H b=some (.frz o u)->H' b=some (.frz o u))(tbls:∀b ps,H b=some (.tbl ps)->∃more,H' b=some (.tbl (ps++more)))
  (ns:∀m,s.heap.Ns X.env.locals m->h'.Ns X.env.locals m)(hok:HOk X.prog X.w H' h')(hg:AllBare g'):
  Inv X pins σ H' {s with heap:=h',gens:=g',drawn:=d',toks:=t'}:=by
 have neL:∀b o,X.s₀.heap.get? b=some o->b≠X.env.locals:=λb o e=>vc (vd (Heap.lt_size e) I.ok.above);have neC:∀b o,X.s₀.heap.get? b=some o->b∉X.ex->b∉ch:=λb o e hx hb=>by
  rcases(hch b hb).1 with z|z
  .exact hx z
  .exact absurd (vd (Heap.lt_size e) z) (vP _)
 have cellK:∀x c,X.env.cells.lookup x=some c->∀v,s.heap.IsCell c v->h'.IsCell c v:=λx c e v ⟨o,ho,hd⟩=>by
  have nch:c∉ch:=λz=>(hch c z).2.2.1 x c e rfl;by_cases hc:c∈X.fs
  .obtain⟨sl,q⟩:=slot c o (I.cne x c e) hc nch ho (I.freeC x c e);exact⟨_,q,hd⟩
  .exact⟨o,keep c o (I.cne x c e) hc nch ho (I.freeC x c e),hd⟩
 refine⟨I.ok,I.os,hg,⟨λb o e n hb hx=>?_,λb o e n hb hx=>?_,λb o e n hx=>?_,λb o e hx=>?_,λb xs e=>tups b xs (I.base.tups b xs e),λb o xs e=>frzs b o xs (I.base.frzs b o xs e),λb ps e=>?_⟩,?_,λx c e=>?_,?_,λx c e=>?_,λp hp=>?_,hok,I.len⟩
 .exact keep b o (neL b o e) hb (neC b o e hx) (I.base.keep b o e n hb hx) (I.base.free b o e n hx)
 .obtain⟨sl,e1⟩:=I.base.slot b o e n hb hx;obtain⟨sl',e2⟩:=slot b _ (neL b o e) hb (neC b o e hx) e1 (I.base.free b o e n hx);exact⟨sl',e2⟩
 .obtain⟨o',e1⟩:=I.base.there b o e hx;exact free b o' (neC b o e hx) e1 (I.base.free b o e n hx)
 .obtain⟨o',e1⟩:=I.base.there b o e hx;exact there b o' (neC b o e hx) e1
 .obtain⟨m1,e1⟩:=I.base.tbls b ps e;obtain⟨m2,e2⟩:=tbls b _ e1;exact⟨m1++m2,by rw[e2,Array.append_assoc]⟩
 .obtain⟨m,hn,hl⟩:=I.loc;refine⟨m,ns m hn,λi x v e1 e2 e3=>?_⟩;obtain⟨u,r,l⟩:=hl i x v e1 e2 e3;refine⟨u,r,?_⟩;rcases l with l|⟨k,c,e,z⟩
  .exact .inl l
  .exact .inr ⟨k,c,e,cellK x c e _ z⟩
 .obtain⟨v,z⟩:=I.cell x c e;exact⟨v,cellK x c e v z⟩
 .obtain⟨m,⟨o,_,_,ho,_⟩,_⟩:=I.loc;exact free _ o (λz=>(hch _ z).2.1 rfl) ho I.free
 .obtain⟨v,o,ho,hd⟩:=I.cell x c e;exact free c o (λz=>(hch c z).2.2.1 x c e rfl) ho (I.freeC x c e)
 .obtain⟨e,n,ne,nf,d⟩:=I.pin p hp;have nch:p.1∉ch:=λz=>(hch p.1 z).2.2.2 p hp rfl;exact⟨keep p.1 p.2 ne nf nch e n,free p.1 p.2 nch e n,ne,nf,d⟩
theorem Inv.un{t':Nat}(I:Inv X pins σ H s)(u:Un X.fs [] H H' s.heap h')(hok:HOk X.prog X.w H' h'):Inv X pins σ H' {s with heap:=h',toks:=t'}:=by
 obtain⟨m,⟨o,es,ep,ho,r⟩,_⟩:=id I.loc;obtain⟨sl,hL⟩:=u.any ho I.free (by simp);exact I.step (g':=s.gens) (d':=s.drawn) (ch:=[]) (λ_ z=>nomatch z) (λb o _ hb _ e n=>u.keep b o e n hb (by simp)) (λb o _ hb _ e n=>u.slot b o e n hb (by simp)) (λb o _ e n=>u.free b o e n (by simp)) (λb o _ e=>u.there b o e (by simp)) u.tups u.frzs u.tbls (λm' hm=>by
  obtain⟨o',es',ep',ho',r'⟩:=hm;rw[ho]at ho';cases ho';exact⟨_,es',ep',hL,r'⟩) hok I.bare
theorem Inv.call{g':Array GenState}{t':Nat}{d':Drawn}{ch:List Addr}(I:Inv X pins σ H s)(u:Un (frs X.stack) ch H H' s.heap h')(hok:HOk X.prog X.w H' h')(hg:AllBare g')
  (hch:∀b∈ch,(b∈X.ex\/X.s₀.heap.objs.size<=b)/\b≠X.env.locals/\(∀x c,X.env.cells.lookup x=some c->c≠b)/\∀p∈X.pn++pins,p.1≠b):
  Inv X pins σ H' {s with heap:=h',gens:=g',drawn:=d',toks:=t'}:=by
 obtain⟨m,⟨o,es,ep,ho,r⟩,_⟩:=id I.loc;obtain⟨sl,hL⟩:=u.any ho I.free λz=>(hch _ z).2.1 rfl;exact I.step (ch:=ch) hch (λb o hL hb hc e n=>u.keep b o e n (λz=>(kK.mp (I.stkSub b z)).elim hL hb) hc) (λb o _ _ hc e n=>u.any e n hc) (λb o hc e n=>u.free b o e n hc) (λb o hc e=>u.there b o e hc) u.tups u.frzs u.tbls (λm' hm=>by
  obtain⟨o',es',ep',ho',r'⟩:=hm;rw[ho]at ho';cases ho';exact⟨_,es',ep',hL,r'⟩) hok hg
theorem Inv.turned{t':Nat}{it:Addr}(I:Inv X pins σ H s)(k:∀b o,b≠it->s.heap.get? b=some o->h'.get? b=some o)(hn:H it=none)(hL:it≠X.env.locals)
  (h1:it∈X.ex\/X.s₀.heap.objs.size<=it)(h2:∀x c,X.env.cells.lookup x=some c->c≠it)(h3:∀p∈X.pn++pins,p.1≠it):Inv X pins σ H {s with heap:=h',toks:=t'}:=by
 have nit:∀b u,H b=some u->b≠it:=λb u e z=>by rw[z,hn]at e;cases e
 refine I.step (g':=s.gens) (d':=s.drawn) (ch:=[it]) (λb hb=>?_) (λb o _ _ hc e _=>k b o (λz=>hc (by simp[z])) e) (λb o _ _ hc e _=>⟨o.slots,k b o (λz=>hc (by simp[z])) e⟩) (λ_ _ _ _ n=>n)
  (λb o hc e=>⟨o,k b o (λz=>hc (by simp[z])) e⟩) (λ_ _ e=>e) (λ_ _ _ e=>e) (λb ps e=>⟨#[],by rw[e];simp⟩) (λm hm=>?_) (λb u e=>?_) I.bare
 .have e:b=it:=by simpa using hb
  subst e;exact⟨h1,hL,h2,h3⟩
 .obtain⟨o,es,ep,ho,r⟩:=hm;exact⟨o,es,ep,k _ o (Ne.symm hL) ho,r⟩
 .refine(I.hok b u e).stay (λc v hc q=>k c v ?_ q) (λ_ q=>q) λ_ _ q=>q;rcases hc with z|z
  .rw[z];exact nit b u e
  .exact nit c _ z
theorem Inv.tok(I:Inv X pins σ H s)(t:Nat):Inv X pins σ H {s with toks:=t}:=I.un (h':=s.heap) (t':=t) Un.refl I.hok
theorem Inv.kept{t':Nat}(I:Inv X pins σ H s)(k:∀b u,s.heap.get? b=some u->h'.get? b=some u):Inv X pins σ H {s with heap:=h',toks:=t'}:=I.un (Un.kept k) (I.hok.kept k)
theorem Inv.laid{a:Addr}{o:HO}{t':Nat}(I:Inv X pins σ H s)(k:∀b u,s.heap.get? b=some u->h'.get? b=some u)(hp:s.heap.objs.size<=a)(new:yq X.prog X.w (upd H a o) h' a o):
  Inv X pins σ (upd H a o) {s with heap:=h',toks:=t'}:=I.un (Un.laid k hp (I.hok.fresh hp)) (I.hok.laid k hp new)
theorem Inv.write{x e:Addr}{o:HO}{t':Nat}(I:Inv X pins σ H s)(mu:Mut (H x))(he:e=x\/H e=some (.own x))(k:∀b u,b≠e->s.heap.get? b=some u->h'.get? b=some u)(heo:∃u,h'.get? e=some u)
  (new:yq X.prog X.w (upd H x o) h' x o):Inv X pins σ (upd H x o) {s with heap:=h',toks:=t'}:=I.un (Un.write mu he k heo) (I.hok.write mu he k heo new)
theorem Inv.pins_of{pins':List (Addr×Obj)}(I:Inv X pins σ H s)(h:∀p∈pins',s.heap.get? p.1=some p.2/\H p.1=none/\p.1≠X.env.locals/\p.1∉X.fs/\∀v,p.2.data≠.cell v):Inv X pins' σ H s :=
 ⟨I.ok,I.os,I.bare,I.base,I.loc,I.cell,I.free,I.freeC,λp hp=>(k7.mp hp).elim (λz=>I.pin p (vJ _ z)) (h p),I.hok,I.len⟩
theorem Xy{N:List Str}(hN:N.Nodup){i j:Nat}{x:Str}(a:N[i]?=some x)(b:N[j]?=some x):i=j:=by
 obtain⟨h1,e1⟩:=kf.mp a;obtain⟨h2,e2⟩:=kf.mp b;exact(List.getElem_inj hN).mp (e1.trans e2.symm)
theorem JP{M:Model}{A:Around}{E:Value->Shared->Prop}{i:Nat}{x:Str}{v:V}{u:Value}{Q:Unit->Shared->Prop}(I:Inv X pins σ H s)(hN:X.N.Nodup)(hi:X.N[i]?=some x)(hx:Loc X.env.scope x)(r:RelV v u)
  (h:∀s',Inv X pins (σ.set i (some v)) H s'->(∃a,Heap.SameBut a s.heap s'.heap/\(a=X.env.locals\/X.env.cells.lookup x=some a))->Q Unit.unit s')(hf:X.fn x=true\/X.env.scope.names.lookup x=some .local:=by first|exact .inl rfl|exact .inr rfl|assumption):wpAny M A (storeName X.env x u) Q E s:=by
 obtain⟨m,hn,hl⟩:=id I.loc;have hcls:(X.env.scope.kind==.class||(X.env.scope.kind==.module&&X.env.locals != X.env.globals))=false:=by rw[I.ok.kind];rfl
 have hiσ:i<σ.length:=by rw[I.len];exact(kf.mp hi).1
 have cne:=I.cne;have tracked:∀{a:Addr}{h':Heap},(∃o,s.heap.get? a=some o/\H a=none)->Heap.SameBut a s.heap h'->HOk X.prog X.w H h':=λ{a h'} ha hs b ob e=>by
  obtain⟨_,_,hfree⟩:=ha;refine(I.hok b ob e).stay (λc w' hc q=>(hs.2 c ?_).trans q) (λ_ q=>q) λ_ _ q=>q;rintro rfl;rcases hc with rfl|hc
  .rw[hfree]at e;cases e
  .rw[hfree]at hc;cases hc
 rcases hx with hk|hk
 .refine wpAny_storeName_local hk hn (λh' hn' hs=>?_) hcls;obtain⟨oL,_,_,hoL,_⟩:=id hn;refine h _ ⟨I.ok,I.os,I.bare,⟨λb o e n hb hx=>?_,λb o e n hb hx=>?_,I.base.free,λb o e hx=>?_,I.base.tups,I.base.frzs,I.base.tbls⟩,⟨_,hn',λj y v' e1 e2 e3=>?_⟩,λy c e=>?_,I.free,I.freeC,λp hp=>?_,tracked ⟨oL,hoL,I.free⟩ hs,by simpa using I.len⟩ ⟨_,hs,.inl rfl⟩
  .exact(hs.2 b (vc (vd (Heap.lt_size e) I.ok.above))).trans (I.base.keep b o e n hb hx)
  .obtain⟨sl,e1⟩:=I.base.slot b o e n hb hx;exact⟨sl,(hs.2 b (vc (vd (Heap.lt_size e) I.ok.above))).trans e1⟩
  .obtain⟨o',e1⟩:=I.base.there b o e hx;exact⟨o',(hs.2 b (vc (vd (Heap.lt_size e) I.ok.above))).trans e1⟩
  .by_cases hj:j=i
   .subst hj;rw[hi]at e1;cases e1;rw[List.getElem?_set_self hiσ]at e2;cases e2;exact⟨u,r,.inl ⟨hk,by simp⟩⟩
   .rw[List.getElem?_set_ne (Ne.symm hj)]at e2;obtain⟨u',r',q⟩:=hl j y v' e1 e2 e3;refine⟨u',r',?_⟩;rcases q with⟨k,e⟩|⟨k,c,e,z⟩
    .refine .inl ⟨k,?_⟩;have:y≠x:=λe=>hj (Xy hN e1 (e ▸ hi));simp[this,e]
    .exact .inr ⟨k,c,e,z.sameBut hs (cne y c e)⟩
  .obtain⟨w',z⟩:=I.cell y c e;exact⟨w',z.sameBut hs (cne y c e)⟩
  .obtain⟨e,n,ne,nf,d⟩:=I.pin p hp;exact⟨(hs.2 p.1 ne).trans e,n,ne,nf,d⟩
 .have hfn:X.fn x=true:=by
   rcases hf with z|z
   .exact z
   .rw[z]at hk;cases hk
  obtain⟨c,hc⟩:=I.ok.has x (.inl hk);obtain⟨w',z⟩:=I.cell x c hc;refine wpAny_storeName_cell I.ok.kind hk hc z (λh' hc' hs=>?_);obtain⟨oc,hoc,hocd⟩:=id z;refine h {s with heap:=h'} ⟨I.ok,I.os,I.bare,⟨λb o e n hb hx=>?_,λb o e n hb hx=>?_,I.base.free,λb o e hx=>?_,I.base.tups,I.base.frzs,I.base.tbls⟩,⟨m,hn.sameBut hs (Ne.symm (cne x c hc)),λj y v' e1 e2 e3=>?_⟩,λy c' e=>?_,I.free,I.freeC,λp hp=>?_,tracked ⟨oc,hoc,I.freeC x c hc⟩ hs,by simpa using I.len⟩ ⟨c,hs,.inr hc⟩
  .exact(hs.2 b (vc (vd (Heap.lt_size e) (I.ok.cab x c hfn hc)))).trans (I.base.keep b o e n hb hx)
  .obtain⟨sl,e1⟩:=I.base.slot b o e n hb hx;exact⟨sl,(hs.2 b (vc (vd (Heap.lt_size e) (I.ok.cab x c hfn hc)))).trans e1⟩
  .obtain⟨o',e1⟩:=I.base.there b o e hx;exact⟨o',(hs.2 b (vc (vd (Heap.lt_size e) (I.ok.cab x c hfn hc)))).trans e1⟩
  .by_cases hj:j=i
   .subst hj;rw[hi]at e1;cases e1;rw[List.getElem?_set_self hiσ]at e2;cases e2;exact⟨u,r,.inr ⟨.inl hk,c,hc,hc'⟩⟩
   .rw[List.getElem?_set_ne (Ne.symm hj)]at e2;obtain⟨u',r',q⟩:=hl j y v' e1 e2 e3;refine⟨u',r',?_⟩;rcases q with q|⟨k,c',e,z'⟩
    .exact .inl q
    .refine .inr ⟨k,c',e,z'.sameBut hs ?_⟩;rintro rfl;exact hj (Xy hN e1 (I.ok.inj _ _ _ e hc ▸ hi))
  .by_cases hcc:c'=c
   .subst hcc;exact⟨_,hc'⟩
   .obtain⟨w2,z2⟩:=I.cell y c' e;exact⟨w2,z2.sameBut hs hcc⟩
  .obtain⟨e,n,ne,nf,d⟩:=I.pin p hp;refine⟨(hs.2 p.1 ?_).trans e,n,ne,nf,d⟩;intro q;rw[q,hoc]at e;have q':oc=p.2:=Option.some.inj e;exact d w' (by rw[<-q'];exact hocd)
theorem jT{M:Model}{A:Around}{E:Value->Shared->Prop}{i:Nat}{x:Str}{v:V}{u:Value}{Q:Unit->Shared->Prop}(I:Inv X pins σ H s)(hN:X.N.Nodup)(hi:X.N[i]?=some x)(hx:Loc X.env.scope x)(r:RelV v u)
  (h:∀s',Inv X pins (σ.set i (some v)) H s'->Q Unit.unit s')(hf:X.fn x=true\/X.env.scope.names.lookup x=some .local:=by first|exact .inl rfl|exact .inr rfl|assumption):wpAny M A (storeName X.env x u) Q E s :=
 JP I hN hi hx r (λs' I' _=>h s' I') hf
theorem Inv.call'{s':Shared}{ch:List Addr}(I:Inv X pins σ H s)(ho:s'.os=s.os)(u:Un (frs X.stack) ch H H' s.heap s'.heap)(hok:HOk X.prog X.w H' s'.heap)(hg:AllBare s'.gens)
  (hch:∀b∈ch,(b∈X.ex\/X.s₀.heap.objs.size<=b)/\b≠X.env.locals/\(∀x c,X.env.cells.lookup x=some c->c≠b)/\∀p∈X.pn++pins,p.1≠b):Inv X pins σ H' s':=by
 obtain⟨h',g',d',t',o'⟩:=s';have e:o'=s.os:=ho;subst e;exact I.call (g':=g') (t':=t') (d':=d') u hok hg hch
end
abbrev XK:=Value->Option Addr->Hp->Prop
abbrev St:=List (Option V)
abbrev VK:=V->Hp->Prop
abbrev TE:=St->Hp->VK->Prop
abbrev TT:=St->Hp->(Bool->Hp->Prop)->Prop
abbrev TA:=St->Hp->(List V->Hp->Prop)->Prop
structure Ends where
 nx:St->Hp->Prop
 rt:VK
 bk:St->Hp->Prop:=λ_ _=>False
 ct:St->Hp->Prop:=λ_ _=>False
abbrev TS:=Ends->St->Hp->Prop
def EP(X:Cx)(pins:List (Addr×Obj))(σ:St)(Q:VK)(u:Value)(s':Shared):Prop:=∃v H',Inv X pins σ H' s'/\RelV v u/\Q v H'
def TP(X:Cx)(pins:List (Addr×Obj))(σ:St)(Q:Bool->Hp->Prop)(b:Bool)(s':Shared):Prop:=∃H',Inv X pins σ H' s'/\Q b H'
def AP(X:Cx)(pins:List (Addr×Obj))(σ:St)(Q:List V->Hp->Prop)(us:List Value)(s':Shared):Prop:=∃vs H',Inv X pins σ H' s'/\Vals vs us/\Q vs H'
def SP(X:Cx)(pins:List (Addr×Obj))(D:Ends)(f:Flow)(s':Shared):Prop :=
 match f with
 |.next=>∃σ' H',Inv X pins σ' H' s'/\D.nx σ' H'
 |.brk=>∃σ' H',Inv X pins σ' H' s'/\D.bk σ' H'
 |.cont=>∃σ' H',Inv X pins σ' H' s'/\D.ct σ' H'
 |.ret u=>∃v σ' H',Inv X pins σ' H' s'/\RelV v u/\D.rt v H'
def PE(X:Cx)(e:Expr)(t:TE):Prop :=
 ∀(pins:List (Addr×Obj))(s:Shared)(σ:St)(H:Hp)(Q:VK),Inv X pins σ H s->t σ H Q->wpAny (model X.prog X.w) X.A (eval e X.env) (EP X pins σ Q) X.xe s
def PT(X:Cx)(e:Expr)(t:TT):Prop :=
 ∀(pins:List (Addr×Obj))(s:Shared)(σ:St)(H:Hp)(Q:Bool->Hp->Prop),Inv X pins σ H s->t σ H Q->wpAny (model X.prog X.w) X.A (isTrue e X.env (eval e X.env)) (TP X pins σ Q) X.xe s
def PW(X:Cx)(e:Expr)(t:TT):Prop :=
 ∀(whole:Sem Value)(pins:List (Addr×Obj))(s:Shared)(σ:St)(H:Hp)(Q:Bool->Hp->Prop),Inv X pins σ H s->t σ H Q->wpAny (model X.prog X.w) X.A (isTrue e X.env whole) (TP X pins σ Q) X.xe s
theorem PW.pt{X:Cx}{e:Expr}{t:TT}(h:PW X e t):PT X e t:=h _
def PA(X:Cx)(es:List Expr)(t:TA):Prop :=
 ∀(pos:Pos)(pins:List (Addr×Obj))(s:Shared)(σ:St)(H:Hp)(Q:List V->Hp->Prop),Inv X pins σ H s->t σ H Q->wpAny (model X.prog X.w) X.A (spliced (backTo pos (starEach es X.env))) (AP X pins σ Q) X.xe s
def PS(X:Cx)(st:Stmt)(t:TS):Prop :=
 ∀(pins:List (Addr×Obj))(s:Shared)(σ:St)(H:Hp)(D:Ends),Inv X pins σ H s->t D σ H->wpAny (model X.prog X.w) X.A (exec st X.env) (SP X pins D) X.xe s
def PSs(X:Cx)(st:List Stmt)(t:TS):Prop :=
 ∀(pins:List (Addr×Obj))(s:Shared)(σ:St)(H:Hp)(D:Ends),Inv X pins σ H s->t D σ H->wpAny (model X.prog X.w) X.A (execs st X.env) (SP X pins D) X.xe s
theorem thn{α:Type}{t:Sem α}{Q Q':α->Shared->Prop}{M:Model}{A:Around}{E:Value->Shared->Prop}{s:Shared}(h:wpAny M A t Q E s)(hQ:∀a s,Q a s->Q' a s):wpAny M A t Q' E s:=wpAny_mono h hQ λ_ _ x=>x
section
variable{X:Cx}
def tVar(i:Nat):TE:=λσ H Q=>∃v,σ[i]?=some (some v)/\Q v H
def tC(v:V):TE:=λ_ H Q=>Q v H
theorem zex{i:Nat}{x:Str}{pos:Pos}(hN:X.N[i]?=some x)(hv:Vis X.env.scope x)(hd:(x==("__debug__" : Str))=false:=by decide)(hcd:(x==("__classdict__" : Str))=false:=by decide):PE X (.Name x pos) (tVar i):=by
 intro pins s σ H Q I h;obtain⟨v,e,h⟩:=h;obtain⟨m,hn,hl⟩:=I.loc;obtain⟨u,r,l⟩:=hl i x v hN e hv;have fin:EP X pins σ Q u s:=⟨v,H,I,r,h⟩;rcases l with⟨hk,hm⟩|⟨hk,c,hc,hcell⟩
 .exact wpAny_Name (wpAny_loadName_local I.ok.kind hk hn hm fin) hd
 .rcases hk with hk|hk
  .exact wpAny_Name (wpAny_loadName_cell I.ok.kind hk hc hcell fin) hd
  .exact wpAny_Name (wpAny_loadName_free I.ok.kind hk hc hcell fin hcd) hd
theorem zk{i j pos}:PE X (.Constant (.int i) j pos) (tC (.int i)):=λ_ _ _ H _ I h=>wpAny_Constant_int ⟨.int i,H,I.tok _,⟨_,rfl⟩,h⟩
theorem yN{b j pos}:PE X (.Constant (.bool b) j pos) (tC (.bl b)):=λ_ _ _ H _ I h=>Constant_bool ⟨.bl b,H,I,rfl,h⟩
theorem xR{j pos}:PE X (.Constant .none j pos) (tC .non):=λ_ _ _ H _ I h=>Constant_none ⟨.non,H,I,rfl,h⟩
theorem xS{x j pos}:PE X (.Constant (.str x) j pos) (tC (.str x)):=λ_ _ _ H _ I h=>Calls.Constant_str ⟨.str x,H,I.tok _,⟨_,rfl⟩,h⟩
def Gl(X:Cx)(x:Str):Prop:=X.env.kindOf x=some .globalImplicit
theorem W1{E:Value->Shared->Prop}{pins:List (Addr×Obj)}{s:Shared}{σ:St}{H:Hp}{x:Str}{u:Value}{pos:Pos}{Q:Value->Shared->Prop}(I:Inv X pins σ H s)(hg:Gl X x)(hm:X.mg x=some u)(h:Q u s)
  (hd:(x==("__debug__" : Str))=false:=by decide):wpAny (model X.prog X.w) X.A (eval (.Name x pos) X.env) Q E s :=
 Calls.Name_function_global I.ok.kind hg (Calls.loadGlobal_global (by rw[I.ok.glob];exact I.mod.glob.keeps I.bk) hm h) hd
theorem yR{E:Value->Shared->Prop}{pins:List (Addr×Obj)}{s:Shared}{σ:St}{H:Hp}{x:Str}{u:Value}{pos:Pos}{Q:Value->Shared->Prop}(I:Inv X pins σ H s)(hg:Gl X x)(hm:X.mg x=none)(hv:bootBuiltins x=some u)(h:Q u s)
  (hn:x ≠ "__name__" := by decide)(hd:(x==("__debug__" : Str))=false:=by decide):wpAny (model X.prog X.w) X.A (eval (.Name x pos) X.env) Q E s:=by
 obtain⟨mb,h1,h2⟩:=I.mod.blt;exact Calls.Name_function_global I.ok.kind hg (Calls.loadGlobal_builtin (by rw[I.ok.glob];exact I.mod.glob.keeps I.bk) hm (by rw[I.ok.blt];exact h1.keeps I.bk) ((h2 x hn).trans hv) h) hd
theorem qe{x:Str}{v:V}{u:Value}{pos:Pos}(hg:Gl X x)(hm:X.mg x=some u)(r:RelV v u)(hd:(x==("__debug__" : Str))=false:=by decide):PE X (.Name x pos) (tC v) :=
 λ_ _ _ H _ I h=>W1 I hg hm ⟨v,H,I,r,h⟩ hd
theorem zda{x:Str}{v:V}{u:Value}{pos:Pos}(hg:Gl X x)(hm:X.mg x=none)(hv:bootBuiltins x=some u)(r:RelV v u)(hn:x ≠ "__name__" := by decide)(hd:(x==("__debug__" : Str))=false:=by decide):PE X (.Name x pos) (tC v) :=
 λ_ _ _ H _ I h=>yR I hg hm hv ⟨v,H,I,r,h⟩ hn hd
variable{a b:Expr}{ta tb:TE}{pos:Pos}
theorem nobehind(b:Expr){op:CmpOp}(h:op≠.In)(h2:op≠.NotIn):behindInMarks op b=false:=by
 have e1:(op==CmpOp.In)=false:=by cases op<;>first|rfl|exact absurd rfl h
 have e2:(op==CmpOp.NotIn)=false:=by cases op<;>first|rfl|exact absurd rfl h2
 cases b<;>simp[behindInMarks,e1,e2]
def tB(t:TE):TT:=λσ H Q=>t σ H λx H1=>∃c,x=.bl c/\Q c H1
theorem zX{e:Expr}{t:TE}(h:PE X e t)(he:∀whole,isTrue e X.env whole=(do let v <-whole;standAt e.pos;holding [v] (truthy v)):=by intro _;rfl):PT X e (tB t):=by
 intro pins s σ H Q I hw;refine isTrue_plain (thn (h pins s σ H _ I hw) λv s1 ⟨x,H1,I1,r1,q1⟩=>?_) (he _);obtain⟨d,rfl,q⟩:=q1;cases r1;exact wpAny_truthy_bool ⟨H1,I1,q⟩
variable{tA tB':TT}{rest:List Expr}
def tAnd(t u:TT):TT:=λσ H Q=>t σ H λc H1=>if c=true then u σ H1 Q else Q false H1
def tOr(t u:TT):TT:=λσ H Q=>t σ H λc H1=>if c=true then Q true H1 else u σ H1 Q
def tNot(t:TT):TT:=λσ H Q=>t σ H λc H1=>Q (!c) H1
theorem qf(ha:PT X a tA):PW X (.BoolOp .And [a] pos) tA:=by
 intro wh pins s σ H Q I h;refine isTrue_and (thn (ha pins s σ H Q I h) λc s1 e=>?_);cases c with
 |true=>exact isTrue_and_nil e
 |false=>exact e
theorem yZ(ha:PT X a tA):PW X (.BoolOp .Or [a] pos) tA:=by
 intro wh pins s σ H Q I h;refine isTrue_or (thn (ha pins s σ H Q I h) λc s1 e=>?_);cases c with
 |false=>exact isTrue_or_nil e
 |true=>exact e
theorem qY(ha:PT X a tA)(hb:PW X (.BoolOp .And (b::rest) pos) tB'):PW X (.BoolOp .And (a::b::rest) pos) (tAnd tA tB'):=by
 intro wh pins s σ H Q I h;refine isTrue_and (thn (ha pins s σ H _ I h) λc s1 ⟨H1,I1,q1⟩=>?_);cases c with
 |true=>exact hb wh pins s1 σ H1 Q I1 q1
 |false=>exact⟨H1,I1,q1⟩
theorem xi(ha:PT X a tA)(hb:PW X (.BoolOp .Or (b::rest) pos) tB'):PW X (.BoolOp .Or (a::b::rest) pos) (tOr tA tB'):=by
 intro wh pins s σ H Q I h;refine isTrue_or (thn (ha pins s σ H _ I h) λc s1 ⟨H1,I1,q1⟩=>?_);cases c with
 |true=>exact⟨H1,I1,q1⟩
 |false=>exact hb wh pins s1 σ H1 Q I1 q1
theorem z9(ha:PT X a tA):PT X (.UnaryOp .Not a pos) (tNot tA):=by
 intro pins s σ H Q I h;exact isTrue_not (ha pins s σ H (λc H1=>Q (!c) H1) I h)
def QJ(ta tb:TE):TE:=λσ H Q=>ta σ H λx H1=>∃c,x=.bl c/\if c=true then tb σ H1 Q else Q (.bl false) H1
def zfP(ta:TE):TE:=λσ H Q=>ta σ H λx H1=>∃c,x=.bl c/\Q (.bl (!c)) H1
theorem yG{op}{t:TE}(h:PE X a t):PE X (.BoolOp op [a] pos) t:=λpins s σ H Q I hw=>BoolOp_one (h pins s σ H Q I hw)
theorem yg(ha:PE X a ta)(hb:PE X (.BoolOp .And (b::rest) pos) tb):PE X (.BoolOp .And (a::b::rest) pos) (QJ ta tb):=by
 intro pins s σ H Q I h;refine BoolOp_and (thn (ha pins s σ H _ I h) λv s1 h9=>?_);obtain⟨x,H1,I1,r1,q1⟩:=h9;obtain⟨c,rfl,q1⟩:=q1;cases r1;refine wpAny_truthy_bool ?_;cases c with
 |true=>exact hb pins s1 σ H1 Q I1 q1
 |false=>exact⟨.bl false,H1,I1,rfl,q1⟩
theorem JQ(ha:PE X a ta):PE X (.UnaryOp .Not a pos) (zfP ta):=by
 intro pins s σ H Q I h;refine UnaryOp_ (thn (ha pins s σ H _ I h) λv s1 h9=>?_);obtain⟨x,H1,I1,r1,q1⟩:=h9;obtain⟨c,rfl,q1⟩:=q1;cases r1;exact not_of (wpAny_truthy_bool ⟨.bl (!c),H1,I1,rfl,q1⟩)
end
def SqL(K:PySem.W.Frag)(H:Hp)(a:Addr)(xs:List V):Prop :=
 Rd H a (.lst xs) \/
  ∃(o:Obj)(its:Array Value)(n:Nat),K.lookup a=some o/\o.cls=.type "list" /\ o.dict=none/\o.data=.seq its n/\its.size<=sizeLine/\Vals xs its.toList
def SqT(K:PySem.W.Frag)(H:Hp)(a:Addr)(xs:List V):Prop :=
 Rd H a (.tup xs) \/
  ∃(o:Obj)(its:Array Value)(n:Nat),K.lookup a=some o/\o.cls=.type "tuple" /\ o.data=.seq its n/\its.size<=sizeLine/\Vals xs its.toList
def absV:Value->Option V
 |.none=>some .non
 |.bool b=>some (.bl b)
 |.int i _=>some (.int i)
 |.str x _=>some (.str x)
 |.bytes b _=>some (.byt b)
 |.float b _=>some (.flt b)
 |.ref a=>some (.ref a)
 |.type n=>some (.ty n)
 |_=>none
theorem RelV.abs{x:V}{u:Value}(r:RelV x u):absV u=some x:=by
 cases x with
 |non=>cases r;rfl
 |bl _=>cases r;rfl
 |int _=>obtain⟨t,rfl⟩:=r;rfl
 |str _=>obtain⟨t,rfl⟩:=r;rfl
 |byt _=>obtain⟨t,rfl⟩:=r;rfl
 |flt _=>obtain⟨t,rfl⟩:=r;rfl
 |ref _=>cases r;rfl
 |ty _=>cases r;rfl
theorem RelV.inj{x y:V}{u:Value}(r:RelV x u)(q:RelV y u):x=y:=Option.some.inj (r.abs.symm.trans q.abs)
theorem Vals.inj:∀{xs ys:List V}{us:List Value},Vals xs us->Vals ys us->xs=ys
 |_,_,_,.nil,.nil=>rfl
 |_,_,_,.cons r t,.cons r' t'=>by rw[r.inj r',Vals.inj t t']
section
variable{X:Cx}{pins:List (Addr×Obj)}{σ:St}{H:Hp}{s:Shared}{a:Addr}{xs ys:List V}
theorem SqL.of{K:PySem.W.Frag}(h:H a=some (.lst xs)):SqL K H a xs:=.inl (.inl h)
theorem SqT.of{K:PySem.W.Frag}(h:H a=some (.tup xs)):SqT K H a xs:=.inl (.inl h)
theorem Inv.list(I:Inv X pins σ H s)(h:SqL X.K H a xs):∃its:List Value,Vals xs its/\PlainL s.heap a its.toArray/\xs.length<=sizeLine:=by
 rcases h with h|⟨o,its,n,hk,hc,hd,hs,hz,r⟩
 .obtain⟨z,its,n,r,e⟩:=h.ok I.hok;exact⟨its,r,⟨_,n,e,rfl,rfl,rfl⟩,z⟩
 .refine⟨its.toList,r,⟨o,n,I.kIn a o hk,hc,hd,by simpa using hs⟩,?_⟩;have e:=r.length;simp only[Array.length_toList]at e
  lia
theorem Inv.tuple(I:Inv X pins σ H s)(h:SqT X.K H a xs):∃its:List Value,Vals xs its/\IsTup s.heap a its.toArray/\xs.length<=sizeLine:=by
 rcases h with h|⟨o,its,n,hk,hc,hs,hz,r⟩
 .obtain⟨z,its,r,p⟩:=h.ok I.hok;exact⟨its,r,p,z⟩
 .refine⟨its.toList,r,⟨o,I.kIn a o hk,hc,n,by simpa using hs⟩,?_⟩;have e:=r.length;simp only[Array.length_toList]at e
  lia
theorem Inv.list_inj(I:Inv X pins σ H s)(h:SqL X.K H a xs)(h':SqL X.K H a ys):xs=ys:=by
 obtain⟨its,r,⟨o,n,e,_,_,d⟩,_⟩:=I.list h;obtain⟨its',r',⟨o',n',e',_,_,d'⟩,_⟩:=I.list h';rw[e]at e';cases e';rw[d]at d';injection d' with d1 _;have:its=its':=by simpa using congrArg Array.toList d1
 subst this;exact r.inj r'
theorem Inv.tuple_inj(I:Inv X pins σ H s)(h:SqT X.K H a xs)(h':SqT X.K H a ys):xs=ys:=by
 obtain⟨its,r,⟨o,e,_,n,d⟩,_⟩:=I.tuple h;obtain⟨its',r',⟨o',e',_,n',d'⟩,_⟩:=I.tuple h';rw[e]at e';cases e';rw[d]at d';injection d' with d1 _;have:its=its':=by simpa using congrArg Array.toList d1
 subst this;exact r.inj r'
end
abbrev Cx.wish(X:Cx)(E:Value->Shared->Prop):Cx:={X with xe:=E}
abbrev Cx.nox(X:Cx):Cx:=X.wish λ_ _=>False
theorem Cx.Ok.wish{X:Cx}(ok:X.Ok)(E:Value->Shared->Prop):(X.wish E).Ok :=
 ⟨ok.mod,ok.kind,ok.glob,ok.blt,ok.above,ok.inj,ok.has,ok.cab,ok.hd,ok.frames,ok.stk,ok.exf,ok.bs,ok.bsz,ok.noex,ok.exfs,ok.funs,ok.frf⟩
theorem Cx.Ok.unwish{X:Cx}{E:Value->Shared->Prop}(ok:(X.wish E).Ok):X.Ok :=
 ⟨ok.mod,ok.kind,ok.glob,ok.blt,ok.above,ok.inj,ok.has,ok.cab,ok.hd,ok.frames,ok.stk,ok.exf,ok.bs,ok.bsz,ok.noex,ok.exfs,ok.funs,ok.frf⟩
section
variable{X:Cx}{pins:List (Addr×Obj)}{σ:St}{H:Hp}{s:Shared}{E:Value->Shared->Prop}
theorem Inv.wish(I:Inv X pins σ H s)(E:Value->Shared->Prop):Inv (X.wish E) pins σ H s:=⟨I.ok.wish E,I.os,I.bare,I.base,I.loc,I.cell,I.free,I.freeC,I.pin,I.hok,I.len⟩
theorem Inv.unwish(I:Inv (X.wish E) pins σ H s):Inv X pins σ H s:=⟨I.ok.unwish,I.os,I.bare,I.base,I.loc,I.cell,I.free,I.freeC,I.pin,I.hok,I.len⟩
theorem SP.unwish{D:Ends}{f:Flow}{s':Shared}(h:SP (X.wish E) pins D f s'):SP X pins D f s':=by
 cases f with
 |next=>obtain⟨σ',H',I,q⟩:=h;exact⟨σ',H',I.unwish,q⟩
 |brk=>obtain⟨σ',H',I,q⟩:=h;exact⟨σ',H',I.unwish,q⟩
 |cont=>obtain⟨σ',H',I,q⟩:=h;exact⟨σ',H',I.unwish,q⟩
 |ret u=>obtain⟨v,σ',H',I,r,q⟩:=h;exact⟨v,σ',H',I.unwish,r,q⟩
theorem PSs.nox{st:List Stmt}{t:TS}(h:PSs X.nox st t):PSs X st t:=λpins s σ H D I hw =>
 wpAny_mono (h pins s σ H D (I.wish _) hw) (λ_ _ q=>q.unwish) λ_ _ z=>False.elim z
end
section
variable{X:Cx}{st:Stmt}{rest:List Stmt}{t u:TS}{e:Expr}{te:TE}{pos:Pos}
def zcE:TS:=λD σ H=>D.nx σ H
def tSeq(t u:TS):TS:=λD σ H=>t {D with nx:=u D} σ H
theorem zF:PSs X [] zcE:=λ_ _ σ H _ I h=>wpAny_execs_nil ⟨σ,H,I,h⟩
theorem ze(h1:PS X st t)(h2:PSs X rest u):PSs X (st::rest) (tSeq t u):=by
 intro pins s σ H D I h;refine wpAny_execs_cons (thn (h1 pins s σ H {D with nx:=u D} I h) λf s1 q=>?_);cases f with
 |next =>
  obtain⟨σ',H',I',q⟩:=q;exact h2 pins s1 σ' H' D I' q
 |ret v=>exact q
 |brk=>exact q
 |cont=>exact q
theorem zf(h1:PS X st t):PSs X [st] t:=by
 intro pins s σ H D I h;refine wpAny_execs_cons (thn (h1 pins s σ H D I h) λf s1 q=>?_);cases f with
 |next=>exact wpAny_execs_nil q
 |ret v=>exact q
 |brk=>exact q
 |cont=>exact q
def zfQ:TS:=λD σ H=>D.ct σ H
theorem WS:PS X (.Continue pos) zfQ:=λ_ _ σ H _ I h=>wpAny_Continue ⟨σ,H,I,h⟩
theorem Inv.quiet{pins:List (Addr×Obj)}{σ:St}{H:Hp}{s:Shared}(I:Inv X pins σ H s):interactive X.env=false:=by simp[interactive,I.ok.kind]
def zfR(te:TE):TS:=λD σ H=>te σ H λ_ H1=>D.nx σ H1
theorem yw(he:PE X e te)(hs:swapsWith e none pos.line X.env=pure false:=by rfl):PS X (.Expr e pos) (zfR te):=by
 intro pins s σ H D I h;exact wpAny_Expr_any (thn (he pins s σ H _ I h) λv s1 ⟨x,H1,I1,r1,q1⟩=>⟨σ,H1,I1,q1⟩) I.quiet hs
def tRet(te:TE):TS:=λD σ H=>te σ H D.rt
theorem zo(he:PE X e te):PS X (.Return (some e) pos) (tRet te):=by
 intro pins s σ H D I h;exact wpAny_Return_some (thn (he pins s σ H _ I h) λv s1 ⟨x,H1,I1,r1,q1⟩=>⟨x,σ,H1,I1,r1,q1⟩)
def tIfS(c:TT)(t u:TS):TS:=λD σ H=>c σ H λb H1=>if b=true then t D σ H1 else u D σ H1
theorem zO{c:Expr}{a b:List Stmt}{tc:TT}(hc:PT X c tc)(ha:PSs X a t)(hb:PSs X b u):PS X (.If c a b pos) (tIfS tc t u):=by
 intro pins s σ H D I h;refine wpAny_If (thn (hc pins s σ H _ I h) λd s1 ⟨H1,I1,q1⟩=>?_);cases d with
 |true=>exact ha pins s1 σ H1 D I1 q1
 |false=>exact hb pins s1 σ H1 D I1 q1
def zey:TS:=λ_ _ _=>False
theorem yP{sts:List Stmt}:PSs X sts zey:=λ_ _ _ _ _ _ h=>h.elim
end
abbrev TG:=V->St->Hp->(St->Hp->Prop)->Prop
abbrev TGs:=List V->St->Hp->(St->Hp->Prop)->Prop
def PG(X:Cx)(target:Expr)(t:TG):Prop :=
 ∀(pins:List (Addr×Obj))(s:Shared)(σ:St)(H:Hp)(v:V)(u:Value)(Q:St->Hp->Prop),Inv X pins σ H s->RelV v u->t v σ H Q ->
  wpAny (model X.prog X.w) X.A (assign target X.env u) (λ_ s'=>∃σ' H',Inv X pins σ' H' s'/\Q σ' H') X.xe s
def PGs(X:Cx)(ts:List Expr)(t:TGs):Prop :=
 ∀(pins:List (Addr×Obj))(s:Shared)(σ:St)(H:Hp)(vs:List V)(us:List Value)(Q:St->Hp->Prop),Inv X pins σ H s->Vals vs us->t vs σ H Q ->
  wpAny (model X.prog X.w) X.A (assignInOrder ((assignEach ts X.env).map (·.2)) us) (λ_ s'=>∃σ' H',Inv X pins σ' H' s'/\Q σ' H') X.xe s
abbrev TSet:=V->V->V->Hp->(Hp->Prop)->Prop
def PSet(X:Cx)(t:TSet):Prop :=
 ∀(pins:List (Addr×Obj))(s:Shared)(σ:St)(H:Hp)(o i v:V)(ov iv u:Value)(Q:Hp->Prop),Inv X pins σ H s->RelV o ov->RelV i iv->RelV v u->t o i v H Q ->
  wpAny (model X.prog X.w) X.A (setItem ov iv u) (λ_ s'=>∃H',Inv X pins σ H' s'/\Q H') X.xe s
abbrev TIp:=V->V->Hp->VK->Prop
def PIp(X:Cx)(op:Operator)(t:TIp):Prop :=
 ∀(pins:List (Addr×Obj))(s:Shared)(σ:St)(H:Hp)(x y:V)(v u:Value)(Q:VK),Inv X pins σ H s->RelV x v->RelV y u->t x y H Q ->
  wpAny (model X.prog X.w) X.A (inplaceOp op v u) (EP X pins σ Q) X.xe s
section
variable{X:Cx}{pos:Pos}
def zU(i:Nat):TG:=λv σ H Q=>Q (σ.set i (some v)) H
theorem zt{i:Nat}{x:Str}(hN:X.N.Nodup)(hi:X.N[i]?=some x)(hx:Loc X.env.scope x)(hf:X.fn x=true\/X.env.scope.names.lookup x=some .local:=by first|exact .inl rfl|exact .inr rfl|assumption):PG X (.Name x pos) (zU i):=by
 intro pins s σ H v u Q I r h;exact wpAny_assign_Name (jT I hN hi hx r (λs' I'=>⟨_,H,I',h⟩) hf)
def gNil:TGs:=λvs σ H Q=>vs=[]/\Q σ H
def zfS(t:TG)(u:TGs):TGs:=λvs σ H Q=>∃v r,vs=v::r/\t v σ H λσ' H'=>u r σ' H' Q
theorem yB:PGs X [] gNil:=by
 intro pins s σ H vs us Q I r h;obtain⟨e,h⟩:=h;subst e;cases r;exact assignInOrder_nil ⟨σ,H,I,h⟩
theorem zR{e:Expr}{es:List Expr}{t:TG}{u:TGs}(h1:PG X e t)(h2:PGs X es u)
  (hs:(assignEach (e::es) X.env).map (·.2)=assign e X.env::(assignEach es X.env).map (·.2):=by rfl):PGs X (e::es) (zfS t u):=by
 intro pins s σ H vs us Q I r h;obtain⟨v,vr,e1,h⟩:=h;subst e1;cases r with
 |cons r rr =>
  rw[hs];refine assignInOrder_cons (thn (h1 pins s σ H _ _ _ I r h) λ_ s1 h9=>?_);obtain⟨σ1,H1,I1,q1⟩:=h9;exact h2 pins s1 σ1 H1 _ _ Q I1 rr q1
def gTup(K:PySem.W.Frag)(n:Nat)(t:TGs):TG:=λv σ H Q=>∃a xs,v=.ref a/\SqT K H a xs/\xs.length=n/\t xs σ H Q
theorem wI{es:List Expr}{k:Nat}{t:TGs}{n:Nat}(hc:X.calm=true)(h:PGs X es t)
  (hn:(assignEach es X.env).length=n:=by rfl)(hst:(assignEach es X.env).findIdx? (·.1)=none:=by rfl):PG X (.Tuple es k pos) (gTup X.K n t):=by
 intro pins s σ H v u Q I r hw;obtain⟨a,xs,e1,hq,hl,hw⟩:=hw;subst e1;cases r;obtain⟨its,rv,ht,hz⟩:=I.tuple hq;refine assign_Tuple_tuple (I.ok.hd hc) ht (by simp[hn,<-hl,rv.length]) hst λh' hx=>?_;have I1:Inv X pins σ H {s with heap:=h'}:=I.kept (t':=s.toks) λb o e=>hx b o (vc (Heap.lt_size e)) e;exact h pins _ σ H xs _ Q I1 (by simpa using rv) hw
def gSub(to ti:TE)(t:TSet):TG:=λv σ H Q=>to σ H λo H1=>ti σ H1 λi H2=>t o i v H2 λH3=>Q σ H3
theorem JR{o i:Expr}{to ti:TE}{t:TSet}(ho:PE X o to)(hi:PE X i ti)(hs:PSet X t)
  (ha:∀v,assign (.Subscript o i pos) X.env v=(do
   let ov <-holding [v] (eval o X.env)
   let iv <-holding [v,ov] (eval i X.env)
   standAt pos
   holding [v,ov,iv] (setItem ov iv v)
   release [v,ov,iv] []):=by intro _;rfl):PG X (.Subscript o i pos) (gSub to ti t):=by
 intro pins s σ H v u Q I r h;rw[ha];refine wpAny_bind (wpAny_holding (thn (ho pins s σ H _ I h) λov s1 h9=>?_));obtain⟨x,H1,I1,r1,q1⟩:=h9;refine wpAny_bind (wpAny_holding (thn (hi pins s1 σ H1 _ I1 q1) λiv s2 h9=>?_));obtain⟨y,H2,I2,r2,q2⟩:=h9;refine wpAny_bind (wpAny_standAt (wpAny_bind (wpAny_holding (thn (hs pins s2 σ H2 x y v ov iv u _ I2 r1 r2 r q2) λ_ s3 h9=>?_))));obtain⟨H3,I3,q3⟩:=h9;exact wpAny_release ⟨σ,H3,I3,q3⟩
def tAsg(te:TE)(g:TG):TS:=λD σ H=>te σ H λx H1=>g x σ H1 D.nx
theorem Zk{tg e:Expr}{te:TE}{g:TG}(he:PE X e te)(hg:PG X tg g)(hs:swapsWithSole [tg] e pos.line X.env=pure false:=by rfl)(hw:swappedStores [tg] e X.env=pure none:=by rfl)
  (h1:(assignEach [tg] X.env).map (·.2)=[assign tg X.env]:=by rfl):PS X (.Assign [tg] e pos) (tAsg te g):=by
 intro pins s σ H D I h;refine wpAny_Assign_stores (thn (he pins s σ H _ I h) λv s1 ⟨x,H1,I1,r1,q1⟩=>?_) hs hw;rw[h1];exact thn (hg pins s1 σ H1 x v _ I1 r1 q1) λ_ s2 q=>q
theorem zB{i:Nat}{x:Str}{e:Expr}{te:TE}{pos':Pos}(hN:X.N.Nodup)(hi:X.N[i]?=some x)(hx:Loc X.env.scope x)(he:PE X e te)(hs:swapsWith e (some (.Name x pos')) pos.line X.env=pure false:=by rfl)(hf:X.fn x=true\/X.env.scope.names.lookup x=some .local:=by first|exact .inl rfl|exact .inr rfl|assumption):
  PS X (.Assign [.Name x pos'] e pos) (tAsg te (zU i)):=by
 intro pins s σ H D I h;refine wpAny_Assign_Name (thn (he pins s σ H _ I h) λv s1 ⟨y,H1,I1,r1,q1⟩=>?_) hs;exact jT I1 hN hi hx r1 (λs2 I2=>⟨_,H1,I2,q1⟩) hf
def tAug(i:Nat)(te:TE)(ti:TIp):TS:=λD σ H=>∃x,σ[i]?=some (some x)/\te σ H λy H1=>ti x y H1 λz H2=>D.nx (σ.set i (some z)) H2
theorem Xz{i:Nat}{x:Str}{e:Expr}{te:TE}{op:Operator}{ti:TIp}{pos':Pos}(hN:X.N.Nodup)(hi:X.N[i]?=some x)(hx:Loc X.env.scope x)(he:PE X e te)(ho:PIp X op ti)(hf:X.fn x=true\/X.env.scope.names.lookup x=some .local:=by first|exact .inl rfl|exact .inr rfl|assumption):
  PS X (.AugAssign (.Name x pos') op e pos) (tAug i te ti):=by
 intro pins s σ H D I h;obtain⟨v,e1,h⟩:=h;obtain⟨m,hn,hl⟩:=I.loc;have vis:Vis X.env.scope x:=by rcases hx with k|k;exact .inl k;exact .inr (.inl k)
 obtain⟨u,r,l⟩:=hl i x v hi e1 vis;refine wpAny_AugAssign_Name ?_;have go:wpAny (model X.prog X.w) X.A (eval e X.env) (λw s₂=>wpAny (model X.prog X.w) X.A (inplaceOp op u w) (λr s₃=>wpAny (model X.prog X.w) X.A (storeName X.env x r) (λ_=>SP X pins D .next) X.xe s₃) X.xe s₂) X.xe s:=by
  refine thn (he pins s σ H _ I h) λw s1 h9=>?_;obtain⟨y,H1,I1,r1,q1⟩:=h9;refine thn (ho pins s1 σ H1 v y u w _ I1 r r1 q1) λz s2 h9=>?_;obtain⟨zv,H2,I2,r2,q2⟩:=h9;exact jT I2 hN hi hx r2 (λs3 I3=>⟨_,H2,I3,q2⟩) hf
 rcases l with⟨hk,hm⟩|⟨hk,c,hc,hcell⟩
 .exact wpAny_loadName_local I.ok.kind hk hn hm go
 .rcases hk with hk|hk
  .exact wpAny_loadName_cell I.ok.kind hk hc hcell go
  .rcases hx with k|k
   .have:X.env.scope.names.lookup x=some .free:=hk;rw[k]at this;cases this
   .have:X.env.scope.names.lookup x=some .free:=hk;rw[k]at this;cases this
def ipI(f:Int->Int->Int):TIp:=λx y H Q=>∃i j,x=.int i/\y=.int j/\Q (.int (f i j)) H
theorem XA:PIp X .Add (ipI λi j=>i+j):=by
 intro pins s σ H x y v u Q I r1 r2 h;obtain⟨i,j,e1,e2,q⟩:=h;subst e1;subst e2;obtain⟨t,rfl⟩:=r1;obtain⟨t',rfl⟩:=r2;exact iadd_int ⟨.int _,H,I.tok _,⟨_,rfl⟩,q⟩
end
section
variable{X:Cx}{pos:Pos}
def JS(c:TT)(tb:TS):TS:=λD σ H=>∃W:Nat->St->Hp->Prop,(∃m,W m σ H)/\∀m σ H,W m σ H ->
 c σ H λb H1=>if b=true then ∃N:St->Hp->Prop,(∀σ' H',N σ' H'->∃m',m'<m/\W m' σ' H')/\tb {D with nx:=N,ct:=N,bk:=D.nx} σ H1 else D.nx σ H1
theorem jU{c:Expr}{body:List Stmt}{tc:TT}{tb:TS}(hp:PassesOwn (model X.prog X.w) X.A X.env X.xe)(hc:PT X c tc)(hb:PSs X body tb):PS X (.While c body [] pos) (JS tc tb):=by
 intro pins s σ H D I h;obtain⟨W,⟨m0,w0⟩,turn⟩:=h;refine wpAny_While (codeAny_whileLoop (λn s'=>∃σ' H',Inv X pins σ' H' s'/\W n σ' H') ?_ m0 ⟨σ,H,I,w0⟩);rintro n s1 ⟨σ1,H1,I1,w1⟩;refine wpAny_passesOwn hp (thn (hc pins s1 σ1 H1 _ I1 (turn n σ1 H1 w1)) λb s2 ⟨H2,I2,q2⟩=>?_);cases b with
 |true =>
  obtain⟨N,hN,q2⟩:=q2;rw[if_pos rfl];refine wpAny_passesOwn hp (thn (hb pins s2 σ1 H2 _ I2 q2) λf s3 q3=>?_);cases f with
  |next =>
   obtain⟨σ3,H3,I3,n3⟩:=q3;obtain⟨m',hm,w3⟩:=hN σ3 H3 n3;exact⟨m',hm,σ3,H3,I3,w3⟩
  |cont =>
   obtain⟨σ3,H3,I3,n3⟩:=q3;obtain⟨m',hm,w3⟩:=hN σ3 H3 n3;exact⟨m',hm,σ3,H3,I3,w3⟩
  |brk=>exact q3
  |ret v=>exact q3
 |false =>
  rw[if_neg kH];exact wpAny_execs_nil ⟨σ1,H2,I2,q2⟩
end
structure It where
 go:Nat->Hp->Prop
 yld:Nat->Hp->V->Hp->Prop
 stop:Nat->Hp->Prop
def FpOk(X:Cx)(pins:List (Addr×Obj))(H:Hp)(b:Addr):Prop :=
 H b=none/\b≠X.env.locals/\b∉X.fs/\(b∈X.ex\/X.s₀.heap.objs.size<=b)/\(∀x c,X.env.cells.lookup x=some c->c≠b)/\∀p∈X.pn++pins,p.1≠b
theorem Inv.fpOk{X:Cx}{pins:List (Addr×Obj)}{σ:St}{H H':Hp}{s:Shared}{b:Addr}(I:Inv X pins σ H s)(hb:s.heap.objs.size<=b)(hn:H' b=none):FpOk X pins H' b:=by
 refine⟨hn,uw (vd I.lt hb),I.nofs hb,.inr (kw I.sz hb),λx c e z=>?_,λp hp z=>?_⟩
 .obtain⟨v,q⟩:=I.cell x c e;exact absurd (vd q.lt (by rw[z];exact hb)) (vP _)
 .exact absurd (vd (Heap.lt_size (I.pin p hp).1) (by rw[z];exact hb)) (vP _)
structure Turn(P:Program)(w:World)(K:PySem.W.Frag)(tg:Expr)(J:It)(fp:List Addr)(it:Addr)(tn:Nat->Heap->Prop):Prop where
 mem:it∈fp
 obj:∀i h,tn i h->∀b∈fp,∃o,h.get? b=some o/\∀v,o.data≠.cell v
 keep:∀i h h',tn i h->(∀b∈fp,∀o,h.get? b=some o->h'.get? b=some o)->tn i h'
 item:∀(X:Cx),X.prog=P->X.w=w->X.K=K->X.calm=true->∀(i:Nat)(pins:List (Addr×Obj))(s:Shared)(σ:St)(H:Hp)(E:Value->Shared->Prop),Inv X pins σ H s->(∀b∈fp,FpOk X pins H b)->tn i s.heap->J.go i H ->
  wpAny (model P w) X.A (pyNext (.ref it)) (λr s1=>∃u,r=some u /\
   wpAny (model P w) X.A (letOwnedTupleGo tg (.ref it) u) (λ_ s2=>∃x H',Inv X pins σ H' s2/\RelV x u/\J.yld i H x H'/\tn (i+1) s2.heap/\∀b∈fp,H' b=none) E s1) E s
 done:∀(X:Cx),X.prog=P->X.w=w->X.K=K->X.calm=true->∀(i:Nat)(pins:List (Addr×Obj))(s:Shared)(σ:St)(H:Hp)(E:Value->Shared->Prop),Inv X pins σ H s->(∀b∈fp,FpOk X pins H b)->tn i s.heap->J.stop i H ->
  wpAny (model P w) X.A (pyNext (.ref it)) (λr s1=>r=none/\Inv X pins σ H s1) E s
 self:∀(A:Around)(i:Nat)(s:Shared)(Q:Value->Shared->Prop)(E:Value->Shared->Prop),tn i s.heap->Q (.ref it) s->wpAny (model P w) A (pyIter (.ref it)) Q E s
abbrev TI:=St->Hp->(It->Hp->Prop)->Prop
def PIE(X:Cx)(pins:List (Addr×Obj))(σ:St)(tg:Expr)(R:It->Hp->Prop)(itv:Value)(s2:Shared):Prop :=
 ∃(it:Addr)(fp:List Addr)(tn:Nat->Heap->Prop)(J:It)(H':Hp),itv=.ref it/\Inv X pins σ H' s2/\Turn X.prog X.w X.K tg J fp it tn/\tn 0 s2.heap/\(∀b∈fp,FpOk X pins H' b)/\R J H'
def PI(X:Cx)(tg iter:Expr)(wi:TI):Prop :=
 ∀(pins:List (Addr×Obj))(s:Shared)(σ:St)(H:Hp)(R:It->Hp->Prop),Inv X pins σ H s->wi σ H R ->
  wpAny (model X.prog X.w) X.A (eval iter X.env) (λv s1=>wpAny (model X.prog X.w) X.A (pyIter v) (PIE X pins σ tg R) X.xe s1) X.xe s
theorem Zm{M:Model}{A:Around}{E:Value->Shared->Prop}{s:Shared}{tg:Expr}{it:Addr}{u:Value}{o:Obj}{n:String}{vs:Array Value}{Q:Unit->Shared->Prop}(ho:s.heap.get? it=some o)(hc:o.cls=.type n)(hd:o.data=.fields vs)
  (hn:["enumerate","zip","dict_itemiterator","dict_reverseitemiterator","odict_iterator","itertools.zip_longest","itertools.pairwise"].contains n=false)(hQ:Q Unit.unit s):wpAny M A (letOwnedTupleGo tg (.ref it) u) Q E s:=by
 unfold letOwnedTupleGo;cases tg<;>first
  |exact wpAny_pure hQ
  |(cases u<;>first
    |exact wpAny_pure hQ
    |(refine wpAny_bind (wpAny_load ho ?_)
      rw[hc,hd];show wpAny M A (if(["enumerate","zip","dict_itemiterator","dict_reverseitemiterator","odict_iterator","itertools.zip_longest","itertools.pairwise"].contains n&&vs[0]? == some (rawInt _))=true then _ else _) Q E s;rw[if_neg (by intro h;rw[hn,Bool.false_and]at h;cases h)];exact wpAny_pure hQ))
def Itl(K:PySem.W.Frag)(a:Addr):It :=
 ⟨λi H=>∃xs x,SqL K H a xs/\xs[i]?=some x,λi H x H'=>H'=H/\∀xs,SqL K H a xs->xs[i]?=some x,λi H=>∃xs,SqL K H a xs/\xs.length<=i⟩
def Itt(K:PySem.W.Frag)(a:Addr):It :=
 ⟨λi H=>∃xs x,SqT K H a xs/\xs[i]?=some x,λi H x H'=>H'=H/\∀xs,SqT K H a xs->xs[i]?=some x,λi H=>∃xs,SqT K H a xs/\xs.length<=i⟩
def Itr(lo:Int)(n:Nat):It:=⟨λi _=>i<n,λi H x H'=>H'=H/\x=.int (lo+i),λi _=>n<=i⟩
theorem JT{P:Program}{w:World}{K:PySem.W.Frag}{tg:Expr}(a it:Addr):Turn P w K tg (Itl K a) [it] it (λi h=>h.IsListIter it a i) where
 mem:=by simp
 obj:=λi h st b hb=>by
  have e:b=it:=by simpa using hb
  subst e;obtain⟨o,e,c,d⟩:=st;exact⟨o,e,λv z=>by rw[d]at z;cases z⟩
 keep:=λi h h' st k=>st.at λo e=>k it (by simp) o e
 item:=by
  intro X hP hw hK hc i pins s σ H E I hf st hg;subst hP hw hK;obtain⟨xs,x,hq,hx⟩:=hg;obtain⟨its,rv,p,hz⟩:=I.list hq;obtain⟨u,hu,ru⟩:=rv.get hx;obtain⟨f0,f1,f2,f3,f4,f5⟩:=hf it (by simp);refine wpAny_pyNext_list_item st p.isList (x:=u) (by simpa using hu) λh' st' sb=>?_;have I1:Inv X pins σ H {s with heap:=h'}:=I.turned (t':=s.toks) (λb o hb e=>(sb.2 b hb).trans e) f0 f1 f3 f4 f5;obtain⟨o,e,c,d⟩:=id st';exact⟨u,rfl,Zm (s:={s with heap:=h'}) e c d ⋯ ⟨x,H,I1,ru,⟨rfl,λys hy=>by rw[I.list_inj hy hq];exact hx⟩,st',λb hb=>(hf b hb).1⟩⟩
 done:=by
  intro X hP hw hK hc i pins s σ H E I hf st hg;subst hP hw hK;obtain⟨xs,hq,hx⟩:=hg;obtain⟨its,rv,p,hz⟩:=I.list hq;obtain⟨f0,f1,f2,f3,f4,f5⟩:=hf it (by simp);have hl:=rv.length;exact wpAny_pyNext_list_end (I.ok.hd hc) st p.isList (by simp;lia) λh' eb=>⟨rfl,I.turned (t':=s.toks) (λb o hb e=>eb b o hb e) f0 f1 f3 f4 f5⟩
 self:=λ_ _ _ _ _ st h=>wpAny_pyIter_listiter st h
theorem QK{P:Program}{w:World}{K:PySem.W.Frag}{tg:Expr}(a it:Addr):Turn P w K tg (Itt K a) [it] it (λi h=>h.IsTupleIter it a i) where
 mem:=by simp
 obj:=λi h st b hb=>by
  have e:b=it:=by simpa using hb
  subst e;obtain⟨o,e,c,d⟩:=st;exact⟨o,e,λv z=>by rw[d]at z;cases z⟩
 keep:=λi h h' st k=>st.at λo e=>k it (by simp) o e
 item:=by
  intro X hP hw hK hc i pins s σ H E I hf st hg;subst hP hw hK;obtain⟨xs,x,hq,hx⟩:=hg;obtain⟨its,rv,p,hz⟩:=I.tuple hq;obtain⟨u,hu,ru⟩:=rv.get hx;obtain⟨f0,f1,f2,f3,f4,f5⟩:=hf it (by simp);refine wpAny_pyNext_tuple_item st (show s.heap.IsTuple a its.toArray from p) (x:=u) (by simpa using hu) λh' st' sb=>?_;have I1:Inv X pins σ H {s with heap:=h'}:=I.turned (t':=s.toks) (λb o hb e=>(sb.2 b hb).trans e) f0 f1 f3 f4 f5;obtain⟨o,e,c,d⟩:=id st';exact⟨u,rfl,Zm (s:={s with heap:=h'}) e c d ⋯ ⟨x,H,I1,ru,⟨rfl,λys hy=>by rw[I.tuple_inj hy hq];exact hx⟩,st',λb hb=>(hf b hb).1⟩⟩
 done:=by
  intro X hP hw hK hc i pins s σ H E I hf st hg;subst hP hw hK;obtain⟨xs,hq,hx⟩:=hg;obtain⟨its,rv,p,hz⟩:=I.tuple hq;obtain⟨f0,f1,f2,f3,f4,f5⟩:=hf it (by simp);have hl:=rv.length;exact wpAny_pyNext_tuple_end (I.ok.hd hc) st (show s.heap.IsTuple a its.toArray from p) (by simp;lia) λh' eb=>⟨rfl,I.turned (t':=s.toks) (λb o hb e=>eb b o hb e) f0 f1 f3 f4 f5⟩
 self:=λ_ _ _ _ _ st h=>wpAny_pyIter_tupleiter st h
theorem QL{P:Program}{w:World}{K:PySem.W.Frag}{tg:Expr}(it:Addr)(lo:Int)(n:Nat):Turn P w K tg (Itr lo n) [it] it (λi h=>IsRangeIter h it (lo+(i:Nat)*1) ((n:Int)-(i:Nat)) 1) where
 mem:=by simp
 obj:=λi h st b hb=>by
  have e:b=it:=by simpa using hb
  subst e;exact⟨_,st,λv z=>by
   have z':Data.fields _=Data.cell v:=z;cases z'⟩
 keep:=λi h h' st k=>k it (by simp) _ st
 item:=by
  intro X hP hw hK hc i pins s σ H E I hf st hg;subst hP hw hK;obtain⟨f0,f1,f2,f3,f4,f5⟩:=hf it (by simp);have W:=Walks.range (prog:=X.prog) (w:=X.w) (I.ok.hd hc) it lo 1 n;refine W.item i s _ _ hg st λv h' tk hv st' kk=>?_;obtain⟨t,rfl⟩:=hv;have I1:Inv X pins σ H {s with heap:=h',toks:=tk}:=I.turned (λb o hb e=>kk b o (by simpa using hb) e) f0 f1 f3 f4 f5;refine⟨_,rfl,Zm (s:={s with heap:=h',toks:=tk}) (n := "range_iterator") st' rfl rfl ⋯ ⟨.int (lo+i),H,I1,⟨t,?_⟩,⟨rfl,rfl⟩,st',λb hb=>(hf b hb).1⟩⟩;rw[Int.mul_one]
 done:=by
  intro X hP hw hK hc i pins s σ H E I hf st hg;subst hP hw hK;obtain⟨f0,f1,f2,f3,f4,f5⟩:=hf it (by simp);exact wpAny_pyNext_range_end (I.ok.hd hc) st (by have:n<=i:=hg;lia) λh' eb=>⟨rfl,I.turned (t':=s.toks) (λb o hb e=>eb b o hb e) f0 f1 f3 f4 f5⟩
 self:=λ_ _ _ _ _ st h=>wpAny_pyIter_rangeiter st h
section
variable{X:Cx}{tg:Expr}
def zfT(K:PySem.W.Frag)(tl:TE):TI:=λσ H R=>tl σ H λx H1=>∃a,x=.ref a/\(∃xs,SqL K H1 a xs)/\R (Itl K a) H1
def iTup(K:PySem.W.Frag)(tl:TE):TI:=λσ H R=>tl σ H λx H1=>∃a,x=.ref a/\(∃xs,SqT K H1 a xs)/\R (Itt K a) H1
theorem zV{l:Expr}{tl:TE}(hl:PE X l tl):PI X tg l (zfT X.K tl):=by
 intro pins s σ H R I h;refine thn (hl pins s σ H _ I h) λv s1 h9=>?_;obtain⟨x,H1,I1,r1,q1⟩:=h9;obtain⟨a,e,⟨xs,hq⟩,q⟩:=q1;subst e;cases r1;obtain⟨its,rv,p,hz⟩:=I1.list hq;refine wpAny_pyIter_list p.isList ?_;refine I_5 s1.heap.objs.size [s1.heap.objs.size] _ _ H1 ⟨rfl,I1.kept (t':=s1.toks) λb o e=>Heap.get?_push_of_some _ e,JT a _,⟨_,Heap.get?_push_size _ rfl,rfl,rfl⟩,λb hb=>?_,q⟩;have e:b=s1.heap.objs.size:=by simpa using hb
 subst e;exact I1.fpOk (km _) (I1.hok.fresh (km _))
theorem xT{l:Expr}{tl:TE}(hl:PE X l tl):PI X tg l (iTup X.K tl):=by
 intro pins s σ H R I h;refine thn (hl pins s σ H _ I h) λv s1 h9=>?_;obtain⟨x,H1,I1,r1,q1⟩:=h9;obtain⟨a,e,⟨xs,hq⟩,q⟩:=q1;subst e;cases r1;obtain⟨its,rv,p,hz⟩:=I1.tuple hq;refine wpAny_pyIter_tuple (show s1.heap.IsTuple a its.toArray from p) ?_;refine I_5 s1.heap.objs.size [s1.heap.objs.size] _ _ H1 ⟨rfl,I1.kept (t':=s1.toks) λb o e=>Heap.get?_push_of_some _ e,QK a _,⟨_,Heap.get?_push_size _ rfl,rfl,rfl⟩,λb hb=>?_,q⟩;have e:b=s1.heap.objs.size:=by simpa using hb
 subst e;exact I1.fpOk (km _) (I1.hok.fresh (km _))
theorem zbC{pins:List (Addr×Obj)}{σ:St}{H:Hp}{s:Shared}{R:It->Hp->Prop}{E:Value->Shared->Prop}{lo hi:Int}{t u v:Tok}{tk:Nat}(I:Inv X pins σ H s)(h1:-(2^62)<=lo)(h2:lo<2^62)(h3:-(2^62)<=hi)(h4:hi<2^62)
  (q:R (Itr lo (hi-lo).toNat) H):wpAny (model X.prog X.w) X.A (pyIter (.ref s.heap.objs.size)) (PIE X pins σ tg R) E {s with heap:=s.heap.push {cls:=.type "range",data:=.fields #[.int lo t,.int hi u,.int 1 v]},toks:=tk}:=by
 refine wpAny_pyIter_range (IsRange.new ..) (small_one h1 h2 h3 h4) ?_;have I1:Inv X pins σ H {s with heap:=s.heap.push {cls:=.type "range",data:=.fields #[.int lo t,.int hi u,.int 1 v]},toks:=tk}:=I.kept λb o e=>Heap.get?_push_of_some _ e;refine⟨(s.heap.push {cls:=.type "range",data:=.fields #[.int lo t,.int hi u,.int 1 v]}).objs.size,[(s.heap.push {cls:=.type "range",data:=.fields #[.int lo t,.int hi u,.int 1 v]}).objs.size],_,_,H,rfl,
  I1.kept (t':=tk) λb o e=>Heap.get?_push_of_some _ e,QL _ lo (hi-lo).toNat,?_,λb hb=>?_,q⟩
 .have e1:lo+((0:Nat):Int)*1=lo:=by simp
  have e2:(((hi-lo).toNat:Nat):Int)-((0:Nat):Int)=Builtin.Range.rangeSize lo hi 1:=by rw[rangeSize_one];split<;>lia
  show IsRangeIter _ _ (lo+((0:Nat):Int)*1) ((((hi-lo).toNat:Nat):Int)-((0:Nat):Int)) 1;rw[e1,e2];exact Heap.get?_push_size _ rfl
 .have e:b=(s.heap.push {cls:=.type "range",data:=.fields #[.int lo t,.int hi u,.int 1 v]}).objs.size:=by simpa using hb
  subst e;exact I1.fpOk (km _) (I1.hok.fresh (km _))
def zfU(ta:TA):TI:=λσ H R=>ta σ H λvs H1=>∃j:Int,vs=[.int j] /\ -(2^62)<=j/\j<2^62/\R (Itr 0 j.toNat) H1
theorem wW{a:Expr}{ta:TA}{p pos:Pos}(hg:Gl X "range")(hm:X.mg "range"=none)(ha:PA X [a] ta)(hs:starEach [a] X.env=[(false,eval a X.env)]:=by rfl):PI X tg (.Call (.Name "range" p) [a] [] pos) (zfU ta):=by
 intro pins s σ H R I h;refine Call_ (yR I hg hm boot_range (vB (thn (ha pos pins s σ H _ I h) λus s1 ⟨vs,H1,I1,r1,q1⟩=>?_) hs rfl));obtain⟨j,e,q1,q2,q⟩:=q1;subst e;cases r1 with
 |cons r rr =>
  cases rr;obtain⟨t,rfl⟩:=r;exact call_range_1 (zbC I1 ⋯ ⋯ q1 q2 (by simpa using q))
def tFor(wi:TI)(g:TG)(tb:TS):TS:=λD σ H=>wi σ H λJ H1=>∃W:Nat->Nat->St->Hp->Prop,(∃m,W 0 m σ H1)/\∀i m σ H,W i m σ H ->
 (J.stop i H/\D.nx σ H)\/(J.go i H/\∃N:St->Hp->Prop,(∀σ' H',N σ' H'->∃m',m'<m/\W (i+1) m' σ' H')/\∀x H',J.yld i H x H'->g x σ H' λσ2 H2=>tb {D with nx:=N,ct:=N,bk:=D.nx} σ2 H2)
def wj(fp:List Addr)(h:Heap):List (Addr×Obj):=fp.filterMap λb=>(h.get? b).map λo=>(b,o)
theorem wv{fp:List Addr}{h:Heap}{b:Addr}{o:Obj}(hb:b∈fp)(e:h.get? b=some o):(b,o)∈wj fp h:=List.mem_filterMap.mpr ⟨b,hb,by rw[e];rfl⟩
theorem Yt{fp:List Addr}{h:Heap}{p:Addr×Obj}(hp:p∈wj fp h):p.1∈fp/\h.get? p.1=some p.2:=by
 obtain⟨b,hb,e⟩:=List.mem_filterMap.mp hp;cases q:h.get? b with
 |none=>rw[q]at e;cases e
 |some o =>
  rw[q]at e;have e':(b,o)=p:=Option.some.inj e;subst e';exact⟨hb,q⟩
theorem Inv.pinned{pins:List (Addr×Obj)}{σ:St}{H:Hp}{s:Shared}{fp:List Addr}(I:Inv X pins σ H s)(hf:∀b∈fp,FpOk X pins H b)(ho:∀b∈fp,∃o,s.heap.get? b=some o/\∀v,o.data≠.cell v):Inv X (pins++wj fp s.heap) σ H s :=
 I.pins_of λp hp=>(k7.mp hp).elim (λz=>I.pin p (kO _ z)) λz=>by
  obtain⟨hb,e⟩:=Yt z;obtain⟨f0,f1,f2,_⟩:=hf p.1 hb;obtain⟨o,e',d⟩:=ho p.1 hb;rw[e]at e';cases e';exact⟨e,f0,f1,f2,d⟩
theorem Inv.unpinned{pins pl:List (Addr×Obj)}{σ:St}{H:Hp}{s:Shared}(I:Inv X (pins++pl) σ H s):Inv X pins σ H s:=I.pins_of λp hp=>I.pin p (kO _ (vJ _ hp))
theorem yS{iter:Expr}{body:List Stmt}{wi:TI}{g:TG}{tb:TS}{pos:Pos}(hp:PassesOwn (model X.prog X.w) X.A X.env X.xe)(hc:X.calm=true)(hi:PI X tg iter wi)(hg:PG X tg g)(hb:PSs X body tb)
  (hs:∀x,foldedSetIterable iter X.env x=pure x:=by intro _;rfl):PS X (.For tg iter body [] pos) (tFor wi g tb):=by
 intro pins s σ H D I h;refine wpAny_For (thn (hi pins s σ H _ I h) λv s1 h1=>thn h1 λitv s2 h2=>?_) hs;obtain⟨it,fp,tn,J,H2,e,I2,T,st2,f2,W,⟨m0,w0⟩,turn⟩:=h2;subst e
 -- what stays true of the iterator's objects through the loop
 have stat:∀{H':Hp},(∀b∈fp,H' b=none)->∀b∈fp,FpOk X pins H' b:=λhn b hb=>⟨hn b hb,(f2 b hb).2⟩;refine codeAny_forLoop_any (λn s'=>∃i σ' H',Inv X pins σ' H' s'/\tn i s'.heap/\(∀b∈fp,H' b=none)/\W i n σ' H') ?_ m0 ⟨0,σ,H2,I2,st2,λb hb=>(f2 b hb).1,w0⟩;rintro n s3 ⟨i,σ3,H3,I3,st3,fr3,w3⟩;rcases turn i n σ3 H3 w3 with⟨stop,qn⟩|⟨go,N,hN,step⟩
 .refine wpAny_passesOwn hp (thn (T.done X rfl rfl rfl hc i pins s3 σ3 H3 X.xe I3 (stat fr3) st3 stop) λr s4 h9=>?_);obtain⟨hr,I4⟩:=h9;subst hr;exact wpAny_execs_nil ⟨σ3,H3,I4,qn⟩
 .refine wpAny_passesOwn hp (thn (T.item X rfl rfl rfl hc i pins s3 σ3 H3 X.xe I3 (stat fr3) st3 go) λr s4 h9=>?_);obtain⟨u,hr,h4⟩:=h9;subst hr;refine wpAny_passesOwn hp (thn h4 λ_ s5 h9=>?_);obtain⟨x,H5,I5,r5,y5,st5,fr5⟩:=h9;have I5':=I5.pinned (stat fr5) (T.obj _ _ st5);refine wpAny_passesOwn hp (thn (hg _ s5 σ3 H5 x u _ I5' r5 (step x H5 y5)) λ_ s6 h9=>?_);obtain⟨σ6,H6,I6,q6⟩:=h9;refine wpAny_passesOwn hp (thn (hb _ s6 σ6 H6 _ I6 q6) λf s7 q7=>?_);have again:∀{σ7:St}{H7:Hp},Inv X (pins++wj fp s5.heap) σ7 H7 s7->N σ7 H7->∃m,m<n/\∃i σ' H',Inv X pins σ' H' s7/\tn i s7.heap/\(∀b∈fp,H' b=none)/\W i m σ' H':=λ{σ7 H7} I7 n7=>by
   obtain⟨m',hm,w7⟩:=hN σ7 H7 n7;refine⟨m',hm,i+1,σ7,H7,I7.unpinned,T.keep _ _ _ st5 λb hb o e=>(I7.pin (b,o) (kO _ (kO _ (wv hb e)))).1,λb hb=>?_,w7⟩;obtain⟨o,e,d⟩:=T.obj _ _ st5 b hb;exact(I7.pin (b,o) (kO _ (kO _ (wv hb e)))).2.1
  cases f with
  |next=>obtain⟨σ7,H7,I7,n7⟩:=q7;exact again I7 n7
  |cont=>obtain⟨σ7,H7,I7,n7⟩:=q7;exact again I7 n7
  |brk=>obtain⟨σ7,H7,I7,q7⟩:=q7;exact⟨σ7,H7,I7.unpinned,q7⟩
  |ret v=>obtain⟨x7,σ7,H7,I7,r7,q7⟩:=q7;exact⟨x7,σ7,H7,I7.unpinned,r7,q7⟩
end
theorem xp{K:PySem.W.Frag}{a:Addr}{xs:List V}{g:TG}{tb:TS}{D:Ends}{σ:St}{H:Hp}(Pv:Nat->St->Hp->Prop)(h0:Pv 0 σ H)(hl:∀i σ H,i<=xs.length->Pv i σ H->SqL K H a xs)
  (hs:∀i x σ H,xs[i]?=some x->Pv i σ H->g x σ H λσ2 H2=>tb {D with nx:=Pv (i+1),ct:=Pv (i+1),bk:=D.nx} σ2 H2)(hd:∀σ H,Pv xs.length σ H->D.nx σ H):
  ∃W:Nat->Nat->St->Hp->Prop,(∃m,W 0 m σ H)/\∀i m σ H,W i m σ H ->
   ((Itl K a).stop i H/\D.nx σ H)\/((Itl K a).go i H/\∃N:St->Hp->Prop,(∀σ' H',N σ' H'->∃m',m'<m/\W (i+1) m' σ' H')/\∀x H',(Itl K a).yld i H x H'->g x σ H' λσ2 H2=>tb {D with nx:=N,ct:=N,bk:=D.nx} σ2 H2):=by
 refine⟨λi m σ H=>m=xs.length-i/\i<=xs.length/\Pv i σ H,⟨xs.length,by simp,kN _,h0⟩,?_⟩;rintro i m σ H ⟨rfl,hi,p⟩;have q:=hl i σ H hi p;by_cases hlt:i<xs.length
 .refine .inr ⟨⟨xs,xs[i],q,by simp[hlt]⟩,Pv (i+1),λσ' H' p'=>⟨xs.length-(i+1),by omega,rfl,hlt,p'⟩,λx H' y=>?_⟩;obtain⟨e,y⟩:=y;subst e;exact hs i x σ _ (y xs q) p
 .have e:i=xs.length:=()
  subst e;exact .inl ⟨⟨xs,q,km _⟩,hd σ H p⟩
theorem zdb{K:PySem.W.Frag}{a:Addr}{xs:List V}{g:TG}{tb:TS}{D:Ends}{σ:St}{H:Hp}(Pv:Nat->St->Hp->Prop)(h0:Pv 0 σ H)(hl:∀i σ H,i<=xs.length->Pv i σ H->SqT K H a xs)
  (hs:∀i x σ H,xs[i]?=some x->Pv i σ H->g x σ H λσ2 H2=>tb {D with nx:=Pv (i+1),ct:=Pv (i+1),bk:=D.nx} σ2 H2)(hd:∀σ H,Pv xs.length σ H->D.nx σ H):
  ∃W:Nat->Nat->St->Hp->Prop,(∃m,W 0 m σ H)/\∀i m σ H,W i m σ H ->
   ((Itt K a).stop i H/\D.nx σ H)\/((Itt K a).go i H/\∃N:St->Hp->Prop,(∀σ' H',N σ' H'->∃m',m'<m/\W (i+1) m' σ' H')/\∀x H',(Itt K a).yld i H x H'->g x σ H' λσ2 H2=>tb {D with nx:=N,ct:=N,bk:=D.nx} σ2 H2):=by
 refine⟨λi m σ H=>m=xs.length-i/\i<=xs.length/\Pv i σ H,⟨xs.length,by simp,kN _,h0⟩,?_⟩;rintro i m σ H ⟨rfl,hi,p⟩;have q:=hl i σ H hi p;by_cases hlt:i<xs.length
 .refine .inr ⟨⟨xs,xs[i],q,by simp[hlt]⟩,Pv (i+1),λσ' H' p'=>⟨xs.length-(i+1),by omega,rfl,hlt,p'⟩,λx H' y=>?_⟩;obtain⟨e,y⟩:=y;subst e;exact hs i x σ _ (y xs q) p
 .have e:i=xs.length:=()
  subst e;exact .inl ⟨⟨xs,q,km _⟩,hd σ H p⟩
theorem Yu{lo:Int}{n:Nat}{g:TG}{tb:TS}{D:Ends}{σ:St}{H:Hp}(Pv:Nat->St->Hp->Prop)(h0:Pv 0 σ H)
  (hs:∀i σ H,i<n->Pv i σ H->g (.int (lo+i)) σ H λσ2 H2=>tb {D with nx:=Pv (i+1),ct:=Pv (i+1),bk:=D.nx} σ2 H2)(hd:∀σ H,Pv n σ H->D.nx σ H):
  ∃W:Nat->Nat->St->Hp->Prop,(∃m,W 0 m σ H)/\∀i m σ H,W i m σ H ->
   ((Itr lo n).stop i H/\D.nx σ H)\/((Itr lo n).go i H/\∃N:St->Hp->Prop,(∀σ' H',N σ' H'->∃m',m'<m/\W (i+1) m' σ' H')/\∀x H',(Itr lo n).yld i H x H'->g x σ H' λσ2 H2=>tb {D with nx:=N,ct:=N,bk:=D.nx} σ2 H2):=by
 refine⟨λi m σ H=>m=n-i/\i<=n/\Pv i σ H,⟨n,by simp,kN _,h0⟩,?_⟩;rintro i m σ H ⟨rfl,hi,p⟩;by_cases hlt:i<n
 .refine .inr ⟨hlt,Pv (i+1),λσ' H' p'=>⟨n-(i+1),by omega,rfl,hlt,p'⟩,λx H' y=>?_⟩;obtain⟨e,y⟩:=y;subst e y;exact hs i σ _ hlt p
 .have e:i=n:=()
  subst e;exact .inl ⟨km _,hd σ H p⟩
abbrev R2:=V->V->Hp->VK->Prop
def OpR(X:Cx)(f:Value->Value->Sem Value)(r:R2):Prop :=
 ∀(pins:List (Addr×Obj))(s:Shared)(σ:St)(H:Hp)(x y:V)(v u:Value)(Q:VK),Inv X pins σ H s->RelV x v->RelV y u->r x y H Q ->
  wpAny (model X.prog X.w) X.A (f v u) (EP X pins σ Q) X.xe s
def UnR(X:Cx)(f:Value->Sem Value)(r:V->Hp->VK->Prop):Prop :=
 ∀(pins:List (Addr×Obj))(s:Shared)(σ:St)(H:Hp)(x:V)(v:Value)(Q:VK),Inv X pins σ H s->RelV x v->r x H Q ->
  wpAny (model X.prog X.w) X.A (f v) (EP X pins σ Q) X.xe s
def yI(X:Cx)(f:Value)(r:List V->Hp->VK->Prop):Prop :=
 ∀(pins:List (Addr×Obj))(s:Shared)(σ:St)(H:Hp)(xs:List V)(us:List Value)(Q:VK),Inv X pins σ H s->Vals xs us->r xs H Q ->
  wpAny (model X.prog X.w) X.A (call f us) (EP X pins σ Q) X.xe s
def TruR(X:Cx)(r:V->Hp->(Bool->Hp->Prop)->Prop):Prop :=
 ∀(pins:List (Addr×Obj))(s:Shared)(σ:St)(H:Hp)(x:V)(v:Value)(Q:Bool->Hp->Prop),Inv X pins σ H s->RelV x v->r x H Q ->
  wpAny (model X.prog X.w) X.A (truthy v) (TP X pins σ Q) X.xe s
def tOp(r:R2)(ta tb:TE):TE:=λσ H Q=>ta σ H λx H1=>tb σ H1 λy H2=>r x y H2 Q
def tUn(r:V->Hp->VK->Prop)(ta:TE):TE:=λσ H Q=>ta σ H λx H1=>r x H1 Q
def rI(C:Int->Int->Prop)(g:Int->Int->V):R2:=λx y H Q=>∃i j,x=.int i/\y=.int j/\C i j/\Q (g i j) H
def rI0(g:Int->Int->V):R2:=λx y H Q=>∃i j,x=.int i/\y=.int j/\Q (g i j) H
def rU(g:Int->V):V->Hp->VK->Prop:=λx H Q=>∃i,x=.int i/\Q (g i) H
section
variable{X:Cx}{a b c:Expr}{ta tb tc:TE}{pos:Pos}
theorem binT(ha:PE X a ta)(hb:PE X b tb){pins:List (Addr×Obj)}{s:Shared}{σ:St}{H:Hp}{R:V->V->Hp->Prop}(I:Inv X pins σ H s)
  (h:ta σ H λx H1=>tb σ H1 λy H2=>R x y H2){Q:Value->Shared->Prop}{f:Value->Value->Sem Value}
  (hf:∀v u s2 x y H2,Inv X pins σ H2 s2->RelV x v->RelV y u->R x y H2->wpAny (model X.prog X.w) X.A (f v u) Q X.xe s2):
  wpAny (model X.prog X.w) X.A (eval a X.env) (λv s₁=>wpAny (model X.prog X.w) X.A (eval b X.env) (λu s₂=>wpAny (model X.prog X.w) X.A (f v u) Q X.xe s₂) X.xe s₁) X.xe s:=by
 refine thn (ha pins s σ H _ I h) λv s1 h9=>?_;obtain⟨x,H1,I1,r1,q1⟩:=h9;refine thn (hb pins s1 σ H1 _ I1 q1) λu s2 h9=>?_;obtain⟨y,H2,I2,r2,q2⟩:=h9;exact hf v u s2 x y H2 I2 r1 r2 q2
theorem zK{op:Operator}{r:R2}(ho:OpR X (binaryOp op) r)(ha:PE X a ta)(hb:PE X b tb):PE X (.BinOp a op b pos) (tOp r ta tb):=by
 intro pins s σ H Q I h;exact wpAny_BinOp (binT ha hb I h λv u s2 x y H2 I2 rx ry q=>ho pins s2 σ H2 x y v u Q I2 rx ry q)
theorem wX{op:UnaryOp}{r:V->Hp->VK->Prop}(ho:UnR X (unaryOp op) r)(ha:PE X a ta):PE X (.UnaryOp op a pos) (tUn r ta):=by
 intro pins s σ H Q I h;exact UnaryOp_ (thn (ha pins s σ H _ I h) λv s1 ⟨x,H1,I1,r1,q1⟩=>ho pins s1 σ H1 x v Q I1 r1 q1)
theorem opI{f:Value->Value->Sem Value}{C:Int->Int->Prop}{g:Int->Int->Int}
  (rule:∀(i j:Int)(t u:Tok)(s:Shared)(Q:Value->Shared->Prop)(E:Value->Shared->Prop),C i j->Q (.int (g i j) s.toks) {s with toks:=s.toks+1}->wpAny (model X.prog X.w) X.A (f (.int i t) (.int j u)) Q E s):
  OpR X f (rI C λi j=>.int (g i j)):=by
 intro pins s σ H x y v u Q I rx ry h;refine E_2 h λi j n8=>A_4 n8 λe9 n90 hc q=>?_;clear n8 h;subst e9;subst n90;obtain⟨t,rfl⟩:=rx;obtain⟨t',rfl⟩:=ry;exact rule i j t t' s _ _ hc ⟨.int (g i j),H,I.tok _,⟨_,rfl⟩,q⟩
theorem opI0{f:Value->Value->Sem Value}{g:Int->Int->Int}
  (rule:∀(i j:Int)(t u:Tok)(s:Shared)(Q:Value->Shared->Prop)(E:Value->Shared->Prop),Q (.int (g i j) s.toks) {s with toks:=s.toks+1}->wpAny (model X.prog X.w) X.A (f (.int i t) (.int j u)) Q E s):
  OpR X f (rI0 λi j=>.int (g i j)):=by
 intro pins s σ H x y v u Q I rx ry h;refine E_2 h λi j n8=>A_3 n8 λe9 n90 q=>?_;clear n8 h;subst e9;subst n90;obtain⟨t,rfl⟩:=rx;obtain⟨t',rfl⟩:=ry;exact rule i j t t' s _ _ ⟨.int (g i j),H,I.tok _,⟨_,rfl⟩,q⟩
theorem opB0{f:Value->Value->Sem Value}{g:Int->Int->Bool}
  (rule:∀(i j:Int)(t u:Tok)(s:Shared)(Q:Value->Shared->Prop)(E:Value->Shared->Prop),Q (.bool (g i j)) s->wpAny (model X.prog X.w) X.A (f (.int i t) (.int j u)) Q E s):
  OpR X f (rI0 λi j=>.bl (g i j)):=by
 intro pins s σ H x y v u Q I rx ry h;refine E_2 h λi j n8=>A_3 n8 λe9 n90 q=>?_;clear n8 h;subst e9;subst n90;obtain⟨t,rfl⟩:=rx;obtain⟨t',rfl⟩:=ry;exact rule i j t t' s _ _ ⟨.bl (g i j),H,I,rfl,q⟩
def CDiv(i j:Int):Prop:=0<j/\j<1073741824
def CMul(i j:Int):Prop:=(-(2^64)<i/\i<2^64)\/(-(2^64)<j/\j<2^64)
theorem CMul.ok{i j:Int}(h:CMul i j):IntMulOk i j:=by
 rcases h with⟨h1,h2⟩|⟨h1,h2⟩
 .exact .of_left (intBits_le_64 h1 h2)
 .exact .of_right (intBits_le_64 h1 h2)
theorem yL:OpR X (binaryOp .Add) (rI0 λi j=>.int (i+j)):=opI0 λ_ _ _ _ _ _ _ q=>add_int q
theorem xq:OpR X (binaryOp .Sub) (rI0 λi j=>.int (i-j)):=opI0 λ_ _ _ _ _ _ _ q=>sub_int q
theorem qg:OpR X (binaryOp .Mult) (rI CMul λi j=>.int (i*j)):=opI λ_ _ _ _ _ _ _ hc q=>mul_int q hc.ok
theorem zdc:OpR X (binaryOp .FloorDiv) (rI CDiv λi j=>.int (i / j)):=opI λi j _ _ _ _ _ hc q=>by
 have h1:(0:Int)<j:=hc.1;have h2:j<1073741824:=hc.2;exact floordiv_int () (by rw[Int.fdiv_eq_ediv_of_nonneg i ()];exact q) (.inl (PyProof.noPylong_small (by omega)))
theorem y6:OpR X (binaryOp .Mod) (rI (λ_ j=>0<j) λi j=>.int (i % j)):=opI λi j _ _ _ _ _ hc q=>by
 have h1:(0:Int)<j:=hc;exact mod_int' () (by rw[Int.fmod_eq_emod_of_nonneg i ()];exact q)
theorem unI{f:Value->Sem Value}{g:Int->Int}
  (rule:∀(i:Int)(t:Tok)(s:Shared)(Q:Value->Shared->Prop)(E:Value->Shared->Prop),Q (.int (g i) s.toks) {s with toks:=s.toks+1}->wpAny (model X.prog X.w) X.A (f (.int i t)) Q E s):
  UnR X f (rU λi=>.int (g i)):=by
 intro pins s σ H x v Q I rx h;obtain⟨i,rfl,q⟩:=h;obtain⟨t,rfl⟩:=rx;exact rule i t s _ _ ⟨.int (g i),H,I.tok _,⟨_,rfl⟩,q⟩
theorem wk:UnR X (unaryOp .USub) (rU λi=>.int (-i)):=unI λ_ _ _ _ _ q=>neg_int q
end
def scal:V->V->Bool
 |.non,.non=>true | .non,.int _=>true | .int _,.non=>true | .non,.bl _=>true | .bl _,.non=>true | .non,.str _=>true | .str _,.non=>true
 |.int _,.int _=>true | .bl _,.bl _=>true | .str _,.str _=>true | .byt _,.byt _=>true
 |.int _,.str _=>true | .str _,.int _=>true | .bl _,.str _=>true | .str _,.bl _=>true
 |_,_=>false
def rEq:R2:=λx y H Q=>scal x y=true/\Q (.bl (decide (x=y))) H
def rNe:R2:=λx y H Q=>scal x y=true/\Q (.bl (!decide (x=y))) H
theorem W2{i j:Int}:decide (V.int i=V.int j)=(i==j):=by
 rw[vn];simp
theorem JU{i j:Bool}:decide (V.bl i=V.bl j)=(i==j):=by
 rw[vn];simp
theorem W3{i j:Str}:decide (V.str i=V.str j)=(i==j):=by
 rw[vn];simp
theorem W4{i j:Array UInt8}:decide (V.byt i=V.byt j)=(i.toList==j.toList):=by
 rw[vn];cases i;cases j;simp
section
variable{X:Cx}{a b c:Expr}{ta tb tc:TE}{pos:Pos}
theorem zW{pins:List (Addr×Obj)}{σ:St}{H:Hp}{s:Shared}{Q:VK}{k k':Bool}(I:Inv X pins σ H s)(q:Q (.bl k) H)(e:k=k'):EP X pins σ Q (.bool k') s:=by
 subst e;exact⟨.bl k,H,I,rfl,q⟩
theorem xH:OpR X (compareOp .Eq) rEq:=by
 intro pins s σ H x y v u Q I rx ry h;obtain⟨hs,q⟩:=h;cases x with
 |non =>
  cases rx;cases y with
  |non=>cases ry;exact PySem.EqNone.eq_none_none (zW I q (by simp))
  |bl j=>cases ry;exact PySem.EqNone.eq_none_bool (zW I q (by simp))
  |int j=>obtain⟨t',rfl⟩:=ry;exact PySem.EqNone.eq_none_int (zW I q (by simp))
  |str j=>obtain⟨t',rfl⟩:=ry;exact PySem.EqNone.eq_none_str (zW I q (by simp))
  |_=>exact absurd (show false=true from hs) kH
 |bl i =>
  cases rx;cases y with
  |non=>cases ry;exact PySem.EqNone.eq_bool_none (zW I q (by simp))
  |bl j=>cases ry;exact eq_bool (zW I q JU)
  |str j=>obtain⟨t',rfl⟩:=ry;exact PySem.EqMixed.eq_bool_str (zW I q (by simp))
  |_=>exact absurd (show false=true from hs) kH
 |int i =>
  obtain⟨t,rfl⟩:=rx;cases y with
  |non=>cases ry;exact PySem.EqNone.eq_int_none (zW I q (by simp))
  |int j=>obtain⟨t',rfl⟩:=ry;exact eq_int (zW I q W2)
  |str j=>obtain⟨t',rfl⟩:=ry;exact PySem.EqMixed.eq_int_str (zW I q (by simp))
  |_=>exact absurd (show false=true from hs) kH
 |str i =>
  obtain⟨t,rfl⟩:=rx;cases y with
  |non=>cases ry;exact PySem.EqNone.eq_str_none (zW I q (by simp))
  |bl j=>cases ry;exact PySem.EqMixed.eq_str_bool (zW I q (by simp))
  |int j=>obtain⟨t',rfl⟩:=ry;exact PySem.EqMixed.eq_str_int (zW I q (by simp))
  |str j=>obtain⟨t',rfl⟩:=ry;exact eq_str (zW I q W3)
  |_=>exact absurd (show false=true from hs) kH
 |byt i =>
  obtain⟨t,rfl⟩:=rx;cases y with
  |byt j=>obtain⟨t',rfl⟩:=ry;exact PySem.W.eq_bytes (zW I q W4)
  |_=>exact absurd (show false=true from hs) kH
 |_=>cases y<;>exact absurd (show false=true from hs) kH
theorem ww:OpR X (compareOp .NotEq) rNe:=by
 intro pins s σ H x y v u Q I rx ry h;obtain⟨hs,q⟩:=h;cases x with
 |non =>
  cases rx;cases y with
  |non=>cases ry;exact PySem.EqNone.ne_none_none (zW I q (by simp))
  |bl j=>cases ry;exact PySem.EqNone.ne_none_bool (zW I q (by simp))
  |int j=>obtain⟨t',rfl⟩:=ry;exact PySem.EqNone.ne_none_int (zW I q (by simp))
  |str j=>obtain⟨t',rfl⟩:=ry;exact PySem.EqNone.ne_none_str (zW I q (by simp))
  |_=>exact absurd (show false=true from hs) kH
 |bl i =>
  cases rx;cases y with
  |non=>cases ry;exact PySem.EqNone.ne_bool_none (zW I q (by simp))
  |bl j=>cases ry;exact ne_bool (zW I q (congrArg not JU))
  |str j=>obtain⟨t',rfl⟩:=ry;exact PySem.EqMixed.ne_bool_str (zW I q (by simp))
  |_=>exact absurd (show false=true from hs) kH
 |int i =>
  obtain⟨t,rfl⟩:=rx;cases y with
  |non=>cases ry;exact PySem.EqNone.ne_int_none (zW I q (by simp))
  |int j=>obtain⟨t',rfl⟩:=ry;exact ne_int (zW I q (congrArg not W2))
  |str j=>obtain⟨t',rfl⟩:=ry;exact PySem.EqMixed.ne_int_str (zW I q (by simp))
  |_=>exact absurd (show false=true from hs) kH
 |str i =>
  obtain⟨t,rfl⟩:=rx;cases y with
  |non=>cases ry;exact PySem.EqNone.ne_str_none (zW I q (by simp))
  |bl j=>cases ry;exact PySem.EqMixed.ne_str_bool (zW I q (by simp))
  |int j=>obtain⟨t',rfl⟩:=ry;exact PySem.EqMixed.ne_str_int (zW I q (by simp))
  |str j=>obtain⟨t',rfl⟩:=ry;exact ne_str (zW I q (congrArg not W3))
  |_=>exact absurd (show false=true from hs) kH
 |byt i =>
  obtain⟨t,rfl⟩:=rx;cases y with
  |byt j=>obtain⟨t',rfl⟩:=ry;exact PySem.W.ne_bytes (zW I q (congrArg not W4))
  |_=>exact absurd (show false=true from hs) kH
 |_=>cases y<;>exact absurd (show false=true from hs) kH
theorem yO:OpR X (compareOp .Lt) (rI0 λi j=>.bl (decide (i<j))):=opB0 λ_ _ _ _ _ _ _ q=>lt_int q
theorem y7:OpR X (compareOp .LtE) (rI0 λi j=>.bl (decide (i<=j))):=opB0 λ_ _ _ _ _ _ _ q=>le_int q
theorem wY:OpR X (compareOp .Gt) (rI0 λi j=>.bl (decide (j<i))):=opB0 λ_ _ _ _ _ _ _ q=>gt_int q
theorem zcF:OpR X (compareOp .GtE) (rI0 λi j=>.bl (decide (j<=i))):=opB0 λ_ _ _ _ _ _ _ q=>ge_int q
theorem JV:OpR X (compareOp .Is) (λx y H Q=>y=.non/\Q (.bl (decide (x=.non))) H):=by
 intro pins s σ H x y v u Q I rx ry h;obtain⟨rfl,q⟩:=h;cases ry;refine is_none_gen (zW I q ?_);cases x<;>first
  |(cases rx;rfl)
  |(obtain⟨t,rfl⟩:=rx;rfl)
theorem ZV:OpR X (compareOp .IsNot) (λx y H Q=>y=.non/\Q (.bl (!decide (x=.non))) H):=by
 intro pins s σ H x y v u Q I rx ry h;obtain⟨rfl,q⟩:=h;cases ry;refine isnot_none_gen (zW I q ?_);cases x<;>first
  |(cases rx;rfl)
  |(obtain⟨t,rfl⟩:=rx;rfl)
theorem zD(b:Expr){op:CmpOp}(h:op≠.In:=by decide)(h2:op≠.NotIn:=by decide):behindInMarks op b=false:=by
 have e1:(op==CmpOp.In)=false:=by cases op<;>first|rfl|exact absurd rfl h
 have e2:(op==CmpOp.NotIn)=false:=by cases op<;>first|rfl|exact absurd rfl h2
 cases b<;>simp[behindInMarks,e1,e2]
theorem z5{op:CmpOp}{r:R2}(ho:OpR X (compareOp op) r)(ha:PE X a ta)(hb:PE X b tb)(hm:behindInMarks op b=false):PE X (.Compare a [op] [b] pos) (tOp r ta tb):=by
 intro pins s σ H Q I h;exact wpAny_Compare1 (binT ha hb I h λv u s2 x y H2 I2 rx ry q=>ho pins s2 σ H2 x y v u Q I2 rx ry q) hm
def Zn(t:TE):TT:=λσ H Q=>t σ H λx H'=>∃k,x=.bl k/\Q k H'
theorem zI{op:CmpOp}{r:R2}(ho:OpR X (compareOp op) r)(ha:PE X a ta)(hb:PE X b tb)(hm:behindInMarks op b=false):PT X (.Compare a [op] [b] pos) (Zn (tOp r ta tb)):=by
 intro pins s σ H Q I h;refine wpAny_isTrue_Compare1 (thn (ha pins s σ H _ I h) λv s1 ⟨x,H1,I1,r1,q1⟩=>thn (hb pins s1 σ H1 _ I1 q1) λu s2 ⟨y,H2,I2,r2,q2⟩ =>
  thn (ho pins s2 σ H2 x y v u _ I2 r1 r2 q2) λc s3 ⟨z,H3,I3,r3,k,e,q3⟩=>?_) hm
 subst e;cases r3;exact wpAny_truthy_bool ⟨H3,I3,q3⟩
def XB(r r':R2)(ta tb tc:TE):TE:=λσ H Q=>ta σ H λx H1=>tb σ H1 λy H2=>r x y H2 λz H3=>∃k,z=.bl k /\
 (if k=true then tc σ H3 λw' H4=>r' y w' H4 Q else Q (.bl false) H3)
theorem XC{op op':CmpOp}{r r':R2}(ho:OpR X (compareOp op) r)(ho':OpR X (compareOp op') r')(ha:PE X a ta)(hb:PE X b tb)(hc:PE X c tc)
  (hm:lastMarks [op,op'] [b,c]=false:=by with_unfolding_all rfl):PE X (.Compare a [op,op'] [b,c] pos) (XB r r' ta tb tc):=by
 intro pins s σ H Q I h;refine Compare_chain (thn (ha pins s σ H _ I h) λv s1 ⟨x,H1,I1,r1,q1⟩=>chain_link (thn (hb pins s1 σ H1 _ I1 q1) λu s2 ⟨y,H2,I2,r2,q2⟩ =>
  thn (ho pins s2 σ H2 x y v u _ I2 r1 r2 q2) λd s3 ⟨z,H3,I3,r3,k,e,q3⟩=>?_)) hm
 subst e;cases r3;refine wpAny_truthy_bool ?_;cases k with
 |false=>exact ite_ff ⟨.bl false,H3,I3,rfl,q3⟩
 |true=>exact ite_tt (chain_last (thn (hc pins s3 σ H3 _ I3 q3) λw' s4 ⟨z',H4,I4,r4,q4⟩=>ho' pins s4 σ H4 y z' u w' Q I4 r2 r4 q4))
theorem jV{op op':CmpOp}{r r':R2}(ho:OpR X (compareOp op) r)(ho':OpR X (compareOp op') r')(ha:PE X a ta)(hb:PE X b tb)(hc:PE X c tc)
  (hm:lastMarks [op,op'] [b,c]=false:=by with_unfolding_all rfl):PT X (.Compare a [op,op'] [b,c] pos) (Zn (XB r r' ta tb tc)):=by
 intro pins s σ H Q I h;refine isTrue_chain (thn (ha pins s σ H _ I h) λv s1 ⟨x,H1,I1,r1,q1⟩=>test_link (thn (hb pins s1 σ H1 _ I1 q1) λu s2 ⟨y,H2,I2,r2,q2⟩ =>
  thn (ho pins s2 σ H2 x y v u _ I2 r1 r2 q2) λd s3 ⟨z,H3,I3,r3,k,e,q3⟩=>?_)) hm
 subst e;cases r3;refine wpAny_truthy_bool ?_;cases k with
 |false =>
  obtain⟨k',e',q'⟩:=q3;cases e';exact ite_ff ⟨H3,I3,q'⟩
 |true =>
  refine ite_tt (test_last (thn (hc pins s3 σ H3 _ I3 q3) λw' s4 ⟨z',H4,I4,r4,q4⟩=>thn (ho' pins s4 σ H4 y z' u w' _ I4 r2 r4 q4) λd' s5 h9=>?_));obtain⟨z2,H5,I5,r5,k2,e2,q5⟩:=h9;subst e2;cases r5;exact wpAny_truthy_bool ⟨H5,I5,q5⟩
def TruV(K:PySem.W.Frag)(x:V)(H:Hp)(k:Bool):Prop :=
 match x with
 |.non=>k=false
 |.bl b=>k=b
 |.int i=>k=(i != 0)
 |.str y=>y.length<=sizeLine/\k=((y.length:Int) != 0)
 |.byt y=>y.size<=sizeLine/\k=((y.size:Int) != 0)
 |.ref p=>(∃xs,SqL K H p xs/\k=!xs.isEmpty)\/(∃xs,SqT K H p xs/\k=!xs.isEmpty)\/∃kvs,H p=some (.dK kvs)/\k=!kvs.isEmpty
 |_=>False
theorem QM{κ:Type}{kvs:List (κ×V)}{vs:List (κ×Value)}(r:KV kvs vs):(!vs.isEmpty)=!kvs.isEmpty:=by
 cases r<;>rfl
theorem Zo{xs:List V}{its:List Value}(r:Vals xs its):(!its.toArray.isEmpty)=!xs.isEmpty:=by
 cases r<;>simp
theorem wJ:(sizeLine:Nat)<2^63:=by rw[sizeLine_eq];decide
theorem zez:TruR X (λx H Q=>∃k,TruV X.K x H k/\Q k H):=by
 intro pins s σ H x v Q I rx h;obtain⟨k,e,q⟩:=h;have hl:=wJ;have hs:sizeLine=16777216:=sizeLine_eq;cases x with
 |non =>
  cases rx;have e':k=false:=e;subst e';exact truthy_none ⟨H,I,q⟩
 |bl b =>
  cases rx;have e':k=b:=e;subst e';exact wpAny_truthy_bool ⟨H,I,q⟩
 |int i =>
  obtain⟨t,rfl⟩:=rx;have e':k=(i != 0):=e;subst e';exact PySem.P.truthy_int ⟨H,I,q⟩
 |str y =>
  obtain⟨t,rfl⟩:=rx;obtain⟨hy,e'⟩:y.length<=sizeLine/\k=((y.length:Int) != 0):=e;subst e';exact PySem.P.truthy_str () ⟨H,I.tok _,q⟩
 |byt y =>
  obtain⟨t,rfl⟩:=rx;obtain⟨hy,e'⟩:y.size<=sizeLine/\k=((y.size:Int) != 0):=e;subst e';exact PySem.W.truthy_bytes () ⟨H,I.tok _,q⟩
 |ref p =>
  cases rx;have e':(∃xs,SqL X.K H p xs/\k=!xs.isEmpty)\/(∃xs,SqT X.K H p xs/\k=!xs.isEmpty)\/∃kvs,H p=some (.dK kvs)/\k=!kvs.isEmpty:=e;rcases e' with⟨xs,hx,e'⟩|⟨xs,hx,e'⟩|⟨kvs,hx,e'⟩
  .subst e';obtain⟨its,r,pl,hz⟩:=I.list hx;have hlen:=r.length;exact wpAny_truthy_list pl.isList (by simp only[ku];lia) ⟨H,I.tok _,by rw[Zo r];exact q⟩
  .subst e';obtain⟨its,r,pl,hz⟩:=I.tuple hx;have hlen:=r.length;exact truthy_tuple pl (by simp only[ku];lia) ⟨H,I.tok _,by rw[Zo r];exact q⟩
  .subst e';obtain⟨hz,hS,vs,r,m⟩:kvs.length<=sizeLine/\(p==sysModules)=false/\∃vs,KV kvs vs/\s.heap.DictOf (ZU X.prog X.w) p vs:=I.hok p _ hx;have hlen:kvs.length=vs.length:=Paired.length r;exact wpAny_truthy_dict hS m () ⟨H,I.tok _,by rw[QM r];exact q⟩
 |_=>exact(show False from e).elim
theorem jW(ha:PE X a ta)(he:∀whole,isTrue a X.env whole=(do let v <-whole;standAt a.pos;holding [v] (truthy v))):
  PT X a (λσ H Q=>ta σ H λx H'=>∃k,TruV X.K x H' k/\Q k H'):=by
 intro pins s σ H Q I h;exact isTrue_plain (thn (ha pins s σ H _ I h) λv s1 ⟨x,H1,I1,r1,q1⟩=>zez pins s1 σ H1 x v Q I1 r1 q1) (he _)
theorem wx:OpR X (binaryOp .Add) (λx y H Q=>∃i j,x=.str i/\y=.str j/\i.length+j.length<=sizeLine/\Q (.str (i++j)) H):=by
 intro pins s σ H x y v u Q I rx ry h;refine E_2 h λi j n8=>A_4 n8 λe9 n90 hz q=>?_;clear n8 h;subst e9;subst n90;obtain⟨t,rfl⟩:=rx;obtain⟨t',rfl⟩:=ry;exact add_str (λt' tk=>⟨.str (i++j),H,I.tok _,⟨_,rfl⟩,q⟩) hz
theorem vals1{x:V}{us:List Value}(r:Vals [x] us):∃u,us=[u]/\RelV x u:=by
 cases r with
 |cons r1 r2=>cases r2;exact⟨_,rfl,r1⟩
theorem vals2{x y:V}{us:List Value}(r:Vals [x,y] us):∃u w',us=[u,w']/\RelV x u/\RelV y w':=by
 cases r with
 |cons r1 r2 =>
  cases r2 with
  |cons r3 r4=>cases r4;exact⟨_,_,rfl,r1,r3⟩
theorem JW(hc:X.calm=true):yI X (.builtin "max") (λxs H Q=>∃i j,xs=[.int i,.int j]/\Q (.int (if j>i then j else i)) H):=by
 intro pins s σ H xs us Q I r h;refine E_2 h λi j n8=>A_2 n8 λe9 q=>?_;clear n8 h;subst e9;obtain⟨u,w',rfl,⟨t,rfl⟩,⟨t',rfl⟩⟩:=vals2 r;refine max_two_ints (I.ok.hd hc) λh' tk k=>⟨_,H,I.kept k,?_,q⟩;by_cases hj:j>i
 .rw[if_pos hj,if_pos hj];exact⟨_,rfl⟩
 .rw[if_neg hj,if_neg hj];exact⟨_,rfl⟩
theorem zbD:yI X (.builtin "ord") (λxs H Q=>∃x,xs=[.str x]/\x.length=1/\Q (.int (x.cps.getD 0 0:Nat)) H):=by
 intro pins s σ H xs us Q I r h;refine E_1 h λx n8=>A_3 n8 λe9 hz q=>?_;clear n8 h;subst e9;obtain⟨u,rfl,t,rfl⟩:=vals1 r;exact ord_of_one hz ⟨.int _,H,I.tok _,⟨_,rfl⟩,q⟩
end
structure ObjM(h:Heap)(x dx C:Addr)(mA:Str->Option Value):Prop where
 obj:h.get? x=some (PySem.W.instObj C dx)
 ns:h.Ns1 dx mA
 ne:dx≠x
theorem JX{h:Heap}{dx:Addr}{mA:Str->Option Value}(n:h.Ns1 dx mA):∃od,h.get? dx=some od/\∀name,PySem.W.lookIn name od=some (mA name):=by
 obtain⟨o,es,ep,ho,hd,hk,_,hm⟩:=n;refine⟨o,ho,λname=>?_⟩;have e:=hm name;unfold nsFind findBy at e;rw[<-Array.find?_toList]at e;unfold PySem.W.lookIn;rw[hd];dsimp only;split
 .rename_i y q;rw[q]at e;exact congrArg some e
 .rename_i q;rw[q]at e;have a:es.toList.any (·.refKey)=false:=by
   rw[List.any_eq_false];intro y hy;obtain⟨z,t,hkey⟩:=hk y (Array.mem_toList_iff.mp hy);simp[DictEntry.refKey,hkey]
  have a':¬es.toList.any (·.refKey)=true:=by rw[a];exact kH
  rw[if_neg a'];exact congrArg some e
theorem ObjM.look{h:Heap}{x dx C:Addr}{mA:Str->Option Value}(I:ObjM h x dx C mA):∃od,PySem.W.InstAt h x (PySem.W.instObj C dx) C (some od)/\∀name,PySem.W.lookIn name od=some (mA name) :=
 let ⟨od,ho,hl⟩:=JX I.ns
 ⟨od,⟨I.obj,rfl,rfl,ho⟩,hl⟩
section
variable{P:Program}{w:World}{H H':Hp}{h h':Heap}{a C dx:Addr}{fs fs':List (Str×V)}
theorem zdd(hok:HOk P w H h)(e:H a=some (.ins C dx fs)):∃mA,ObjM h a dx C mA/\(∀f,RelO (fs.lookup f) (mA f))/\PySem.Within mA (fs.map (·.1))/\fs.length<=1000/\H dx=some (.own a):=by
 obtain⟨d,z,ne,ob,mA,n,r,q⟩:=(show yq P w H h a (.ins C dx fs)from hok a _ e);exact⟨mA,⟨ob,n,ne⟩,r,q,z,d⟩
end
structure Cls(K:PySem.W.Frag)(C:Addr):Prop where
 pg:PySem.W.plainGet K C Str.empty=true
 hd:PySem.W.hasDictIn K C=true
 po:PySem.W.plainOver K C=true
 sa:PySem.W.findIn K (.ref C) "__setattr__"=some (some (.builtin "object.__setattr__"))
theorem Cls.get{K:PySem.W.Frag}{C:Addr}(c:Cls K C)(f:Str):PySem.W.plainGet K C f=true:=c.pg
section
variable{X:Cx}{pins:List (Addr×Obj)}{σ:St}{H:Hp}{s:Shared}{A:Around}{E:Value->Shared->Prop}{Q:Value->Shared->Prop}{c:Value}{b:Bool}
inductive TyOf(K:PySem.W.Frag)(H:Hp):V->Value->Prop where
 |non:TyOf K H .non (.type "NoneType")
 |bl(x:Bool):TyOf K H (.bl x) (.type "bool")
 |int(i:Int):TyOf K H (.int i) (.type "int")
 |str(x:Str):TyOf K H (.str x) (.type "str")
 |flt(x:UInt64):TyOf K H (.flt x) (.type "float")
 |lst{a:Addr}{xs:List V}(e:H a=some (.lst xs)):TyOf K H (.ref a) (.type "list")
 |frz{a:Addr}{o:Obj}{xs:List V}(e:H a=some (.frz o (.lst xs))):TyOf K H (.ref a) (.type "list")
 |tup{a:Addr}{xs:List V}(e:H a=some (.tup xs)):TyOf K H (.ref a) (.type "tuple")
 |dK{a:Addr}{kvs:List (Key×V)}(e:H a=some (.dK kvs)):TyOf K H (.ref a) (.type "dict")
 |dT{a:Addr}{kvs:List (List Key×V)}(e:H a=some (.dT kvs)):TyOf K H (.ref a) (.type "dict")
 |ins{a C dx:Addr}{fs:List (Str×V)}(e:H a=some (.ins C dx fs))(cl:Cls K C)(ha:PySem.W.findIn K (.ref C) "__class__"=some (some (.builtin "object.__class__")))
   (hn:PySem.W.specialIn K (.builtin "object.__class__") "__get__"=some (some (.builtin "getset_descriptor.__get__")))(htk:PySem.W.takesIn K (.builtin "object.__class__")=some true)
   (hm:PySem.W.mroIn K C (.type "object")=some true):TyOf K H (.ref a) (.ref C)
end
structure Room(k:Nat)(A:Around):Prop where
 hd:A.handled=none
 dp:A.depth+3*k+5<recursionLimit
 un:A.units+16*k+200<cLine
theorem Room.mono{j k:Nat}{A:Around}(r:Room k A)(h:j<=k):Room j A:=⟨r.hd,by have:=r.dp;lia,by have:=r.un;lia⟩
theorem Room.deeper{k:Nat}{A:Around}(r:Room (k+1) A)(env:Env):Room k (A.deeper env) :=
 ⟨r.hd,by have:=r.dp;show A.depth+1+3*k+5<_;lia,by have:=r.un;show A.units+3+16*k+200<_;lia⟩
theorem Room.in1{k:Nat}{A:Around}(r:Room (k+1) A):Room k A.in1 :=
 ⟨r.hd,by have:=r.dp;show A.depth+3*k+5<_;lia,by have:=r.un;show A.units+1+16*k+200<_;lia⟩
theorem Room.depth{k:Nat}{A:Around}(r:Room k A):A.depth<recursionLimit:=by have:=r.dp;lia
theorem Room.units{k:Nat}{A:Around}(r:Room k A):A.units+64<cLine:=by have:=r.un;lia
def tNil:TA:=λ_ H Q=>Q [] H
def wc(ta:TE)(tr:TA):TA:=λσ H Q=>ta σ H λx H1=>tr σ H1 λxs H2=>Q (x::xs) H2
section
variable{X:Cx}{e:Expr}{es:List Expr}{te:TE}{t:TA}{pos:Pos}
theorem zb:PA X [] tNil:=λ_ _ _ _ H Q I h=>Calls.spliced_nil ⟨[],H,I,.nil,h⟩
theorem za(ha:PE X e te)(hr:PA X es t)(hs:starEach (e::es) X.env=(false,eval e X.env)::starEach es X.env:=by rfl):PA X (e::es) (wc te t):=by
 intro pos pins s σ H Q I h;rw[hs];show wpAny _ _ (spliced ((false,eval e X.env)::backTo pos (starEach es X.env))) _ _ s;refine Calls.spliced_cons (thn (ha pins s σ H _ I h) λu s1 h9=>?_);obtain⟨x,H1,I1,r1,q1⟩:=h9;exact thn (hr pos pins s1 σ H1 _ I1 q1) λus s2 ⟨xs,H2,I2,r2,q2⟩=>⟨x::xs,H2,I2,.cons r1 r2,q2⟩
def tTup(t:TA):TE:=λσ H Q=>t σ H λxs H1=>xs.length<=sizeLine/\∀p,H1 p=none->Q (.ref p) (upd H1 p (.tup xs))
def tLst(t:TA):TE:=λσ H Q=>t σ H λxs H1=>xs.length<=sizeLine/\∀p,H1 p=none->Q (.ref p) (upd H1 p (.lst xs))
theorem ye{x1}(h:PA X es t):PE X (.Tuple es x1 pos) (tTup t):=by
 intro pins s σ H Q I hq;refine wpAny_Tuple_spliced (thn (h pos pins s σ H _ I hq) λus s1 ⟨xs,H1,I1,r,z,q⟩=>⟨by rw[<-r.length];exact z,?_⟩);have hf:H1 s1.heap.objs.size=none:=I1.hok.fresh (km _);refine⟨.ref s1.heap.objs.size,upd H1 s1.heap.objs.size (.tup xs),I1.laid (t':=s1.toks) (λb u e=>Heap.get?_push_of_some _ e) (km _) ?_,rfl,q _ hf⟩;exact⟨z,us,r,⟨_,Heap.get?_push_size _ rfl,rfl,_,rfl⟩⟩
theorem yh(h:PA X es t):PE X (.List es pos) (tLst t):=by
 intro pins s σ H Q I hq;refine wpAny_List_spliced (thn (h pos pins s σ H _ I hq) λus s1 ⟨xs,H1,I1,r,z,q⟩=>⟨by rw[<-r.length];exact z,?_⟩);have hf:H1 s1.heap.objs.size=none:=I1.hok.fresh (km _);refine⟨.ref s1.heap.objs.size,upd H1 s1.heap.objs.size (.lst xs),I1.laid (t':=s1.toks) (λb u e=>Heap.get?_push_of_some _ e) (km _) ?_,rfl,q _ hf⟩;exact⟨z,us,0,r,Heap.get?_push_size _ rfl⟩
end
abbrev Sp:=List V->Hp->VK->XK->Prop
abbrev CXT:=List Env->Hp->Shared->XK->Value->Shared->Prop
structure Env0(P:Program)(w:World)(K:PySem.W.Frag)(mg:Str->Option Value)(base:Heap)(A:Around)(outer:List Env)(s:Shared)(H:Hp):Prop where
 frames:A.frames=some outer
 mod:Mod K mg base
 bs:∀b o,base.get? b=some o->s.heap.get? b=some o/\H b=none
 bsz:base.objs.size<=s.heap.objs.size
 funs:s.heap.FunFrames base outer
 frf:∀b∈frs outer,H b=none
 hok:HOk P w H s.heap
 bare:AllBare s.gens
def CE(outer:List Env)(P:Program)(w:World)(H:Hp)(s:Shared)(Q:VK)(u:Value)(s':Shared):Prop :=
 ∃v H',s'.os=s.os/\AllBare s'.gens/\Un (frs outer) [] H H' s.heap s'.heap/\HOk P w H' s'.heap/\RelV v u/\Q v H'
def CR(CX:CXT)(outer:List Env)(P:Program)(w:World)(H:Hp)(s:Shared)(Q:VK)(E:XK)(r:Result)(s':Shared):Prop :=
 match r with
 |.ok (.ret u)=>CE outer P w H s Q u s'
 |.ok _=>False
 |.error e=>CX outer H s E e s'
structure FnOk(P:Program)(w:World)(K:PySem.W.Frag)(mg:Str->Option Value)(base:Heap)(CX:CXT)(k:Nat)(f:Addr)(fd:FuncData)(ps:List Str)(sp:Sp):Prop where
 len:∀vs H Q E,sp vs H Q E->vs.length=ps.length
 run:∀(A:Around)(outer:List Env)(s:Shared)(H:Hp)(args:Args)(us:List Value)(vs:List V)(Q:VK)(E:XK),Room k A->Env0 P w K mg base A outer s H->BindsTo s fd args (ps.zip us)->Vals vs us->sp vs H Q E ->
  codeAny (model P w) A (.call (.ref f) args) (CR CX outer P w H s Q E) s
theorem FnOk.imp{P:Program}{w:World}{K:PySem.W.Frag}{mg:Str->Option Value}{base:Heap}{CX:CXT}{k:Nat}{f:Addr}{fd:FuncData}{ps:List Str}{sp sp':Sp}(F:FnOk P w K mg base CX k f fd ps sp)
  (h:∀vs H Q E,sp' vs H Q E->sp vs H Q E):FnOk P w K mg base CX k f fd ps sp' :=
 ⟨λvs H Q E q=>F.len vs H Q E (h _ _ _ _ q),λA outer s H args us vs Q E hr he hb hv hs=>F.run A outer s H args us vs Q E hr he hb hv (h _ _ _ _ hs)⟩
section
variable{X:Cx}{pins:List (Addr×Obj)}{σ:St}{H:Hp}{s s':Shared}
theorem Inv.env0(I:Inv X pins σ H s):Env0 X.prog X.w X.K X.mg X.base X.A X.stack s H :=
 ⟨I.ok.frames,I.ok.mod,I.bs,kw I.ok.bsz I.sz,I.stack,I.stkFree,I.hok,I.bare⟩
theorem Inv.after{Q:VK}{u:Value}(I:Inv X pins σ H s)(h:CE X.stack X.prog X.w H s Q u s'):EP X pins σ Q u s':=by
 obtain⟨v,H',os,bare,un,hok,r,q⟩:=h;obtain⟨hh,g,d,t,os'⟩:=s';obtain rfl:os'=s.os:=os;exact⟨v,H',I.call (h':=hh) (g':=g) (d':=d) (t':=t) (ch:=[]) un hok bare (λb z=>absurd z (by simp)),r,q⟩
end
def zfV(sp:Sp)(dvs:List V)(E:XK)(t:TA):TE:=λσ H Q=>t σ H λvs H1=>sp (vs++dvs) H1 Q E
def Binds(K:PySem.W.Frag)(fd:FuncData)(ps:List Str)(ds:List Value):Prop :=
 ∀(s:Shared)(us:List Value),K.In s.heap->(us++ds).length=ps.length->BindsTo s fd ⟨us,[]⟩ (ps.zip (us++ds))
theorem Binds.all{K:PySem.W.Frag}{fd:FuncData}{ps:List Str}(h:∀us:List Value,us.length=ps.length->bindArgs fd ⟨us,[]⟩=pure (ps.zip us)):Binds K fd ps []:=λs us _ hl=>by
 rw[vh]at hl ⊢;exact .of_eq (h us hl)
def XD(CX:CXT)(X:Cx)(E:XK):Prop:=∀(pins:List (Addr×Obj))(σ:St)(H:Hp)(s:Shared)(e:Value)(s':Shared),Inv X pins σ H s->CX X.stack H s E e s'->X.xe e s'
section
variable{X:Cx}{CX:CXT}{k:Nat}{f C:Addr}{fd:FuncData}{ps:List Str}{sp:Sp}{dvs:List V}{ds:List Value}{E:XK}{x m:Str}{p pos apos:Pos}{e o:Expr}{es:List Expr}{ta:TE}{t:TA}
theorem zeA{pins:List (Addr×Obj)}{σ:St}{H:Hp}{s:Shared}{Q:VK}{us:List Value}{vs:List V}(F:FnOk X.prog X.w X.K X.mg X.base CX k f fd ps sp)(hr:Room k X.A)(hb:Binds X.K fd ps ds)(hd:Vals dvs ds)(hx:XD CX X E)
  (I:Inv X pins σ H s)(r:Vals vs us)(h:sp (vs++dvs) H Q E):wpAny (model X.prog X.w) X.A (call (.ref f) us) (EP X pins σ Q) X.xe s:=by
 have r2:Vals (vs++dvs) (us++ds):=r.append hd;have hl:(us++ds).length=ps.length:=by rw[<-r2.length];exact F.len _ _ _ _ h
 refine wpAny_call (codeAny_mono (F.run X.A X.stack s H ⟨us,[]⟩ (us++ds) (vs++dvs) Q E hr I.env0 (hb s us I.kIn hl) r2 h) λr s' hq=>?_);cases r with
 |error e=>exact hx pins σ H s e s' I hq
 |ok fl =>
  cases fl with
  |ret u=>exact I.after hq
  |next=>exact False.elim hq
  |brk=>exact False.elim hq
  |cont=>exact False.elim hq
theorem zg(F:FnOk X.prog X.w X.K X.mg X.base CX k f fd ps sp)(hr:Room k X.A)(hg:Gl X x)(hm:X.mg x=some (.ref f))(hk:um X.K (.ref f)=true)(hb:Binds X.K fd ps ds)(hd:Vals dvs ds)(hx:XD CX X E)
  (ha:PA X (e::es) t)(hdb:(x==("__debug__" : Str))=false:=by decide)(he:starEach (e::es) X.env=(false,eval e X.env)::starEach es X.env:=by rfl)(hpl:(backTo pos (starEach es X.env)).any (·.1)=false:=by rfl):
  PE X (.Call (.Name x p) (e::es) [] pos) (zfV sp dvs E t):=by
 intro pins s σ H Q I h;refine wpAny_Call_Name_kw (W1 I hg hm ?_ hdb);refine PySem.W.callWith_K (h₀:=X.base) I.ok.mod.kin hk (thn (ha pos pins s σ H _ I h) λus s1 ⟨vs,H1,I1,r,q⟩=>⟨I1.kIn,?_⟩) he hpl;exact zeA F hr hb hd hx I1 r q
end
def PK(X:Cx)(kws:List Keyword)(t:TA):Prop :=
 ∀(pos:Pos)(pins:List (Addr×Obj))(s:Shared)(σ:St)(H:Hp)(Q:List V->Hp->Prop),Inv X pins σ H s->t σ H Q->wpAny (model X.prog X.w) X.A (evalAll ((backToKw pos (keywordEach kws X.env)).map (·.2))) (AP X pins σ Q) X.xe s
section
variable{X:Cx}{CX:CXT}{k:Nat}{f C:Addr}{fd:FuncData}{ps ks:List Str}{sp:Sp}{E:XK}{x m:Str}{p pos apos kpos:Pos}{e o:Expr}{es:List Expr}{kws:List Keyword}{te ta:TE}{t tk:TA}{nm:Option Str}
theorem JY:PK X [] tNil:=λ_ _ _ _ H Q I h=>wpAny_evalAll_nil ⟨[],H,I,.nil,h⟩
theorem W5(ha:PE X e te)(hr:PK X kws t):PK X (⟨nm,e,kpos⟩::kws) (wc te t):=by
 intro pos pins s σ H Q I h;show wpAny _ _ (evalAll ((do let v <-eval e X.env;standAt pos;pure v)::(backToKw pos (keywordEach kws X.env)).map (·.2))) _ _ s;refine wpAny_evalAll_cons (wpAny_bind (thn (ha pins s σ H _ I h) λu s1 ⟨x,H1,I1,r1,q1⟩=>wpAny_bind (wpAny_standAt (wpAny_pure ?_))));exact thn (hr pos pins s1 σ H1 _ I1 q1) λus s2 ⟨xs,H2,I2,r2,q2⟩=>⟨x::xs,H2,I2,.cons r1 r2,q2⟩
end
structure zu(N P:List Str)(sc:Scope):Prop where
 kind:sc.kind=.function
 co:sc.isCoroutine=false
 gen:sc.isGenerator=false
 nd:N.Nodup
 pre:N.take P.length=P
 par:∀x∈P,sc.names.lookup x=some .local\/sc.names.lookup x=some .cell
 nofree:∀y∈sc.names,y.2≠.free
theorem Yv{kindOf:Str->Option NameKind}{x:Str}:∀{binds:List (Str×Value)}{m:Str->Option Value},(∀v,(x,v)∉binds)->bindL kindOf binds m x=m x
 |[],_,_=>rfl
 |(n,v)::r,m,h=>by
  unfold bindL;rw[Yv λw hw=>h w (kn _ hw)];split
  .have:x≠n:=by rintro rfl;exact h v kg
   simp[this]
  .rfl
theorem Yw{kindOf:Str->Option NameKind}{x:Str}:∀{binds:List (Str×Value)}{m:Str->Option Value},(∀v,(x,v)∉binds)->bindC kindOf binds m x=m x
 |[],_,_=>rfl
 |(n,v)::r,m,h=>by
  unfold bindC;rw[Yw λw hw=>h w (kn _ hw)];split
  .rfl
  .have:x≠n:=by rintro rfl;exact h v kg
   simp[this]
theorem Yx{kindOf:Str->Option NameKind}{x:Str}{v:Value}:∀{P:List Str}{vs:List Value}{i:Nat}{m:Str->Option Value},P.Nodup->P[i]?=some x->vs[i]?=some v->kindOf x=some .local ->
  bindL kindOf (P.zip vs) m x=some v
 |[],_,_,_,_,h,_,_=>by simp at h
 |_::_,[],_,_,_,_,h,_=>by simp at h
 |p::P,w::vs,0,m,nd,h1,h2,hk=>by
  simp at h1 h2;subst h1;subst h2;show bindL kindOf ((p,w)::P.zip vs) m p=_;unfold bindL;rw[Yv λv hv=>(ug.mp nd).1 (List.of_mem_zip hv).1,if_pos hk];simp
 |p::P,w::vs,i+1,m,nd,h1,h2,hk=>by
  show bindL kindOf ((p,w)::P.zip vs) m x=_;unfold bindL;exact Yx (i:=i) (ug.mp nd).2 (by simpa using h1) (by simpa using h2) hk
theorem Yy{kindOf:Str->Option NameKind}{x:Str}{v:Value}:∀{P:List Str}{vs:List Value}{i:Nat}{m:Str->Option Value},P.Nodup->P[i]?=some x->vs[i]?=some v->kindOf x≠some .local ->
  bindC kindOf (P.zip vs) m x=some v
 |[],_,_,_,_,h,_,_=>by simp at h
 |_::_,[],_,_,_,_,h,_=>by simp at h
 |p::P,w::vs,0,m,nd,h1,h2,hk=>by
  simp at h1 h2;subst h1;subst h2;show bindC kindOf ((p,w)::P.zip vs) m p=_;unfold bindC;rw[Yw λv hv=>(ug.mp nd).1 (List.of_mem_zip hv).1,if_neg hk];simp
 |p::P,w::vs,i+1,m,nd,h1,h2,hk=>by
  show bindC kindOf ((p,w)::P.zip vs) m x=_;unfold bindC;exact Yy (i:=i) (ug.mp nd).2 (by simpa using h1) (by simpa using h2) hk
def start(N:List Str)(vs:List V):St:=vs.map some++ve (N.length-vs.length) none
def cxOf(CX:CXT)(P:Program)(w:World)(K:PySem.W.Frag)(mg:Str->Option Value)(base:Heap)(N:List Str)(qual:Str)(scope:Scope)(f:Addr)(cd:Value)(A:Around)(outer:List Env)(s:Shared)(H:Hp)(E:XK):Cx where
 prog:=P
 w:=w
 K:=K
 mg:=mg
 base:=base
 A:=A.deeper (envOfC qual scope s.heap.objs.size f cd)
 N:=N
 s₀:=s
 H₀:=H
 env:=envOfC qual scope s.heap.objs.size f cd
 outer:=outer
 stack:=envOfC qual scope s.heap.objs.size f cd::outer
 ex:=[]
 calm:=true
 fn:=λ_=>true
 pn:=[]
 xe:=λe s'=>wpAny (model P w) (A.deeper (envOfC qual scope s.heap.objs.size f cd)) (leaving (envOfC qual scope s.heap.objs.size f cd) e) (λ_ s''=>CX outer H s E e s'') (λe' s''=>CX outer H s E e' s'') s'
theorem XE{sc:Scope}{n:Nat}{x:Str}(h:sc.names.lookup x=some .cell):∃c,(cellsFrom n sc.names []).lookup x=some c:=by
 have q:=PySem.W.cellsFrom_some sc.names n [] (.inl h);exact bf.mp q
theorem JZ{CX:CXT}{P:Program}{w:World}{K:PySem.W.Frag}{mg:Str->Option Value}{base:Heap}{N ps:List Str}{qual:Str}{scope:Scope}{f:Addr}{cd:Value}{A:Around}{outer:List Env}{s s1:Shared}{H:Hp}{E:XK}{us:List Value}{vs:List V}
  (S:zu N ps scope)(hd:A.handled=none)(e0:Env0 P w K mg base A outer s H)(hl:vs.length=ps.length)(r:Vals vs us)
  (x:InCallC s s.heap.objs.size (bindL (envOfC qual scope s.heap.objs.size f cd).kindOf (ps.zip us) λ_=>none) (cellsFrom (s.heap.objs.size+1) scope.names []) (bindC (envOfC qual scope s.heap.objs.size f cd).kindOf (ps.zip us) λ_=>none) s1):
  Inv (cxOf CX P w K mg base N qual scope f cd A outer s H E) [] (start N vs) H s1:=by
 have hpl:ps.length<=N.length:=by have:=congrArg List.length S.pre;rw[kQ]at this;lia
 obtain⟨h1,tk,rfl,hk⟩:=x.done;have noA:∀b:Addr,b∉(cxOf CX P w K mg base N qual scope f cd A outer s H E).ex:=λb z=>absurd (show b∈([]:List Addr)from z) (by simp);refine⟨⟨e0.mod,S.kind,rfl,rfl,km _,λy z c h1 h2=>?_,λy hy=>?_,λy c _ h=>?_,λ_=>hd,Around.frames_deeper e0.frames,.inr ⟨rfl,rfl⟩,λb z=>absurd z (noA b),e0.bs,e0.bsz,λb _ _=>noA b,λb z=>absurd z (noA b),e0.funs,e0.frf⟩,
  rfl,e0.bare,Un.kept hk,⟨_,x.toInCall.ns,λi y v h1 h2 h3=>?_⟩,λy c h=>⟨_,x.cell y c h⟩,e0.hok.fresh (km _),λy c h=>?_,λp hp=>absurd (show p∈([]:List (Addr×Obj))from hp) (by simp),e0.hok.kept hk,?_⟩
 .exact name_of_addr x.apart (uH h1) (uH h2)
 .have hy:scope.names.lookup y=some .cell\/scope.names.lookup y=some .free:=hy;rcases hy with hy|hy
  .exact XE hy
  .exact absurd rfl (S.nofree _ (uH hy))
 .exact vF (x.above y c (uH h))
 .have hi:i<vs.length:=by
   unfold start at h2;by_cases hi:i<vs.length
   .exact hi
   .rw[uY (by simpa using hi)]at h2;rw[List.getElem?_replicate]at h2;split at h2<;>cases h2
  have ha:vs[i]?=some v:=by
   unfold start at h2;rw[ui (by simpa using hi),kM]at h2;cases e:vs[i]? with
   |none=>rw[e]at h2;cases h2
   |some a=>rw[e]at h2;cases h2;rfl
  obtain⟨u,hu,rv⟩:=r.get ha;have hp:ps[i]?=some y:=by
   rw[<-S.pre,List.getElem?_take_of_lt ()];exact h1
  have ndP:ps.Nodup:=by rw[<-S.pre];exact S.nd.sublist (List.take_sublist _ _)
  refine⟨u,rv,?_⟩;rcases S.par y (ky hp)with k|k
  .exact .inl ⟨k,Yx ndP hp hu k⟩
  .obtain⟨c,e⟩:=XE (n:=s.heap.objs.size+1) k;refine .inr ⟨.inl k,c,e,?_⟩;have q:=x.cell y c e;rw[Yy ndP hp hu (by show scope.names.lookup y≠_;rw[k];decide)]at q;exact q
 .exact e0.hok.fresh (vF (x.above y c (uH h)))
 .unfold start;show _=N.length;rw[kt,ke,vz]
  lia
theorem zfW{CX:CXT}{P:Program}{w:World}{K:PySem.W.Frag}{mg:Str->Option Value}{base:Heap}{k:Nat}{f:Addr}{name qual:Str}{params:Arguments}{body:List Stmt}{scope:Scope}{dV kV doc pm cdv ct oc:Value}{an od:Option Addr}
  {osl:Array (Option Value)}{N ps:List Str}{sp:Sp}(lk:K.lookup f=some ⟨oc,od,.func (v8 name qual params body scope dV kV doc pm an cdv ct),osl⟩)(hcd:PySem.W.codeIn K cdv qual=true)(S:zu N ps scope)
  (len:∀vs H Q E,sp vs H Q E->vs.length=ps.length)
  (hbody:∀(A:Around)(outer:List Env)(s:Shared)(H:Hp)(vs:List V)(Q:VK)(E:XK),Room k (A.deeper (envOfC qual scope s.heap.objs.size f cdv))->sp vs H Q E ->
   ∃t,PSs (cxOf CX P w K mg base N qual scope f cdv A outer s H E) body t/\t {nx:=λ_ H'=>Q .non H',rt:=Q} (start N vs) H):
  FnOk P w K mg base CX (k+1) f (v8 name qual params body scope dV kV doc pm an cdv ct) ps sp:=by
 refine⟨len,λA outer s H args us vs Q E hr e0 hb r hsp=>?_⟩;have hl:=len _ _ _ _ hsp;have KX:K.In s.heap:=e0.mod.kin.keeps λb o e=>(e0.bs b o e).1;have lim:s.heap.NoLimit:=e0.mod.nolimit.keeps λb o e=>(e0.bs b o e).1;have hkind:∀y∈ps.zip us,scope.names.lookup y.1=some .local\/(scope.names.lookup y.1=some .cell/\((cellsFrom (s.heap.objs.size+1) scope.names []).lookup y.1).isSome=true):=λ⟨n,v⟩ hy=>by
  rcases S.par n (List.of_mem_zip hy).1 with q|q
  .exact .inl q
  .exact .inr ⟨q,PySem.W.cellsFrom_some _ _ _ (.inl q)⟩
 refine codeAny_call_function hr.depth (KX _ _ lk) rfl S.co S.gen rfl (PySem.W.codeRec_of KX hcd) (hb _ _ _ _ ?_);refine wpAny_newFunctionEnv_cells S.kind hkind λenv he s1 x=>?_;subst he;refine⟨lim.keeps x.toInCall.keep,codeAny_func ?_⟩;obtain⟨t,ht,hq⟩:=hbody A outer s H vs Q E (hr.deeper _) hsp;have I:Inv (cxOf CX P w K mg base N qual scope f cdv A outer s H E) [] (start N vs) H s1:=JZ S hr.hd e0 hl r x;refine wpAny_mono (ht [] s1 (start N vs) H _ I hq) (λfl s' hs=>?_) λe s' hs=>hs;have fin:∀{σ':St}{H':Hp}{v:V}{u:Value},Inv (cxOf CX P w K mg base N qual scope f cdv A outer s H E) [] σ' H' s'->RelV v u->Q v H'->CE outer P w H s Q u s' :=
  λ{σ' H' v u} J rv q=>⟨v,H',J.os,J.bare,J.base,J.hok,rv,q⟩
 cases fl with
 |ret u =>
  obtain⟨v,σ',H',J,rv,q⟩:=hs;exact fin J rv q
 |next =>
  obtain⟨σ',H',J,q⟩:=hs;exact fin (v:=V.non) (u:=Value.none) J rfl q
 |brk =>
  obtain⟨_,_,_,q⟩:=hs;exact False.elim q
 |cont =>
  obtain⟨_,_,_,q⟩:=hs;exact False.elim q
section
variable{X:Cx}{x:Str}{p pos:Pos}{e:Expr}{es:List Expr}{t:TA}{id T:String}{r:List V->Hp->VK->Prop}
def tCB(r:List V->Hp->VK->Prop)(t:TA):TE:=λσ H Q=>t σ H λvs H1=>r vs H1 Q
theorem zp(hc:yI X (.builtin id) r)(hg:Gl X x)(hm:X.mg x=none)(hv:bootBuiltins x=some (.builtin id))(ha:PA X (e::es) t)(hn:x ≠ "__name__" := by decide)(hdb:(x==("__debug__" : Str))=false:=by decide)
  (he:starEach (e::es) X.env=(false,eval e X.env)::starEach es X.env:=by rfl)(hpl:(backTo pos (starEach es X.env)).any (·.1)=false:=by rfl):PE X (.Call (.Name x p) (e::es) [] pos) (tCB r t):=by
 intro pins s σ H Q I h;refine wpAny_Call_Name_kw (yR I hg hm hv ?_ hn hdb);exact uI (thn (ha pos pins s σ H _ I h) λus s1 ⟨vs,H1,I1,r1,q1⟩=>hc pins s1 σ H1 vs us Q I1 r1 q1) he hpl
theorem xM(hc:yI X (.type T) r)(hg:Gl X x)(hm:X.mg x=none)(hv:bootBuiltins x=some (.type T))(ha:PA X (e::es) t)(hn:x ≠ "__name__" := by decide)(hdb:(x==("__debug__" : Str))=false:=by decide)
  (he:starEach (e::es) X.env=(false,eval e X.env)::starEach es X.env:=by rfl)(hpl:(backTo pos (starEach es X.env)).any (·.1)=false:=by rfl):PE X (.Call (.Name x p) (e::es) [] pos) (tCB r t):=by
 intro pins s σ H Q I h;refine wpAny_Call_Name_kw (yR I hg hm hv ?_ hn hdb);exact vB (thn (ha pos pins s σ H _ I h) λus s1 ⟨vs,H1,I1,r1,q1⟩=>hc pins s1 σ H1 vs us Q I1 r1 q1) he hpl
end
end _L2
namespace _HT
open PySem PyProof.Rows
section
variable{prog:Program}{w:World}{A:Around}{E:Value->Shared->Prop}{s:Shared}
def sIx(n d:Nat):Option Int->Nat
 |none=>d
 |some v=>if v<0 then(v+(n:Int)).toNat else min v.toNat n
theorem wK(n d:Nat):sIx n d none=d:=rfl
theorem W6(n d k:Nat):sIx n d (some (k:Int))=min k n:=by
 show(if(k:Int)<0 then((k:Int)+(n:Int)).toNat else min (k:Int).toNat n)=min k n;rw[if_neg (),v9]
theorem zeB(n d:Nat)(hd:d<=n)(o:Option Int):sIx n d o<=n:=by
 cases o with
 |none=>exact hd
 |some v =>
  show(if v<0 then(v+(n:Int)).toNat else min v.toNat n)<=n;by_cases hv:v<0
  .rw[if_pos hv];lia
  .rw[if_neg hv];exact Nat.min_le_right _ _
theorem W7(v:Int)(n d:Nat):(if v<0 then max (v+(n:Int)) 0 else min v (n:Int))=((sIx n d (some v):Nat):Int):=by
 show(if v<0 then max (v+(n:Int)) 0 else min v (n:Int))=(((if v<0 then(v+(n:Int)).toNat else min v.toNat n):Nat):Int);by_cases hv:v<0
 .simp only[if_pos hv];lia
 .simp only[if_neg hv];lia
theorem QN(lo hi:Option Int)(n:Nat):Builtin.Slice.sliceAdjust lo hi 1 (n:Int)=(((sIx n 0 lo:Nat):Int),((sIx n n hi:Nat):Int)):=by
 have h1:¬((1:Int)<0):=⋯
 unfold Builtin.Slice.sliceAdjust;simp only[h1,if_false];refine Prod.ext ?_ ?_
 .cases lo with
  |none=>rfl
  |some v=>exact W7 v n 0
 .cases hi with
  |none=>rfl
  |some v=>exact W7 v n n
theorem QO(i j:Nat):Builtin.Slice.slicePlaces (i:Int) (j:Int) 1=j-i:=by
 unfold Builtin.Slice.slicePlaces;have h1:(1:Int)>0:=⋯
 simp only[h1,if_true,Int.ediv_one];split<;>lia
theorem Zp{v:Value}{o:Option Int}{Q:Option Int->Shared->Prop}(p:IsPart v o)(h:Q o s):wpAny (model prog w) A (Builtin.Slice.slicePartIndex v) Q E s:=by
 cases p with
 |none=>exact slicePart_none h
 |int i t=>exact slicePart_int h
theorem jX{sl:Addr}{vl vu:Value}{lo hi:Option Int}{n:Nat}{Q:Int×Int×Nat->Shared->Prop}(hs:s.heap.IsSliceOf sl vl vu .none)(pl:IsPart vl lo)(pu:IsPart vu hi)
  (h:Q (((sIx n 0 lo:Nat):Int),1,sIx n n hi-sIx n 0 lo) s):wpAny (model prog w) A (Builtin.Slice.sliceApplied (.ref sl) (pure (n:Int))) Q E s:=by
 obtain⟨os,hos,hcs,hds⟩:=id hs;unfold Builtin.Slice.sliceApplied Builtin.Slice.sliceFields;refine wpAny_bind (wpAny_bind (wpAny_field hos hds (x:=vl) rfl (wpAny_bind (wpAny_field hos hds (x:=vu) rfl (wpAny_bind (wpAny_field hos hds (x:=.none) rfl (wpAny_pure ?_)))))));refine wpAny_bind (slicePart_none ?_);show wpAny _ _ (if((1:Int)==0)=true then _ else _) _ _ s;rw[if_neg ⋯];refine wpAny_bind (Zp pl (wpAny_bind (Zp pu (wpAny_bind (wpAny_pure ?_)))));show wpAny _ _ (match Builtin.Slice.sliceAdjust lo hi 1 (n:Int)with|(lo,hi)=>pure (lo,(1:Int),Builtin.Slice.slicePlaces lo hi 1)) _ _ s;rw[QN lo hi n];show wpAny _ _ (pure (((sIx n 0 lo:Nat):Int),(1:Int),Builtin.Slice.slicePlaces ((sIx n 0 lo:Nat):Int) ((sIx n n hi:Nat):Int) 1)) _ _ s;rw[QO];exact wpAny_pure h
theorem zbE(xs:Array Value)(i k:Nat):((kR k).filterMap λ(m:Nat)=>xs[((i:Int)+(m:Int)*1).toNat]?).toArray=((xs.toList.drop i).take k).toArray:=by
 have e:(λ(m:Nat)=>xs[((i:Int)+(m:Int)*1).toNat]?)=λm=>xs[i+m]?:=by
  funext m;have:((i:Int)+(m:Int)*1).toNat=i+m:=()
  rw[this]
 rw[e];have:=pick_run xs i k;rw[List.filterMap_map]at this;have e2:((λx=>xs[x]?)∘λx=>i+x)=λm=>xs[i+m]?:=rfl;rw[e2]at this;rw[this]
theorem jM{t sl:Addr}{items:Array Value}{vl vu:Value}{lo hi:Option Int}{Q:Value->Shared->Prop}(ht:IsTup s.heap t items)(hs:s.heap.IsSliceOf sl vl vu .none)(pl:IsPart vl lo)(pu:IsPart vu hi)
  (hw:¬(sIx items.size 0 lo=0/\sIx items.size items.size hi=items.size))
  (h:Q (.ref s.heap.objs.size) {s with heap:=s.heap.push {cls:=.type "tuple",data:=.seq ((items.toList.drop (sIx items.size 0 lo)).take (sIx items.size items.size hi-sIx items.size 0 lo)).toArray}})
  (hsz:items.size<=sizeLine):wpAny (model prog w) A (getItem (.ref t) (.ref sl)) Q E s:=by
 have htake:sizeOk (.seq ((items.toList.drop (sIx items.size 0 lo)).take (sIx items.size items.size hi-sIx items.size 0 lo)).toArray):=by
  show((items.toList.drop (sIx items.size 0 lo)).take (sIx items.size items.size hi-sIx items.size 0 lo)).toArray.size<=sizeLine;rw[ku,kQ,vk,Array.length_toList];omega
 have hj:sIx items.size items.size hi<=items.size:=zeB _ _ (km _) hi;obtain⟨os,hos,hcs,hds⟩:=id hs;have hTs:s.TypeIs (.ref sl) "slice" := ⟨os,hos,hcs⟩;unfold getItem
 try with_reducible refine wpAny_holding ?_
 first|refine wpAny_bind (wpAny_pure ?_)|skip
 refine wpAny_bind (wpAny_sequenceKey ht.typeIs ⋯ ?_);refine wpAny_bind (wpAny_callSpecial?_slot (name:=Str.ofString "__getitem__") ht.typeIs PyProof.Rows.slot_tuple_getitem
  (wpAny_call_entry PyProof.Rows.slot_tuple_getitem ht.typeIs entry_tuple_getitem ?_ (args_tuple_getitem _ _)))
 show wpAny _ _ (Builtin.Tuple.tupleItemsOf (.ref t) >>= _) _ _ s;refine wpAny_bind (tupleItemsOf_ ht ?_);refine wpAny_bind (wpAny_typeOf hTs ?_);rw[if_pos ⋯];refine wpAny_bind (jX hs pl pu ?_);have hno:¬((((sIx items.size 0 lo:Nat):Int)==0&&(1:Int)==1&&(sIx items.size items.size hi-sIx items.size 0 lo)==items.size)=true):=by
  intro q;rw[vi,vi]at q;have q1:((sIx items.size 0 lo:Nat):Int)=0:=eq_of_beq q.1.1;have q2:sIx items.size items.size hi-sIx items.size 0 lo=items.size:=eq_of_beq q.2;exact hw ⟨(),by omega⟩
 show wpAny _ _ (if(((sIx items.size 0 lo:Nat):Int)==0&&(1:Int)==1&&(sIx items.size items.size hi-sIx items.size 0 lo)==items.size)=true then _ else _) _ _ s;rw[if_neg hno,zbE]
 first
  |exact wpAny_bind (m:=Builtin.Tuple.tupleExact _) (wpAny_newObj_type (wpAny_pure ⟨_,rfl,wpAny_pure h⟩) htake)
  |exact wpAny_bind (m:=Builtin.Tuple.tupleExact _) (wpAny_newObj_type (wpAny_bind (wpAny_pure (wpAny_pure ⟨_,rfl,wpAny_pure h⟩))) htake)
  |exact wpAny_bind (wpAny_bind (m:=Builtin.Tuple.tupleExact _) (wpAny_newObj_type (wpAny_pure (wpAny_pure ⟨_,rfl,wpAny_pure h⟩)) htake))
  |exact wpAny_bind (wpAny_bind (m:=Builtin.Tuple.tupleExact _) (wpAny_newObj_type (wpAny_pure ⟨_,rfl,wpAny_pure h⟩) htake))
end
end _HT
namespace _L2
open PySem PySem.Spec PyProof.Rows
abbrev TO:=St->Hp->(Option Int->Hp->Prop)->Prop
def PO(X:Cx)(e:Option Expr)(t:TO):Prop :=
 ∀(pins:List (Addr×Obj))(s:Shared)(σ:St)(H:Hp)(Q:Option Int->Hp->Prop),Inv X pins σ H s->t σ H Q ->
  wpAny (model X.prog X.w) X.A (evalPart e X.env) (λu s'=>∃o H',Inv X pins σ H' s'/\IsPart u o/\Q o H') X.xe s
def zde:TO:=λ_ H Q=>Q none H
def zfX(t:TE):TO:=λσ H Q=>t σ H λx H1=>∃i,x=.int i/\Q (some i) H1
section
variable{X:Cx}{e:Expr}{te:TE}{lo hi:Option Expr}{tl th:TO}{pos p2:Pos}
theorem yJ:PO X none zde:=by
 intro pins s σ H Q I h;rw[evalPart_none];exact wpAny_pure ⟨none,H,I,.none,h⟩
theorem yx(h:PE X e te):PO X (some e) (zfX te):=by
 intro pins s σ H Q I hw;rw[evalPart_some];refine thn (h pins s σ H _ I hw) λu s1 h9=>?_;obtain⟨x,H1,I1,r1,q1⟩:=h9;obtain⟨i,rfl,q⟩:=q1;obtain⟨t,rfl⟩:=r1;exact⟨some i,H1,I1,.int i t,q⟩
def SlR(X:Cx)(r:V->Option Int->Option Int->Hp->VK->Prop):Prop :=
 ∀(pins:List (Addr×Obj))(s:Shared)(σ:St)(H:Hp)(x:V)(v vl vu:Value)(lo hi:Option Int)(sl:Addr)(Q:VK),Inv X pins σ H s->RelV x v->s.heap.IsSliceOf sl vl vu .none->IsPart vl lo->IsPart vu hi->r x lo hi H Q ->
  ∃T id,typeLookup (.type T) "__getitem__" = pure (some (.builtin id))/\s.TypeIs v T/\wpAny (model X.prog X.w) X.A (getItem v (.ref sl)) (EP X pins σ Q) X.xe s
def tSl(r:V->Option Int->Option Int->Hp->VK->Prop)(te:TE)(tl th:TO):TE:=λσ H Q=>te σ H λx H1=>tl σ H1 λl H2=>th σ H2 λu H3=>r x l u H3 Q
theorem yp{r:V->Option Int->Option Int->Hp->VK->Prop}(hr:SlR X r)(he:PE X e te)(hl:PO X lo tl)(hu:PO X hi th):PE X (.Subscript e (.Slice lo hi none p2) pos) (tSl r te tl th):=by
 intro pins s σ H Q I h;refine Subscript_ (thn (he pins s σ H _ I h) λv s1 h9=>?_);obtain⟨x,H1,I1,r1,q1⟩:=h9;refine wpAny_Slice (thn (hl pins s1 σ H1 _ I1 q1) λvl s2 ⟨l,H2,I2,pl,q2⟩=>thn (hu pins s2 σ H2 _ I2 q2) λvu s3 h9=>?_);obtain⟨u,H3,I3,pu,q3⟩:=h9;rw[evalPart_none];refine wpAny_pure ?_;have I4:Inv X pins σ H3 {s3 with heap:=s3.heap.push {cls:=.type "slice",data:=.fields #[vl,vu,.none]}}:=I3.kept (t':=s3.toks) λb ob q=>Heap.get?_push_of_some _ q;obtain⟨T,id,hT,ht,hg⟩:=hr pins {s3 with heap:=s3.heap.push {cls:=.type "slice",data:=.fields #[vl,vu,.none]}} σ H3 x v vl vu l u s3.heap.objs.size Q I4 r1 (Heap.IsSliceOf.new ..) pl pu q3;show wpAny (model X.prog X.w) X.A (subscriptTail e (.Slice lo hi none p2) v (.ref s3.heap.objs.size)) (EP X pins σ Q) X.xe {s3 with heap:=s3.heap.push {cls:=.type "slice",data:=.fields #[vl,vu,.none]}};exact tail_any (ops:=[.ref s3.heap.objs.size,v]) ht hT hg (by with_unfolding_all rfl)
def cutV(xs:List V)(lo hi:Option Int):List V:=(xs.drop (_HT.sIx xs.length 0 lo)).take (_HT.sIx xs.length xs.length hi-_HT.sIx xs.length 0 lo)
theorem jN(xs:List V)(lo hi:Option Int):(cutV xs lo hi).length<=xs.length:=by
 unfold cutV;rw[kQ,vk]
 lia
def rSlT(K:PySem.W.Frag):V->Option Int->Option Int->Hp->VK->Prop:=λx lo hi H Q=>∃a xs,x=.ref a/\SqT K H a xs /\
 ¬(_HT.sIx xs.length 0 lo=0/\_HT.sIx xs.length xs.length hi=xs.length)/\∀p,H p=none->Q (.ref p) (upd H p (.tup (cutV xs lo hi)))
theorem J0:SlR X (rSlT X.K):=by
 intro pins s σ H x v vl vu lo hi sl Q I rx hs pl pu h;refine E_2 h λa xs n8=>A_4 n8 λe9 hx hw q=>?_;clear n8 h;subst e9;cases rx;obtain⟨its,r,ht,hz⟩:=I.tuple hx;have hlen:its.toArray.size=xs.length:=by rw[ku];exact r.length.symm
 refine⟨"tuple",_,PyProof.Rows.slot_tuple_getitem.lookup,ht.typeIs,?_⟩;refine _HT.jM ht hs pl pu (by rw[hlen];exact hw) ?_ (by rw[hlen];exact hz);rw[hlen];refine⟨.ref s.heap.objs.size,_,I.laid (t':=s.toks) (o:=.tup (cutV xs lo hi)) (λb ob q=>Heap.get?_push_of_some _ q) (km _) ?_,rfl,q _ (I.hok.fresh (km _))⟩;exact⟨kw (jN xs lo hi) hz,_,(r.drop (_HT.sIx xs.length 0 lo)).take (_HT.sIx xs.length xs.length hi-_HT.sIx xs.length 0 lo),IsTup.new _ _⟩
end
def ixN(n:Nat)(i:Int):Option Nat:=if 0<=i then(if i<n then some i.toNat else none)else if -(n:Int)<=i then some (i+n).toNat else none
def atI{α:Type}(xs:List α)(i:Int):Option α:=(ixN xs.length i).bind λj=>xs[j]?
theorem W8{n:Nat}{i:Int}{j:Nat}(h:ixN n i=some j):seqIndex? i n=some j/\j<n /\ -(n:Int)<=i/\i<n:=by
 unfold ixN at h;by_cases h0:0<=i
 .rw[if_pos h0]at h;by_cases h1:i<n
  .rw[if_pos h1]at h;have e:i.toNat=j:=Option.some.inj h;exact⟨by rw[seqIndex_of h0 h1,e],(),(),h1⟩
  .rw[if_neg h1]at h;cases h
 .rw[if_neg h0]at h;by_cases h1:-(n:Int)<=i
  .rw[if_pos h1]at h;have e:(i+n).toNat=j:=Option.some.inj h;exact⟨by rw[seqIndex_neg () h1,e],(),h1,()⟩
  .rw[if_neg h1]at h;cases h
theorem ZW{α:Type}{xs:List α}{i:Int}{v:α}(h:atI xs i=some v):∃j,seqIndex? i xs.length=some j/\xs[j]?=some v/\j<xs.length /\ -(xs.length:Int)<=i/\i<xs.length:=by
 unfold atI at h;cases e:ixN xs.length i with
 |none=>rw[e]at h;cases h
 |some j =>
  rw[e]at h;obtain⟨h1,h2,h3,h4⟩:=W8 e;exact⟨j,h1,h,h2,h3,h4⟩
theorem yX{α:Type}{xs:List α}{j:Nat}{v:α}(h:xs[j]?=some v):atI xs (j:Int)=some v:=by
 have hj:j<xs.length:=(kf.mp h).1;have e:ixN xs.length (j:Int)=some j:=by
  unfold ixN;rw[if_pos (),if_pos ()];simp
 unfold atI;rw[e];exact h
theorem jY{α:Type}(xs:List α)(v:α):atI (xs++[v]) (-1)=some v:=by
 have hl:(xs++[v]).length=xs.length+1:=by simp
 have e:ixN (xs++[v]).length (-1)=some xs.length:=by
  unfold ixN;rw[hl,if_neg ⋯,if_pos ()];congr 1
  lia
 unfold atI;rw[e];show(xs++[v])[xs.length]?=some v;simp
def zdf(b:Expr):Prop:=∀o i,subscripted b false o i=operate [o,i] (getItem o i)
def IxR(X:Cx)(r:R2):Prop :=
 ∀(value slice:Expr)(pins:List (Addr×Obj))(s:Shared)(σ:St)(H:Hp)(x y:V)(v u:Value)(Q:VK),Inv X pins σ H s->RelV x v->RelV y u->r x y H Q ->
  subscripted slice false v u=operate [v,u] (getItem v u)->wpAny (model X.prog X.w) X.A (subscriptTail value slice v u) (EP X pins σ Q) X.xe s
def MtR(X:Cx)(id:String)(r:V->List V->Hp->VK->Prop):Prop :=
 ∀(pins:List (Addr×Obj))(s:Shared)(σ:St)(H:Hp)(x:V)(xs:List V)(v:Value)(us:List Value)(Q:VK),Inv X pins σ H s->RelV x v->Vals xs us->r x xs H Q ->
  wpAny (model X.prog X.w) X.A (call (.builtin id) (v::us)) (EP X pins σ Q) X.xe s
section
variable{X:Cx}{a b:Expr}{ta tb:TE}{pos:Pos}
theorem zm{r:R2}(hr:IxR X r)(ha:PE X a ta)(hb:PE X b tb)(hs:zdf b):PE X (.Subscript a b pos) (tOp r ta tb):=by
 intro pins s σ H Q I h;exact Subscript_ (binT ha hb I h λv u s2 x y H2 I2 rx ry q=>hr a b pins s2 σ H2 x y v u Q I2 rx ry q (hs _ _))
def rIxL(K:PySem.W.Frag):R2:=λx y H Q=>∃p xs i v,x=.ref p/\y=.int i/\SqL K H p xs/\atI xs i=some v/\Q v H
def rIxT(K:PySem.W.Frag):R2:=λx y H Q=>∃p xs i v,x=.ref p/\y=.int i/\SqT K H p xs/\atI xs i=some v/\Q v H
def rIxS:R2:=λx y H Q=>∃z i c,x=.str z/\y=.int i/\z.length<=sizeLine/\atI z.cps.toList i=some c/\Q (.str ⟨#[c]⟩) H
theorem yc:IxR X (rIxL X.K):=by
 intro value slice pins s σ H x y v u Q I rx ry h hs;refine E_4 h λp xs i z n8=>A_5 n8 λe9 n90 hq he q=>?_;clear n8 h;subst e9;subst n90;cases rx;obtain⟨t,rfl⟩:=ry;obtain⟨its,r,pl,hz⟩:=I.list hq;obtain⟨j,h1,h2,h3,h4,h5⟩:=ZW he;obtain⟨w,ew,rw'⟩:=r.get h2;have hl:=r.length;have hn:=wJ;have fin:EP X pins σ Q w s:=⟨z,H,I,rw',q⟩;by_cases h0:0<=i
 .have hj:i.toNat=j:=by
   rw[seqIndex_of h0 h5]at h1;exact Option.some.inj h1
  exact item_listR pl.isList h0 () (by rw[hj];simpa using ew) fin hs
 .have hj:(i+(its.toArray.size:Int)).toNat=j:=by
   rw[seqIndex_neg () h4]at h1;rw[ku,<-hl];exact Option.some.inj h1
  exact subscriptTail_builtinR (x:=w) pl.isList.typeIs slot_list_getitem.lookup
   (wpAny_getItem_list_neg (Q:=λr s'=>r=w/\EP X pins σ Q r s') pl.isList () (by rw[ku]<;>lia) () (by rw[hj];simpa using ew) ⟨rfl,fin⟩) hs
theorem zw:IxR X (rIxT X.K):=by
 intro value slice pins s σ H x y v u Q I rx ry h hs;refine E_4 h λp xs i z n8=>A_5 n8 λe9 n90 hq he q=>?_;clear n8 h;subst e9;subst n90;cases rx;obtain⟨t,rfl⟩:=ry;obtain⟨its,r,pl,hz⟩:=I.tuple hq;obtain⟨j,h1,h2,h3,h4,h5⟩:=ZW he;obtain⟨w,ew,rw'⟩:=r.get h2;have hl:=r.length;have hn:=wJ;have fin:EP X pins σ Q w s:=⟨z,H,I,rw',q⟩;exact subscriptTail_builtinR (x:=w) pl.typeIs slot_tuple_getitem.lookup
  (getItem_tuple (j:=j) (Q:=λr s'=>r=w/\EP X pins σ Q r s') pl () () (by rw[ku,<-hl];exact h1) (by simpa using ew) ⟨rfl,fin⟩) hs
theorem zeC:IxR X rIxS:=by
 intro value slice pins s σ H x y v u Q I rx ry h hs;refine E_3 h λz i c n8=>A_5 n8 λe9 n90 hz he q=>?_;clear n8 h;subst e9;subst n90;obtain⟨t,rfl⟩:=rx;obtain⟨t',rfl⟩:=ry;obtain⟨j,h1,h2,h3,h4,h5⟩:=ZW he;have hl:z.cps.toList.length=z.length:=by simp[Str.length]
 rw[hl]at h1 h4 h5;have hn:=wJ;exact tail_any (typeIs_str s z t) slot_str_getitem.lookup (getItem_str (c:=c) (by
  have e1:decide (i < -(2^63:Int))=false:=decide_eq_false ();have e2:decide (i≥2^63)=false:=decide_eq_false ();rw[e1,e2,bE]) (by rw[h1];simpa using h2) ⟨.str ⟨#[c]⟩,H,I.tok _,⟨_,rfl⟩,q⟩) hs
theorem QP(its:List Value)(n j:Nat)(u:Value):Obj.mapSeq (·.setIfInBounds j u) {cls:=.type "list",data:=.seq its.toArray n}={cls:=.type "list",data:=.seq (its.set j u).toArray n}:=by
 simp[Obj.mapSeq]
theorem Inv.lst{pins:List (Addr×Obj)}{σ:St}{H:Hp}{s:Shared}{p:Addr}{xs:List V}(I:Inv X pins σ H s)(h:H p=some (.lst xs)):
  ∃(its:List Value)(n:Nat),Vals xs its/\s.heap.get? p=some {cls:=.type "list",data:=.seq its.toArray n}/\xs.length<=sizeLine:=by
 obtain⟨z,its,n,r,e⟩:=I.hok p _ h;exact⟨its,n,r,e,z⟩
theorem Inv.lstUpd{pins:List (Addr×Obj)}{σ:St}{H:Hp}{s:Shared}{p:Addr}{xs ys:List V}{its its':List Value}{n n':Nat}{f:Obj->Obj}(I:Inv X pins σ H s)(h:H p=some (.lst xs))
  (ho:s.heap.get? p=some {cls:=.type "list",data:=.seq its.toArray n})(hf:f {cls:=.type "list",data:=.seq its.toArray n}={cls:=.type "list",data:=.seq its'.toArray n'})(r:Vals ys its')(hz:ys.length<=sizeLine)(t:Nat):
  Inv X pins σ (upd H p (.lst ys)) {s with heap:=s.heap.update p f,toks:=t}:=by
 have e:(s.heap.update p f).get? p=some {cls:=.type "list",data:=.seq its'.toArray n'}:=by
  rw[Heap.get?_update_self f ho (by rw[hf]<;>rfl),hf]
 refine I.write (x:=p) (e:=p) (by rw[h];exact trivial) (.inl rfl) (λb u hb q=>(Heap.get?_update_other _ _ (Ne.symm hb)).trans q) ⟨_,e⟩ ?_;exact⟨hz,its',n',r,e⟩
def zfY:V->V->V->Hp->(Hp->Prop)->Prop:=λo i v H Q=>∃p xs k j,o=.ref p/\i=.int k/\H p=some (.lst xs)/\ixN xs.length k=some j/\Q (upd H p (.lst (xs.set j v)))
theorem set_list:PSet X zfY:=by
 intro pins s σ H o i v ov iv u Q I ro ri rv h;refine E_4 h λp xs k j n8=>A_5 n8 λe9 n90 hp hj q=>?_;clear n8 h;subst e9;subst n90;cases ro;obtain⟨t,rfl⟩:=ri;obtain⟨its,n,r,ho,hz⟩:=I.lst hp;obtain⟨h1,h2,h3,h4⟩:=W8 hj;have hl:=r.length;have hn:=wJ;have I':Inv X pins σ (upd H p (.lst (xs.set j v))) {s with heap:=s.heap.update p (Obj.mapSeq (·.setIfInBounds j u))} :=
  I.lstUpd hp ho (QP its n j u) (r.set rv j) (by rw[List.length_set];exact hz) s.toks
 by_cases h0:0<=k
 .have hk:k.toNat=j:=by
   rw[seqIndex_of h0 h4]at h1;exact Option.some.inj h1
  exact PySem.W.ki_setAt ho h0 () (by rw[ku,<-hl];exact h4) (by rw[hk];exact⟨_,I',q⟩)
 .have hk:(k+(its.toArray.size:Int)).toNat=j:=by
   rw[seqIndex_neg () h3]at h1;rw[ku,<-hl];exact Option.some.inj h1
  exact PySem.W.ki_setBack ho () (by rw[ku,<-hl];exact h3) () (by rw[hk];exact⟨_,I',q⟩)
theorem XF(lo hi:Option Int)(n:Nat):(sliceBounds lo hi none n).1=((_HT.sIx n 0 lo:Nat):Int)/\(sliceBounds lo hi none n).2.1=((_HT.sIx n n hi:Nat):Int)/\(sliceBounds lo hi none n).2.2=1:=by
 refine⟨?_,?_,rfl⟩
 .cases lo with
  |none=>simp[sliceBounds,_HT.sIx]
  |some i =>
   simp only[sliceBounds,_HT.sIx,Option.getD_none,show(1:Int)>0 by decide,if_true];by_cases h:i<0
   .simp only[h,if_true]<;>lia
   .simp only[h,if_false]<;>lia
 .cases hi with
  |none=>simp[sliceBounds,_HT.sIx]
  |some i =>
   simp only[sliceBounds,_HT.sIx,Option.getD_none,show(1:Int)>0 by decide,if_true];by_cases h:i<0
   .simp only[h,if_true]<;>lia
   .simp only[h,if_false]<;>lia
theorem Xj(its:List Value)(lo hi:Option Int):slicePick its.toArray lo hi none=((its.drop (_HT.sIx its.length 0 lo)).take (_HT.sIx its.length its.length hi-_HT.sIx its.length 0 lo)).toArray:=by
 obtain⟨h1,h2,h3⟩:=XF lo hi its.toArray.size;unfold slicePick;rw[h1,h2,h3];simp only[sliceRange_one,pick_run,ku]<;>rfl
def rSlL(K:PySem.W.Frag):V->Option Int->Option Int->Hp->VK->Prop:=λx lo hi H Q=>∃a xs,x=.ref a/\SqL K H a xs/\∀p,H p=none->Q (.ref p) (upd H p (.lst (cutV xs lo hi)))
theorem yQ:SlR X (rSlL X.K):=by
 intro pins s σ H x v vl vu lo hi sl Q I rx hs pl pu h;refine E_2 h λa xs n8=>A_3 n8 λe9 hx q=>?_;clear n8 h;subst e9;cases rx;obtain⟨its,r,ht,hz⟩:=I.list hx;have hlen:=r.length;refine⟨"list",_,slot_list_getitem.lookup,ht.isList.typeIs,?_⟩;refine wpAny_getItem_list_slice ht.isList hs pl pu .none (by simp) ?_ (by rw[ku]<;>lia);rw[Xj,<-hlen];refine⟨.ref s.heap.objs.size,_,I.laid (t':=s.toks) (o:=.lst (cutV xs lo hi)) (λb ob q=>Heap.get?_push_of_some _ q) (km _) ?_,rfl,q _ (I.hok.fresh (km _))⟩;exact⟨kw (jN xs lo hi) hz,_,0,(r.drop (_HT.sIx xs.length 0 lo)).take (_HT.sIx xs.length xs.length hi-_HT.sIx xs.length 0 lo),Heap.get?_push_size _ rfl⟩
def xI:V->Bool
 |.non=>true
 |.bl _=>true
 |.int _=>true
 |.str _=>true
 |_=>false
def eqV:V->V->Bool
 |.non,.non=>true
 |.bl a,.bl b=>a==b
 |.bl a,.int b=>(if a then 1 else 0)==b
 |.int a,.bl b=>a==(if b then 1 else 0)
 |.int a,.int b=>a==b
 |.str a,.str b=>a==b
 |_,_=>false
theorem J4{A:Around}{s:Shared}{y x:V}{u v:Value}(ry:RelV y u)(rx:RelV x v)(fy:xI y=true)(fx:xI x=true):SeqAt.EqAt A s u v (eqV y x):=by
 cases y with
 |non =>
  cases ry;cases x with
  |non=>cases rx;exact SeqAt.EqAt.same _
  |bl b=>cases rx;exact SeqAt.EqAt.none_bool b
  |int b=>obtain⟨t,rfl⟩:=rx;exact SeqAt.EqAt.none_int b t
  |str b=>obtain⟨t,rfl⟩:=rx;exact SeqAt.EqAt.none_str b t
  |_=>exact absurd (show false=true from fx) kH
 |bl a =>
  cases ry;cases x with
  |non=>cases rx;exact SeqAt.EqAt.bool_none a
  |bl b=>cases rx;exact SeqAt.EqAt.bool_bool a b
  |int b=>obtain⟨t,rfl⟩:=rx;exact SeqAt.EqAt.bool_int a b t
  |str b=>obtain⟨t,rfl⟩:=rx;exact SeqAt.EqAt.bool_str a b t
  |_=>exact absurd (show false=true from fx) kH
 |int a =>
  obtain⟨t',rfl⟩:=ry;cases x with
  |non=>cases rx;exact SeqAt.EqAt.int_none a t'
  |bl b=>cases rx;exact SeqAt.EqAt.int_bool a t' b
  |int b=>obtain⟨t,rfl⟩:=rx;exact SeqAt.EqAt.int_int a t' b t
  |str b=>obtain⟨t,rfl⟩:=rx;exact SeqAt.EqAt.int_str a t' b t
  |_=>exact absurd (show false=true from fx) kH
 |str a =>
  obtain⟨t',rfl⟩:=ry;cases x with
  |non=>cases rx;exact SeqAt.EqAt.str_none a t'
  |bl b=>cases rx;exact SeqAt.EqAt.str_bool a t' b
  |int b=>obtain⟨t,rfl⟩:=rx;exact SeqAt.EqAt.str_int a t' b t
  |str b=>obtain⟨t,rfl⟩:=rx;exact SeqAt.EqAt.str_str a t' b t
  |_=>exact absurd (show false=true from fx) kH
 |_=>exact absurd (show false=true from fy) kH
def eqU(x:V)(u:Value):Bool:=match u with
 |.none=>eqV .non x
 |.bool b=>eqV (.bl b) x
 |.int i _=>eqV (.int i) x
 |.str z _=>eqV (.str z) x
 |_=>false
theorem J5{x y:V}{u:Value}(r:RelV y u)(f:xI y=true):eqU x u=eqV y x:=by
 cases y with
 |non=>cases r;rfl
 |bl b=>cases r;rfl
 |int i=>obtain⟨t,rfl⟩:=r;rfl
 |str z=>obtain⟨t,rfl⟩:=r;rfl
 |_=>exact absurd (show false=true from f) kH
theorem ZX{x:V}:∀{xs:List V}{us:List Value},Vals xs us->xs.all xI=true->us.any (eqU x)=xs.any λy=>eqV y x
 |_,_,.nil,_=>rfl
 |y::xs,u::us,.cons r t,f=>by
  rw[List.all_cons,vi]at f;rw[List.any_cons,List.any_cons,J5 r f.1,ZX t f.2]
theorem jZ{A:Around}{s:Shared}{x:V}{v:Value}(rx:RelV x v)(fx:xI x=true):∀{xs:List V}{us:List Value},Vals xs us->xs.all xI=true->∀u∈us,SeqAt.EqAt A s u v (eqU x u)
 |_,_,.nil,_=>λu hu=>by cases hu
 |y::xs,u::us,.cons r t,f=>λu' hu=>by
  rw[List.all_cons,vi]at f;rcases kK.mp hu with rfl|hu
  .rw[J5 r f.1];exact J4 r rx f.1 fx
  .exact jZ rx fx t f.2 u' hu
def inV(x:V)(xs:List V):Bool:=xs.any λy=>eqV y x
def rIn(K:PySem.W.Frag)(neg:Bool):R2:=λx y H Q=>∃p xs,y=.ref p/\(SqL K H p xs\/SqT K H p xs)/\xI x=true/\xs.all xI=true/\Q (.bl (if neg then !inV x xs else inV x xs)) H
theorem J6:OpR X (compareOp .In) (rIn X.K false):=by
 intro pins s σ H x y v u Q I rx ry h;refine E_2 h λp xs n8=>A_5 n8 λe9 hq fx fs q=>?_;clear n8 h;subst e9;cases ry;rcases hq with hq|hq
 .obtain⟨its,r,pl,hz⟩:=I.list hq;refine SeqAt.in_listAt (eqU x) pl.isList (λw hw=>jZ rx fx r fs w (by simpa using hw)) ⟨.bl _,H,I,rfl,?_⟩;rw[show its.toArray.any (eqU x)=its.any (eqU x)by simp,ZX r fs];exact q
 .obtain⟨its,r,pl,hz⟩:=I.tuple hq;refine SeqAt.in_tupleAt (eqU x) pl (λw hw=>jZ rx fx r fs w (by simpa using hw)) ⟨.bl _,H,I,rfl,?_⟩;rw[show its.toArray.any (eqU x)=its.any (eqU x)by simp,ZX r fs];exact q
theorem zA:yI X (.builtin "len") (λxs H Q=>∃p ys,xs=[.ref p]/\(SqL X.K H p ys\/SqT X.K H p ys)/\Q (.int ys.length) H):=by
 intro pins s σ H xs us Q I r h;refine E_2 h λp ys n8=>A_3 n8 λe9 hq q=>?_;clear n8 h;subst e9;obtain⟨u,rfl,rx⟩:=vals1 r;cases rx;have hn:=wJ;rcases hq with hq|hq
 .obtain⟨its,r',pl,hz⟩:=I.list hq;have hlen:=r'.length;exact Calls.call_len_list pl.isList (by simp only[ku]<;>lia) ⟨.int ys.length,H,I.tok _,⟨s.toks+1,by rw[ku,hlen]⟩,q⟩
 .obtain⟨its,r',pl,hz⟩:=I.tuple hq;have hlen:=r'.length;exact len_tuple pl (by simp only[ku]<;>lia) ⟨.int ys.length,H,I.tok _,⟨s.toks+1,by rw[ku,hlen]⟩,q⟩
theorem yT:yI X (.builtin "len") (λxs H Q=>∃z,xs=[.str z]/\z.length<=sizeLine/\Q (.int z.length) H):=by
 intro pins s σ H xs us Q I r h;refine E_1 h λz n8=>A_3 n8 λe9 hz q=>?_;clear n8 h;subst e9;obtain⟨u,rfl,t,rfl⟩:=vals1 r;have hn:=wJ;exact len_str () ⟨.int z.length,H,I.tok _,⟨_,rfl⟩,q⟩
theorem qZ:yI X (.type "list") (λxs H Q=>∃p ys,xs=[.ref p]/\(SqL X.K H p ys\/SqT X.K H p ys)/\∀l,H l=none->Q (.ref l) (upd H l (.lst ys))):=by
 intro pins s σ H xs us Q I r h;refine E_2 h λp ys n8=>A_3 n8 λe9 hq q=>?_;clear n8 h;subst e9;obtain⟨u,rfl,rx⟩:=vals1 r;cases rx;have fin:∀(its:List Value),Vals ys its->ys.length<=sizeLine->∀(h':Heap)(c':Nat),(∀b o',s.heap.get? b=some o'->h'.get? b=some o') ->
   h'.get? s.heap.objs.size=some {cls:=.type "list",dict:=none,data:=.seq its.toArray c',slots:=#[]}->EP X pins σ Q (.ref s.heap.objs.size) {s with heap:=h'}:=λits r' hz h' c' kp e =>
  ⟨.ref s.heap.objs.size,_,I.laid (t':=s.toks) kp (km _) (show yq X.prog X.w _ h' _ (.lst ys)from⟨hz,its,c',r',e⟩),rfl,q _ (I.hok.fresh (km _))⟩
 rcases hq with hq|hq
 .obtain⟨its,r',pl,hz⟩:=I.list hq;have hlen:=r'.length;obtain⟨o,ho,hc,n,hd⟩:=pl.isList;exact call_list_seq p (.inl rfl) ho hc hd (λh' c' kp e=>fin its r' hz h' c' kp e) (by simp only[ku]<;>lia)
 .obtain⟨its,r',pl,hz⟩:=I.tuple hq;have hlen:=r'.length;obtain⟨o,ho,hc,n,hd⟩:=pl;exact call_list_seq p (.inr rfl) ho hc hd (λh' c' kp e=>fin its r' hz h' c' kp e) (by simp only[ku]<;>lia)
theorem wu:yI X (.type "tuple") (λxs H Q=>∃p ys,xs=[.ref p]/\((SqL X.K H p ys/\∀l,H l=none->Q (.ref l) (upd H l (.tup ys)))\/(SqT X.K H p ys/\Q (.ref p) H))):=by
 intro pins s σ H xs us Q I r h;revert h;intro n7;refine E_2 n7 λp ys n8=>A_2 n8 λe9 h=>?_;clear n8 n7;subst e9;obtain⟨u,rfl,rx⟩:=vals1 r;cases rx;rcases h with⟨hq,q⟩|⟨hq,q⟩
 .obtain⟨its,r',pl,hz⟩:=I.list hq;have hlen:=r'.length;refine call_tuple_list pl.isList (λh' kp=>?_) (by simp only[ku]<;>lia);have I1:Inv X pins σ H {s with heap:=h'}:=I.kept (t':=s.toks) kp;have I2:Inv X pins σ (upd H h'.objs.size (.tup ys)) {s with heap:=h'.push {cls:=.type "tuple",data:=.seq its.toArray}} :=
   I1.laid (t':=s.toks) (λb o e=>Heap.get?_push_of_some _ e) (km _) (show yq X.prog X.w _ _ _ (.tup ys)from⟨hz,its,r',IsTup.new _ _⟩)
  exact⟨.ref h'.objs.size,_,I2,rfl,q _ (I1.hok.fresh (km _))⟩
 .obtain⟨its,r',pl,hz⟩:=I.tuple hq;exact call_tuple_same pl ⟨.ref p,H,I,rfl,q⟩
def tyV(K:PySem.W.Frag)(T:String)(x:V)(H:Hp):Prop:=match x with
 |.str _=>T = "str"
 |.int _=>T = "int"
 |.ref p=>(T = "list" /\ ∃xs,SqL K H p xs)\/(T = "tuple" /\ ∃o,K.lookup p=some o/\o.cls=.type "tuple" /\ o.dict=none) \/
   (T = "dict" /\ ((∃kvs,H p=some (.dK kvs))\/∃kvs,H p=some (.dT kvs)))\/(T = "set" /\ ∃S n,H p=some (.set S n))
 |_=>False
theorem J7{pins:List (Addr×Obj)}{σ:St}{H:Hp}{s:Shared}{T:String}{x:V}{v:Value}(I:Inv X pins σ H s)(r:RelV x v)(ty:tyV X.K T x H):
  s.TypeIs v T/\∀a,v=.ref a->∃ob,s.heap.get? a=some ob/\ob.dict=none:=by
 cases x with
 |str z =>
  obtain⟨t,rfl⟩:=r;cases (show T = "str" from ty);exact⟨typeIs_str s z t,λ_ e=>nomatch e⟩
 |int i =>
  obtain⟨t,rfl⟩:=r;cases (show T = "int" from ty);exact⟨typeIs_int s i t,λ_ e=>nomatch e⟩
 |ref p =>
  cases r;rcases ty with⟨rfl,xs,hq⟩|⟨rfl,o,hk,hc,hd⟩|⟨rfl,hk⟩|⟨rfl,S,n,hk⟩
  .obtain⟨its,_,pl,_⟩:=I.list hq;refine⟨pl.isList.typeIs,λa e=>?_⟩;cases e;obtain⟨o,n,e,c,hd,_⟩:=pl;exact⟨o,e,hd⟩
  .refine⟨⟨o,I.kIn p o hk,hc⟩,λa e=>?_⟩;cases e;exact⟨o,I.kIn _ o hk,hd⟩
  .have z:∃o,s.heap.get? p=some o/\o.ExactDict:=by
    rcases hk with⟨kvs,hk⟩|⟨kvs,hk⟩
    .obtain⟨_,_,_,_,o,_,_,e,ex,_⟩:=I.hok p _ hk;exact⟨o,e,ex⟩
    .obtain⟨_,_,_,_,o,_,_,e,ex,_⟩:=I.hok p _ hk;exact⟨o,e,ex⟩
   obtain⟨o,e,ex⟩:=z;refine⟨⟨o,e,ex.1⟩,λa e2=>?_⟩;cases e2;exact⟨o,e,ex.2.1⟩
  .obtain⟨o,_,_,_,e,ex,_⟩:=I.hok p _ hk;refine⟨⟨o,e,ex.1⟩,λa e2=>?_⟩;cases e2;exact⟨o,e,ex.2.1⟩
 |_=>exact False.elim ty
def tBM0(K:PySem.W.Frag)(T:String)(r:V->List V->Hp->VK->Prop)(to:TE):TE:=λσ H Q=>to σ H λx H1=>tyV K T x H1/\r x [] H1 Q
def tBM(K:PySem.W.Frag)(T:String)(r:V->List V->Hp->VK->Prop)(to:TE)(t:TA):TE:=λσ H Q=>to σ H λx H1=>tyV K T x H1/\t σ H1 λxs H2=>r x xs H2 Q
variable{o e:Expr}{es:List Expr}{to:TE}{t:TA}{name:Str}{apos cpos:Pos}{T id:String}{r:V->List V->Hp->VK->Prop}
theorem zeD(pa:PlainAttrs T)(slot:Slot T name id)(hty:typeOf (.builtin id)=pure (.type "method_descriptor"))(hm:MtR X id r)(ho:PE X o to)
  (hbase:attributeBase o name X.env (eval o X.env)=eval o X.env:=by rfl)(hline:(apos.endLine==cpos.line)=true:=by rfl):PE X (.Call (.Attribute o name apos) [] [] cpos) (tBM0 X.K T r to):=by
 intro pins s σ H Q I h;refine wpAny_Call_method0_late hbase hline (thn (ho pins s σ H _ I h) λv s1 h9=>?_);obtain⟨x,H1,I1,r1,ty,q1⟩:=h9;obtain⟨h1,h2⟩:=J7 I1 r1 ty;exact⟨T,id,pa,slot,hty,h1,h2,Calls.callWith_builtin rfl (PySem.evalArgs_none (hm pins s1 σ H1 x [] v [] Q I1 r1 .nil q1))⟩
theorem xw(pa:PlainAttrs T)(slot:Slot T name id)(hty:typeOf (.builtin id)=pure (.type "method_descriptor"))(hm:MtR X id r)(ho:PE X o to)(ha:PA X (e::es) t)
  (hbase:attributeBase o name X.env (eval o X.env)=eval o X.env:=by rfl)
  (hfew:((backTo cpos (starEach (e::es) X.env)).all (λx=>!x.1)&&(backToKw cpos (keywordEach [] X.env)).all (λx=>x.1.isSome)
   && decide ((e::es).length+([]:List Keyword).length+(if([]:List Keyword).isEmpty then 0 else 1)<30))=true:=by rfl)
  (hline:(apos.endLine==cpos.line)=true:=by rfl)(hs:starEach (e::es) X.env=(false,eval e X.env)::starEach es X.env:=by rfl)(hplain:(backTo cpos (starEach es X.env)).any (·.1)=false:=by rfl):
  PE X (.Call (.Attribute o name apos) (e::es) [] cpos) (tBM X.K T r to t):=by
 intro pins s σ H Q I h;refine wpAny_Call_method_late hbase hfew hline rfl (thn (ho pins s σ H _ I h) λv s1 h9=>?_);obtain⟨x,H1,I1,r1,ty,q1⟩:=h9;obtain⟨h1,h2⟩:=J7 I1 r1 ty;refine⟨T,id,pa,slot,hty,h1,h2,?_⟩;have hA:=ha cpos pins s1 σ H1 _ I1 q1;rw[hs]at hA ⊢;refine Calls.callWith_builtin (by show(false||(backTo cpos (starEach es X.env)).any (·.1))=false;rw[hplain]<;>rfl) (Calls.evalArgs_plain ?_);exact thn hA λus s2 ⟨vs,H2,I2,r2,q2⟩=>hm pins s2 σ H2 x vs v us Q I2 r1 r2 q2
end
def MtM(X:Cx)(id:String)(r:V->List V->Hp->VK->Prop):Prop :=
 ∀(pins:List (Addr×Obj))(s:Shared)(σ:St)(H:Hp)(x:V)(xs:List V)(v:Value)(us:List Value)(Q:VK),Inv X pins σ H s->RelV x v->Vals xs us->r x xs H Q ->
  wpAny (model X.prog X.w) X.A (call (.builtin id) (v::us)) (EP X pins σ Q) X.xe s
theorem Vals.one:∀{x:V}{us:List Value},Vals [x] us->∃u,us=[u]/\RelV x u
 |_,_,.cons r .nil=>⟨_,rfl,r⟩
theorem Vals.zero:∀{us:List Value},Vals [] us->us=[]
 |_,.nil=>rfl
theorem Vals.dropLast{xs:List V}{us:List Value}(h:Vals xs us):Vals xs.dropLast us.dropLast:=by
 induction h with
 |nil=>exact .nil
 |cons r t ih =>
  cases t with
  |nil=>exact .nil
  |cons q t'=>exact .cons r ih
theorem QQ{α:Type}(l:List α):l.eraseIdx (l.length-1)=l.dropLast:=by
 induction l with
 |nil=>rfl
 |cons a r ih =>
  cases r with
  |nil=>rfl
  |cons b r =>
   have e:(a::b::r).length-1=((b::r).length-1)+1:=by
    have h1:(a::b::r).length=r.length+2:=rfl;have h2:(b::r).length=r.length+1:=rfl;assumption
   rw[e,List.eraseIdx_cons_succ,ih]
   all_goals rfl
section
variable{X:Cx}{pins:List (Addr×Obj)}{σ:St}{H:Hp}{s:Shared}{l b:Addr}{xs ys zs:List V}
theorem Inv.lset{its its':List Value}{n:Nat}{f:Array Value->Array Value}{t':Nat}(I:Inv X pins σ H s)(hH:H l=some (.lst xs))
  (e:s.heap.get? l=some {cls:=.type "list",data:=.seq its.toArray n})(hf:f its.toArray=its'.toArray)(hv:Vals ys its')(hz:ys.length<=sizeLine):
  Inv X pins σ (upd H l (.lst ys)) {s with heap:=s.heap.update l (Obj.mapSeq f),toks:=t'}:=by
 have q:=PySem.IsL.update e f;rw[hf]at q;refine I.write (x:=l) (e:=l) (by rw[hH];exact trivial) (.inl rfl) (λb' u hb hu=>(Heap.get?_update_other s.heap (Obj.mapSeq f) (Ne.symm hb)).trans hu) ⟨_,q⟩ ?_;exact⟨hz,its',_,hv,q⟩
theorem Inv.lnew{its:List Value}{t':Nat}(I:Inv X pins σ H s)(hv:Vals ys its)(hz:ys.length<=sizeLine):
  Inv X pins σ (upd H s.heap.objs.size (.lst ys)) {s with heap:=s.heap.push {cls:=.type "list",data:=.seq its.toArray},toks:=t'} :=
 I.laid (λ_ _ q=>Heap.get?_push_of_some _ q) (km _) ⟨hz,its,0,hv,Heap.get?_push_size _ rfl⟩
theorem Inv.fresh(I:Inv X pins σ H s):H s.heap.objs.size=none:=I.hok.fresh (km _)
theorem Inv.lstM(I:Inv X pins σ H s)(hH:H l=some (.lst xs)):xs.length<=sizeLine/\∃(its:List Value)(n:Nat),Vals xs its/\xs.length=its.length/\s.heap.get? l=some {cls:=.type "list",data:=.seq its.toArray n}:=by
 obtain⟨z,its,n,r,e⟩:=I.hok l _ hH;exact⟨z,its,n,r,r.length,e⟩
theorem XG{n:Nat}(h:n<=sizeLine):Builtin.List.listTooLong n=false:=by
 unfold Builtin.List.listTooLong;exact decide_eq_false ()
end
section
variable{X:Cx}
def zdg:V->List V->Hp->VK->Prop:=λx vs H Q=>∃l xs y,x=.ref l/\vs=[y]/\H l=some (.lst xs)/\xs.length<sizeLine/\Q .non (upd H l (.lst (xs++[y])))
theorem xr:MtM X "list.append" zdg:=by
 intro pins s σ H x vs v us Q I rx rv h;refine E_3 h λl xs y n8=>A_5 n8 λe9 n90 hH hz q=>?_;clear n8 h;subst e9;subst n90;cases rx;obtain⟨u,rfl,ru⟩:=rv.one;obtain⟨z,its,n,r,hl,e⟩:=I.lstM hH;refine call_meets F.slot_list_append ⟨_,e,rfl⟩ F.entry_list_append (F.args_list_append_2 _ _) (PySem.list_append l its.toArray n u (by rw[ku];lia)) ⟨e,?_⟩;refine⟨.non,_,I.lset (its':=its++[u]) hH e (by simp) (r.append (.cons ru .nil)) ?_,rfl,q⟩;rw[kt,vo];assumption
def zdh:V->List V->Hp->VK->Prop:=λx vs H Q=>∃l b xs zs,x=.ref l/\vs=[.ref b]/\H l=some (.lst xs)/\H b=some (.lst zs)/\xs.length+zs.length<=sizeLine/\Q .non (upd H l (.lst (xs++zs)))
theorem Yz:MtM X "list.extend" zdh:=by
 intro pins s σ H x vs v us Q I rx rv h;refine E_4 h λl b xs zs n8=>A_6 n8 λe9 n90 hH hB hz q=>?_;clear n8 h;subst e9;subst n90;cases rx;obtain⟨u,rfl,ru⟩:=rv.one;cases ru;obtain⟨z,its,n,r,hl,e⟩:=I.lstM hH;obtain⟨z2,its2,n2,r2,hl2,e2⟩:=I.lstM hB;have hsz:its.toArray.size+its2.toArray.size<=sizeLine:=by rw[ku,ku];lia
 have hlong:¬(!its.toArray.isEmpty&&Builtin.List.listTooLong (its.toArray.size+its2.toArray.size))=true:=by
  rw[XG hsz,Bool.and_false];exact kH
 refine call_meets F.slot_list_extend ⟨_,e,rfl⟩ F.entry_list_extend (F.args_list_extend_2 _ _)
  (AutoSeq1.list_extend_list_list_0 l its.toArray n b its2.toArray n2 hlong (by rw[ku];lia) ()) ⟨e,e2,?_⟩
 refine⟨.non,_,I.lset (its':=its++its2) hH e (by simp) (r.append r2) ?_,rfl,q⟩;rw[kt];omega
def rPop:V->List V->Hp->VK->Prop:=λx vs H Q=>∃l xs y,x=.ref l/\vs=[]/\H l=some (.lst xs)/\xs[xs.length-1]?=some y/\Q y (upd H l (.lst xs.dropLast))
theorem zeE:MtM X "list.pop" rPop:=by
 intro pins s σ H x vs v us Q I rx rv h;refine E_3 h λl xs y n8=>A_5 n8 λe9 n90 hH hy q=>?_;clear n8 h;subst e9;subst n90;cases rx;have hus:=rv.zero;subst hus;obtain⟨z,its,n,r,hl,e⟩:=I.lstM hH;obtain⟨u,hu,ru⟩:=r.get hy;have hy':its.toArray[its.toArray.size-1]?=some u:=by
  show its.toArray[its.length-1]?=some u;rw[<-Array.getElem?_toList,<-hl];exact hu
 refine call_meets F.slot_list_pop ⟨_,e,rfl⟩ F.entry_list_pop (F.args_list_pop_1 _) (MeetsSeq.list_pop_last l its.toArray n u hy' (by rw[ku];lia)) ⟨e,?_⟩;refine⟨y,_,I.lset (its':=its.dropLast) hH e ?_ r.dropLast ?_,ru,q⟩
 .show its.toArray.eraseIdxIfInBounds (its.toArray.size-1)=its.dropLast.toArray;rw[ku,List.eraseIdxIfInBounds_toArray,QQ]
 .rw[uZ]
  lia
def rCat:R2:=λx y H Q=>∃l b xs zs,x=.ref l/\y=.ref b/\H l=some (.lst xs)/\H b=some (.lst zs)/\xs.length+zs.length<=sizeLine/\∀p,H p=none->Q (.ref p) (upd H p (.lst (xs++zs)))
theorem q8:OpR X (binaryOp .Add) rCat:=by
 intro pins s σ H x y v u Q I rx ry h;refine E_4 h λl b xs zs n8=>A_6 n8 λe9 n90 hH hB hz q=>?_;clear n8 h;subst e9;subst n90;cases rx;cases ry;obtain⟨z,its,n,r,hl,e⟩:=I.lstM hH;obtain⟨z2,its2,n2,r2,hl2,e2⟩:=I.lstM hB;refine PySem.P.add_list e e2 ?_ (by rw[ku,ku];lia);have ea:its.toArray++its2.toArray=(its++its2).toArray:=by simp
 rw[ea];exact⟨.ref _,_,I.lnew (t':=s.toks) (r.append r2) (by rw[kt];omega),rfl,q _ I.fresh⟩
end
end _L2
namespace _Att
open PySem PySem.W PySem.Calls PyProof.Rows
theorem Zq{P:Params}{h:Heap}:∀(ns:List Int)(vs:List Value),WellAll P h vs (ns.map WData.int)->IntsAre vs ns:=by
 intro ns
 induction ns with
 |nil =>
  intro vs w;rw[List.map_nil]at w;cases w;exact .nil
 |cons n ns ih =>
  intro vs w;rw[kY]at w;cases w with
  |cons a b =>
   cases a;exact .cons _ _ (ih _ b)
theorem J8{l:OpenLaw}{n:Nat}(hn:l.most=some n){P:Params}{h:Heap}{args:List WData}{vals:List Value}
  (hpre:l.row.toRowW.claim.pre args=true)(hwl:WellAll P h vals args):
  ∃a vs ns,vals=[Value.ref a]/\args=[WData.list (ns.map WData.int)]/\h.get? a=some {cls:=.type "list",data:=.seq vs.toArray}/\IntsAre vs ns/\ns.length<=n:=by
 have hsh:WShape.hasAll [] args [.list .int]=true:=(pre_splitW hpre).1;have hc:l.pre.holds [] {args:=args}=true:=(pre_splitW hpre).2;obtain⟨d,r,rfl,h1,h2⟩:=hasAllW_cons hsh;obtain rfl:=hasAllW_nil h2;obtain⟨xs,rfl,h3⟩:=hasW_list h1;obtain⟨ns,rfl⟩:=items_int h3;have hlen:ns.length<=n:=by
  unfold OpenLaw.pre at hc;have h4:(WTm.not (.lt (.lit (.int (n:Int))) (.len (.arg 0)))).holds [] {args:=[.list (ns.map .int)]}=true:=by
   have h4:=(holds_andW hc).1;rw[hn]at h4;exact h4
  have h5:=condW_of h4 (w_not (w_lt w_lit (w_len_list (w_arg rfl))));rw[ke]at h5;refine Nat.le_of_not_lt λq=>?_;have q':(n:Int)<((ns.length:Nat):Int):=by omega
  first
   |(rw[decide_eq_true q']at h5;exact absurd h5 ⋯)
   |(simp at h5;omega)
 cases hwl with
 |cons w1 w2 =>
  cases w2;cases w1 with
  |list ho hall=>exact⟨_,_,ns,rfl,rfl,ho,Zq ns _ hall,hlen⟩
theorem J9(l:OpenLaw)(args:List WData):l.row.toRowW.claim.post args (.bool true) args=true :=
 postW_of (r:=l.row.toRowW) (X:=(true==true))
  (show WShape.has [] (.bool true) .bool=true by first|rfl|decide|simp[WShape.has,WShape.arms,WShape.armsAll])
  (show(WTm.eq .res (.lit (.bool true))).value [] {args:=args,res:=some (.bool true),after:=args}=some (.bool (true==true))from w_eq_bool (w_res rfl) w_lit) rfl
theorem WT{l:OpenLaw}{n:Nat}{q:Program}{loose:List Str}{XP:(Str->Option Value)->Heap->Prop}{YP:World->Heap->Prop}{d:DefRec}
  (hn:l.most=some n)(hdf:d.params.defaults=[])
  (call:∀(w:World)(s₀ s₁:Shared)(mg mb:Str->Option Value)(fa:Addr)(o:Obj)(pm cd doc:Value)(a:Addr)(vs:List Value)(ns:List Int),
   Ground q loose [] XP w s₀ mg mb s₁.heap->YP w s₁.heap ->
   s₁.heap.get? fa=some o->o.data=.func (docDef d.name d.params d.body d.scope pm cd doc)->s₁.heap.CodeRec cd d.name->mg d.name=some (.ref fa) ->
   s₁.heap.get? a=some {cls:=.type "list",data:=.seq vs.toArray}->IntsAre vs ns->ns.length<=n->s₁.gens=#[] ->
   codeAny (model l.prog w) callerA (.call (.ref fa) ⟨[.ref a],[]⟩) (λr s'=>r=.ok (.ret (.bool true))/\OldK s₁.heap s'.heap/\s'.os=s₁.os/\AllBare s'.gens) s₁):
  WalkO q loose XP YP l.row.toRowW d [] (λf vs=>PySem.call f vs):=by
 intro w s₀ s₁ mg mb G Y fa o pm cd doc dV kV ho hd hcd hD hmg hg args vals as hpre hlay hrd hwl hlo;obtain rfl:dV=.none:=Dflts.none hD hdf;obtain rfl:kV=.none:=Dflts.noKw hD;obtain⟨a,vs,ns,rfl,rfl,hobj,hints,hlen⟩:=J8 hn hpre hwl;refine enter_call (codeAny_mono (call w s₀ s₁ mg mb fa o pm cd doc a vs ns G Y ho (fd_plain hd) hcd hmg hobj hints hlen hg) λr s' hq=>?_);obtain⟨rfl,h2,h3,h4⟩:=hq;exact⟨.inl ⟨.bool true,.bool true,[],rfl,λ_=>rfl,.bool true,J9 l _,λ_=>⟨List.Pairwise.nil,λ_ hm=>(nomatch hm)⟩⟩,h2,h3,h4⟩
end _Att
namespace _L2
open PySem PySem.Spec PyProof.Rows
theorem YA:∀{vs:List Value}{ns:List Int},IntsAre vs ns->Vals (ns.map V.int) vs
 |_,_,.nil=>.nil
 |_,_,.cons n t h=>.cons ⟨t,rfl⟩ (YA h)
def Only(H:Hp):Prop:=∀b,H b=none\/∃o xs,H b=some (.frz o (.lst xs))
theorem zbF{P:Program}{w:World}{K:PySem.W.Frag}{mg mb:Str->Option Value}{CX:CXT}{k:Nat}{fa a:Addr}{fd:FuncData}{x:Str}{sp:Sp}{s₁:Shared}{vs:List Value}{ns:List Int}
  (KX:K.In s₁.heap)(hns:s₁.heap.Ns mainGlobals mg)(hb:s₁.heap.Ns builtinsNs mb)(hbb:∀x:Str,x ≠ "__name__" -> mb x=bootBuiltins x)(hlim:s₁.heap.NoLimit)(hg:s₁.gens=#[])
  (ha:s₁.heap.get? a=some {cls:=.type "list",data:=.seq vs.toArray})(hi:IntsAre vs ns)(hl:ns.length<=sizeLine)(hr:Room k callerA)
  (F:∀base:Heap,K.In base->base.Ns mainGlobals mg->FnOk P w K mg base CX k fa fd [x] sp)(hbind:∀(s:Shared)(u:Value),BindsTo s fd ⟨[u],[]⟩ [(x,u)])
  (hsp:∀H:Hp,Only H->SqL K H a (ns.map V.int)->sp [.ref a] H (λv _=>v=.bl true) λ_ _ _=>False)
  (hCX:∀H e s',CX [] H s₁ (λ_ _ _=>False) e s'->False):
  codeAny (model P w) callerA (.call (.ref fa) ⟨[.ref a],[]⟩) (λr s'=>r=.ok (.ret (.bool true))/\OldK s₁.heap s'.heap/\s'.os=s₁.os/\AllBare s'.gens) s₁:=by
 have rv:=YA hi;have lenV:=hi.length
 -- from an abstract heap in which nothing but the script may be tracked
 have core:∀H:Hp,Only H->SqL K H a (ns.map V.int)->HOk P w H s₁.heap->(∀b,H b≠none->b=a)->(H a≠none->K.lookup a=none) ->
   codeAny (model P w) callerA (.call (.ref fa) ⟨[.ref a],[]⟩) (λr s'=>r=.ok (.ret (.bool true))/\OldK s₁.heap s'.heap/\s'.os=s₁.os/\AllBare s'.gens) s₁:=by
  intro H hO hS hok hA hK;have base_of:∀{b:Addr}{o:Obj},s₁.heap.get? b=some o->H b=none->(hidT s₁.heap H).get? b=some o:=λe n=>zbB e n;have noA:∀{b:Addr}{o:Obj}{es:Array DictEntry}{ep:Nat},s₁.heap.get? b=some o->o.data=.dict es ep->H b=none:=λ{b o es ep} e d=>by
   cases q:H b with
   |none=>rfl
   |some u =>
    have e':b=a:=hA b (by rw[q];simp);subst e';rw[ha]at e;cases e;have d':Data.seq vs.toArray _=Data.dict es ep:=d;cases d'
  have nsK:∀{b:Addr}{m:Str->Option Value},s₁.heap.Ns b m->(hidT s₁.heap H).Ns b m:=λ{b m} ⟨o,es,ep,e,d,r⟩=>⟨o,es,ep,base_of e (noA e d),d,r⟩;have hKb:K.In (hidT s₁.heap H):=λb o e=>base_of (KX b o e) (by
   cases q:H b with
   |none=>rfl
   |some u =>
    have e':b=a:=hA b (by rw[q];simp);subst e';rw[hK (by rw[q];simp)]at e;cases e)
  have hM:Mod K mg (hidT s₁.heap H):=⟨hKb,nsK hns,⟨mb,nsK hb,hbb⟩,let ⟨mc,h1,h2⟩:=hlim;⟨mc,nsK h1,h2⟩⟩;have e0:Env0 P w K mg (hidT s₁.heap H) callerA [] s₁ H:=⟨rfl,hM,λb o e=>zc9 e,uO (JO _ _),trivial,λb hb=>absurd (show b∈([]:List Addr)from hb) (by simp),hok,.of_eq hg⟩;refine codeAny_mono ((F _ hKb (nsK hns)).run callerA [] s₁ H ⟨[.ref a],[]⟩ [.ref a] [.ref a] _ _ hr e0 (hbind s₁ (.ref a)) (.cons rfl .nil) (hsp H hO hS)) λr s' h=>?_;cases r with
  |error e=>exact(hCX H e s' h).elim
  |ok fl =>
   cases fl with
   |next=>exact False.elim h
   |brk=>exact False.elim h
   |cont=>exact False.elim h
   |ret u =>
    obtain⟨v,H',os,bare,un,hok',r',q⟩:=h;have q':v=.bl true:=q;subst q';obtain rfl:u=Value.bool true:=r';refine⟨rfl,OldK.of_keep λb o e=>?_,os,bare⟩;cases q:H b with
    |none=>exact un.keep b o e q (by intro z;exact absurd (show b∈([]:List Addr)from z) (by simp)) (by simp)
    |some u =>
     rcases hO b with z|⟨ob,xs,z⟩
     .rw[q]at z;cases z
     .have z2:=un.frzs b ob _ z;obtain⟨e1,_⟩:=hok b _ z;obtain⟨e2,_⟩:=hok' b _ z2;rw[e]at e1;cases e1;exact e2
 cases hk:K.lookup a with
 |some o =>
  -- the script is one of the module's own objects
  have e:=KX a o hk;rw[ha]at e;cases e;refine core (λ_=>none) (λ_=>.inl rfl) (.inr ⟨_,vs.toArray,_,hk,rfl,rfl,rfl,by rw[ku,lenV];exact hl,by simpa using rv⟩) (λb u z=>by have z':(none:Option HO)=some u:=z;cases z') (λb z=>absurd rfl z) λz=>absurd rfl z
 |none =>
  refine core (λb=>if b=a then some (.frz {cls:=.type "list",data:=.seq vs.toArray} (.lst (ns.map V.int)))else none) (λb=>?_) (.inl (.inr ⟨{cls:=.type "list",data:=.seq vs.toArray},if_pos rfl⟩)) (λb u z=>?_) (λb z=>?_) λ_=>hk
  .by_cases hb:b=a
   .exact .inr ⟨_,_,if_pos hb⟩
   .exact .inl (if_neg hb)
  .by_cases hb:b=a
   .have z':=(if_pos hb).symm.trans z;cases z';subst hb;exact⟨ha,by rw[ke];exact hl,vs,_,rv,ha⟩
   .have z':=(if_neg hb).symm.trans z;cases z'
  .by_cases hb:b=a
   .exact hb
   .exact absurd (if_neg hb) z
theorem zdi{l:PySem.W.OpenLaw}{n k:Nat}{q:Program}{loose:List Str}{XP:(Str->Option Value)->Heap->Prop}{YP:World->Heap->Prop}{d:DefRec}{K:Params->PySem.W.Frag}{CX:World->CXT}{sp:World->Sp}{x:Str}
  (hn:l.most=some n)(hn2:n<=sizeLine)(hdf:d.params.defaults=[])(hr:Room k callerA)
  (hY:∀(w:World)(h:Heap),YP w h->(K w.params).In h)
  (F:∀(w:World)(mg:Str->Option Value)(fa:Addr)(h:Heap),(K w.params).In h->h.Ns mainGlobals mg->mg d.name=some (.ref fa) ->
   ∃fd:FuncData,(∀(s:Shared)(u:Value),BindsTo s fd ⟨[u],[]⟩ [(x,u)]) /\
    ∀base:Heap,(K w.params).In base->base.Ns mainGlobals mg->FnOk l.prog w (K w.params) mg base (CX w) k fa fd [x] (sp w))
  (hsp:∀(w:World)(H:Hp)(a:Addr)(ns:List Int),ns.length<=n->Only H->SqL (K w.params) H a (ns.map V.int)->sp w [.ref a] H (λv _=>v=.bl true) λ_ _ _=>False)
  (hCX:∀(w:World)(H:Hp)(s:Shared)(e:Value)(s':Shared),CX w [] H s (λ_ _ _=>False) e s'->False):
  PySem.W.WalkO q loose XP YP l.row.toRowW d [] (λf vs=>PySem.call f vs):=by
 refine _Att.WT hn hdf λw s₀ s₁ mg mb fa o pm cd doc a vs ns G Y ho hd hcd hmg hobj hints hlen hg=>?_;have KX:=hY w _ Y;obtain⟨fd,hb,hF⟩:=F w mg fa _ KX G.T.g hmg;exact zbF KX G.T.g G.T.b G.T.builtins G.T.nolimit hg hobj hints (kw hlen hn2) hr hF hb (λH hO hS=>hsp w H a ns hlen hO hS) λH e s'=>hCX w H s₁ e s'
theorem zbG{l:PySem.W.OpenLaw}{n k:Nat}{q:Program}{loose:List Str}{XP:(Str->Option Value)->Heap->Prop}{YP:World->Heap->Prop}{d:DefRec}{K:Params->PySem.W.Frag}{CX:CXT}{sp:PySem.W.Frag->Sp}{x:Str}
  (hn:l.most=some n)(hn2:n<=sizeLine)(hdf:d.params.defaults=[])(hr:Room k callerA)
  (hY:∀(w:World)(h:Heap),YP w h->(K w.params).In h)
  (F:∀(w:World)(mg:Str->Option Value)(fa:Addr)(h:Heap),(K w.params).In h->h.Ns mainGlobals mg->mg d.name=some (.ref fa) ->
   ∃fd:FuncData,(∀(s:Shared)(u:Value),BindsTo s fd ⟨[u],[]⟩ [(x,u)]) /\
    ∀base:Heap,(K w.params).In base->base.Ns mainGlobals mg->FnOk l.prog w (K w.params) mg base CX k fa fd [x] (sp (K w.params)))
  (hsp:∀(K:PySem.W.Frag)(H:Hp)(a:Addr)(ns:List Int),ns.length<=n->Only H->SqL K H a (ns.map V.int)->sp K [.ref a] H (λv _=>v=.bl true) λ_ _ _=>False)
  (hCX:∀(H:Hp)(s:Shared)(e:Value)(s':Shared),CX [] H s (λ_ _ _=>False) e s'->False):
  PySem.W.WalkO q loose XP YP l.row.toRowW d [] (λf vs=>PySem.call f vs) :=
 zdi (K:=K) (CX:=λ_=>CX) (sp:=λw=>sp (K w.params)) hn hn2 hdf hr hY F (λw H a ns h1 h2 h3=>hsp (K w.params) H a ns h1 h2 h3) λ_ H s e s'=>hCX H s e s'
def xl(s:Stmt):Arguments:=match s with
 |.FunctionDef _ a _ _ _ _ _ _ _ _=>a
 |_=>{posonlyargs:=[],args:=[],vararg:=none,kwonlyargs:=[],kw_defaults:=[],kwarg:=none,defaults:=[]}
def xc(s:Stmt):List Stmt:=match s with
 |.FunctionDef _ _ b _ _ _ _ _ _ _=>b
 |_=>[]
def zl(s:Stmt):Scope:=match s with
 |.FunctionDef _ _ _ _ _ _ sc _ _ _=>sc
 |_=>{kind:=.function,names:=[],isGenerator:=false,isCoroutine:=false}
abbrev CX0:CXT:=λ_ _ _ _ _ _=>False
abbrev E0:XK:=λ_ _ _=>False
theorem zr{X:Cx}:XD CX0 X E0:=λ_ _ _ _ _ _ _ h=>h.elim
structure Fun(K:PySem.W.Frag)(x qual:Str)(st:Stmt)(f:Addr)(fd:FuncData):Prop where
 ex:∃(oc:Value)(od:Option Addr)(kV doc pm:Value)(an:Option Addr)(cdv ct:Value)(osl:Array (Option Value)),
  fd=v8 x qual (xl st) (xc st) (zl st) .none kV doc pm an cdv ct/\K.lookup f=some ⟨oc,od,.func fd,osl⟩/\PySem.W.codeIn K cdv qual=true
 kp:um K (.ref f)=true
section
variable{P:Program}{w:World}{K:PySem.W.Frag}{mg:Str->Option Value}{base:Heap}
theorem Fun.ok{x qual:Str}{st:Stmt}{f:Addr}{fd:FuncData}{N ps:List Str}{k:Nat}{sp:Sp}(F:Fun K x qual st f fd)(S:zu N ps (zl st))(len:∀vs H Q E,sp vs H Q E->vs.length=ps.length)
  (hbody:∀(cdv:Value)(A:Around)(outer:List Env)(s:Shared)(H:Hp)(vs:List V)(Q:VK)(E:XK),Room k (A.deeper (envOfC qual (zl st) s.heap.objs.size f cdv))->sp vs H Q E ->
   ∃t,PSs (cxOf CX0 P w K mg base N qual (zl st) f cdv A outer s H E).nox (xc st) t/\t {nx:=λ_ H'=>Q .non H',rt:=Q} (start N vs) H):FnOk P w K mg base CX0 (k+1) f fd ps sp:=by
 obtain⟨oc,od,kV,doc,pm,an,cdv,ct,osl,rfl,lk,hcd⟩:=F.ex;refine zfW lk hcd S len λA outer s H vs Q E hr hsp=>?_;obtain⟨t,h,q⟩:=hbody cdv A outer s H vs Q E hr hsp;exact⟨t,h.nox,q⟩
theorem Fun.binds{x qual:Str}{st:Stmt}{f:Addr}{fd:FuncData}{ps:List Str}(F:Fun K x qual st f fd)
  (h:∀(kV doc pm:Value)(an:Option Addr)(cdv ct:Value)(us:List Value),us.length=ps.length->bindArgs (v8 x qual (xl st) (xc st) (zl st) .none kV doc pm an cdv ct) ⟨us,[]⟩=pure (ps.zip us)):Binds K fd ps []:=by
 obtain⟨oc,od,kV,doc,pm,an,cdv,ct,osl,rfl,lk,hcd⟩:=F.ex;exact .all (h kV doc pm an cdv ct)
theorem zy{x qual:Str}{st:Stmt}{f:Addr}{oc:Value}{od an:Option Addr}{osl:Array (Option Value)}{kV doc pm cdv ct:Value}(l:K.lookup f=some ⟨oc,od,.func (v8 x qual (xl st) (xc st) (zl st) .none kV doc pm an cdv ct),osl⟩)
  (c:PySem.W.codeIn K cdv qual=true)(k:um K (.ref f)=true):Fun K x qual st f (v8 x qual (xl st) (xc st) (zl st) .none kV doc pm an cdv ct):=⟨⟨oc,od,kV,doc,pm,an,cdv,ct,osl,rfl,l,c⟩,k⟩
end
section
variable{X:Cx}
theorem pv(i:Nat){x:Str}{pos:Pos}(hN:X.N[i]?=some x:=by rfl)(hv:Vis X.env.scope x:=by first|exact Or.inl rfl|exact Or.inr (Or.inl rfl)|exact Or.inr (Or.inr rfl))(hd:(x==("__debug__" : Str))=false:=by decide)
  (hcd:(x==("__classdict__" : Str))=false:=by decide):PE X (.Name x pos) (tVar i):=zex hN hv hd hcd
end
theorem iteF{A B:Prop}(h:B):if false=true then A else B:=by
 rw[if_neg kH];exact h
theorem iteT{A B:Prop}(h:A):if true=true then A else B:=by
 rw[if_pos rfl];exact h
theorem ite2{c A B:Prop}[Decidable c](h1:c->A)(h2:¬c->B):if c then A else B:=by
 by_cases h:c
 .rw[if_pos h];exact h1 h
 .rw[if_neg h];exact h2 h
def Same(H H':Hp):Prop:=∀b o,H b=some o->H' b=some o
theorem Same.refl(H:Hp):Same H H:=λ_ _ h=>h
theorem Same.trans{H H1 H2:Hp}(a:Same H H1)(b:Same H1 H2):Same H H2:=λc o h=>b c o (a c o h)
theorem Same.free{H H':Hp}(e:Same H H'){l:Addr}(h:H' l=Option.none):H l=Option.none:=by
 cases q:H l with
 |none=>rfl
 |some o =>
  rw[e l o q]at h;cases h
theorem Same.seq{K:PySem.W.Frag}{H H':Hp}{a:Addr}{xs:List V}(e:Same H H')(h:SqL K H a xs):SqL K H' a xs:=by
 rcases h with(h|⟨o,h⟩)|h
 .exact .inl (.inl (e _ _ h))
 .exact .inl (.inr ⟨o,e _ _ h⟩)
 .exact .inr h
theorem PS.nox{X:Cx}{st:Stmt}{t:TS}(h:PS X.nox st t):PS X st t:=λpins s σ H D I hw =>
 wpAny_mono (h pins s σ H D (I.wish _) hw) (λ_ _ q=>q.unwish) λ_ _ z=>False.elim z
theorem Inv.track{X:Cx}{pins:List (Addr×Obj)}{σ:St}{H:Hp}{s:Shared}{p:Addr}{o:HO}(I:Inv X pins σ H s)(hn:H p=none)(h0:X.s₀.heap.get? p=none)(hl:p≠X.env.locals)
  (hc:∀x c,X.env.cells.lookup x=some c->c≠p)(hp:∀q∈X.pn++pins,q.1≠p)(new:yq X.prog X.w (upd H p o) s.heap p o):Inv X pins σ (upd H p o) s where
 ok:=I.ok
 os:=I.os
 bare:=I.bare
 base:=⟨I.base.keep,I.base.slot,λb ob e n hx=>by
   rw[zN (λz=>by rw[z,h0]at e;cases e)];exact I.base.free b ob e n hx,I.base.there,
  λb xs e=>by rw[zN (yd (I.base.tups b xs e) hn)];exact I.base.tups b xs e,
  λb ob u e=>by rw[zN (yd (I.base.frzs b ob u e) hn)];exact I.base.frzs b ob u e,
  λb ps e=>by
   obtain⟨m,z⟩:=I.base.tbls b ps e;exact⟨m,by rw[zN (yd z hn)];exact z⟩⟩
 loc:=I.loc
 cell:=I.cell
 free:=by rw[zN hl.symm];exact I.free
 freeC:=λx c e=>by rw[zN (hc x c e)];exact I.freeC x c e
 pin:=λq m=>by
  obtain⟨a,b,c⟩:=I.pin q m;exact⟨a,by rw[zN (hp q m)];exact b,c⟩
 hok:=λb u e=>by
  by_cases hb:b=p
  .subst hb;rw[zc]at e;cases e;exact new
  .rw[zN hb]at e;exact(I.hok b u e).stay (λ_ _ _ q=>q) (λc q=>by rw[zN (yd q hn)];exact q) λc xs q=>by rw[zN (yd q hn)];exact q
 len:=I.len
theorem Inv.turned2{X:Cx}{pins:List (Addr×Obj)}{σ:St}{H:Hp}{s:Shared}{h':Heap}{t':Nat}{i j:Addr}(I:Inv X pins σ H s)(k:∀b o,b≠i->b≠j->s.heap.get? b=some o->h'.get? b=some o)(fi:FpOk X pins H i)(fj:FpOk X pins H j):
  Inv X pins σ H {s with heap:=h',toks:=t'}:=by
 obtain⟨a0,a1,a2,a3,a4,a5⟩:=fi;obtain⟨b0,b1,b2,b3,b4,b5⟩:=fj;have nit:∀b u,H b=some u->b≠i/\b≠j:=λb u e=>⟨(λz=>by rw[z,a0]at e;cases e),(λz=>by rw[z,b0]at e;cases e)⟩;have kk:∀b o,b∉[i,j]->s.heap.get? b=some o->h'.get? b=some o:=λb o m e=>k b o (λz=>m (by simp[z])) (λz=>m (by simp[z])) e;refine I.step (g':=s.gens) (d':=s.drawn) (ch:=[i,j]) (λb hb=>?_) (λb o _ _ m e _=>kk b o m e) (λb o _ _ m e _=>⟨o.slots,kk b o m e⟩) (λ_ _ _ _ n=>n) (λb o m e=>⟨o,kk b o m e⟩) (λ_ _ e=>e) (λ_ _ _ e=>e)
  (λb ps e=>⟨#[],by rw[e];simp⟩) (λm hm=>?_) (λb u e=>?_) I.bare
 .rcases kK.mp hb with rfl|hb
  .exact⟨a3,a1,a4,a5⟩
  .obtain rfl:=kq.mp hb;exact⟨b3,b1,b4,b5⟩
 .obtain⟨o,es,ep,ho,r⟩:=hm;exact⟨o,es,ep,k _ o a1.symm b1.symm ho,r⟩
 .refine(I.hok b u e).stay (λc v hc q=>k c v ?_ ?_ q) (λ_ q=>q) λ_ _ q=>q
  .rcases hc with z|z
   .rw[z];exact(nit b u e).1
   .exact(nit c _ z).1
  .rcases hc with z|z
   .rw[z];exact(nit b u e).2
   .exact(nit c _ z).2
theorem getD_at{α:Type}{xs:List α}{i:Nat}{d:α}(h:i<xs.length):xs.getD i d=xs[i]:=by
 rw[kP,kc h];rfl
section
variable{X:Cx}
theorem xm{ns:List Int}{its:List Value}(r:Vals (ns.map V.int) its):∀(i:Nat)(v:Value),its.toArray[i]?=some v->∃t,v=Value.int (ns.getD i 0) t:=by
 intro i v e;rw[uA]at e;have hl:=r.length;have hi:i<its.length:=(kf.mp e).1;rw[ke]at hl;have hx:(ns.map V.int)[i]?=some (.int (ns.getD i 0)):=by
  rw[kM,kc ()];simp[List.getD,show i<ns.length by lia]
 obtain⟨u,hu,ru⟩:=r.get hx;rw[e]at hu;cases hu;exact ru
theorem zbH{P:Nat->Value->Prop}{pins:List (Addr×Obj)}{σ:St}{H:Hp}{s:Shared}{a:Addr}{its:List Value}(I:Inv X pins σ H s)(tp:IsTup s.heap a its.toArray)(hc:X.calm=true){Q:Value->Shared->Prop}
  (q:∀s2:Shared,s2={s with heap:=s.heap.push {cls:=.type "tuple_iterator",data:=.fields #[.ref a,.int 0 0]}}->Walks X.prog X.w X.A.in1 s.heap.objs.size [s.heap.objs.size,a] [s.heap.objs.size] its.toArray.size (λi v=>its.toArray[i]?=some v) (λi h=>h.IsTupleIter s.heap.objs.size a i/\h.IsTuple a its.toArray) ->
   (s2.heap.IsTupleIter s.heap.objs.size a 0/\s2.heap.IsTuple a its.toArray)->(∀b∈[s.heap.objs.size,a],b<s2.heap.objs.size)->Q (.ref s.heap.objs.size) s2):wpAny (model X.prog X.w) X.A.in1 (pyIter (.ref a)) Q X.xe s:=by
 have tp':s.heap.IsTuple a its.toArray:=tp;have hlt:a<s.heap.objs.size:=by obtain⟨_,e,_⟩:=tp';exact Heap.lt_size e
 refine wpAny_pyIter_tuple tp' (q _ rfl (Walks.tuple (by exact I.ok.hd hc) _ _ (vc hlt) _) ⟨⟨_,Heap.get?_push_size _ rfl,rfl,rfl⟩,?_⟩ λb hb=>?_)
 .obtain⟨o,e,r⟩:=tp';exact⟨o,Heap.get?_push_of_some _ e,r⟩
 .show b<(s.heap.push _).objs.size;rw[Heap.size_push];rcases kK.mp hb with rfl|hb
  .exact vH _
  .rw[kq.mp hb];exact vG hlt
theorem qv{ns:List Int}{k:Nat}(h:k<ns.length):ns.getD k 0∈ns:=by
 rw[getD_at h];exact vv h
theorem Zu{ns:List Int}{z:Int}(h:z∈ns):∃j,j<ns.length/\ns.getD j 0=z:=by
 obtain⟨j,hj,e⟩:=vg.mp h;exact⟨j,hj,by rw[getD_at hj];exact e⟩
theorem zaa(hc:X.calm=true):yI X (.builtin "min") (λxs H Q=>∃(a:Addr)(ns:List Int),xs=[.ref a]/\SqT X.K H a (ns.map V.int)/\0<ns.length/\∀M,M∈ns->(∀z∈ns,M<=z)->Q (.int M) H):=by
 intro pins s σ H xs us Q I r h;refine E_2 h λa ns n8=>A_4 n8 λe9 hq hn q=>?_;clear n8 h;subst e9;obtain⟨u,rfl,ru⟩:=vals1 r;cases ru;obtain⟨its,rv,tp,hz⟩:=I.tuple hq;have hl:=rv.length;rw[ke]at hl;refine call_min_walk (zbH (P:=λ_ _=>True) I tp hc λs2 e W st hfp=>?_);subst e;refine I_7 _ _ _ _ _ _ _ ⟨rfl,W,st,hfp,by simp;lia,CmpOf.ints_lt (λi=>ns.getD i 0) (xm rv),λv h' tk hP hk=>?_⟩;obtain⟨t,rfl⟩:=xm rv _ _ hP;obtain⟨b1,b2⟩:=argBest_lt (λi=>ns.getD i 0) (its.toArray.size-1);rw[ku]at b1 b2;refine⟨.int _,H,I.kept (t':=tk) λb o e=>hk b o (λm=>?_) (Heap.get?_push_of_some _ e),⟨t,rfl⟩,q _ (qv ?_) λz hz=>?_⟩
 .have:=Heap.lt_size e;rw[kq.mp m]at this;exact vP _ this
 .rw[ku];omega
 .obtain⟨j,hj,e⟩:=Zu hz;rw[<-e,ku];exact b2 j ()
theorem xt{xs:List V}{us:List Value}(r:Vals xs us){j:Nat}(h1:j<us.length):RelV (xs.getD j .non) us[j]:=by
 have hl:=r.length;obtain⟨u,hu,ru⟩:=r.get (i:=j) (x:=xs.getD j .non) (by rw[kc (),getD_at ()]);rw[kc h1]at hu;cases hu;exact ru
end
end _L2
namespace _Srt
open PySem.W PyProof.Rows
def Run(key:Nat->Int)(n:Nat){α:Type}(Q:α->Prop):KasT α->Prop
 |.ret a=>Q a
 |.ask i j k=>i<n/\j<n/\Run key n Q (k (decide (key i<key j)))
theorem Run.mono{key:Nat->Int}{n:Nat}{α:Type}{Q Q':α->Prop}(h:∀a,Q a->Q' a):∀(t:KasT α),Run key n Q t->Run key n Q' t
 |.ret a,x=>h a x
 |.ask _ _ k,⟨a,b,x⟩=>⟨a,b,Run.mono h _ x⟩
theorem Run.bind{key:Nat->Int}{n:Nat}{α β:Type}{Q:β->Prop}{f:α->KasT β}:∀(t:KasT α),Run key n (λa=>Run key n Q (f a)) t->Run key n Q (t.bind f)
 |.ret a,x=>x
 |.ask _ _ k,⟨a,b,x⟩=>⟨a,b,Run.bind _ x⟩
theorem n1{m f n:Nat}(h:m+(f+1)<=n):m<n:=vd (Nat.lt_add_of_pos_right (ux f)) h
theorem n2{m f n:Nat}(h:m+(f+1)<=n):m-1<n:=vC (uP m 1) (n1 h)
theorem n3(m f:Nat):m+1+f=m+(f+1):=by rw[bF,Nat.add_comm 1 f]
theorem n3'{m f n:Nat}(h:m+(f+1)<=n):m+1+f<=n:=(n3 m f).symm ▸ h
theorem n4{i m:Nat}(h:i<m+1)(e:¬i=m):i<m:=uQ (ua h) e
theorem n6{r m f:Nat}(h:r<=m+1+f):r<=m+(f+1):=n3 m f ▸ h
theorem n7{r m f:Nat}(h:r=m+1+f):r=m+(f+1):=n3 m f ▸ h
theorem n8{i m:Nat}(a:m<=i)(b:i<m+1):i=m:=uU (ua b) a
section
variable{key:Nat->Int}{n:Nat}
structure Ord(n:Nat)(p:Array Nat):Prop where
 sz:p.size=n
 pm:p.Perm (uD (kR n))
theorem Ord.lt{p:Array Nat}(o:Ord n p){i:Nat}(h:i<n):p.getD i 0<n:=by
 have hi:i<p.size:=by rw[o.sz];exact h
 have e:p.getD i 0=p[i]:=by simp[Array.getD,hi]
 have m:p[i]∈p:=Array.getElem_mem hi;have m2:p[i]∈(uD (kR n)):=(Array.Perm.mem_iff o.pm).mp m;rw[e];simpa using m2
def kv(key:Nat->Int)(p:Array Nat)(i:Nat):Int:=key (p.getD i 0)
theorem wL{p q:Array Nat}{i j:Nat}(h:p[i]?=q[j]?):kv key p i=kv key q j:=by
 unfold kv;rw[Array.getD_eq_getD_getElem?,Array.getD_eq_getD_getElem?,h]
theorem Ord.rev{p:Array Nat}(o:Ord n p)(i j:Nat):Ord n (kas_rev p i j):=⟨by unfold kas_rev;rw[mirror_size];exact o.sz,(mirror_perm _ _ _ _).trans o.pm⟩
theorem Ord.bub{p:Array Nat}(o:Ord n p)(i j:Nat):Ord n (bubble p i j):=⟨by rw[bubble_size];exact o.sz,(bubble_perm _ _ _).trans o.pm⟩
theorem Zv{p:Array Nat}{i j:Nat}(hj:j<=p.size)(k:Nat):kv key (kas_rev p i j) k=if i<=k/\k<j then kv key p (i+j-1-k)else kv key p k:=by
 have e:=getElem?_mirror_all (i:=i) hj k;unfold kas_rev;by_cases h:i<=k/\k<j
 .rw[if_pos h]at e ⊢;exact wL e
 .rw[if_neg h]at e ⊢;exact wL e
theorem zab{p:Array Nat}{src d:Nat}(hs:src<p.size)(hd:d<=src)(k:Nat):kv key (bubble p src d) k=if k=src-d then kv key p src else if src-d<k/\k<=src then kv key p (k-1)else kv key p k:=by
 have e:=getElem?_bubble hs d hd k;by_cases h1:k=src-d
 .rw[if_pos h1]at e ⊢;exact wL e
 .rw[if_neg h1]at e ⊢;by_cases h2:src-d<k/\k<=src
  .rw[if_pos h2]at e ⊢;exact wL e
  .rw[if_neg h2]at e ⊢;exact wL e
def Up(key:Nat->Int)(p:Array Nat)(m:Nat):Prop:=∀i,1<=i->i<m->kv key p (i-1)<=kv key p i
def Down(key:Nat->Int)(p:Array Nat)(m:Nat):Prop:=∀i,1<=i->i<m->kv key p i<=kv key p (i-1)
theorem Up.le{p:Array Nat}{m:Nat}(u:Up key p m):∀{i j:Nat},i<=j->j<m->kv key p i<=kv key p j:=by
 intro i j h hj
 induction j with
 |zero=>(have:i=0:=uN.mp h;subst this;exact kX _)
 |succ j ih =>
  by_cases e:i=j+1
  .subst e;exact kX _
  .exact vT (ih (ua (uQ h e)) (Nat.lt_of_succ_lt hj)) (u (j+1) (vw (kN j)) hj)
theorem Down.le{p:Array Nat}{m:Nat}(u:Down key p m):∀{i j:Nat},i<=j->j<m->kv key p j<=kv key p i:=by
 intro i j h hj
 induction j with
 |zero=>(have:i=0:=uN.mp h;subst this;exact kX _)
 |succ j ih =>
  by_cases e:i=j+1
  .subst e;exact kX _
  .exact vT (u (j+1) (vw (kN j)) hj) (ih (ua (uQ h e)) (Nat.lt_of_succ_lt hj))
theorem ZY{p:Array Nat}(o:Ord n p):∀(f m:Nat),1<=m->m+f<=n->Up key p m->Run key n (λr=>m<=r/\r<=m+f/\Up key p r/\(r=m+f\/(r<n/\kv key p r<kv key p (r-1)))) (kas_asc p f m)
 |0,m,h1,h2,u=>⟨km _,km _,u,.inl rfl⟩
 |f+1,m,h1,h2,u=>by
  refine⟨o.lt (n1 h2),o.lt (n2 h2),?_⟩;by_cases c:key (p.getD m 0)<key (p.getD (m-1) 0)
  .rw[decide_eq_true c];dsimp only;(try rw[if_pos rfl]);exact⟨km _,u5 _ _,u,.inr ⟨n1 h2,c⟩⟩
  .rw[decide_eq_false c];dsimp only;(try rw[if_neg kH]);have u':Up key p (m+1):=λi i1 i2=>by
    by_cases e:i=m
    .subst e;exact Int.not_lt.mp c
    .exact u i i1 (n4 i2 e)
   refine Run.mono (λr ⟨a,b,d,e⟩=>⟨uE a,n6 b,d,?_⟩) _ (ZY o f (m+1) (vw (kN m)) (n3' h2) u');rcases e with e|e
   .exact .inl (n7 e)
   .exact .inr e
def Flat(key:Nat->Int)(p:Array Nat)(m q:Nat):Prop:=q+1<=m/\∀i,m-(q+1)<=i->i<m->kv key p i=kv key p (m-1)
theorem XH{p:Array Nat}{m q:Nat}(hm:m<=p.size)(f:Flat key p m q)(k:Nat):kv key (kas_rev p (m-(q+1)) m) k=kv key p k:=by
 rw[Zv hm];split
 .rename_i h;rw[f.2 k h.1 h.2,f.2 _ (by omega) (by omega)]
 .rfl
theorem qw:∀(f:Nat)(p:Array Nat)(m q:Nat),Ord n p->m+f<=n->Down key p m->Flat key p m q ->
  Run key n (λr=>Ord n r.1/\m<=r.2.1/\r.2.1<=n/\Down key r.1 r.2.1/\Flat key r.1 r.2.1 r.2.2) (kas_desc f p m q)
 |0,p,m,q,o,h,d,fl=>⟨o,km _,h,d,fl⟩
 |f+1,p,m,q,o,h,d,fl=>by
  have h1:1<=m:=kw (vw (kN q)) fl.1;refine⟨o.lt (n1 h),o.lt (n2 h),?_⟩;by_cases c:key (p.getD m 0)<key (p.getD (m-1) 0)
  .rw[decide_eq_true c];dsimp only;(try rw[if_pos rfl]);by_cases hq:q>0
   .rw[if_pos hq];have kr:=XH (key:=key) (p:=p) (m:=m) (q:=q) (by rw[o.sz];exact vF (n1 h)) fl;refine Run.mono (λr h9=>by obtain⟨a,b,e⟩:=h9;exact(⟨a,uE b,e⟩)) _ (qw f _ (m+1) 0 (o.rev _ _) (n3' h) (λi i1 i2=>?_) ⟨vw (kN m),λi i1 i2=>?_⟩)
    .rw[kr,kr];by_cases e:i=m
     .subst e;exact vU c
     .exact d i i1 (n4 i2 e)
    .have:i=m:=n8 i1 i2;subst this;rfl
   .rw[if_neg hq];refine Run.mono (λr h9=>by obtain⟨a,b,e⟩:=h9;exact(⟨a,uE b,e⟩)) _ (qw f _ (m+1) 0 o (n3' h) (λi i1 i2=>?_) ⟨vw (kN m),λi i1 i2=>?_⟩)
    .by_cases e:i=m
     .subst e;exact vU c
     .exact d i i1 (n4 i2 e)
    .have:i=m:=n8 i1 i2;subst this;rfl
  .rw[decide_eq_false c];dsimp only;(try rw[if_neg kH]);refine⟨o.lt (n2 h),o.lt (n1 h),?_⟩;by_cases c2:key (p.getD (m-1) 0)<key (p.getD m 0)
   .rw[decide_eq_true c2];dsimp only;(try rw[if_pos rfl]);exact⟨o,km _,vF (n1 h),d,fl⟩
   .rw[decide_eq_false c2];dsimp only;(try rw[if_neg kH]);have ee:kv key p m=kv key p (m-1):=ut (Int.not_lt.mp c2) (Int.not_lt.mp c);refine Run.mono (λr h9=>by obtain⟨a,b,e⟩:=h9;exact(⟨a,uE b,e⟩)) _ (qw f _ (m+1) (q+1) o (n3' h) (λi i1 i2=>?_) ⟨vw fl.1,λi i1 i2=>?_⟩)
    .by_cases e:i=m
     .subst e;rw[ee];exact kX _
     .exact d i i1 (n4 i2 e)
    .show kv key p i=kv key p m;by_cases e:i=m
     .subst e;rfl
     .rw[ee];exact fl.2 i (by rw[Nat.succ_sub_succ]at i1;exact i1) (n4 i2 e)
def Good(key:Nat->Int)(n:Nat)(r:Nat×Array Nat):Prop:=Ord n r.2/\1<=r.1/\r.1<=n/\Up key r.2 r.1
theorem YB{p:Array Nat}{m:Nat}(o:Ord n p)(h1:1<=m)(h:m<=n)(d:Down key p m):Run key n (Good key n) (kas_tail3 m n p):=by
 have e9:m+(n-m)=n:=bb h;refine Run.bind _ (Run.mono (λr h9=>by obtain⟨a,b,e,_⟩:=h9;exact(⟨o.rev _ _,kw h1 a,kw b (uO e9),e⟩)) _ (ZY (o.rev 0 m) (n-m) m h1 (uO e9) λi i1 i2=>?_));have i3:i-1<m:=vC (uP i 1) i2;rw[Zv (by rw[o.sz];exact h),Zv (by rw[o.sz];exact h),if_pos ⟨kN _,i3⟩,if_pos ⟨kN _,i2⟩];exact d.le (Nat.sub_le_sub_left (uP i 1) _) (vC (uP _ _) (by rw[u6];exact Nat.sub_lt h1 Nat.one_pos))
theorem q9{p:Array Nat}{m:Nat}(o:Ord n p)(h1:1<=m)(h:m+1<=n)(d:Down key p (m+1)):Run key n (Good key n) (kas_descPart m n p):=by
 have fl0:Flat key p (m+1) 0:=⟨vw (kN m),λi i1 i2=>by
  have e:i=m:=n8 i1 i2;rw[e];rfl⟩
 refine Run.bind _ (Run.mono (λr ⟨a,b,c,e,f⟩=>?_) _ (qw (n-(m+1)) p (m+1) 0 o (by rw[bb h];exact km _) d fl0));by_cases q:r.2.2>0
 .rw[if_pos q];have kr:=XH (key:=key) (p:=r.1) (m:=r.2.1) (q:=r.2.2) (by rw[a.sz];exact c) f;exact YB (a.rev _ _) (kw (vw (kN m)) b) c λi i1 i2=>by rw[kr,kr];exact e i i1 i2
 .rw[if_neg q];exact YB a (kw (vw (kN m)) b) c e
theorem zac{p:Array Nat}(o:Ord n p)(h:1<=n):Run key n (Good key n) (kas_count n p):=by
 refine Run.bind _ (Run.mono (λr ⟨a,b,c,e⟩=>?_) _ (ZY o (n-1) 1 (km _) (by rw[bb h];exact km _) λi i1 i2=>absurd i1 (Nat.not_le.mpr i2)));have h9:1+(n-1)=n:=bb h;rw[h9]at b e;by_cases q:(r==n)=true
 .rw[if_pos q];exact⟨o,a,b,c⟩
 .rw[if_neg q];have q':r≠n:=λz=>q (by rw[z];exact beq_self_eq_true n);have e':r<n/\kv key p r<kv key p (r-1):=by
   rcases e with e|e
   .exact absurd e q'
   .exact e
  split
  .rename_i hr;refine⟨o.lt h,o.lt (vC (uP r 1) e'.1),?_⟩;by_cases c2:key (p.getD 0 0)<key (p.getD (r-1) 0)
   .rw[decide_eq_true c2];dsimp only;(try rw[if_pos rfl]);exact⟨o,a,b,c⟩
   .rw[decide_eq_false c2];dsimp only;(try rw[if_neg kH]);have fl:∀i,i<r->kv key p i=kv key p 0:=λi hi=>by
     have x1:=c.le (i:=0) (j:=i) (kN i) hi;have x2:=c.le (i:=i) (j:=r-1) (Nat.le_sub_one_of_lt hi) (Nat.sub_lt a Nat.one_pos);have x3:kv key p (r-1)<=kv key p 0:=Int.not_lt.mp c2;exact ut (vT x2 x3) x1
    have kr:∀k,kv key (kas_rev p 0 r) k=kv key p k:=λk=>by
     rw[Zv (by rw[o.sz];exact b)];split
     .rename_i hk;rw[fl _ (vC (uP _ k) (by rw[u6];exact Nat.sub_lt a Nat.one_pos)),fl k hk.2]
     .rfl
    refine q9 (o.rev _ _) a e'.1 λi i1 i2=>?_;rw[kr,kr];by_cases z:i=r
    .subst z;exact vU e'.2
    .rw[fl i (n4 i2 z),fl (i-1) (vC (uP i 1) (n4 i2 z))];exact kX _
  .have hr:r=1:=()
   refine q9 o a e'.1 λi i1 i2=>?_;have:i=r:=()
   subst this;exact vU e'.2
theorem mid_{l r:Nat}(h:l<r):(l+r) / 2<r/\l<=(l+r) / 2:=()
theorem zfZ{l r f m:Nat}(a:m<r)(h:r-l<=f+1):m-l<=f:=()
theorem zf0{l r f m:Nat}(a:l<=m)(h:r-l<=f+1):r-(m+1)<=f:=by omega
theorem ja{p:Array Nat}{k:Nat}(o:Ord n p)(hk:k<n)(u:Up key p k):∀(f l r:Nat),l<=r->r<=k->r-l<=f->(∀i,i<l->kv key p i<=kv key p k)->(∀i,r<=i->i<k->kv key p k<kv key p i) ->
  Run key n (λm=>m<=k/\(∀i,i<m->kv key p i<=kv key p k)/\(∀i,m<=i->i<k->kv key p k<kv key p i)) (kas_place p k f l r)
 |0,l,r,h1,h2,h3,a,b=>⟨kw h1 h2,a,λi i1 i2=>b i (kw (Nat.le_of_sub_eq_zero (uN.mp h3)) i1) i2⟩
 |f+1,l,r,h1,h2,h3,a,b=>by
  unfold kas_place;by_cases c:l≥r
  .rw[if_pos c];exact⟨kw h1 h2,a,λi i1 i2=>b i (kw c i1) i2⟩
  .rw[if_neg c];have hm:(l+r) / 2<r/\l<=(l+r) / 2:=mid_ (Nat.not_le.mp c);have hmk:=vd hm.1 h2;refine⟨o.lt hk,o.lt (Nat.lt_trans hmk hk),?_⟩;by_cases c2:key (p.getD k 0)<key (p.getD ((l+r) / 2) 0)
   .rw[decide_eq_true c2];dsimp only;(try rw[if_pos rfl]);refine ja o hk u f l _ hm.2 (vF hmk) (zfZ hm.1 h3) a λi i1 i2=>?_;exact Int.lt_of_lt_of_le c2 (u.le i1 i2)
   .rw[decide_eq_false c2];dsimp only;(try rw[if_neg kH]);refine ja o hk u f _ r hm.1 h2 (zf0 hm.2 h3) (λi i1=>?_) b;exact vT (u.le (j:=(l+r) / 2) (ua i1) hmk) (Int.not_lt.mp c2)
theorem W9:∀(f:Nat)(p:Array Nat)(k:Nat),Ord n p->1<=k->k+f=n->Up key p k->Run key n (λr=>Ord n r/\Up key r n) (kas_bin f p k)
 |0,p,k,o,h1,h,u=>by
  have:k=n:=h;subst this;exact⟨o,u⟩
 |f+1,p,k,o,h1,h,u=>by
  have hk:k<n:=n1 (uO h);refine Run.bind _ (Run.mono (λm ⟨a,b,c⟩=>?_) _ (ja o hk u k 0 k (kN k) (km _) (uP k 0) (λi hi=>absurd hi (bj i)) λi i1 i2=>absurd i1 (Nat.not_le.mpr i2)));refine W9 f _ (k+1) (o.bub _ _) (vw (kN k)) ((n3 k f).trans h) λi i1 i2=>?_;rw[zab (by rw[o.sz];exact hk) (uP k m),zab (by rw[o.sz];exact hk) (uP k m),Nat.sub_sub_self a];have ik:i<=k:=ua i2;have il:i-1<i:=Nat.sub_lt i1 Nat.one_pos;rcases Nat.lt_trichotomy i m with q|q|q
  .rw[if_neg (vc (Nat.lt_trans il q)),if_neg (λz=>Nat.lt_asymm q (Nat.lt_trans z.1 il)),if_neg (vc q),if_neg (λz=>Nat.lt_asymm q z.1)];exact u i i1 (vd q a)
  .subst q;rw[if_neg (vc il),if_neg (λz=>Nat.lt_asymm il z.1),if_pos rfl];exact b _ il
  .rw[if_neg (show ¬i=m from uw q),if_pos (show m<i/\i<=k from⟨q,ik⟩)];by_cases z:i-1=m
   .rw[if_pos z,z];exact vU (c m (km _) (vd q ik))
   .have w:=uQ (Nat.le_sub_one_of_lt q) (Ne.symm z);rw[if_neg z,if_pos ⟨w,vF (vd il ik)⟩];exact u (i-1) (kw (vw (kN m)) w) (vd il ik)
theorem XI(h:1<=n):Run key n (λr=>Ord n r/\Up key r n) (kas_sort n):=by
 refine Run.bind _ (Run.mono (λr ⟨a,b,c,d⟩=>?_) _ (zac ⟨by simp,Array.Perm.refl _⟩ h));split
 .have e:max r.1 1=r.1:=()
  rw[e];exact W9 _ _ _ a b () d
 .have e:r.1=n:=()
  rw[e]at d;exact⟨a,d⟩
end
end _Srt
namespace _L2
open PySem PySem.Spec PyProof.Rows PySem.W
def xu(B:Int)(kz:List (Int×Int))(i:Nat):Int:=(kz.getD i (0,0)).1*B+(kz.getD i (0,0)).2
theorem lex_lt{B a b c d:Int}(hb:0<=b/\b<B)(hd:0<=d/\d<B):(a*B+b<c*B+d)↔(a<c\/(a=c/\b<d)):=by
 have hB:0<B:=()
 constructor
 .intro h;by_cases e:a=c
  .subst e;exact .inr ⟨rfl,()⟩
  .refine .inl ?_;refine Int.lt_of_not_ge λg=>?_;have g1:c+1<=a:=()
   have g2:=Int.mul_le_mul_of_nonneg_right g1 (vU hB);rw[bP,Int.one_mul]at g2
   lia
 .rintro(h|⟨rfl,h⟩)
  .have g1:a+1<=c:=by assumption
   have g2:=Int.mul_le_mul_of_nonneg_right g1 (vU hB);rw[bP,Int.one_mul]at g2;omega
  .lia
theorem jb{key:Nat->Int}{n:Nat}{α:Type}{cmp:Nat->Nat->(Bool->Shared->Prop)->Shared->Prop}{s:Shared}{Q:α->Prop}
  (hc:∀i j C,i<n->j<n->C (decide (key i<key j)) s->cmp i j C s):∀(t:KasT α),_Srt.Run key n Q t->t.kasWp cmp (λa s'=>Q a/\s'=s) s
 |.ret a,x=>⟨x,rfl⟩
 |.ask i j k,⟨h1,h2,x⟩=>hc i j _ h1 h2 (jb hc _ x)
structure zeF(H:Hp)(ks:List Value)(kz:List (Int×Int)):Prop where
 len:ks.length=kz.length
 at_:∀(i:Nat)(k:Value)(z:Int×Int),ks[i]?=some k->kz[i]?=some z->∃p,k=.ref p/\H p=some (.tup [.int z.1,.int z.2])
section
variable{X:Cx}{pins:List (Addr×Obj)}{σ:St}{H:Hp}{s:Shared}
theorem ZZ(I:Inv X pins σ H s){p:Addr}{a b:Int}(h:H p=some (.tup [.int a,.int b])):∃(o:Obj)(n:Nat)(t u:Tok),s.heap.get? p=some o/\o.cls=.type "tuple" /\ o.data=.seq #[.int a t,.int b u] n:=by
 obtain⟨_,its,r,⟨o,e,c,n,d⟩⟩:=I.hok p _ h;cases r with
 |cons r1 rr =>
  cases rr with
  |cons r2 rr =>
   cases rr;obtain⟨t,rfl⟩:=r1;obtain⟨u,rfl⟩:=r2;exact⟨o,n,t,u,e,c,by simpa using d⟩
theorem zbI(I:Inv X pins σ H s){A:Around}{p q:Addr}{a b c d:Int}(hp:H p=some (.tup [.int a,.int b]))(hq:H q=some (.tup [.int c,.int d])){C:Bool->Shared->Prop}(h:C (decide (a<c\/(a=c/\b<d))) s):
  wpAny (model X.prog X.w) A (keyLt' (tuples' true) (.ref p) (.ref q)) C (λ_ _=>False) s:=by
 obtain⟨o1,n1,t1,u1,e1,_,d1⟩:=ZZ I hp;obtain⟨o2,n2,t2,u2,e2,_,d2⟩:=ZZ I hq;refine kat_lt e1 d1 e2 d2 ?_;show KatLex _ _ _ true _ _ [(Value.int a t1,Value.int c t2),(Value.int b u1,Value.int d u2)] 0 s;refine kat_cons (wpAny_eqBool_int ?_);by_cases e:a=c
 .subst e;rw[beq_self_eq_true];refine kat_yes (kat_cons (wpAny_eqBool_int ?_));by_cases e':b=d
  .subst e';rw[beq_self_eq_true];refine kat_yes (kat_nil ?_);have z:decide (a<a\/a=a/\b<b)=false:=decide_eq_false ();rw[z]at h;exact h
  .rw[beq_eq_false_iff_ne.mpr e'];refine kat_no (kat_one _ _ (lt_int ?_));have z:decide (a<a\/a=a/\b<d)=decide (b<d):=by
    rw[decide_eq_decide];lia
   rw[z]at h;exact h
 .rw[beq_eq_false_iff_ne.mpr e];refine kat_no (oneLt_int ?_);have z:decide (a<c\/a=c/\b<d)=decide (a<c):=by
   rw[decide_eq_decide];lia
  rw[z]at h;exact h
structure wy(X:Cx)(pins:List (Addr×Obj))(b:Addr):Prop where
 lo:b≠X.env.locals
 fs:b∉X.fs
 ge:b∈X.ex\/X.s₀.heap.objs.size<=b
 ce:∀x c,X.env.cells.lookup x=some c->c≠b
 pi:∀p∈X.pn++pins,p.1≠b
theorem Inv.young(I:Inv X pins σ H s){b:Addr}(hb:s.heap.objs.size<=b):wy X pins b:=by
 obtain⟨_,a1,a2,a3,a4,a5⟩:=I.fpOk (b:=b) hb (H':=λ_=>none) rfl;exact⟨a1,a2,a3,a4,a5⟩
theorem Inv.record(I:Inv X pins σ H s){b:Addr}{h':Heap}(y:wy X pins b)(hn:H b=none)(hs:Heap.SameBut b s.heap h'):Inv X pins σ H {s with heap:=h'} :=
 I.turned (t':=s.toks) (λc o nc e=>(hs.2 c nc).trans e) hn y.lo y.ge y.ce y.pi
def XJ(kS D:Addr)(ks:List Value)(e e1:Nat):List (Addr×Obj):=[(kS,seqObj "list" ks.toArray e),(D,seqObj "list" #[] e1)]
theorem Inv.sorting(I:Inv X pins σ H s){kS D:Addr}{ks:List Value}{e e1:Nat}(yk:wy X pins kS)(yD:wy X pins D)(hk:s.heap.get? kS=some (seqObj "list" ks.toArray e))(hD:s.heap.get? D=some (seqObj "list" #[] e1))(nk:H kS=none)(nD:H D=none):
  Inv X (pins++XJ kS D ks e e1) σ H s:=I.pins_of λp hp=>by
 rcases k7.mp hp with hp|hp
 .exact I.pin p (kO _ hp)
 .rcases kK.mp hp with rfl|hp
  .exact⟨hk,nk,yk.lo,yk.fs,λv z=>by cases z⟩
  .obtain rfl:=kq.mp hp;exact⟨hD,nD,yD.lo,yD.fs,λv z=>by cases z⟩
theorem XL{E:Value->Shared->Prop}{Q:Value->Shared->Prop}(I:Inv X pins σ H s){l f:Addr}{xs:List V}{kz:List (Int×Int)}{B:Int}(hl:SqL X.K H l xs)(h1:0<xs.length)(h64:xs.length<64)(hkz:kz.length=xs.length)(hB:∀z∈kz,0<=z.2/\z.2<B)
  (Good:Hp->Prop)(hG:Good H)
  (turn:∀(pins':List (Addr×Obj))(i:Nat)(x:V)(v:Value)(z:Int×Int)(s':Shared)(H':Hp),xs[i]?=some x->kz[i]?=some z->RelV x v->Inv X pins' σ H' s'->Good H' ->
   wpAny (model X.prog X.w) X.A.in1.in1 (call (.ref f) [v]) (λk s''=>∃p H'',k=.ref p/\Inv X pins' σ H'' s''/\Good H''/\(∀b o,H' b=some o->H'' b=some o)/\H'' p=some (.tup [.int z.1,.int z.2])) (λ_ _=>False) s')
  (q:∀(D:Addr)(p:Array Nat)(H':Hp)(s':Shared),Good H'->(∀b o,H b=some o->H' b=some o)->H' D=none->_Srt.Ord xs.length p->_Srt.Up (xu B kz) p xs.length->Inv X pins σ (upd H' D (.lst (p.toList.map λi=>xs.getD i .non))) s'->Q (.ref D) s'):
  wpAny (model X.prog X.w) X.A (call (.builtin "sorted") [.ref l] [(Str.ofString "key",.ref f)]) Q E s:=by
 obtain⟨vs,rv,pl,hz⟩:=I.list hl;have lv:=rv.length;have hsm:vs.length<=sizeLine:=()
 refine call_function_entry_kw kind_sorted plain_sorted entry_sorted (ksk_s1 _ _) ?_;unfold Builtin.«sorted»;refine wpAny_bind (m:=checkCount "sorted" 1 1 _) (wpAny_pure ?_);refine wpAny_bind (collect_list pl.isList ?_ hsm);refine wpAny_bind (wpAny_newList ?_ hsm);have z1:((s.heap.push (seqObj "list" #[] 0)).update s.heap.objs.size (Obj.mapSeq (·++vs.toArray))).objs.size=s.heap.objs.size+1:=by rw[Heap.size_update,size_push']
 have keep1:∀b o,s.heap.get? b=some o->(((s.heap.push (seqObj "list" #[] 0)).update s.heap.objs.size (Obj.mapSeq (·++vs.toArray))).push (seqObj "list" vs.toArray 0)).get? b=some o:=λb o e=>by
  have hlt:b<s.heap.objs.size:=Heap.lt_size e;rw[Heap.get?_push_ne _ _ _ (by rw[z1];exact vc (vG hlt)),Heap.get?_update_ne _ _ _ _ (vc hlt),Heap.get?_push_ne _ _ _ (vc hlt)];exact e
 generalize hh1:((s.heap.push (seqObj "list" #[] 0)).update s.heap.objs.size (Obj.mapSeq (·++vs.toArray))).push (seqObj "list" vs.toArray 0)=h1' at keep1 ⊢;have hD1:h1'.get? (s.heap.objs.size+1)=some (seqObj "list" vs.toArray 0):=by
  rw[<-hh1,<-z1];exact Heap.get?_push_size _ rfl
 have hs1:s.heap.objs.size+2<=h1'.objs.size:=by rw[<-hh1,size_push',z1];exact km _
 show wpAny _ _ _ _ _ {s with heap:=h1'};rw[z1];clear hh1;have yD:wy X pins (s.heap.objs.size+1):=I.young (vV _);have nD0:H (s.heap.objs.size+1)=none:=I.hok.fresh (vV _);generalize hDD:s.heap.objs.size+1=D at hD1 yD nD0 ⊢;have I1:Inv X pins σ H {s with heap:=h1'}:=I.kept (t':=s.toks) keep1;refine wpAny_bind (wpAny_holding (wpAny_call_entry_kw slot_list_sort ⟨_,hD1,rfl⟩ entry_list_sort ?body (ksk_l1 _ _)))
 case body =>
  show wpAny (model X.prog X.w) X.A.in1.in1 (Builtin.«list.sort» ⟨[.ref D],[(Str.ofString "key",.ref f)]⟩) _ _ _;rw[ksk_t1];unfold ksk_tree;refine wpAny_bind (listItems_at hD1 rfl ?_);refine wpAny_bind (listUpdate_at hD1 rfl ?_ (by rw[ku];omega) (kN _));have sb:=Heap.SameBut.update h1' D (Obj.mapSeq λ_=>(#[]:Array Value));obtain⟨e1,hD2⟩:∃e1,(h1'.update D (Obj.mapSeq λ_=>(#[]:Array Value))).get? D=some (seqObj "list" #[] e1):=⟨_,get?_update_seq hD1 λ_=>#[]⟩;have I2:=I1.record (h':=h1'.update D (Obj.mapSeq λ_=>(#[]:Array Value))) yD nD0 sb;have s2:(h1'.update D (Obj.mapSeq λ_=>(#[]:Array Value))).objs.size=h1'.objs.size:=sb.1;generalize h1'.update D (Obj.mapSeq λ_=>(#[]:Array Value))=h2' at hD2 I2 s2 ⊢;refine wpAny_bind (seqEpoch_at hD2 rfl ?_);refine wpAny_bind (wpAny_newTuple ?_ hsm);refine wpAny_bind (wpAny_newList ?_ (kN _));refine wpAny_holding ?_;have s3:(h2'.push {cls:=.type "tuple",data:=.seq vs.toArray}).objs.size=h2'.objs.size+1:=size_push' _ _;have I3:Inv X pins σ H {s with heap:=(h2'.push {cls:=.type "tuple",data:=.seq vs.toArray}).push {cls:=.type "list",data:=.seq ([]:List Value).toArray}} :=
   I2.kept (t':=s.toks) λb o e=>Heap.get?_push_of_some _ (Heap.get?_push_of_some _ e)
  have hk3:((h2'.push {cls:=.type "tuple",data:=.seq vs.toArray}).push {cls:=.type "list",data:=.seq ([]:List Value).toArray}).get? (h2'.objs.size+1)=some (seqObj "list" ([]:List Value).toArray 0):=by
   rw[<-s3];exact Heap.get?_push_size _ rfl
  have hD3:((h2'.push {cls:=.type "tuple",data:=.seq vs.toArray}).push {cls:=.type "list",data:=.seq ([]:List Value).toArray}).get? D=some (seqObj "list" #[] e1):=Heap.get?_push_of_some _ (Heap.get?_push_of_some _ hD2);have yk:wy X pins (h2'.objs.size+1):=I2.young (vV _);have nk0:H (h2'.objs.size+1)=none:=I2.hok.fresh (vV _);show wpAny _ _ (ksk_rest D (.ref f) false vs.toArray e1 (.ref (h2'.push {cls:=.type "tuple",data:=.seq vs.toArray}).objs.size)) _ _ _;rw[s3];have kD:h2'.objs.size+1≠D:=by
   have:=Heap.lt_size hD2
   lia
  generalize h2'.objs.size+1=kS at hk3 yk nk0 kD ⊢;generalize (h2'.push {cls:=.type "tuple",data:=.seq vs.toArray}).push {cls:=.type "list",data:=.seq ([]:List Value).toArray}=h3' at I3 hk3 hD3 ⊢;unfold ksk_rest;refine wpAny_bind (wpAny_rule ?_);rw[List.forIn_toArray];refine wpAny_bind (wpAny_mono (ksk_fold (λi s'=>∃(ks:List Value)(e:Nat)(H':Hp),ks.length=i/\Inv X (pins++XJ kS D ks e e1) σ H' s'/\Good H'/\(∀b o,H b=some o->H' b=some o) /\
    ∀(j:Nat)(k:Value)(z:Int×Int),ks[j]?=some k->kz[j]?=some z->∃p,k=.ref p/\H' p=some (.tup [.int z.1,.int z.2])) vs 0 _ ?st ?turn ?done) (λ_ s' hq=>hq) λ_ _ x=>x)
  case st=>exact⟨[],0,H,rfl,I3.sorting yk yD hk3 hD3 nk0 nD0,hG,λ_ _ e=>e,λj k z e=>by simp at e⟩
  case turn =>
   rintro j v s' hv ⟨ks,e,H',hlen,I',g',sm,kk⟩;have hj:j<vs.length:=(kf.mp hv).1;obtain⟨x,hx⟩:∃x,xs[j]?=some x:=⟨xs[j]'(),kc ()⟩;obtain⟨z,hzz⟩:∃z,kz[j]?=some z:=⟨kz[j]'(),kc ()⟩;obtain⟨u,hu,ru⟩:=rv.get hx;rw[hv]at hu;cases hu;refine wpAny_bind (wpAny_attempt (wpAny_mono (turn _ j x v z s' H' hx hzz ru I' g') (λk s'' hk=>?_) λ_ _ hF=>hF.elim));refine E_2 hk λp H'' n8=>A_5 n8 λe9 I'' g'' sm' hp=>?_;clear n8 hk;subst e9;have pk:=I''.pin (kS,seqObj "list" ks.toArray e) (kO _ (kO _ kg));have pD:=I''.pin (D,seqObj "list" #[] e1) (kO _ (kO _ (kn _ kg)));dsimp only;refine wpAny_bind (listUpdate_at pk.1 rfl ?_ (by rw[ku];lia) (by rw[Array.size_push,ku];lia));have sb':=Heap.SameBut.update s''.heap kS (Obj.mapSeq (·.push (Value.ref p)));have ea:ks.toArray.push (Value.ref p)=(ks++[Value.ref p]).toArray:=by simp
   obtain⟨c2,hc2⟩:∃c2,(s''.heap.update kS (Obj.mapSeq (·.push (Value.ref p)))).get? kS=some (seqObj "list" (ks++[Value.ref p]).toArray c2):=⟨_,by rw[<-ea];exact get?_update_seq pk.1 (·.push (Value.ref p))⟩;have I4:=I''.unpinned.record yk pk.2.1 sb';refine wpAny_pure ⟨rfl,ks++[Value.ref p],c2,H'',by rw[kt,hlen];simp,I4.sorting yk yD hc2 ((sb'.2 D kD.symm).trans pD.1) pk.2.1 pD.2.1,g'',λb o e=>sm' b o (sm b o e),λi k' z' e' ez=>?_⟩;by_cases hi:i<ks.length
   .rw[ui hi]at e';obtain⟨p',a1,a2⟩:=kk i k' z' e' ez;exact⟨p',a1,sm' _ _ a2⟩
   .have hi2:i<(ks++[Value.ref p]).length:=(kf.mp e').1;rw[kt,vo]at hi2;have hi3:i=j:=()
    subst hi3;rw[hzz]at ez;cases ez;rw[uY ()]at e';have e'':some (Value.ref p)=some k':=by simpa[hlen]using e'
    cases e'';exact⟨p,rfl,hp⟩
  case done =>
   rintro s' ⟨ks,e,H',hlen,I',g',sm,kk⟩;rw[u6]at hlen;have pk:=I'.pin (kS,seqObj "list" ks.toArray e) (kO _ (kO _ kg));have pD:=I'.pin (D,seqObj "list" #[] e1) (kO _ (kO _ (kn _ kg)));have I0:Inv X pins σ H' s':=I'.unpinned;have KA:zeF H' ks kz:=⟨(),kk⟩;refine wpAny_bind (listItems_at pk.1 rfl ?_);unfold ksk_end;dsimp only;simp only[uR,if_false]
   -- what comes behind the runs
   have tail:∀(st:SortSt)(p:Array Nat),arrOf st=p.map (kas_item (ks.toArray.zip vs.toArray))->failedOf st=none->_Srt.Ord xs.length p->_Srt.Up (xu B kz) p xs.length ->
     wpAny (model X.prog X.w) X.A.in1.in1 (ksk_tail D false e1 (.ref kS) st) (λfin s''=>∃v,fin=.done (.ret v)/\wpAny (model X.prog X.w) X.A.in1 (ret (.ref D)) (λfin s3=>∃v,fin=.done (.ret v)/\Q v s3) E s'') E s':=by
    intro st p ha hf po pu;have out:=kat_snds (ks:=ks) (vs:=vs) (by omega) ha;unfold ksk_tail;dsimp only;rw[out,hf];have plen:(p.toList.map λi=>vs.getD i Value.none).length=vs.length:=by rw[ke,Array.length_toList,po.sz,lv]
    refine wpAny_bind (listUpdate_at pk.1 rfl ?_ (by rw[ku];lia) (kN _));have sb1:=Heap.SameBut.update s'.heap kS (Obj.mapSeq λ_=>(#[]:Array Value));have J1:=I0.record yk pk.2.1 sb1;have hD4:(s'.heap.update kS (Obj.mapSeq λ_=>(#[]:Array Value))).get? D=some (seqObj "list" #[] e1):=(sb1.2 D kD.symm).trans pD.1;generalize s'.heap.update kS (Obj.mapSeq λ_=>(#[]:Array Value))=h5 at J1 hD4 ⊢;refine wpAny_bind (wpAny_letGo ?_);refine wpAny_bind (seqEpoch_at hD4 rfl ?_);simp only[uR,if_false,bne_self_eq_false];refine wpAny_bind (listUpdate_at hD4 rfl ?_ (kN _) (by rw[ku,plen];lia));have sb2:=Heap.SameBut.update h5 D (Obj.mapSeq λ_=>(p.toList.map λi=>vs.getD i Value.none).toArray);have J2:=J1.record yD pD.2.1 sb2;obtain⟨c3,hD5⟩:∃c3,(h5.update D (Obj.mapSeq λ_=>(p.toList.map λi=>vs.getD i Value.none).toArray)).get? D=some (seqObj "list" (p.toList.map λi=>vs.getD i Value.none).toArray c3):=⟨_,get?_update_seq hD4 _⟩;generalize h5.update D (Obj.mapSeq λ_=>(p.toList.map λi=>vs.getD i Value.none).toArray)=h6 at J2 hD5 ⊢;have rel:Vals (p.toList.map λi=>xs.getD i .non) (p.toList.map λi=>vs.getD i Value.none):=by
     have:∀(ls:List Nat),(∀i∈ls,i<xs.length)->Vals (ls.map λi=>xs.getD i .non) (ls.map λi=>vs.getD i Value.none):=by
      intro ls
      induction ls with
      |nil=>intro _;exact .nil
      |cons a r ih =>
       intro h;refine .cons ?_ (ih λi hi=>h i (kn _ hi));have ha:=h a kg;have:=xt rv (j:=a) ();show RelV (xs.getD a .non) (vs.getD a Value.none);rw[getD_at (xs:=vs) (by lia:a<vs.length)];exact this
     refine this _ λi hi=>?_;have m:i∈p:=by simpa using hi
     have m2:i∈(uD (kR xs.length)):=(Array.Perm.mem_iff po.pm).mp m;simpa using m2
    have J3:=J2.track (p:=D) (o:=.lst (p.toList.map λi=>xs.getD i .non)) pD.2.1 (Heap.get?_none_of_le (by rw[<-hDD];have:=I.sz;lia)) yD.lo yD.ce yD.pi
     ⟨by rw[ke,Array.length_toList,po.sz];omega,_,c3,rel,hD5⟩
    refine wpAny_pure ⟨_,rfl,wpAny_pure ⟨_,rfl,q D p H' _ g' sm pD.2.1 po pu J3⟩⟩
   by_cases h2:vs.toArray.size<2
   .rw[if_pos h2,if_pos h2];rw[ku]at h2;refine wpAny_bind (wpAny_pure ?_);rw[StateT.run_pure];refine wpAny_bind (wpAny_pure ?_);dsimp only;refine tail _ (uD (kR xs.length)) ?_ rfl ⟨by simp,Array.Perm.refl _⟩ λi i1 i2=>()
    show ks.toArray.zip vs.toArray=_;have e:=kas_range (ks.toArray.zip vs.toArray);rw[show(ks.toArray.zip vs.toArray).size=xs.length by simp;lia]at e;exact e.symm
   .rw[if_neg h2,if_neg h2];rw[ku]at h2
    -- the keys' kind
    have KT:∀(ks':List Value)(kz':List (Int×Int)),ks'.length=kz'.length->(∀(j:Nat)(k:Value)(z:Int×Int),ks'[j]?=some k->kz'[j]?=some z->∃p,k=.ref p/\H' p=some (.tup [.int z.1,.int z.2])) ->
      ∃fs:List Value,fs.length=ks'.length/\KatTups s'.heap ks' fs/\∀v∈fs,∃i t,v=Value.int i t:=by
     intro ks'
     induction ks' with
     |nil=>intro _ _ _;exact⟨[],rfl,KatTups.nil,λv hv=>nomatch hv⟩
     |cons k r ih =>
      intro kz' hl' hk';cases kz' with
      |nil=>simp at hl'
      |cons z rz =>
       obtain⟨p,rfl,hp⟩:=hk' 0 k z rfl rfl;obtain⟨o,n,t,u,e1',e2',e3'⟩:=ZZ I0 hp;obtain⟨fs,f1,f2,f3⟩:=ih rz (by simpa using hl') λj k z a b=>hk' (j+1) k z (by simpa using a) (by simpa using b);refine⟨.int z.1 t::fs,by simp[f1],KatTups.cons e1' e2' e3' rfl f2,λv hv=>?_⟩;rcases kK.mp hv with rfl|hv
       .exact⟨_,_,rfl⟩
       .exact f3 v hv
    obtain⟨fs,f1,f2,f3⟩:=KT ks kz KA.len KA.at_;refine wpAny_bind (kat_kind f2 () (T:=.type "int") (λv hv=>?_) ⋯ ?_)
    .obtain⟨i,t,rfl⟩:=f3 v hv;exact Looks.of_pure rfl
    have hkind:(Value.type "int" != Value.type "tuple")=true:=⋯
    rw[hkind];have run:=jb (key:=xu B kz) (n:=vs.length) (cmp:=kas_ask X.prog X.w X.A.in1.in1 (tuples' true) ks) (s:=s') (Q:=λr=>_Srt.Ord vs.length r/\_Srt.Up (xu B kz) r vs.length) (λi j C hi hj hC=>?_) _ (_Srt.XI (n:=vs.length) ())
    .refine wpAny_bind (wpAny_mono (kat_run (Q:=λst' s''=>∃p,arrOf st'=p.map (kas_item (ks.toArray.zip vs.toArray))/\failedOf st'=none/\(_Srt.Ord vs.length p/\_Srt.Up (xu B kz) p vs.length)/\s''=s') (by omega) () ()
      (λp st' s'' a1 a2 a3 a4=>⟨p,a2,a3,a4.1,a4.2⟩) run) ?_ λ_ _ x=>x)
     rintro⟨⟨⟩,st'⟩ s'' ⟨p,a2,a3,⟨a4,a5⟩,rfl⟩;dsimp only;rw[<-lv]at a4 a5;exact tail st' p a2 a3 a4 a5
    .obtain⟨ki,hki⟩:∃k,ks[i]?=some k:=⟨ks[i]'(),kc ()⟩;obtain⟨kj,hkj⟩:∃k,ks[j]?=some k:=⟨ks[j]'(),kc ()⟩;obtain⟨zi,hzi⟩:∃z,kz[i]?=some z:=⟨kz[i]'(),kc ()⟩;obtain⟨zj,hzj⟩:∃z,kz[j]?=some z:=⟨kz[j]'(),kc ()⟩;obtain⟨pi,rfl,hpi⟩:=kk i ki zi hki hzi;obtain⟨pj,rfl,hpj⟩:=kk j kj zj hkj hzj;unfold kas_ask;rw[kP,kP,hki,hkj];refine zbI I0 hpi hpj ?_;have ei:kz.getD i (0,0)=zi:=by rw[kP,hzi];rfl
     have ej:kz.getD j (0,0)=zj:=by rw[kP,hzj];rfl
     unfold xu at hC;rw[ei,ej]at hC;rw[decide_eq_decide.mpr (lex_lt (hB zi (ky hzi)) (hB zj (ky hzj)))]at hC;exact hC
end
open Builtin.Getset_descriptor
def wZ(ea C:Addr):Heap->Prop:=λh=>∃o,h.get? ea=some o/\o.cls=.ref C
theorem wZ.ty{M:Model}{h:Heap}{ea C:Addr}(x:wZ ea C h):Looks M h (typeOf (.ref ea)) (.ref C):=by
 obtain⟨o,e,c⟩:=x;rw[<-c];exact(Looks.ld e).andThen .now
section
variable{prog:Program}{w:World}{A:Around}{E:Value->Shared->Prop}{K:Frag}{x C:Addr}
theorem Xk{s:Shared}{tp:Value}{R:Result->Shared->Prop}(X:K.In s.heap)(J:wZ x C s.heap)(hm:mroIn K C (.type "object")=some true)(q:R (.ok (.ret (.ref C))) s):
  codeAny (model prog w) A (.call (.builtin "getset_descriptor.__get__") ⟨[.builtin "object.__class__",.ref x,tp],[]⟩) R s:=by
 obtain⟨h0,g0,d0,t0,o0⟩:=s;have LT:=J.ty (M:=model prog w);have LM:=looks_mroIn (M:=model prog w) X hm;refine codeAny_call_builtin KF.slot_gs.plain KF.entry_gs ?_;refine KF.slot_gs.check _ _ _ _ _ _ _ _ KF.type_class (KF.args_gs _ _ _) ?_;unfold Builtin.«getset_descriptor.__get__»;unfold descrGet;rw[dga_obj];refine wpAny_bind ?_;refine wpAny_pure ?_;unfold descrGetter;unfold descrCheckInstance;unfold descrNameAndClass;unfold isInstance;simp only[KF.owner_class]
 repeat lk
 refine⟨Code.quiet_builtin _ (by decide +kernel),?_⟩;refine codeAny_builtin KF.entry_class ?_;unfold Builtin.«object.__class__»;unfold shownTypeOf
 repeat lk
 exact q
structure jc(K:Frag)(C:Addr):Prop where
 ga:findIn K (.ref C) "__getattribute__"=some (some (.builtin "BaseException.__getattribute__"))
 gn:findIn K (.ref C) "__getattr__"=some none
 ha:findIn K (.ref C) "__class__"=some (some (.builtin "object.__class__"))
 hn:specialIn K (.builtin "object.__class__") "__get__"=some (some (.builtin "getset_descriptor.__get__"))
 tk:takesIn K (.builtin "object.__class__")=some true
 mo:mroIn K C (.type "object")=some true
 mb:mroIn K C (.type "BaseException")=some true
 ty:typeIn K (.ref C)=some (.type "type")
 cl:(clsIn K C).isSome=true
theorem zbJ{M:Model}{h:Heap}(X:K.In h)(J:wZ x C h)(c:jc K C):Looks M h (Builtin.ObjectAttr.find (.ref x) (.ref C) "__class__") (.bind (.builtin "getset_descriptor.__get__") (.builtin "object.__class__")):=by
 have L1:=looks_findIn (M:=M) X c.ha;have _L2:Looks M h (Builtin.ObjectAttr.getOf (some (.builtin "object.__class__"))) (some (.builtin "getset_descriptor.__get__")):=looks_specialIn X c.hn;have L3:=looks_takesIn (M:=M) X c.tk;exact L1.andThen (_L2.andThen ((show Looks M h (Builtin.ObjectAttr.dataDescriptor? (some (.builtin "object.__class__")) (some (.builtin "getset_descriptor.__get__"))) (some (.builtin "getset_descriptor.__get__",.builtin "object.__class__"))from L3.andThen .now).andThen (Looks.tag .now)))
theorem zad{s:Shared}{tk:Tok}{R:Result->Shared->Prop}(X:K.In s.heap)(J:wZ x C s.heap)(c:jc K C)(q:R (.ok (.ret (.ref C))) s):
  codeAny (model prog w) A (.call (.builtin "BaseException.__getattribute__") ⟨[.ref x,.str "__class__" tk],[]⟩) R s:=by
 obtain⟨h0,g0,d0,t0,o0⟩:=s;have LT:=J.ty (M:=model prog w);have LF:=zbJ (M:=model prog w) X J c;have LB:=looks_mroIn (M:=model prog w) X c.mb;refine codeAny_call_builtin PySem.F.attr_ValueError.ga.plain PySem.F.entry_bexc_ga ?_;have hk:builtinKind "BaseException.__getattribute__"=some .slot:=by decide +kernel
 have hsp:splitId "BaseException.__getattribute__"=some ("BaseException","__getattribute__"):=by decide +kernel
 have hao:=PySem.F.args_bexc_ga (.ref x) (.str "__class__" tk);simp only[checkBuiltinCall,hk,hsp];refine wpAny_bind ?_;unfold isInstance
 repeat (any_goals (first|assumption|with_reducible refine Looks.at (by assumption) ?_|wp_step))
 refine Xk X J c.mo ?_
 repeat (any_goals (first|assumption|wp_step))
theorem zbK{s:Shared}{Q:Option Value->Shared->Prop}(X:K.In s.heap)(J:wZ x C s.heap)(c:jc K C)(q:Q (some (.ref C)) {s with toks:=s.toks+1}):wpAny (model prog w) A (getAttr? (.ref x) "__class__") Q E s:=by
 obtain⟨h0,g0,d0,t0,o0⟩:=s;have LT:=J.ty (M:=model prog w);have L1:=looks_findIn (M:=model prog w) X c.ga;have _L2:=looks_findIn (M:=model prog w) X c.gn;have f3:=PySem.F.attr_ValueError.ga.bind (.ref x);have hx2:(Value.builtin "BaseException.__getattribute__" == Value.builtin "object.__getattribute__")=false:=by decide +kernel
 have hx1:(onTheHeap (Value.ref C)&&Value.builtin "BaseException.__getattribute__" == Value.builtin "object.__getattribute__")=false:=by rw[hx2];rfl
 unfold getAttr? getAttrBy?
 repeat (any_goals (first|assumption|with_reducible refine Looks.at (by assumption) ?_|wp_step))
 refine zad X J c ?_
 repeat (any_goals (first|assumption|wp_step))
theorem zbL(c:jc K C):KitX K (.ref x) (.ref C) (wZ x C) where
 ty:=λ_ _ _ J=>J.ty
 it:=λM h X _=>by
  obtain⟨cd,hc⟩:=bf.mp c.cl;unfold clsIn at hc;split at hc
  .rename_i a1 a2 a3 a4 ho;intro A' Q' E' s' k z;unfold isType loadHead;exact wpAny_bind (wpAny_loadPart (k _ _ (X _ _ ho)) (wpAny_pure z))
  .cases hc
 ne:=λh tp dd its n sl X htp=>by
  obtain⟨cd,hc⟩:=bf.mp c.cl;refine Bool.eq_false_iff.mpr λq=>?_;obtain rfl:C=tp:=Value.ref.inj (beq_iff_eq.mp q);unfold clsIn at hc;split at hc
  .rename_i a1 a2 a3 a4 ho;have z:=(X _ _ ho).symm.trans htp;cases z
  .cases hc
 ca:=λX J k=>zbK X J c k
end
end _L2
namespace _L2
open PySem PySem.Spec PyProof.Rows
def Evl(t:TE)(σ:St)(H:Hp)(v:V):Prop:=∀Q:VK,Q v H->t σ H Q
def Tst(t:TT)(σ:St)(H:Hp)(p:Prop)[Decidable p]:Prop:=∀Q:Bool->Hp->Prop,Q (decide p) H->t σ H Q
section
variable{σ:St}{H:Hp}{ta tb tc:TE}{x y v:V}{i j k:Int}{K:PySem.W.Frag}{D:Ends}{n m:Nat}
theorem zh{i:Nat}(h:σ[i]?=some (some v)):Evl (tVar i) σ H v:=λQ q=>⟨v,h,q⟩
theorem zC:Evl (tC v) σ H v:=λQ q=>q
theorem zT{g:Int->Int->V}(a:Evl ta σ H (.int i))(b:Evl tb σ H (.int j)):Evl (tOp (rI0 g) ta tb) σ H (g i j):=λQ q=>a _ (b _ ⟨i,j,rfl,rfl,q⟩)
theorem wz{C:Int->Int->Prop}{g:Int->Int->V}(a:Evl ta σ H (.int i))(b:Evl tb σ H (.int j))(c:C i j):Evl (tOp (rI C g) ta tb) σ H (g i j):=λQ q=>a _ (b _ ⟨i,j,rfl,rfl,c,q⟩)
theorem Z0(a:Evl ta σ H (.int i))(b:Evl tb σ H (.int j)):Evl (tOp rEq ta tb) σ H (.bl (decide (i=j))):=λQ q=>a _ (b _ ⟨rfl,by
 have e:decide (V.int i=V.int j)=decide (i=j):=by
  rw[decide_eq_decide];exact⟨λz=>V.int.inj z,λz=>by rw[z]⟩
 rw[e];exact q⟩)
theorem zE{p:Addr}{xs:List V}(a:Evl ta σ H (.ref p))(b:Evl tb σ H (.int i))(h:SqT K H p xs)(e:atI xs i=some v):Evl (tOp (rIxT K) ta tb) σ H v:=λQ q=>a _ (b _ ⟨p,xs,i,v,rfl,rfl,h,e,q⟩)
theorem xW{p:Addr}{xs:List V}(a:Evl ta σ H (.ref p))(b:Evl tb σ H (.int i))(h:SqL K H p xs)(e:atI xs i=some v):Evl (tOp (rIxL K) ta tb) σ H v:=λQ q=>a _ (b _ ⟨p,xs,i,v,rfl,rfl,h,e,q⟩)
theorem yU{p:Addr}{ys:List V}(a:Evl ta σ H (.ref p))(h:SqL K H p ys):Evl (tCB (λxs H Q=>∃p ys,xs=[.ref p]/\(SqL K H p ys\/SqT K H p ys)/\Q (.int ys.length) H) (wc ta tNil)) σ H (.int ys.length):=λQ q=>a _ ⟨p,ys,rfl,.inl h,q⟩
theorem zae{g:Int->Int->V}(a:Evl ta σ H (.int i))(b:Evl tb σ H (.int j)):Evl (tCB (λxs H Q=>∃i j,xs=[.int i,.int j]/\Q (g i j) H) (wc ta (wc tb tNil))) σ H (g i j):=λQ q=>a _ (b _ ⟨i,j,rfl,q⟩)
theorem jd{f g:Int->Int->Bool}(a:Evl ta σ H (.int i))(b:Evl tb σ H (.int j))(c:Evl tc σ H (.int k)):Evl (XB (rI0 λi j=>.bl (f i j)) (rI0 λi j=>.bl (g i j)) ta tb tc) σ H (.bl (f i j&&g j k)):=λQ q=>a _ (b _ ⟨i,j,rfl,rfl,_,rfl,by
 cases e:f i j with
 |true =>
  rw[if_pos rfl];rw[e,Bool.true_and]at q;exact c _ ⟨j,k,rfl,rfl,q⟩
 |false =>
  rw[if_neg kH];rw[e,Bool.false_and]at q;exact q⟩)
theorem xK{p q:Bool}(a:Evl ta σ H (.bl p))(b:Evl tb σ H (.bl q)):Evl (QJ ta tb) σ H (.bl (p&&q)):=λQ z=>a _ ⟨p,rfl,by
 cases p with
 |true=>rw[if_pos rfl];exact b _ z
 |false=>rw[if_neg kH];exact z⟩
theorem yV{p:Prop}[Decidable p](a:Evl ta σ H (.bl (decide p))):Tst (Zn ta) σ H p:=λQ q=>a _ ⟨_,rfl,q⟩
theorem Qa{t u:TT}{p q:Prop}[Decidable p][Decidable q](a:Tst t σ H p)(b:Tst u σ H q):Tst (tAnd t u) σ H (p/\q):=λQ z=>a _ (by
 by_cases h:p
 .rw[decide_eq_true h,if_pos rfl];refine b _ ?_;have e:decide (p/\q)=decide q:=by rw[decide_eq_decide];exact⟨λz=>z.2,λz=>⟨h,z⟩⟩
  rw[<-e];exact z
 .rw[decide_eq_false h,if_neg kH];have e:decide (p/\q)=false:=decide_eq_false λz=>h z.1;rw[<-e];exact z)
theorem zdj{t:TT}{p:Prop}[Decidable p](a:Tst t σ H p):Tst (tNot t) σ H (¬p):=λQ z=>a _ (by
 have e:(!decide p)=decide (¬p):=by simp
 show Q (!decide p) H;rw[e];exact z)
theorem wM{t:TT}{a b:TS}{p:Prop}[Decidable p](h:Tst t σ H p)(h1:p->a D σ H)(h2:¬p->b D σ H):tIfS t a b D σ H:=h _ (by
 by_cases c:p
 .rw[decide_eq_true c,if_pos rfl];exact h1 c
 .rw[decide_eq_false c,if_neg kH];exact h2 c)
theorem zeG{t:TT}{a b u:TS}{p:Prop}[Decidable p](h:Tst t σ H p)(h1:p->a {D with nx:=u D} σ H)(h2:¬p->b {D with nx:=u D} σ H):tSeq (tIfS t a b) u D σ H:=wM h h1 h2
theorem xx{i:Nat}{u:TS}(h:Evl ta σ H v)(q:u D (σ.set i (some v)) H):tSeq (tAsg ta (zU i)) u D σ H:=h _ q
theorem wE(h:Evl ta σ H v)(q:D.rt v H):tRet ta D σ H:=h _ q
theorem wN{t1 t2 t3 t4:TE}{v1 v2 v3 v4:V}{Q:VK}(h1:Evl t1 σ H v1)(h2:Evl t2 σ H v2)(h3:Evl t3 σ H v3)(h4:Evl t4 σ H v4)(q:∀p,H p=none->Q (.ref p) (upd H p (.tup [v1,v2,v3,v4]))):
  tTup (wc t1 (wc t2 (wc t3 (wc t4 tNil)))) σ H Q:=h1 _ (h2 _ (h3 _ (h4 _ ⟨Zz4,q⟩)))
theorem z6(h:D.nx σ H):zcE D σ H:=h
theorem run_seq{t u:TS}(h:t {D with nx:=u D} σ H):tSeq t u D σ H:=h
end
open PySem.W
inductive TyX(K:Frag)(H:Hp):V->Value->Prop where
 |of{x:V}{t:Value}(h:TyOf K H x t):TyX K H x t
 |exc{ea C:Addr}(e:H ea=some (.ext (wZ ea C)))(c:jc K C):TyX K H (.ref ea) (.ref C)
def clsV:V->Value
 |.ref a=>.ref a
 |.ty n=>.type n
 |_=>.none
def zcG:V->Bool
 |.ref _=>true
 |.ty _=>true
 |_=>false
theorem zbM:∀{c:V}{u:Value},zcG c=true->RelV c u->u=clsV c
 |.ref _,_,_,r=>r
 |.ty _,_,_,r=>r
section
variable{X:Cx}
theorem zdk{pins:List (Addr×Obj)}{σ:St}{H:Hp}{s:Shared}{x:V}{u t:Value}(I:Inv X pins σ H s)(rx:RelV x u)(ty:TyX X.K H x t):∃J,KitX X.K u t J/\J s.heap/\u≠.builtin "__main__.__loader__#opaque" := by
 cases ty with
 |exc e c =>
  cases (show u=Value.ref _ from rx);obtain⟨J,_⟩:=I.hok _ _ e;exact⟨_,zbL c,J,λz=>nomatch z⟩
 |of ty =>
  cases ty with
  |non=>cases (show u=Value.none from rx);exact⟨_,kitx_none,True.intro,λz=>nomatch z⟩
  |bl y=>cases (show u=Value.bool y from rx);exact⟨_,kitx_bool,True.intro,λz=>nomatch z⟩
  |int i=>obtain⟨t,q⟩:=(show ∃t,u=Value.int i t from rx);cases q;exact⟨_,kitx_int,True.intro,λz=>nomatch z⟩
  |str y=>obtain⟨t,q⟩:=(show ∃t,u=Value.str y t from rx);cases q;exact⟨_,kitx_str,True.intro,λz=>nomatch z⟩
  |flt y=>obtain⟨t,q⟩:=(show ∃t,u=Value.float y t from rx);cases q;exact⟨_,kitx_float,True.intro,λz=>nomatch z⟩
  |@lst a xs ea =>
   cases (show u=Value.ref a from rx);obtain⟨_,_,n,_,h1⟩:=(show yq X.prog X.w H s.heap a (.lst xs)from I.hok a _ ea);exact⟨_,kitx_list,⟨_,h1,rfl⟩,λz=>nomatch z⟩
  |@frz a ob xs ea =>
   cases (show u=Value.ref a from rx);obtain⟨_,_,_,n,_,h1⟩:=(show yq X.prog X.w H s.heap a (.frz ob (.lst xs))from I.hok a _ ea);exact⟨_,kitx_list,⟨_,h1,rfl⟩,λz=>nomatch z⟩
  |@tup a xs ea =>
   cases (show u=Value.ref a from rx);obtain⟨_,_,_,p⟩:=(show yq X.prog X.w H s.heap a (.tup xs)from I.hok a _ ea);obtain⟨o,h1,h2,_⟩:=p;exact⟨_,kitx_tuple,⟨o,h1,h2⟩,λz=>nomatch z⟩
  |@dK a kvs ea =>
   cases (show u=Value.ref a from rx);obtain⟨_,_,vs,_,p⟩:=(show yq X.prog X.w H s.heap a (.dK kvs)from I.hok a _ ea);obtain⟨o,es,ep,h1,h2,_⟩:=p;exact⟨_,kitx_dict,⟨o,h1,h2.1⟩,λz=>nomatch z⟩
  |@dT a kvs ea =>
   cases (show u=Value.ref a from rx);obtain⟨_,_,xs,_,o,es,ep,h1,h2,_⟩:=(show yq X.prog X.w H s.heap a (.dT kvs)from I.hok a _ ea);exact⟨_,kitx_dict,⟨o,h1,h2.1⟩,λz=>nomatch z⟩
  |@ins a C dx fs ea cl ha hn htk hm =>
   cases (show u=Value.ref a from rx);obtain⟨mA,O,_⟩:=zdd I.hok ea;obtain⟨od,J,_⟩:=O.look;exact⟨_,kitx_own (cl.get _) cl.hd ha hn htk hm,J,λz=>nomatch z⟩
theorem yj:yI X (.builtin "isinstance") (λxs H Q=>∃x c t b,xs=[x,c]/\zcG c=true/\TyX X.K H x t/\kitOne X.K t (clsV c)=some b/\Q (.bl b) H):=by
 intro pins s σ H xs us Q I r h;refine E_4 h λx c t b n8=>A_5 n8 λe9 hc ty e q=>?_;clear n8 h;subst e9;obtain⟨u,v,rfl,r1,r2⟩:=vals2 r;rw[zbM hc r2];obtain⟨J,Z,hJ,hx⟩:=zdk I r1 ty;exact kia_one Z I.kIn hJ e hx λtk=>⟨.bl b,H,I.tok tk,rfl,q⟩
end
end _L2
namespace _L2
open PySem PySem.Spec PyProof.Rows
def ItE(K:PySem.W.Frag)(a:Addr):It :=
 ⟨λi H=>∃xs x,SqL K H a xs/\xs[i]?=some x,λi H x H'=>∃p y,H p=none/\x=.ref p/\H'=upd H p (.tup [.int i,y])/\∀xs,SqL K H a xs->xs[i]?=some y,λi H=>∃xs,SqL K H a xs/\xs.length<=i⟩
theorem QR{P:Program}{w:World}{K:PySem.W.Frag}{elts:List Expr}{kx:Nat}{px:Pos}(a e it:Addr)(hei:e≠it):
  Turn P w K (.Tuple elts kx px) (ItE K a) [e,it] e (λi h=>(∃old,IsEnum h e it (i:Nat) old)/\h.IsListIter it a i) where
 mem:=by simp
 obj:=λi h st b hb=>by
  obtain⟨⟨old,he⟩,⟨o,ho,c,d⟩⟩:=st;rcases kK.mp hb with rfl|hb
  .exact⟨_,he,λv z=>by
    have z':Data.fields _=Data.cell v:=z;cases z'⟩
  .obtain rfl:=kq.mp hb;exact⟨o,ho,λv z=>by rw[d]at z;cases z⟩
 keep:=λi h h' st k=>⟨let ⟨old,he⟩:=st.1;⟨old,k e (by simp) _ he⟩,st.2.at λo q=>k it (by simp) o q⟩
 item:=by
  intro X hP hw hK hc i pins s σ H E I hf st hg;subst hP hw hK;obtain⟨⟨old,he⟩,hit⟩:=st;obtain⟨xs,x,hq,hx⟩:=hg;obtain⟨its,rv,tp,hz⟩:=I.list hq;obtain⟨u,hu,ru⟩:=rv.get hx;have hil:i<xs.length:=(kf.mp hx).1;have tp':s.heap.IsList a its.toArray:=tp.isList;have nai:a≠it:=λz=>by
   obtain⟨o,g1,g2,_⟩:=tp';obtain⟨o',g1',g2',_⟩:=hit;rw[z,g1']at g1;cases g1;rw[g2']at g2;exact absurd g2 ⋯
  have nae:a≠e:=λz=>by
   obtain⟨o,g1,g2,_⟩:=tp';rw[z,he]at g1;cases g1;have g3:Value.type "enumerate" = Value.type "list" := g2;exact absurd g3 ⋯
  have D:=Draws.list (prog:=X.prog) (w:=X.w) (A:=X.A.in1) (by exact I.ok.hd hc) it a nai its.toArray;refine wpAny_pyNext_enum_itemD D he ⟨hit,tp'⟩ (by rw[ku,<-rv.length];exact hil) hei (by simp[hei,nae.symm]) λy h' tk hP ho hs' hT hsz hk=>?_;have ey:y=u:=by
   rw[uA,hu]at hP;exact(Option.some.inj hP).symm
  subst ey;refine⟨_,rfl,wpAny_letOwnedTupleGo_enum ho λh2 he2 hs2=>?_⟩;have ne1:s.heap.objs.size≠e:=uw (Heap.lt_size he);have k2:∀b o,b≠e->b≠it->s.heap.get? b=some o->h2.get? b=some o:=λb o n1 n2 q=>(hs2.2 b n1).trans (hk b o n1 n2 q);have I1:Inv X pins σ H {s with heap:=h2,toks:=tk+1}:=I.turned2 k2 (hf e (by simp)) (hf it (by simp));have hn:H s.heap.objs.size=none:=I.hok.fresh (km _);have FP:=I.fpOk (b:=s.heap.objs.size) (km _) hn;have hT2:h2.get? s.heap.objs.size=some {cls:=.type "tuple",data:=.seq #[.int i tk,y]}:=(hs2.2 _ ne1).trans hT;have I2:=I1.track (p:=s.heap.objs.size) (o:=.tup [.int i,x]) hn (Heap.get?_none_of_le I.sz) FP.2.1 FP.2.2.2.2.1 FP.2.2.2.2.2
   ⟨Zz2,[.int i tk,y],.cons ⟨tk,rfl⟩ (.cons ru .nil),⟨_,hT2,rfl,_,rfl⟩⟩
  refine⟨.ref s.heap.objs.size,_,I2,rfl,⟨_,x,hn,rfl,rfl,λys hy=>?_⟩,⟨⟨y,by simpa using he2⟩,hs'.1.at λo q=>(hs2.2 it hei.symm).trans q⟩,λb hb=>?_⟩
  .rw[I.list_inj hy hq];exact hx
  .have hb2:b≠s.heap.objs.size:=by
    rcases kK.mp hb with rfl|hb
    .exact ne1.symm
    .obtain rfl:=kq.mp hb;obtain⟨o,g,_⟩:=hit;exact vc (Heap.lt_size g)
   rw[zN hb2];exact(hf b hb).1
 done:=by
  intro X hP hw hK hc i pins s σ H E I hf st hg;subst hP hw hK;obtain⟨⟨old,he⟩,hit⟩:=st;obtain⟨xs,hq,hx⟩:=hg;obtain⟨its,rv,tp,hz⟩:=I.list hq;have tp':s.heap.IsList a its.toArray:=tp.isList;have nai:a≠it:=λz=>by
   obtain⟨o,g1,g2,_⟩:=tp';obtain⟨o',g1',g2',_⟩:=hit;rw[z,g1']at g1;cases g1;rw[g2']at g2;exact absurd g2 ⋯
  have hl:=rv.length;have hT:s.TypeIs (.ref e) "enumerate" := ⟨_,he,rfl⟩;obtain⟨f0,f1,f2,f3,f4,f5⟩:=hf it (by simp);unfold pyNext;refine wpAny_bind (wpAny_attempt (wpAny_callSpecial?_slot (name:=Str.ofString "__next__") hT F.slot_enumerate_next ?_));refine wpAny_call_entry F.slot_enumerate_next hT F.entry_enumerate_next ?_ (F.args_enumerate_next_1 _);show wpAny _ _ (field (.ref e) 2 >>= _) _ _ _;refine wpAny_bind (wpAny_field he rfl (x:=.ref it) rfl ?_);refine wpAny_bind (wpAny_nextOf_list_end (by exact I.ok.hd hc) hit tp' (by simp;lia) λh' x ext hex=>?_);obtain⟨o,g1,g2⟩:=hex;refine wpAny_bind (wpAny_isInstance (T := "StopIteration") (b:=true) ⟨o,g1,g2⟩ isSubtype_stop ?_);exact wpAny_pure ⟨rfl,I.turned (t':=s.toks) (λb ob nb q=>ext b ob nb q) f0 f1 f3 f4 f5⟩
 self:=λ_ _ _ _ _ st h=>let ⟨⟨_,he⟩,_⟩:=st;wpAny_pyIter_enum he h
def iEnL(K:PySem.W.Frag)(ta:TA):TI:=λσ H R=>ta σ H λvs H1=>∃a,vs=[.ref a]/\(∃xs,SqL K H1 a xs)/\R (ItE K a) H1
theorem XM{X:Cx}{l:Expr}{ta:TA}{elts:List Expr}{kx:Nat}{px p pos:Pos}(hg:Gl X "enumerate")(hm:X.mg "enumerate"=none)(ha:PA X [l] ta)(hs:starEach [l] X.env=[(false,eval l X.env)]:=by rfl):
  PI X (.Tuple elts kx px) (.Call (.Name "enumerate" p) [l] [] pos) (iEnL X.K ta):=by
 intro pins s σ H R I h;refine Call_ (yR I hg hm boot_enumerate (vB (thn (ha pos pins s σ H _ I h) λus s1 ⟨vs,H1,I1,r1,q1⟩=>?_) hs rfl));obtain⟨a,e,⟨xs,hq⟩,q⟩:=q1;subst e;cases r1 with
 |cons r rr =>
  cases rr;cases r;obtain⟨its,rv,tp,hz⟩:=I1.list hq;refine call_enumerate_list tp.isList λh' he hit hsz hk=>?_;refine wpAny_pyIter_enum he ?_;refine I_5 (s1.heap.objs.size+1) [s1.heap.objs.size+1,s1.heap.objs.size] _ _ H1 ⟨rfl,I1.kept (t':=s1.toks) hk,QR a _ _ (Nat.succ_ne_self _),⟨⟨_,he⟩,hit⟩,λb hb=>?_,q⟩;rcases kK.mp hb with rfl|hb
  .exact I1.fpOk (vV _) (I1.hok.fresh (vV _))
  .obtain rfl:=kq.mp hb;exact I1.fpOk (km _) (I1.hok.fresh (km _))
theorem YC{K:PySem.W.Frag}{a:Addr}{xs:List V}{g:TG}{tb:TS}{D:Ends}{σ:St}{H:Hp}(Pv:Nat->St->Hp->Prop)(h0:Pv 0 σ H)(hl:∀i σ H,i<=xs.length->Pv i σ H->SqL K H a xs)
  (hs:∀i x σ H p,xs[i]?=some x->Pv i σ H->H p=none->g (.ref p) σ (upd H p (.tup [.int i,x])) λσ2 H2=>tb {D with nx:=Pv (i+1),ct:=Pv (i+1),bk:=D.nx} σ2 H2)(hd:∀σ H,Pv xs.length σ H->D.nx σ H):
  ∃W:Nat->Nat->St->Hp->Prop,(∃m,W 0 m σ H)/\∀i m σ H,W i m σ H ->
   ((ItE K a).stop i H/\D.nx σ H)\/((ItE K a).go i H/\∃N:St->Hp->Prop,(∀σ' H',N σ' H'->∃m',m'<m/\W (i+1) m' σ' H')/\∀x H',(ItE K a).yld i H x H'->g x σ H' λσ2 H2=>tb {D with nx:=N,ct:=N,bk:=D.nx} σ2 H2):=by
 refine⟨λi m σ H=>m=xs.length-i/\i<=xs.length/\Pv i σ H,⟨xs.length,by simp,kN _,h0⟩,?_⟩;rintro i m σ H ⟨rfl,hi,p⟩;have q:=hl i σ H hi p;by_cases hlt:i<xs.length
 .refine .inr ⟨⟨xs,xs[i],q,by simp[hlt]⟩,Pv (i+1),λσ' H' p'=>⟨xs.length-(i+1),by omega,rfl,hlt,p'⟩,λx H' y=>?_⟩;obtain⟨pp,v,hn,e1,e2,y⟩:=y;subst e1 e2;exact hs i v σ H pp (y xs q) p hn
 .have e:i=xs.length:=()
  subst e;exact .inl ⟨⟨xs,q,km _⟩,hd σ H p⟩
section
variable{X:Cx}
theorem YD{pins:List (Addr×Obj)}{σ:St}{H:Hp}{s:Shared}{a:Addr}{its:List Value}(I:Inv X pins σ H s)(tp:s.heap.IsList a its.toArray)(hc:X.calm=true){Q:Value->Shared->Prop}
  (q:∀s2:Shared,s2={s with heap:=s.heap.push {cls:=.type "list_iterator",data:=.fields #[.ref a,.int 0 0]}}->Walks X.prog X.w X.A.in1 s.heap.objs.size [s.heap.objs.size,a] [s.heap.objs.size] its.toArray.size (λi v=>its.toArray[i]?=some v) (λi h=>h.IsListIter s.heap.objs.size a i/\h.IsList a its.toArray) ->
   (s2.heap.IsListIter s.heap.objs.size a 0/\s2.heap.IsList a its.toArray)->(∀b∈[s.heap.objs.size,a],b<s2.heap.objs.size)->Q (.ref s.heap.objs.size) s2):wpAny (model X.prog X.w) X.A.in1 (pyIter (.ref a)) Q X.xe s:=by
 have hlt:a<s.heap.objs.size:=by obtain⟨_,e,_⟩:=tp;exact Heap.lt_size e
 refine wpAny_pyIter_list tp (q _ rfl (Walks.list (by exact I.ok.hd hc) _ _ (vc hlt) _) ⟨⟨_,Heap.get?_push_size _ rfl,rfl,rfl⟩,?_⟩ λb hb=>?_)
 .obtain⟨o,e,r⟩:=tp;exact⟨o,Heap.get?_push_of_some _ e,r⟩
 .show b<(s.heap.push _).objs.size;rw[Heap.size_push];rcases kK.mp hb with rfl|hb
  .exact vH _
  .rw[kq.mp hb];exact vG hlt
theorem we(ns:List Int):∀k,k<=ns.length->preSum (λi=>ns.getD i 0) k=(ns.take k).sum
 |0,_=>rfl
 |k+1,h=>by
  show preSum _ k+ns.getD k 0=_;rw[we ns k (),<-kC (by assumption:k<ns.length),bm,getD_at (by assumption)];simp
theorem zaf(hc:X.calm=true):yI X (.builtin "sum") (λxs H Q=>∃(a:Addr)(ns:List Int),xs=[.ref a]/\SqL X.K H a (ns.map V.int)/\(∀z∈ns,-(2^63)<=z/\z<2^63)/\(∀k,k<=ns.length -> -(2^63)<=(ns.take k).sum/\(ns.take k).sum<2^63)/\Q (.int ns.sum) H):=by
 intro pins s σ H xs us Q I r h;refine E_2 h λa ns n8=>A_5 n8 λe9 hq h1 h2 q=>?_;clear n8 h;subst e9;obtain⟨u,rfl,ru⟩:=vals1 r;cases ru;obtain⟨its,rv,tp,hz⟩:=I.list hq;have hl:=rv.length;rw[ke]at hl;refine call_sum_walk (YD I tp.isList hc λs2 e W st hfp=>?_);subst e;refine⟨_,_,_,_,_,_,λi=>ns.getD i 0,rfl,W,st,hfp,xm rv,λj hj=>?_,λh' tk t' hk=>?_⟩
 .rw[ku]at hj;refine⟨?_,?_⟩
  .show -(2^63)<=ns.getD j 0/\ns.getD j 0<2^63;rw[getD_at ()];exact h1 _ (vv _)
  .rw[we ns (j+1) ()];exact h2 (j+1) ()
 .refine⟨.int ns.sum,H,I.kept (t':=tk) λb o e=>hk b o (λm=>?_) (Heap.get?_push_of_some _ e),⟨t',?_⟩,q⟩
  .have:=Heap.lt_size e;rw[kq.mp m]at this;exact vP _ this
  .rw[ku,<-hl,we ns _ (km _),kJ]
end
theorem zdl{A B:Prop}(h:if false=true then A else B):B:=by rwa [if_neg kH]at h
theorem zdm{A B:Prop}(h:if true=true then A else B):A:=by rwa [if_pos rfl]at h
def yi(X:Cx)(Nc:List Str)(scope:Scope)(cl:List (Str×Addr))(s:Shared)(H:Hp)(C:Addr)(fp:List Addr):Cx :=
 {X with N:=Nc,s₀:=s,H₀:=H,env:=compEnvC scope cl C X.env,outer:=X.stack,ex:=fp,fn:=λ_=>false,pn:=[],xe:=λ_ _=>False}
def seen(ix:List (Option Nat))(σ:St):St:=ix.map λo=>match o with
 |some j=>(σ[j]?).getD none
 |none=>none
theorem QS{scope:Scope}{env:Env}(h:∀x∈scope.names,x.2=.free->∃c,env.cells.lookup x.1=some c):
  ∃cl,closureFor scope env=pure cl/\(∀x c,cl.lookup x=some c->env.cells.lookup x=some c)/\∀x∈scope.names,x.2=.free->∃c,cl.lookup x.1=some c:=by
 have go:∀(ns:List (Str×NameKind))(cs:List (Str×Addr)),(∀x∈ns,x.2=.free->∃c,env.cells.lookup x.1=some c)->(∀x c,cs.lookup x=some c->env.cells.lookup x=some c) ->
   ∃cl,(forIn ns cs λ(x:Str×NameKind)(r:List (Str×Addr))=>(if(x.2==.free)=true then(do let c <-cellOf env x.1;pure (ForInStep.yield ((x.1,c)::r)))else pure (ForInStep.yield r):Sem _))=pure cl /\
    (∀x c,cl.lookup x=some c->env.cells.lookup x=some c)/\(∀x∈ns,x.2=.free->∃c,cl.lookup x.1=some c)/\∀x c,cs.lookup x=some c->∃c',cl.lookup x=some c':=by
  intro ns
  induction ns with
  |nil=>intro cs _ h2;exact⟨cs,rfl,h2,λx hx=>(nomatch hx),λx c e=>⟨c,e⟩⟩
  |cons p r ih =>
   obtain⟨n,k⟩:=p;intro cs h1 h2;by_cases hk:k=.free
   .subst hk;obtain⟨c,hc⟩:=h1 (n,.free) kg rfl;have hcs:∀x c',bQ x ((n,c)::cs)=some c'->env.cells.lookup x=some c':=λx c' e=>by
     rw[vI]at e;cases hx:x==n with
     |true=>rw[hx]at e;cases e;rw[eq_of_beq hx];exact hc
     |false=>rw[hx]at e;exact h2 x c' e
    obtain⟨cl,e1,e2,e3,e4⟩:=ih ((n,c)::cs) (λx hx=>h1 x (kn _ hx)) hcs;refine⟨cl,?_,e2,λx hx hf=>?_,λx c' e=>?_⟩
    .rw[bJ];have:cellOf env n=pure c:=by unfold cellOf;rw[hc]
     simp only[beq_self_eq_true,if_true,this,pure_bind];exact e1
    .rcases kK.mp hx with rfl|hx
     .exact e4 n c (by rw[vI,beq_self_eq_true])
     .exact e3 x hx hf
    .cases hx:x==n with
     |true=>exact e4 x c (by rw[vI,hx])
     |false=>exact e4 x c' (by rw[vI,hx];exact e)
   .obtain⟨cl,e1,e2,e3,e4⟩:=ih cs (λx hx=>h1 x (kn _ hx)) h2;refine⟨cl,?_,e2,λx hx hf=>?_,e4⟩
    .rw[bJ];have hb:(k==NameKind.free)=false:=by simpa using hk
     simp only[hb,uR,if_false,pure_bind];exact e1
    .rcases kK.mp hx with rfl|hx
     .exact absurd hf hk
     .exact e3 x hx hf
 obtain⟨cl,e1,e2,e3,_⟩:=go scope.names [] h (λx c e=>by cases e);refine⟨cl,?_,e2,e3⟩;unfold closureFor;simp only[bind_pure];exact e1
def PTs(X:Cx)(ifs:List Expr)(t:TT):Prop :=
 ∀(pins:List (Addr×Obj))(s:Shared)(σ:St)(H:Hp)(Q:Bool->Hp->Prop),Inv X pins σ H s->t σ H Q ->
  wpAny (model X.prog X.w) X.A (forIn ifs true λc r=>if r=true then do let ok <-isTrue c X.env (eval c X.env);pure (ForInStep.yield ok)else pure (ForInStep.yield r)) (TP X pins σ Q) X.xe s
def tYes:TT:=λ_ H Q=>Q true H
theorem zP{X:Cx}:PTs X [] tYes:=λ_ _ _ H _ I h=>wpAny_tests_nil ⟨H,I,h⟩
theorem jF{X:Cx}{c:Expr}{t:TT}(h:PT X c t):PTs X [c] t:=λpins s σ H Q I q=>wpAny_tests_one (h pins s σ H Q I q)
def XN(wi:TI)(ix:List (Option Nat))(g:TG)(tc:TT)(te:TE)(σ:St)(H:Hp)(R:List V->Hp->Prop):Prop:=wi σ H λJ H1=>∃W:Nat->Nat->List V->St->Hp->Prop,(∃m,W 0 m [] (seen ix σ) H1)/\∀i m ys σ' H',W i m ys σ' H' ->
 (J.stop i H'/\ys.length<=sizeLine/\R ys H') \/
 (J.go i H'/\ys.length<=sizeLine/\∃N:List V->St->Hp->Prop,(∀ys' σ2 H2,N ys' σ2 H2->∃m',m'<m/\W (i+1) m' ys' σ2 H2) /\
  ∀x H2,J.yld i H' x H2->g x σ' H2 λσ2 H3=>tc σ2 H3 λb H4=>if b=true then te σ2 H4 λy H5=>N (ys++[y]) σ2 H5 else N ys σ2 H4)
def zf1(wi:TI)(ix:List (Option Nat))(g:TG)(tc:TT)(te:TE):TE:=λσ H Q=>XN wi ix g tc te σ H λys H'=>∀l,H' l=none->Q (.ref l) (upd H' l (.lst ys))
def Zw(scope outer:Scope)(N Nc:List Str)(ix:List (Option Nat)):Bool :=
 scope.names.all (λy=>y.2 != .cell)&&scope.kind==.function&&scope.names.all (λy=>y.2 != .local||scope.names.lookup y.1==some .local) &&
 scope.names.all (λy=>y.2 != .free||outer.names.lookup y.1==some .cell||outer.names.lookup y.1==some .free)&&ix.length==Nc.length &&
 (kR Nc.length).all λi=>match ix[i]?,Nc[i]? with
  |some (some j),some x=>N[j]? == some x&&(outer.names.lookup x==some .cell||outer.names.lookup x==some .free)&&scope.names.lookup x==some .free
  |_,_=>true
theorem qx{env:Env}:∀{names:List (Str×NameKind)}{y:Str}{k:NameKind},(∀z∈names,z.2≠.cell) ->
  (names.map λ(n,k)=>if(k==NameKind.free&&env.scope.kind==.function&&env.kindOf n==some .cell)then(n,NameKind.cell)else (n,k)).lookup y=some k->k=.cell\/k=.free->∃z∈names,z.1=y/\z.2=.free
 |[],_,_,_,h,_=>by simp at h
 |(n,k0)::r,y,k,hc,h,hk=>by
  rw[kY]at h;have h:bQ y ((if(k0==NameKind.free&&env.scope.kind==.function&&env.kindOf n==some .cell)=true then(n,NameKind.cell)else (n,k0))::_)=some k:=h;cases hx:y==n with
  |true =>
   by_cases hb:(k0==NameKind.free&&env.scope.kind==.function&&env.kindOf n==some .cell)=true
   .simp only[vi,beq_iff_eq]at hb;exact⟨(n,k0),kg,(eq_of_beq hx).symm,hb.1.1⟩
   .rw[if_neg hb,vI,hx]at h;cases h;rcases hk with rfl|rfl
    .exact absurd rfl (hc (n,.cell) kg)
    .exact⟨(n,.free),kg,(eq_of_beq hx).symm,rfl⟩
  |false =>
   have h':bQ y (r.map λ(n,k)=>if(k==NameKind.free&&env.scope.kind==.function&&env.kindOf n==some .cell)then(n,NameKind.cell)else (n,k))=some k:=by
    by_cases hb:(k0==NameKind.free&&env.scope.kind==.function&&env.kindOf n==some .cell)=true
    .rw[if_pos hb,vI,hx]at h;exact h
    .rw[if_neg hb,vI,hx]at h;exact h
   obtain⟨z,hz,e1,e2⟩:=qx (λz hz=>hc z (kn _ hz)) h' hk;exact⟨z,kn _ hz,e1,e2⟩
theorem wO{env:Env}:∀{names:List (Str×NameKind)}{y:Str},names.lookup y=some .free ->
  (names.map λ(n,k)=>if(k==NameKind.free&&env.scope.kind==.function&&env.kindOf n==some .cell)then(n,NameKind.cell)else (n,k)).lookup y=some .cell \/
  (names.map λ(n,k)=>if(k==NameKind.free&&env.scope.kind==.function&&env.kindOf n==some .cell)then(n,NameKind.cell)else (n,k)).lookup y=some .free
 |[],_,h=>by simp at h
 |(n,k0)::r,y,h=>by
  rw[kY];show bQ y ((if(k0==NameKind.free&&env.scope.kind==.function&&env.kindOf n==some .cell)=true then(n,NameKind.cell)else (n,k0))::_)=_\/bQ y ((if(k0==NameKind.free&&env.scope.kind==.function&&env.kindOf n==some .cell)=true then(n,NameKind.cell)else (n,k0))::_)=_;cases hx:y==n with
  |true =>
   rw[vI,hx]at h;cases h;by_cases hb:((NameKind.free==NameKind.free)&&env.scope.kind==.function&&env.kindOf n==some .cell)=true
   .rw[if_pos hb,vI,hx];exact .inl rfl
   .rw[if_neg hb,vI,hx];exact .inr rfl
  |false =>
   rw[vI,hx]at h;by_cases hb:(k0==NameKind.free&&env.scope.kind==.function&&env.kindOf n==some .cell)=true
   .rw[if_pos hb,vI,hx];exact wO h
   .rw[if_neg hb,vI,hx];exact wO h
theorem YE{X:Cx}{elt tg iter:Expr}{ifs:List Expr}{scope:Scope}{pos ipos:Pos}{Nc:List Str}{ix:List (Option Nat)}{wi:TI}{g:TG}{tc:TT}{te:TE}{use:Option (Value->Sem Unit)}{Q':Value->Shared->Prop}{R:List V->Hp->Prop}
  {pins:List (Addr×Obj)}{σ:St}{H:Hp}{s:Shared}(hc:X.calm=true)
  (hcell:∀y∈scope.names,y.2≠.cell)(hkind:scope.kind=.function)(hnames:∀y∈scope.names,y.2=.local->scope.names.lookup y.1=some .local)
  (hfree:∀y∈scope.names,y.2=.free->X.env.kindOf y.1=some .cell\/X.env.kindOf y.1=some .free)(hvis:∀y k,(relabel scope X.env).names.lookup y=some k->k=.cell\/k=.free->∃z∈scope.names,z.1=y/\z.2=.free)
  (hlen:ix.length=Nc.length)(hix:∀(i:Nat)(x:Str)(j:Nat),Nc[i]?=some x->ix[i]?=some (some j)->X.N[j]?=some x/\Vis X.env.scope x/\(X.env.kindOf x=some .local->False)/\((relabel scope X.env).names.lookup x=some .cell\/(relabel scope X.env).names.lookup x=some .free))
  (hi:PI X tg iter wi)(hg:∀cl s H C fp,PG (yi X Nc scope cl s H C fp) tg g)(hifs:∀cl s H C fp,PTs (yi X Nc scope cl s H C fp) ifs tc)(he:∀cl s H C fp,PE (yi X Nc scope cl s H C fp) elt te)
  (hs:∀x,foldedSetIterable iter X.env x=pure x)(I:Inv X pins σ H s)(h:XN wi ix g tc te σ H R)
  (fin:∀(D C:Addr)(oC:Obj)(ys:List V)(H3:Hp)(s4:Shared),(∃m,∀h':Heap,h'.get? C=some oC->h'.Ns C m)->H3 D=none->(upd H3 D (.lst ys)) C=none->wy X pins C->Inv X (pins++[(C,oC)]) σ (upd H3 D (.lst ys)) s4->R ys H3 ->
   compPost (model X.prog X.w) X.A X.xe use Q' (.ref D) C (.ok .next) s4):
  wpAny (model X.prog X.w) X.A (comprehension (.ListComp elt [⟨tg,iter,ifs,0⟩] scope pos) scope X.env ipos (newList []) false (eval iter X.env) use) Q' X.xe s:=by
 obtain⟨cl,hclos,clX,clF⟩:=QS (scope:=scope) (env:=X.env) λx hx hf=>I.ok.has x.1 (hfree x hx hf);refine wpAny_comprehension_free (use:=use) rfl hs hclos hkind hnames (thn (hi pins s σ H _ I h) λv s1 h1=>thn h1 λitv s2 h2=>?_);obtain⟨it,fp,tn,J,H1,rfl,I1,T,t0,hfp,W,⟨m0,w0⟩,turn⟩:=h2;refine wpAny_newObj_type (wpAny_newFunctionEnv hcell (by intro y hy;simp at hy) (λh₁ hns₁ hsb₁=>?_) hkind);dsimp only at hns₁ hsb₁ ⊢;generalize hH2:s2.heap.push {cls:=.type "list",dict:=none,data:=.seq ([]:List Value).toArray}=H2 at hns₁ hsb₁ ⊢;have hC:H2.objs.size=s2.heap.objs.size+1:=by rw[<-hH2,Heap.size_push]
 have hDC:s2.heap.objs.size≠H2.objs.size:=by rw[hC];exact vc (vH _)
 have old:∀b o,s2.heap.get? b=some o->h₁.get? b=some o:=λb o e=>by
  have hb:=Heap.lt_size e;exact hsb₁.extBut b o (by rw[hC];exact vc (vG hb)) (Heap.get?_push_of_some _ (hH2 ▸ Heap.get?_push_of_some _ e))
 obtain⟨e0,hacc⟩:∃e0,h₁.get? s2.heap.objs.size=some (seqObj "list" ([]:List Value).toArray e0):=⟨_,hsb₁.extBut _ _ hDC (Heap.get?_push_of_some _ (hH2 ▸ Heap.get?_push_size _ rfl))⟩;generalize hCC:H2.objs.size=C at hns₁ hsb₁ hDC hC ⊢;generalize hDD:s2.heap.objs.size=D at hDC hC hacc ⊢;have hDle:s2.heap.objs.size<=D:=uO hDD;have hCle:s2.heap.objs.size<=C:=by rw[hC,<-hDD];exact vV _
 have yD:=I1.young hDle;have nD:H1 D=none:=I1.hok.fresh hDle;have nC:H1 C=none:=I1.hok.fresh hCle;have fpLt:∀b∈fp,b<s2.heap.objs.size:=λb hb=>by
  obtain⟨o,e,_⟩:=T.obj 0 _ t0 b hb;exact Heap.lt_size e
 have fpD:D∉fp:=λhm=>absurd (fpLt _ hm) (uc.mpr hDle);have fpC:C∉fp:=λhm=>absurd (fpLt _ hm) (uc.mpr hCle);have frN:∀b∈frs X.stack,b<s2.heap.objs.size:=λb hb=>by
  obtain⟨_,o,ho,_⟩:=I1.stack.mem hb;exact Heap.lt_size ho
 have frFp:∀b∈fp,b∉frs X.stack:=λb hb hm=>by
  rcases kK.mp (I1.stkSub b hm)with z|z
  .exact(hfp b hb).2.1 z
  .exact(hfp b hb).2.2.1 z
 -- the block's context
 have ok:(yi X Nc scope cl s2 H1 C fp).Ok :=
  ⟨I.ok.mod,(by show(relabel scope X.env).kind=_;exact hkind),I.ok.glob,I.ok.blt,hCle,(λx y c e1 e2=>I.ok.inj x y c (clX x c e1) (clX y c e2)),
   (λx hx=>by
    obtain⟨z,hz,rfl,hf⟩:∃z∈scope.names,z.1=x/\z.2=.free:=by
     rcases hx with hx|hx
     .exact hvis x _ hx (.inl rfl)
     .exact hvis x _ hx (.inr rfl)
    exact clF z hz hf),(λx c z=>nomatch z),I.ok.hd,I.ok.frames,.inl rfl,
   (λb hb=>⟨λz=>fpC ((show b=C from z) ▸ hb),λx c e=>(hfp b hb).2.2.2.2.1 x c (clX x c e)⟩),(λb o e=>I1.bs b o e),kw I.ok.bsz I1.sz,
   (λb o e hb=>by
    rcases(hfp b hb).2.2.2.1 with z|z
    .exact I.ok.noex b o e z
    .have:=Heap.lt_size (I.ok.bs b o e).1;exact absurd this (uc.mpr z)),
   frFp,I1.stack,I1.stkFree⟩
 have start:∀tk,Inv (yi X Nc scope cl s2 H1 C fp) [(D,seqObj "list" ([]:List Value).toArray e0)] (seen ix σ) H1 {s2 with heap:=h₁,toks:=tk}:=λtk=>by
  refine⟨ok,rfl,I1.bare,Un.kept old,⟨_,hns₁,λi x v e1 e2 e3=>?_⟩,λx c e=>?_,nC,λx c e=>I1.freeC x c (clX x c e),λp hp=>?_,I1.hok.kept old,by show(seen ix σ).length=Nc.length;unfold seen;rw[ke];exact hlen⟩
  .unfold seen at e2;rw[kM]at e2;cases ei:ix[i]? with
   |none=>rw[ei]at e2;cases e2
   |some o =>
    rw[ei]at e2;cases o with
    |none=>cases e2
    |some j =>
     have e2':(σ[j]?).getD none=some v:=Option.some.inj e2;have e2'':σ[j]?=some (some v):=by
      cases ej:σ[j]? with
      |none=>rw[ej]at e2';cases e2'
      |some z=>rw[ej]at e2';exact congrArg some e2'
     obtain⟨n1,n2,n3,n4⟩:=hix i x j e1 ei;obtain⟨m,hm,hl⟩:=I1.loc;obtain⟨u,ru,lk⟩:=hl j x v n1 e2'' n2;refine⟨u,ru,.inr ⟨n4,?_⟩⟩;rcases lk with⟨k,_⟩|⟨_,c,ec,hc'⟩
     .exact(n3 k).elim
     .obtain⟨z,hz,rfl,hf⟩:∃z∈scope.names,z.1=x/\z.2=.free:=by
       rcases n4 with hx|hx
       .exact hvis x _ hx (.inl rfl)
       .exact hvis x _ hx (.inr rfl)
      obtain⟨c',ec'⟩:=clF z hz hf;have:c'=c:=Option.some.inj ((clX _ _ ec').symm.trans ec);subst this;obtain⟨o,ho,hd⟩:=hc';exact⟨c',ec',o,old _ o ho,hd⟩
  .obtain⟨v,o,ho,hd⟩:=I1.cell x c (clX x c e);exact⟨v,o,old _ o ho,hd⟩
  .have hp':p=(D,seqObj "list" ([]:List Value).toArray e0):=by simpa[yi]using hp
   subst hp';exact⟨hacc,nD,hDC,λhm=>absurd (frN _ hm) (uc.mpr hDle),λv z=>by cases z⟩
 have stat:∀{ks:List Value}{e:Nat}{H':Hp},(∀b∈fp,H' b=none)->∀b∈fp,FpOk (yi X Nc scope cl s2 H1 C fp) [(D,seqObj "list" ks.toArray e)] H' b:=λ{ks e H'} hn b hb =>
  ⟨hn b hb,λz=>fpC ((show b=C from z) ▸ hb),frFp b hb,.inl hb,λx c ec=>(hfp b hb).2.2.2.2.1 x c (clX x c ec),λp hp z=>by
   have hp':p=(D,seqObj "list" ks.toArray e):=by simpa[yi]using hp
   subst hp';exact fpD ((show b=D from z.symm) ▸ hb)⟩
 have loop:∀tk,codeAny (model X.prog X.w) X.A (.compLoop (.ListComp elt [⟨tg,iter,ifs,0⟩] scope pos) 0 (.ref it) (.ref D) (compEnvC scope cl C X.env)) (compPost (model X.prog X.w) X.A X.xe use Q' (.ref D) C) {s2 with heap:=h₁,toks:=tk}:=λtk=>by
  refine codeAny_loop rfl (λn s'=>∃i ys ks e σ' H',Inv (yi X Nc scope cl s2 H1 C fp) [(D,seqObj "list" ks.toArray e)] σ' H' s'/\Vals ys ks/\tn i s'.heap/\(∀b∈fp,H' b=none)/\W i n ys σ' H') ?_ m0
   ⟨0,[],[],e0,_,H1,start tk,.nil,T.keep _ _ _ t0 λb _ o e=>old b o e,λb hb=>(hfp b hb).1,w0⟩
  rintro n s3 ⟨i,ys,ks,e,σ3,H3,I3,rv,st3,fr3,w3⟩;show wpAny _ X.A ((compTurn (.ListComp elt [⟨tg,iter,ifs,0⟩] scope pos) 0 (.ref it) (.ref D) (compEnvC scope cl C X.env)).onRaise (λx=>do noteFrame x (compEnvC scope cl C X.env);theTreesLotGoes x)) _ _ s3;refine wpAny_noted ?_;rw[compTurn_list];refine wpAny_bind (wpAny_standAt ?_);have lk:=rv.length;rcases turn i n ys σ3 H3 w3 with⟨stop,sz,q⟩|⟨go,sz,N,hN,step⟩
  .refine wpAny_bind (thn (T.done (yi X Nc scope cl s2 H1 C fp) rfl rfl rfl hc i _ s3 σ3 H3 _ I3 (stat fr3) st3 stop) λr s4 h9=>?_);obtain⟨hr,I4⟩:=h9;subst hr;refine wpAny_pure ?_;obtain⟨m,⟨oC,esC,epC,hoC,hdC,rC⟩,_⟩:=I4.loc;have hoC:s4.heap.get? C=some oC:=hoC;have pD:=I4.pin (D,seqObj "list" ks.toArray e) (kO _ kg);have nC4:H3 C=none:=I4.free;have yC:=I1.young hCle;have I5:Inv X pins σ H3 s4:=I1.call' (ch:=fp) I4.os (show Un (frs X.stack) fp H1 H3 s2.heap s4.heap from I4.base) I4.hok I4.bare λb hb=>⟨(hfp b hb).2.2.2.1,(hfp b hb).2.1,(hfp b hb).2.2.2.2.1,(hfp b hb).2.2.2.2.2⟩;have I6:=I5.track (p:=D) (o:=.lst ys) pD.2.1 (Heap.get?_none_of_le (kw I1.sz hDle)) yD.lo yD.ce yD.pi ⟨sz,ks,e,rv,pD.1⟩;have nC6:(upd H3 D (.lst ys)) C=none:=by rw[zN hDC.symm];exact nC4
   have I7:Inv X (pins++[(C,oC)]) σ (upd H3 D (.lst ys)) s4:=I6.pins_of λp hp=>by
    rcases k7.mp hp with hp|hp
    .exact I6.pin p (kO _ hp)
    .obtain rfl:=kq.mp hp;exact⟨hoC,nC6,yC.lo,yC.fs,λv z=>by rw[hdC]at z;cases z⟩
   exact fin D C oC ys H3 s4 ⟨m,λh' e'=>⟨oC,esC,epC,e',hdC,rC⟩⟩ pD.2.1 nC6 yC I7 q
  .refine wpAny_bind (thn (T.item (yi X Nc scope cl s2 H1 C fp) rfl rfl rfl hc i _ s3 σ3 H3 _ I3 (stat fr3) st3 go) λr s4 h9=>?_);obtain⟨u,hr,h4⟩:=h9;subst hr;refine wpAny_bind (thn h4 λ_ s5 h9=>?_);obtain⟨x,H5,I5,r5,y5,st5,fr5⟩:=h9;have I5':=I5.pinned (stat fr5) (T.obj _ _ st5);refine wpAny_bind (wpAny_mono (hg cl s2 H1 C fp _ s5 σ3 H5 x u _ I5' r5 (step x H5 y5)) (λ_ s6 ⟨σ6,H6,I6,q6⟩=>?_) λ_ _ z=>False.elim z);refine wpAny_bind (wpAny_mono (hifs cl s2 H1 C fp _ s6 σ6 H6 _ I6 q6) (λok s7 ⟨H7,I7,q7⟩=>?_) λ_ _ z=>False.elim z);have fin:∀{ks':List Value}{e':Nat}{ys':List V}{σ8:St}{H8:Hp}{s8:Shared},Inv (yi X Nc scope cl s2 H1 C fp) ([(D,seqObj "list" ks'.toArray e')]++wj fp s5.heap) σ8 H8 s8->Vals ys' ks'->N ys' σ8 H8 ->
     ∃m,m<n/\∃i ys ks e σ' H',Inv (yi X Nc scope cl s2 H1 C fp) [(D,seqObj "list" ks.toArray e)] σ' H' s8/\Vals ys ks/\tn i s8.heap/\(∀b∈fp,H' b=none)/\W i m ys σ' H':=λ{ks' e' ys' σ8 H8 s8} I8 rv' n8=>by
    obtain⟨m',hm,w8⟩:=hN _ σ8 H8 n8;refine⟨m',hm,i+1,ys',ks',e',σ8,H8,I8.unpinned,rv',T.keep _ _ _ st5 λb hb o eo=>(I8.pin (b,o) (kO _ (kO _ (wv hb eo)))).1,λb hb=>?_,w8⟩;obtain⟨o,eo,d⟩:=T.obj _ _ st5 b hb;exact(I8.pin (b,o) (kO _ (kO _ (wv hb eo)))).2.1
   cases ok with
   |false =>
    have q7:=zdl q7;exact wpAny_pure ⟨rfl,fin I7 rv q7⟩
   |true =>
    have q7:=zdm q7;refine wpAny_bind (wpAny_bind (wpAny_mono (he cl s2 H1 C fp _ s7 σ6 H7 _ I7 q7) (λy s8 ⟨vy,H8,I8,ry,n8⟩=>?_) λ_ _ z=>False.elim z));have pD:=I8.pin (D,seqObj "list" ks.toArray e) (kO _ (vJ _ kg));refine wpAny_bind (wpAny_list_append_plain (hsz:=by rw[ku,<-lk];exact sz) ⟨e,pD.1⟩ λh9 hl9 hs9=>?_);refine wpAny_pure (wpAny_pure ⟨rfl,?_⟩);obtain⟨e9,hl9⟩:=hl9;have ea:ks.toArray.push y=(ks++[y]).toArray:=by simp
    rw[ea]at hl9;refine fin (ks':=ks++[y]) (e':=e9) (ys':=ys++[vy]) ?_ (Vals.append rv (.cons ry .nil)) n8;have ne9:∀p∈wj fp s5.heap,p.1≠D:=λp hp z=>fpD (z ▸ (Yt hp).1);have yDb:wy (yi X Nc scope cl s2 H1 C fp) (wj fp s5.heap) D:=⟨hDC,λhm=>absurd (frN _ hm) (uc.mpr hDle),.inr hDle,λx c ec=>yD.ce x c (clX x c ec),λp hp=>ne9 p (by simpa[yi]using hp)⟩;have I8a:Inv (yi X Nc scope cl s2 H1 C fp) (wj fp s5.heap) σ6 H8 s8:=I8.pins_of λp hp=>I8.pin p (kO _ (kO _ hp));have I8b:=I8a.record yDb pD.2.1 hs9;exact I8b.pins_of λp hp=>by
     rcases k7.mp hp with hp|hp
     .obtain rfl:=kq.mp hp;exact⟨hl9,pD.2.1,yDb.lo,yDb.fs,λv z=>by cases z⟩
     .exact I8b.pin p (kO _ hp)
 exact codeAny_compStart_list (loop _) (T.self _ 0 _ _ _ (T.keep _ _ _ t0 λb _ o e=>old b o e) (loop _))
theorem Zx{X:Cx}{scope:Scope}{Nc:List Str}{ix:List (Option Nat)}(h:Zw scope X.env.scope X.N Nc ix=true):(∀y∈scope.names,y.2≠.cell)/\scope.kind=.function/\(∀y∈scope.names,y.2=.local->scope.names.lookup y.1=some .local) /\
  (∀y∈scope.names,y.2=.free->X.env.kindOf y.1=some .cell\/X.env.kindOf y.1=some .free)/\ix.length=Nc.length /\
  ∀(i:Nat)(x:Str)(j:Nat),Nc[i]?=some x->ix[i]?=some (some j)->X.N[j]?=some x/\Vis X.env.scope x/\(X.env.kindOf x=some .local->False)/\((relabel scope X.env).names.lookup x=some .cell\/(relabel scope X.env).names.lookup x=some .free):=by
 unfold Zw at h;simp only[vi,beq_iff_eq,vM,bn,bne_iff_ne]at h;obtain⟨⟨⟨⟨⟨h1,h2⟩,h3⟩,h4⟩,h5⟩,h6⟩:=h;refine⟨h1,h2,λy hy e=>?_,λy hy e=>?_,h5,λi x j e1 e2=>?_⟩
 .rcases h3 y hy with z|z
  .exact absurd e z
  .exact z
 .rcases h4 y hy with(z|z)|z
  .exact absurd e z
  .exact .inl z
  .exact .inr z
 .have q:=h6 i (vp.mpr (kf.mp e1).1);rw[e1,e2]at q;simp only[vi,beq_iff_eq,bn]at q;obtain⟨⟨q1,q2⟩,q3⟩:=q;refine⟨q1,?_,λz=>?_,wO q3⟩
  .rcases q2 with z|z
   .exact .inr (.inl z)
   .exact .inr (.inr z)
  .have z':X.env.scope.names.lookup x=some .local:=z;rcases q2 with y|y
   .rw[y]at z';cases z'
   .rw[y]at z';cases z'
theorem zQ{X:Cx}{elt tg iter:Expr}{ifs:List Expr}{scope:Scope}{pos:Pos}{Nc:List Str}{ix:List (Option Nat)}{wi:TI}{g:TG}{tc:TT}{te:TE}(hc:X.calm=true)(hok:Zw scope X.env.scope X.N Nc ix=true)
  (hi:PI X tg iter wi)(hg:∀cl s H C fp,PG (yi X Nc scope cl s H C fp) tg g)(hifs:∀cl s H C fp,PTs (yi X Nc scope cl s H C fp) ifs tc)(he:∀cl s H C fp,PE (yi X Nc scope cl s H C fp) elt te)
  (hs:∀x,foldedSetIterable iter X.env x=pure x:=by intro _;rfl):PE X (.ListComp elt [⟨tg,iter,ifs,0⟩] scope pos) (zf1 wi ix g tc te):=by
 intro pins s σ H Q I h;obtain⟨h1,h2,h3,h4,h5,h6⟩:=Zx hok;rw[eval_ListComp];refine YE (Q':=EP X pins σ Q) hc h1 h2 h3 h4 (λy k e hk=>qx h1 e hk) h5 h6 hi hg hifs he hs I h λD C oC ys H3 s4 hN nD nC yC I4 q=>?_;have pC:=I4.pin (C,oC) (kO _ (kO _ kg));obtain⟨m,hm⟩:=hN;exact⟨m,hm _ pC.1,λh' hsb=>⟨.ref D,_,I4.unpinned.record yC nC hsb,rfl,q D nD⟩⟩
def zf2(i:Nat)(wi:TI)(ix:List (Option Nat))(g:TG)(tc:TT)(te:TE):TS:=λD σ H=>XN wi ix g tc te σ H λys H'=>∀l,H' l=none->D.nx (σ.set i (some (.ref l))) (upd H' l (.lst ys))
theorem qh{X:Cx}{i:Nat}{y:Str}{elt tg iter:Expr}{ifs:List Expr}{scope:Scope}{pos spos py:Pos}{Nc:List Str}{ix:List (Option Nat)}{wi:TI}{g:TG}{tc:TT}{te:TE}(hN:X.N.Nodup)(hi':X.N[i]?=some y)(hx:Loc X.env.scope y)(hc:X.calm=true)(hok:Zw scope X.env.scope X.N Nc ix=true)
  (hi:PI X tg iter wi)(hg:∀cl s H C fp,PG (yi X Nc scope cl s H C fp) tg g)(hifs:∀cl s H C fp,PTs (yi X Nc scope cl s H C fp) ifs tc)(he:∀cl s H C fp,PE (yi X Nc scope cl s H C fp) elt te)
  (hs:∀x,foldedSetIterable iter X.env x=pure x:=by intro _;rfl)(hsw:swapsWith (.ListComp elt [⟨tg,iter,ifs,0⟩] scope pos) (some (.Name y py)) spos.line X.env=pure true:=by rfl)
  (hf:X.fn y=true\/X.env.scope.names.lookup y=some .local:=by first|exact .inl rfl|exact .inr rfl|assumption):PS X (.Assign [.Name y py] (.ListComp elt [⟨tg,iter,ifs,0⟩] scope pos) spos) (zf2 i wi ix g tc te):=by
 intro pins s σ H D I h;obtain⟨h1,h2,h3,h4,h5,h6⟩:=Zx hok;rw[exec_Assign_Name_used _ _ _ _ hsw];refine wpAny_bind (wpAny_standAt (wpAny_bind ?_));show wpAny _ X.A (do let _ <-comprehension (.ListComp elt [⟨tg,iter,ifs,0⟩] scope pos) scope X.env _ (newList []) false (eval iter X.env) (some (assign (.Name y py) X.env))) _ _ s;refine wpAny_bind (wpAny_mono (YE (Q':=λ_ s'=>SP X pins D .next s') hc h1 h2 h3 h4 (λy k e hk=>qx h1 e hk) h5 h6 hi hg hifs he hs I h λDa C oC ys H3 s4 hN' nD nC yC I4 q=>?_)
  (λ_ s' hq=>wpAny_pure (wpAny_pure hq)) λ_ _ e=>e)
 show wpAny _ _ (assign (.Name y py) X.env (.ref Da)) _ _ s4;refine thn (zt (i:=i) hN hi' hx hf _ s4 σ _ (.ref Da) (.ref Da) (λσ' H'=>σ'=σ.set i (some (.ref Da))/\H'=upd H3 Da (.lst ys)) I4 rfl ⟨rfl,rfl⟩) λ_ s5 h9=>?_;obtain⟨σ5,H5,I5,e1,e2⟩:=h9;subst e1 e2;have pC:=I5.pin (C,oC) (kO _ (kO _ kg));obtain⟨m,hm⟩:=hN';exact⟨m,hm _ pC.1,λh' hsb=>⟨_,_,I5.unpinned.record yC nC hsb,q Da nD⟩⟩
section
variable{X:Cx}
theorem wP{pins:List (Addr×Obj)}{σ:St}{H:Hp}{s:Shared}{a:Addr}{its:List Value}(I:Inv X pins σ H s)(tp:s.heap.IsList a its.toArray)(hc:X.calm=true){Q:Value->Shared->Prop}
  (q:∀s2:Shared,s2={s with heap:=s.heap.push {cls:=.type "list_iterator",data:=.fields #[.ref a,.int 0 0]}}->Walks X.prog X.w X.A.in1 s.heap.objs.size [s.heap.objs.size,a] [s.heap.objs.size] its.toArray.size (λi v=>its.toArray[i]?=some v) (λi h=>h.IsListIter s.heap.objs.size a i/\h.IsList a its.toArray) ->
   (s2.heap.IsListIter s.heap.objs.size a 0/\s2.heap.IsList a its.toArray)->(∀b∈[s.heap.objs.size,a],b<s2.heap.objs.size)->Q (.ref s.heap.objs.size) s2):wpAny (model X.prog X.w) X.A.in1 (pyIter (.ref a)) Q X.xe s:=by
 have hlt:a<s.heap.objs.size:=by obtain⟨_,e,_⟩:=tp;exact Heap.lt_size e
 refine wpAny_pyIter_list tp (q _ rfl (Walks.list (by exact I.ok.hd hc) _ _ (vc hlt) _) ⟨⟨_,Heap.get?_push_size _ rfl,rfl,rfl⟩,?_⟩ λb hb=>?_)
 .obtain⟨o,e,r⟩:=tp;exact⟨o,Heap.get?_push_of_some _ e,r⟩
 .show b<(s.heap.push _).objs.size;rw[Heap.size_push];rcases kK.mp hb with rfl|hb
  .exact vH _
  .rw[kq.mp hb];exact vG hlt
theorem XO{bs:List Bool}{its:List Value}(r:Vals (bs.map V.bl) its):∀(i:Nat)(v:Value),its.toArray[i]?=some v->v=Value.bool (bs.getD i false):=by
 intro i v e;rw[uA]at e;have hl:=r.length;have hi:i<its.length:=(kf.mp e).1;rw[ke]at hl;have hx:(bs.map V.bl)[i]?=some (.bl (bs.getD i false)):=by
  rw[kM,kc ()];simp[List.getD,show i<bs.length by lia]
 obtain⟨u,hu,ru⟩:=r.get hx;rw[e]at hu;cases hu;exact ru
theorem all_range(bs:List Bool):(kR bs.length).all (λi=>bs.getD i false)=bs.all id:=by
 rw[vn,vM,vM];constructor
 .intro h b hb;obtain⟨i,hi,rfl⟩:=vg.mp hb;have:=h i (vp.mpr hi)
  rwa [getD_at hi]at this
 .intro h i hi;have hi:=vp.mp hi;rw[getD_at hi];exact h _ (vv hi)
theorem any_range(bs:List Bool):(kR bs.length).any (λi=>bs.getD i false)=bs.any id:=by
 rw[vn,uJ,uJ];constructor
 .rintro⟨i,hi,h⟩;have hi:=vp.mp hi;rw[getD_at hi]at h;exact⟨_,vv hi,h⟩
 .rintro⟨b,hb,h⟩;obtain⟨i,hi,rfl⟩:=vg.mp hb;exact⟨i,vp.mpr hi,by rw[getD_at hi];exact h⟩
theorem xg(hc:X.calm=true):yI X (.builtin "all") (λxs H Q=>∃(a:Addr)(bs:List Bool),xs=[.ref a]/\SqL X.K H a (bs.map V.bl)/\Q (.bl (bs.all id)) H):=by
 intro pins s σ H xs us Q I r h;refine E_2 h λa bs n8=>A_3 n8 λe9 hq q=>?_;clear n8 h;subst e9;obtain⟨u,rfl,ru⟩:=vals1 r;cases ru;obtain⟨its,rv,tp,hz⟩:=I.list hq;have hl:=rv.length;rw[ke]at hl;refine call_all_walk (wP I tp.isList hc λs2 e W st hfp=>?_);subst e;refine⟨_,_,_,_,_,_,λi=>bs.getD i false,rfl,W,st,λi v A' Q' E' hP hQ=>?_,λh' tk hk=>?_⟩
 .have:=XO rv i v hP;subst this;exact wpAny_truthy_bool hQ
 .refine⟨.bl _,H,I.kept (t':=tk) λb o e=>hk b o (λm=>?_) (Heap.get?_push_of_some _ e),?_,q⟩
  .have:=Heap.lt_size e;rw[kq.mp m]at this;exact vP _ this
  .show Value.bool _=Value.bool _;rw[ku,<-hl,all_range]
theorem je(hc:X.calm=true):yI X (.builtin "any") (λxs H Q=>∃(a:Addr)(bs:List Bool),xs=[.ref a]/\SqL X.K H a (bs.map V.bl)/\Q (.bl (bs.any id)) H):=by
 intro pins s σ H xs us Q I r h;refine E_2 h λa bs n8=>A_3 n8 λe9 hq q=>?_;clear n8 h;subst e9;obtain⟨u,rfl,ru⟩:=vals1 r;cases ru;obtain⟨its,rv,tp,hz⟩:=I.list hq;have hl:=rv.length;rw[ke]at hl;refine call_any_walk (wP I tp.isList hc λs2 e W st hfp=>?_);subst e;refine⟨_,_,_,_,_,_,λi=>bs.getD i false,rfl,W,st,λi v A' Q' E' hP hQ=>?_,λh' tk hk=>?_⟩
 .have:=XO rv i v hP;subst this;exact wpAny_truthy_bool hQ
 .refine⟨.bl _,H,I.kept (t':=tk) λb o e=>hk b o (λm=>?_) (Heap.get?_push_of_some _ e),?_,q⟩
  .have:=Heap.lt_size e;rw[kq.mp m]at this;exact vP _ this
  .show Value.bool _=Value.bool _;rw[ku,<-hl,any_range]
theorem zag(hc:X.calm=true):yI X (.builtin "min") (λxs H Q=>∃(a:Addr)(ns:List Int),xs=[.ref a]/\SqL X.K H a (ns.map V.int)/\0<ns.length/\∀M,M∈ns->(∀z∈ns,M<=z)->Q (.int M) H):=by
 intro pins s σ H xs us Q I r h;refine E_2 h λa ns n8=>A_4 n8 λe9 hq hn q=>?_;clear n8 h;subst e9;obtain⟨u,rfl,ru⟩:=vals1 r;cases ru;obtain⟨its,rv,tp,hz⟩:=I.list hq;have hl:=rv.length;rw[ke]at hl;refine call_min_walk (wP I tp.isList hc λs2 e W st hfp=>?_);subst e;refine I_7 _ _ _ _ _ _ _ ⟨rfl,W,st,hfp,by simp;lia,CmpOf.ints_lt (λi=>ns.getD i 0) (xm rv),λv h' tk hP hk=>?_⟩;obtain⟨t,rfl⟩:=xm rv _ _ hP;obtain⟨b1,b2⟩:=argBest_lt (λi=>ns.getD i 0) (its.toArray.size-1);rw[ku]at b1 b2;refine⟨.int _,H,I.kept (t':=tk) λb o e=>hk b o (λm=>?_) (Heap.get?_push_of_some _ e),⟨t,rfl⟩,q _ (qv ?_) λz hz=>?_⟩
 .have:=Heap.lt_size e;rw[kq.mp m]at this;exact vP _ this
 .rw[ku];omega
 .obtain⟨j,hj,e⟩:=Zu hz;rw[<-e,ku];exact b2 j ()
theorem zah(hc:X.calm=true):yI X (.builtin "max") (λxs H Q=>∃(a:Addr)(ns:List Int),xs=[.ref a]/\SqL X.K H a (ns.map V.int)/\0<ns.length/\∀M,M∈ns->(∀z∈ns,z<=M)->Q (.int M) H):=by
 intro pins s σ H xs us Q I r h;refine E_2 h λa ns n8=>A_4 n8 λe9 hq hn q=>?_;clear n8 h;subst e9;obtain⟨u,rfl,ru⟩:=vals1 r;cases ru;obtain⟨its,rv,tp,hz⟩:=I.list hq;have hl:=rv.length;rw[ke]at hl;refine call_max_walk (wP I tp.isList hc λs2 e W st hfp=>?_);subst e;refine I_7 _ _ _ _ _ _ _ ⟨rfl,W,st,hfp,by simp;lia,CmpOf.ints_gt (λi=>ns.getD i 0) (xm rv),λv h' tk hP hk=>?_⟩;obtain⟨t,rfl⟩:=xm rv _ _ hP;obtain⟨b1,b2⟩:=argBest_gt (λi=>ns.getD i 0) (its.toArray.size-1);rw[ku]at b1 b2;refine⟨.int _,H,I.kept (t':=tk) λb o e=>hk b o (λm=>?_) (Heap.get?_push_of_some _ e),⟨t,rfl⟩,q _ (qv ?_) λz hz=>?_⟩
 .have:=Heap.lt_size e;rw[kq.mp m]at this;exact vP _ this
 .rw[ku];omega
 .obtain⟨j,hj,e⟩:=Zu hz;rw[<-e,ku];exact b2 j ()
end
inductive EqR(K:PySem.W.Frag)(H:Hp):Nat->V->V->Bool->Prop where
 |flat{n:Nat}{x y:V}(fx:xI x=true)(fy:xI y=true):EqR K H n x y (eqV x y)
 |tups{n:Nat}{a b:Addr}{xs ys:List V}{e:Nat->Bool}(ha:SqT K H a xs)(hb:SqT K H b ys)(he:∀j,j<xs.length->j<ys.length->EqR K H n (xs.getD j .non) (ys.getD j .non) (e j)):
   EqR K H (n+1) (.ref a) (.ref b) ((kR (min xs.length ys.length)).all e&&xs.length==ys.length)
 |lsts{n:Nat}{a b:Addr}{xs ys:List V}{e:Nat->Bool}(ha:SqL K H a xs)(hb:SqL K H b ys)(hl:xs.length=ys.length)(he:∀j,j<xs.length->EqR K H n (xs.getD j .non) (ys.getD j .non) (e j)):
   EqR K H (n+1) (.ref a) (.ref b) ((kR xs.length).all e)
 |lens{n:Nat}{a b:Addr}{xs ys:List V}(ha:SqL K H a xs)(hb:SqL K H b ys)(hl:xs.length≠ys.length):EqR K H (n+1) (.ref a) (.ref b) false
theorem XQ:∀{x:V},xI x=true->eqV x x=true
 |.non,_=>rfl
 |.bl b,_=>beq_self_eq_true b
 |.int i,_=>beq_self_eq_true i
 |.str s,_=>beq_self_eq_true s
section
variable{X:Cx}{pins:List (Addr×Obj)}{σ:St}{H:Hp}{s:Shared}
theorem EqR.refl(I:Inv X pins σ H s){n:Nat}{x y:V}{b:Bool}(h:EqR X.K H n x y b):x=y->b=true:=by
 induction h with
 |flat fx fy=>intro e;subst e;exact XQ fx
 |@tups n a b xs ys e ha hb he ih =>
  intro z;cases z;have:=I.tuple_inj ha hb;subst this;rw[beq_self_eq_true,Bool.and_true,vM];intro j hj;have hj:=vp.mp hj;exact ih j () () rfl
 |@lsts n a b xs ys e ha hb hl he ih =>
  intro z;cases z;have:=I.list_inj ha hb;subst this;rw[vM];intro j hj;exact ih j (vp.mp hj) rfl
 |@lens n a b xs ys ha hb hl =>
  intro z;cases z;exact absurd (by rw[I.list_inj ha hb]) hl
theorem EqR.at(I:Inv X pins σ H s){n:Nat}{x y:V}{b:Bool}(h:EqR X.K H n x y b):∀{A:Around}{u v:Value},RelV x u->RelV y v->A.units+n<cLine->SeqAt.EqAt A s u v b:=by
 induction h with
 |flat fx fy=>intro A u v ru rv _;exact J4 ru rv fx fy
 |@tups n a b xs ys e ha hb he ih =>
  intro A u v ru rv hu;cases ru;cases rv;by_cases hab:a=b
  .have:=EqR.refl I (EqR.tups (n:=n) ha hb he) (by rw[hab]);rw[this,hab];exact SeqAt.EqAt.same _
  .obtain⟨i1,r1,p1,z1⟩:=I.tuple ha;obtain⟨i2,r2,p2,z2⟩:=I.tuple hb;have l1:=r1.length;have l2:=r2.length;have:=SeqAt.RcAt.tuples (A:=A) (e:=e) (show s.heap.IsTuple a i1.toArray from p1) (show s.heap.IsTuple b i2.toArray from p2) () λj h1 h2=>by
    have h1':j<i1.length:=by simpa using h1
    have h2':j<i2.length:=by simpa using h2
    have q:=ih j () () (A:=A.in1) (xt r1 h1') (xt r2 h2') (by show A.units+1+n<cLine;lia);simpa using q
   rw[ku,ku,<-l1,<-l2]at this;exact SeqAt.EqAt.of_refs hab this
 |@lsts n a b xs ys e ha hb hl he ih =>
  intro A u v ru rv hu;cases ru;cases rv;by_cases hab:a=b
  .have:=EqR.refl I (EqR.lsts (n:=n) ha hb hl he) (by rw[hab]);rw[this,hab];exact SeqAt.EqAt.same _
  .obtain⟨i1,r1,p1,z1⟩:=I.list ha;obtain⟨i2,r2,p2,z2⟩:=I.list hb;have l1:=r1.length;have l2:=r2.length;have:=SeqAt.RcAt.lists (A:=A) (e:=e) p1.isList p2.isList (by simp;lia) () λj h1 h2=>by
    have h1':j<i1.length:=by simpa using h1
    have h2':j<i2.length:=by simpa using h2
    have q:=ih j () (A:=A.in1) (xt r1 h1') (xt r2 h2') (by show A.units+1+n<cLine;lia);simpa using q
   rw[ku,<-l1]at this;exact SeqAt.EqAt.of_refs hab this
 |@lens n a b xs ys ha hb hl =>
  intro A u v ru rv hu;cases ru;cases rv;obtain⟨i1,r1,p1,z1⟩:=I.list ha;obtain⟨i2,r2,p2,z2⟩:=I.list hb;have l1:=r1.length;have l2:=r2.length;have hab:a≠b:=λz=>by subst z;exact hl (by rw[I.list_inj ha hb])
  exact SeqAt.EqAt.of_refs hab (SeqAt.RcAt.lists_lengths p1.isList p2.isList (by simp;lia) ())
def rEqR(K:PySem.W.Frag)(neg:Bool):R2:=λx y H Q=>∃(a c:Addr)(n:Nat)(b:Bool),x=.ref a/\y=.ref c/\EqR K H n x y b/\n<=50/\Q (.bl (if neg then !b else b)) H
theorem zai(hu:X.A.units+64<cLine):OpR X (compareOp .Eq) (rEqR X.K false):=by
 intro pins s σ H x y v u Q I rx ry h;refine E_4 h λa c n b n8=>A_5 n8 λe9 n90 e hn q=>?_;clear n8 h;subst e9;subst n90;cases rx;cases ry;have fin:∀{k:Bool},k=b->EP X pins σ Q (.bool k) s:=λz=>⟨.bl b,H,I,by rw[z];rfl,q⟩;cases e with
 |flat fx fy=>exact absurd (show false=true from fx) kH
 |@tups n _ _ xs ys e ha hb he =>
  obtain⟨i1,r1,p1,z1⟩:=I.tuple ha;obtain⟨i2,r2,p2,z2⟩:=I.tuple hb;have l1:=r1.length;have l2:=r2.length;refine SeqAt.eq_tupleAt (e:=e) (show s.heap.IsTuple a i1.toArray from p1) (show s.heap.IsTuple c i2.toArray from p2) () (λj h1 h2=>?_) (fin ?_)
  .have h1':j<i1.length:=by simpa using h1
   have h2':j<i2.length:=by simpa using h2
   have q:=(he j () ()).at I (A:=X.A.in1) (xt r1 h1') (xt r2 h2') (by show X.A.units+1+n<cLine;lia);simpa using q
  .rw[ku,ku,<-l1,<-l2]
 |@lsts n _ _ xs ys e ha hb hl he =>
  obtain⟨i1,r1,p1,z1⟩:=I.list ha;obtain⟨i2,r2,p2,z2⟩:=I.list hb;have l1:=r1.length;have l2:=r2.length;refine SeqAt.eq_listAt (e:=e) p1.isList p2.isList (by simp;lia) () (λj h1 h2=>?_) (fin ?_)
  .have h1':j<i1.length:=by simpa using h1
   have h2':j<i2.length:=by simpa using h2
   have q:=(he j ()).at I (A:=X.A.in1) (xt r1 h1') (xt r2 h2') (by show X.A.units+1+n<cLine;lia);simpa using q
  .rw[ku,<-l1]
 |@lens n _ _ xs ys ha hb hl =>
  obtain⟨i1,r1,p1,z1⟩:=I.list ha;obtain⟨i2,r2,p2,z2⟩:=I.list hb;have l1:=r1.length;have l2:=r2.length;exact SeqAt.eq_list_lengthsAt p1.isList p2.isList (by simp;lia) () (fin rfl)
end
open PySem.W
def zeH(K:Frag)(sp:Sp)(tl:TE):TE:=λσ H Q=>tl σ H λx H1 =>
 ∃(l:Addr)(xs:List V)(kz:List (Int×Int))(B:Int),x=.ref l/\SqL K H1 l xs/\0<xs.length/\xs.length<64/\kz.length=xs.length/\(∀z∈kz,0<=z.2/\z.2<B) /\
  (∀(i:Nat)(x:V)(z:Int×Int)(H':Hp)(R:VK),xs[i]?=some x->kz[i]?=some z->Same H1 H'->(∀p H'',Same H' H''->H'' p=some (.tup [.int z.1,.int z.2])->R (.ref p) H'')->sp [x] H' R E0) /\
  ∀(D:Addr)(p:Array Nat)(H':Hp),Same H1 H'->H' D=none->_Srt.Ord xs.length p->_Srt.Up (xu B kz) p xs.length->Q (.ref D) (upd H' D (.lst (p.toList.map λi=>xs.getD i .non)))
theorem zbN{X:Cx}{l:Expr}{tl:TE}{k:Nat}{x a:Str}{f:Addr}{fd:FuncData}{sp:Sp}{np kpos p pos:Pos}(F:FnOk X.prog X.w X.K X.mg X.base CX0 k f fd [a] sp)(hb:Binds X.K fd [a] [])(hr:Room (k+2) X.A)(hg:Gl X "sorted")(hm:X.mg "sorted"=none)(hgx:Gl X x)(hmx:X.mg x=some (.ref f))(hl:PE X l tl)
  (hs:starEach [l] X.env=[(false,eval l X.env)]:=by rfl)(hdb:(x==("__debug__" : Str))=false:=by decide):
  PE X (.Call (.Name "sorted" p) [l] [⟨some "key",.Name x np,kpos⟩] pos) (zeH X.K sp tl):=by
 intro pins s σ H Q I h;refine wpAny_Call_Name_kw (yR I hg hm boot_sorted ?_ ⋯ ⋯);refine PyProof.Rows.callWith_kw (thn ((za hl zb hs) pos pins s σ H (λvs H1=>match vs with
  |[x]=>∃(l:Addr)(xs:List V)(kz:List (Int×Int))(B:Int),x=.ref l/\SqL X.K H1 l xs/\0<xs.length/\xs.length<64/\kz.length=xs.length/\(∀z∈kz,0<=z.2/\z.2<B) /\
   (∀(i:Nat)(x:V)(z:Int×Int)(H':Hp)(R:VK),xs[i]?=some x->kz[i]?=some z->Same H1 H'->(∀p H'',Same H' H''->H'' p=some (.tup [.int z.1,.int z.2])->R (.ref p) H'')->sp [x] H' R E0) /\
   ∀(D:Addr)(p:Array Nat)(H':Hp),Same H1 H'->H' D=none->_Srt.Ord xs.length p->_Srt.Up (xu B kz) p xs.length->Q (.ref D) (upd H' D (.lst (p.toList.map λi=>xs.getD i .non)))
  |_=>False) I h) λus s1 ⟨vs,H1,I1,r1,q1⟩=>?_) (by rw[hs];rfl) (by rw[hs];rfl) rfl rfl
 match vs,q1 with
 |[x],q1 =>
 obtain⟨u,rfl,ru⟩:=vals1 r1;refine thn ((W5 (nm:=some "key") (qe (v:=.ref f) hgx hmx rfl hdb) JY) pos pins s1 σ H1 (λws H2=>ws=[.ref f]/\H2=H1) I1 ⟨rfl,rfl⟩) λus2 s2 h9=>?_;obtain⟨ws,H2,I2,r2,e1,e2⟩:=h9;subst e1 e2;obtain⟨u2,rfl,ru2⟩:=vals1 r2;refine E_4 q1 λla xs kz B n8=>A_8 n8 λe9 hL h1 h64 hkz hB items q=>?_;clear n8 q1;subst e9;cases (show u=Value.ref la from ru);cases (show u2=Value.ref f from ru2);show wpAny _ _ (call (.builtin "sorted") [.ref la] [(Str.ofString "key",.ref f)]) _ _ _;refine XL I2 hL h1 h64 hkz hB (λH'=>Same H2 H') (Same.refl _) (λpins' i x v z s' H' hx hz rx I' g'=>?_) λD p H' s' g' _ hD po pu I'=>⟨.ref D,_,I',rfl,q D p H' g' hD po pu⟩;have e0:Env0 X.prog X.w X.K X.mg X.base X.A.in1.in1 X.stack s' H':=⟨I'.ok.frames,I'.ok.mod,I'.bs,kw I'.ok.bsz I'.sz,I'.stack,I'.stkFree,I'.hok,I'.bare⟩;have hsp:=items i x z H' (λv H''=>∃p',v=.ref p'/\Same H' H''/\H'' p'=some (.tup [.int z.1,.int z.2])) hx hz g' λp H'' S'' h''=>⟨p,rfl,S'',h''⟩;refine wpAny_call (codeAny_mono (F.run X.A.in1.in1 X.stack s' H' ⟨[v],[]⟩ [v] [x] _ _ hr.in1.in1 e0 (by simpa using hb s' [v] I'.kIn rfl) (.cons rx .nil) hsp) λr s'' hq=>?_);cases r with
 |error e=>exact False.elim hq
 |ok fl =>
  cases fl with
  |next=>exact False.elim hq
  |brk=>exact False.elim hq
  |cont=>exact False.elim hq
  |ret u =>
   obtain⟨v',H'',I'',r'',p',e,S',h'⟩:=I'.after hq;subst e;cases (show u=Value.ref p' from r'');exact⟨p',H'',rfl,I'',g'.trans S',S',h'⟩
end _L2
namespace _L2
open PySem PySem.Spec PyProof.Rows
section
variable{g:TG}{tc:TT}{te:TE}{σ0:St}{H0:Hp}{R:List V->Hp->Prop}{K:PySem.W.Frag}{a:Addr}{xs:List V}
theorem wF{J:It}{n:Nat}(Pv:Nat->List V->St->Hp->Prop)(h0:Pv 0 [] σ0 H0)(hz:∀i ys σ H,i<=n->Pv i ys σ H->ys.length<=sizeLine)(hst:∀ys σ H,Pv n ys σ H->J.stop n H/\R ys H)
  (hgo:∀i ys σ H,i<n->Pv i ys σ H->J.go i H/\∀x H2,J.yld i H x H2->g x σ H2 λσ2 H3=>tc σ2 H3 λb H4=>if b=true then te σ2 H4 λy H5=>Pv (i+1) (ys++[y]) σ2 H5 else Pv (i+1) ys σ2 H4):
  ∃W:Nat->Nat->List V->St->Hp->Prop,(∃m,W 0 m [] σ0 H0)/\∀i m ys σ' H',W i m ys σ' H' ->
   (J.stop i H'/\ys.length<=sizeLine/\R ys H') \/
   (J.go i H'/\ys.length<=sizeLine/\∃N:List V->St->Hp->Prop,(∀ys' σ2 H2,N ys' σ2 H2->∃m',m'<m/\W (i+1) m' ys' σ2 H2) /\
    ∀x H2,J.yld i H' x H2->g x σ' H2 λσ2 H3=>tc σ2 H3 λb H4=>if b=true then te σ2 H4 λy H5=>N (ys++[y]) σ2 H5 else N ys σ2 H4):=by
 refine⟨λi m ys σ H=>m=n-i/\i<=n/\Pv i ys σ H,⟨n,by simp,kN _,h0⟩,?_⟩;rintro i m ys σ H ⟨rfl,hi,p⟩;by_cases hlt:i<n
 .obtain⟨go,turn⟩:=hgo i ys σ H hlt p;exact .inr ⟨go,hz i ys σ H hi p,Pv (i+1),λys' σ' H' p'=>⟨n-(i+1),by omega,rfl,hlt,p'⟩,turn⟩
 .have e:i=n:=()
  subst e;obtain⟨st,r⟩:=hst ys σ H p;exact .inl ⟨st,hz i ys σ H hi p,r⟩
theorem zZ(Pv:Nat->List V->St->Hp->Prop)(h0:Pv 0 [] σ0 H0)(hz:∀i ys σ H,i<=xs.length->Pv i ys σ H->ys.length<=sizeLine/\SqL K H a xs)(hst:∀ys σ H,Pv xs.length ys σ H->R ys H)
  (hgo:∀i x ys σ H,xs[i]?=some x->Pv i ys σ H->g x σ H λσ2 H3=>tc σ2 H3 λb H4=>if b=true then te σ2 H4 λy H5=>Pv (i+1) (ys++[y]) σ2 H5 else Pv (i+1) ys σ2 H4):
  ∃W:Nat->Nat->List V->St->Hp->Prop,(∃m,W 0 m [] σ0 H0)/\∀i m ys σ' H',W i m ys σ' H' ->
   ((Itl K a).stop i H'/\ys.length<=sizeLine/\R ys H') \/
   ((Itl K a).go i H'/\ys.length<=sizeLine/\∃N:List V->St->Hp->Prop,(∀ys' σ2 H2,N ys' σ2 H2->∃m',m'<m/\W (i+1) m' ys' σ2 H2) /\
     ∀x H2,(Itl K a).yld i H' x H2->g x σ' H2 λσ2 H3=>tc σ2 H3 λb H4=>if b=true then te σ2 H4 λy H5=>N (ys++[y]) σ2 H5 else N ys σ2 H4) :=
 wF (n:=xs.length) Pv h0 (λi ys σ H hi p=>(hz i ys σ H hi p).1) (λys σ H p=>⟨⟨xs,(hz _ ys σ H (km _) p).2,km _⟩,hst ys σ H p⟩)
  λi ys σ H hi p=>⟨⟨xs,xs[i],(hz i ys σ H (vF hi) p).2,by simp[hi]⟩,λx H2 y=>by
   obtain⟨e,y⟩:=y;subst e;exact hgo i x ys σ _ (y xs (hz i ys σ _ (vF hi) p).2) p⟩
theorem xN(Pv:Nat->List V->St->Hp->Prop)(h0:Pv 0 [] σ0 H0)(hz:∀i ys σ H,i<=xs.length->Pv i ys σ H->ys.length<=sizeLine/\SqT K H a xs)(hst:∀ys σ H,Pv xs.length ys σ H->R ys H)
  (hgo:∀i x ys σ H,xs[i]?=some x->Pv i ys σ H->g x σ H λσ2 H3=>tc σ2 H3 λb H4=>if b=true then te σ2 H4 λy H5=>Pv (i+1) (ys++[y]) σ2 H5 else Pv (i+1) ys σ2 H4):
  ∃W:Nat->Nat->List V->St->Hp->Prop,(∃m,W 0 m [] σ0 H0)/\∀i m ys σ' H',W i m ys σ' H' ->
   ((Itt K a).stop i H'/\ys.length<=sizeLine/\R ys H') \/
   ((Itt K a).go i H'/\ys.length<=sizeLine/\∃N:List V->St->Hp->Prop,(∀ys' σ2 H2,N ys' σ2 H2->∃m',m'<m/\W (i+1) m' ys' σ2 H2) /\
     ∀x H2,(Itt K a).yld i H' x H2->g x σ' H2 λσ2 H3=>tc σ2 H3 λb H4=>if b=true then te σ2 H4 λy H5=>N (ys++[y]) σ2 H5 else N ys σ2 H4) :=
 wF (n:=xs.length) Pv h0 (λi ys σ H hi p=>(hz i ys σ H hi p).1) (λys σ H p=>⟨⟨xs,(hz _ ys σ H (km _) p).2,km _⟩,hst ys σ H p⟩)
  λi ys σ H hi p=>⟨⟨xs,xs[i],(hz i ys σ H (vF hi) p).2,by simp[hi]⟩,λx H2 y=>by
   obtain⟨e,y⟩:=y;subst e;exact hgo i x ys σ _ (y xs (hz i ys σ _ (vF hi) p).2) p⟩
theorem YF{lo:Int}{n:Nat}(Pv:Nat->List V->St->Hp->Prop)(h0:Pv 0 [] σ0 H0)(hz:∀i ys σ H,i<=n->Pv i ys σ H->ys.length<=sizeLine)(hst:∀ys σ H,Pv n ys σ H->R ys H)
  (hgo:∀i ys σ H,i<n->Pv i ys σ H->g (.int (lo+i)) σ H λσ2 H3=>tc σ2 H3 λb H4=>if b=true then te σ2 H4 λy H5=>Pv (i+1) (ys++[y]) σ2 H5 else Pv (i+1) ys σ2 H4):
  ∃W:Nat->Nat->List V->St->Hp->Prop,(∃m,W 0 m [] σ0 H0)/\∀i m ys σ' H',W i m ys σ' H' ->
   ((Itr lo n).stop i H'/\ys.length<=sizeLine/\R ys H') \/
   ((Itr lo n).go i H'/\ys.length<=sizeLine/\∃N:List V->St->Hp->Prop,(∀ys' σ2 H2,N ys' σ2 H2->∃m',m'<m/\W (i+1) m' ys' σ2 H2) /\
     ∀x H2,(Itr lo n).yld i H' x H2->g x σ' H2 λσ2 H3=>tc σ2 H3 λb H4=>if b=true then te σ2 H4 λy H5=>N (ys++[y]) σ2 H5 else N ys σ2 H4) :=
 wF (n:=n) Pv h0 hz (λys σ H p=>⟨km _,hst ys σ H p⟩) λi ys σ H hi p=>⟨hi,λx H2 y=>by
  obtain⟨e,y⟩:=y;subst e y;exact hgo i ys σ _ hi p⟩
end
open PySem.W
section
variable{X:Cx}{pins:List (Addr×Obj)}{σ:St}{H:Hp}{s:Shared}
theorem XR{E:Value->Shared->Prop}{Q:Value->Shared->Prop}(I:Inv X pins σ H s){l:Addr}{xs:List V}(hl:SqL X.K H l xs)(h64:xs.length<64)(key:Nat->Int)(κ:SortKind)
  (kind:2<=xs.length->∀(vs:List Value)(s':Shared)(pins':List (Addr×Obj))(C:SortKind->Shared->Prop),Vals xs vs->Inv X pins' σ H s'->C κ s'->wpAny (model X.prog X.w) X.A.in1.in1 (keyKind' vs.toArray) C E s')
  (less:∀(vs:List Value)(s':Shared)(pins':List (Addr×Obj))(i j:Nat)(C:Bool->Shared->Prop),i<xs.length->j<xs.length->Vals xs vs->Inv X pins' σ H s'->C (decide (key i<key j)) s' ->
   wpAny (model X.prog X.w) X.A.in1.in1 (keyLt' κ (vs.getD i Value.none) (vs.getD j Value.none)) C (λ_ _=>False) s')
  (q:∀(D:Addr)(p:Array Nat)(s':Shared),H D=none->_Srt.Ord xs.length p->_Srt.Up key p xs.length->Inv X pins σ (upd H D (.lst (p.toList.map λi=>xs.getD i .non))) s'->Q (.ref D) s'):
  wpAny (model X.prog X.w) X.A (call (.builtin "sorted") [.ref l]) Q E s:=by
 obtain⟨vs,rv,pl,hz⟩:=I.list hl;have lv:=rv.length;have hsm:vs.length<=sizeLine:=()
 refine Calls.call_function_entry kind_sorted plain_sorted entry_sorted (args_sorted1 _) ?_;unfold Builtin.«sorted»;refine wpAny_bind (m:=checkCount "sorted" 1 1 _) (wpAny_pure ?_);refine wpAny_bind (collect_list pl.isList ?_ hsm);refine wpAny_bind (wpAny_newList ?_ hsm);have z1:((s.heap.push (seqObj "list" #[] 0)).update s.heap.objs.size (Obj.mapSeq (·++vs.toArray))).objs.size=s.heap.objs.size+1:=by rw[Heap.size_update,size_push']
 have keep1:∀b o,s.heap.get? b=some o->(((s.heap.push (seqObj "list" #[] 0)).update s.heap.objs.size (Obj.mapSeq (·++vs.toArray))).push (seqObj "list" vs.toArray 0)).get? b=some o:=λb o e=>by
  have hlt:b<s.heap.objs.size:=Heap.lt_size e;rw[Heap.get?_push_ne _ _ _ (by rw[z1];exact vc (vG hlt)),Heap.get?_update_ne _ _ _ _ (vc hlt),Heap.get?_push_ne _ _ _ (vc hlt)];exact e
 generalize hh1:((s.heap.push (seqObj "list" #[] 0)).update s.heap.objs.size (Obj.mapSeq (·++vs.toArray))).push (seqObj "list" vs.toArray 0)=h1' at keep1 ⊢;have hD1:h1'.get? (s.heap.objs.size+1)=some (seqObj "list" vs.toArray 0):=by
  rw[<-hh1,<-z1];exact Heap.get?_push_size _ rfl
 show wpAny _ _ _ _ _ {s with heap:=h1'};rw[z1];clear hh1;have yD:wy X pins (s.heap.objs.size+1):=I.young (vV _);have nD0:H (s.heap.objs.size+1)=none:=I.hok.fresh (vV _);generalize hDD:s.heap.objs.size+1=D at hD1 yD nD0 ⊢;have I1:Inv X pins σ H {s with heap:=h1'}:=I.kept (t':=s.toks) keep1;refine wpAny_bind (wpAny_holding (wpAny_call_entry slot_list_sort ⟨_,hD1,rfl⟩ entry_list_sort ?body (args_list_sort _)))
 case body =>
  rw[list_sort_plain];refine wpAny_bind (listItems_at hD1 rfl ?_);refine wpAny_bind (listUpdate_at hD1 rfl ?_ (by rw[ku];omega) (kN _));have sb:=Heap.SameBut.update h1' D (Obj.mapSeq λ_=>(#[]:Array Value));obtain⟨e1,hD2⟩:∃e1,(h1'.update D (Obj.mapSeq λ_=>(#[]:Array Value))).get? D=some (seqObj "list" #[] e1):=⟨_,get?_update_seq hD1 λ_=>#[]⟩;have I2:=I1.record (h':=h1'.update D (Obj.mapSeq λ_=>(#[]:Array Value))) yD nD0 sb;generalize h1'.update D (Obj.mapSeq λ_=>(#[]:Array Value))=h2' at hD2 I2 ⊢;refine wpAny_bind (seqEpoch_at hD2 rfl ?_);refine wpAny_bind (wpAny_newTuple ?_ hsm);refine wpAny_bind (wpAny_newList ?_ (kN _));refine wpAny_holding ?_;have I3:Inv X pins σ H {s with heap:=(h2'.push {cls:=.type "tuple",data:=.seq vs.toArray}).push {cls:=.type "list",data:=.seq ([]:List Value).toArray}} :=
   I2.kept (t':=s.toks) λb o e=>Heap.get?_push_of_some _ (Heap.get?_push_of_some _ e)
  have hD3:((h2'.push {cls:=.type "tuple",data:=.seq vs.toArray}).push {cls:=.type "list",data:=.seq ([]:List Value).toArray}).get? D=some (seqObj "list" #[] e1):=Heap.get?_push_of_some _ (Heap.get?_push_of_some _ hD2);dsimp only;show wpAny _ _ _ _ _ {s with heap:=(h2'.push {cls:=.type "tuple",data:=.seq vs.toArray}).push {cls:=.type "list",data:=.seq ([]:List Value).toArray}};generalize (h2'.push {cls:=.type "tuple",data:=.seq vs.toArray}).push {cls:=.type "list",data:=.seq ([]:List Value).toArray}=h3' at I3 hD3 ⊢;have tail:∀(st:SortSt)(p:Array Nat),arrOf st=p.map (kas_item (vs.toArray.zip vs.toArray))->failedOf st=none->_Srt.Ord xs.length p->_Srt.Up key p xs.length ->
    wpAny (model X.prog X.w) X.A.in1.in1 (do
     let sorted:=(arrOf st).map (·.2)
     let touched:=(<-seqEpoch D) != e1
     Builtin.List.listUpdate (.ref D) λ_=>sorted
     if let some e:=failedOf st then rule "list.sort.comparison-raised"; throw e
     if touched then rule "list.sort.modified"; raiseError "ValueError" "list modified during sort"
     ret .none) (λfin s''=>∃v,fin=.done (.ret v)/\wpAny (model X.prog X.w) X.A.in1 (ret (.ref D)) (λfin s3=>∃v,fin=.done (.ret v)/\Q v s3) E s'') E {s with heap:=h3'}:=by
   intro st p ha hf po pu;have out:=kat_snds (ks:=vs) (vs:=vs) rfl ha;dsimp only;rw[out,hf];have plen:(p.toList.map λi=>vs.getD i Value.none).length=vs.length:=by rw[ke,Array.length_toList,po.sz,lv]
   refine wpAny_bind (seqEpoch_at hD3 rfl ?_);refine wpAny_bind (listUpdate_at hD3 rfl ?_ (kN _) (by rw[ku,plen];lia));have sb2:=Heap.SameBut.update h3' D (Obj.mapSeq λ_=>(p.toList.map λi=>vs.getD i Value.none).toArray);have J2:=I3.record yD nD0 sb2;obtain⟨c3,hD5⟩:∃c3,(h3'.update D (Obj.mapSeq λ_=>(p.toList.map λi=>vs.getD i Value.none).toArray)).get? D=some (seqObj "list" (p.toList.map λi=>vs.getD i Value.none).toArray c3):=⟨_,get?_update_seq hD3 _⟩;generalize h3'.update D (Obj.mapSeq λ_=>(p.toList.map λi=>vs.getD i Value.none).toArray)=h6 at J2 hD5 ⊢;simp only[bne_self_eq_false,uR,if_false];have rel:Vals (p.toList.map λi=>xs.getD i .non) (p.toList.map λi=>vs.getD i Value.none):=by
    have:∀(ls:List Nat),(∀i∈ls,i<xs.length)->Vals (ls.map λi=>xs.getD i .non) (ls.map λi=>vs.getD i Value.none):=by
     intro ls
     induction ls with
     |nil=>intro _;exact .nil
     |cons a r ih =>
      intro h;refine .cons ?_ (ih λi hi=>h i (kn _ hi));have ha:=h a kg;have:=xt rv (j:=a) ();show RelV (xs.getD a .non) (vs.getD a Value.none);rw[getD_at (xs:=vs) (by lia:a<vs.length)];exact this
    refine this _ λi hi=>?_;have m:i∈p:=by simpa using hi
    have m2:i∈(uD (kR xs.length)):=(Array.Perm.mem_iff po.pm).mp m;simpa using m2
   have J3:=J2.track (p:=D) (o:=.lst (p.toList.map λi=>xs.getD i .non)) nD0 (Heap.get?_none_of_le (by rw[<-hDD];have:=I.sz;lia)) yD.lo yD.ce yD.pi
    ⟨by rw[ke,Array.length_toList,po.sz];omega,_,c3,rel,hD5⟩
   exact wpAny_pure ⟨_,rfl,wpAny_pure ⟨_,rfl,q D p _ nD0 po pu J3⟩⟩
  by_cases h2:vs.toArray.size<2
  .rw[if_pos h2,if_pos h2];rw[ku]at h2;refine wpAny_bind (wpAny_pure ?_);rw[StateT.run_pure];refine wpAny_bind (wpAny_pure ?_);dsimp only;refine tail _ (uD (kR xs.length)) ?_ rfl ⟨by simp,Array.Perm.refl _⟩ λi i1 i2=>()
   show vs.toArray.zip vs.toArray=_;have e:=kas_range (vs.toArray.zip vs.toArray);rw[show(vs.toArray.zip vs.toArray).size=xs.length by simp;lia]at e;exact e.symm
  .rw[if_neg h2,if_neg h2];rw[ku]at h2;refine wpAny_bind (kind () vs _ pins _ rv I3 ?_);have run:=jb (key:=key) (n:=vs.length) (cmp:=kas_ask X.prog X.w X.A.in1.in1 κ vs) (s:={s with heap:=h3'}) (Q:=λr=>_Srt.Ord vs.length r/\_Srt.Up key r vs.length) (λi j C hi hj hC=>?_) _ (_Srt.XI (n:=vs.length) ())
   .refine wpAny_bind (wpAny_mono (kat_run (Q:=λst' s''=>∃p,arrOf st'=p.map (kas_item (vs.toArray.zip vs.toArray))/\failedOf st'=none/\(_Srt.Ord vs.length p/\_Srt.Up key p vs.length)/\s''={s with heap:=h3'}) rfl () ()
     (λp st' s'' a1 a2 a3 a4=>⟨p,a2,a3,a4.1,a4.2⟩) run) ?_ λ_ _ x=>x)
    rintro⟨⟨⟩,st'⟩ s'' ⟨p,a2,a3,⟨a4,a5⟩,rfl⟩;dsimp only;rw[<-lv]at a4 a5;exact tail st' p a2 a3 a4 a5
   .exact less vs _ pins i j C () () rv I3 hC
end
def zeI(K:Frag)(tl:TE):TE:=λσ H Q=>tl σ H λx H1=>∃(l:Addr)(xs:List V)(ns:List Int)(rest:List (List V)),x=.ref l/\SqL K H1 l xs/\xs.length<64/\ns.length=xs.length/\rest.length=xs.length/\ns.Nodup /\
 (∀(i:Nat)(x:V)(n:Int)(r:List V),xs[i]?=some x->ns[i]?=some n->rest[i]?=some r->∃p,x=.ref p/\H1 p=some (.tup (.int n::r))/\r.length=1) /\
 ∀(D:Addr)(p:Array Nat),H1 D=none->_Srt.Ord xs.length p->_Srt.Up (λi=>ns.getD i 0) p xs.length->Q (.ref D) (upd H1 D (.lst (p.toList.map λi=>xs.getD i .non)))
theorem zbO{X:Cx}{l:Expr}{tl:TE}{p pos:Pos}(hg:Gl X "sorted")(hm:X.mg "sorted"=none)(hl:PE X l tl)(hs:starEach [l] X.env=[(false,eval l X.env)]:=by rfl):PE X (.Call (.Name "sorted" p) [l] [] pos) (zeI X.K tl):=by
 intro pins s σ H Q I h;refine wpAny_Call_Name_kw (yR I hg hm boot_sorted ?_ ⋯ ⋯);refine uI (thn ((za hl zb hs) pos pins s σ H (λvs H1=>match vs with
  |[x]=>∃(l:Addr)(xs:List V)(ns:List Int)(rest:List (List V)),x=.ref l/\SqL X.K H1 l xs/\xs.length<64/\ns.length=xs.length/\rest.length=xs.length/\ns.Nodup /\
   (∀(i:Nat)(x:V)(n:Int)(r:List V),xs[i]?=some x->ns[i]?=some n->rest[i]?=some r->∃p,x=.ref p/\H1 p=some (.tup (.int n::r))/\r.length=1) /\
   ∀(D:Addr)(p:Array Nat),H1 D=none->_Srt.Ord xs.length p->_Srt.Up (λi=>ns.getD i 0) p xs.length->Q (.ref D) (upd H1 D (.lst (p.toList.map λi=>xs.getD i .non)))
  |_=>False) I h) λus s1 ⟨vs,H1,I1,r1,q1⟩=>?_) (by rw[hs];rfl) (by rfl)
 match vs,q1 with
 |[x],q1 =>
 obtain⟨u,rfl,ru⟩:=vals1 r1;refine E_4 q1 λla xs ns rest n8=>A_8 n8 λe9 hL h64 hns hrs nd items q=>?_;clear n8 q1;subst e9;cases (show u=Value.ref la from ru);have tupAt:∀{pins':List (Addr×Obj)}{s':Shared}{vs:List Value},Vals xs vs->Inv X pins' σ H1 s'->∀i,i<xs.length->∃(p:Addr)(o:Obj)(m:Nat)(t:Tok)(w:Value),vs.getD i Value.none=.ref p/\s'.heap.get? p=some o/\o.cls=.type "tuple" /\ o.data=.seq #[.int (ns.getD i 0) t,w] m:=by
  intro pins' s' vs rv I' i hi;have e1:xs[i]?=some xs[i]:=kc hi;have e2:ns[i]?=some ns[i]:=kc ();have e3:rest[i]?=some rest[i]:=kc ();obtain⟨p,hp,hH,hr⟩:=items i _ _ _ e1 e2 e3;obtain⟨_,its,r,⟨o,e,c,m,d⟩⟩:=I'.hok p _ hH;have lv:=rv.length;have ev:=xt rv (j:=i) ();rw[getD_at hi,hp]at ev;cases r with
  |cons r1 rr =>
   obtain⟨t,rfl⟩:=r1;generalize rest[i]=rs at rr hr;cases rr with
   |nil=>simp at hr
   |@cons a b c' d' r2 rr =>
    cases rr with
    |nil =>
     refine⟨p,o,m,t,b,?_,e,c,?_⟩
     .rw[getD_at (by lia:i<vs.length)];exact ev
     .rw[d,getD_at (by lia:i<ns.length)]
    |cons _ _=>simp at hr
 refine XR I1 hL h64 (λi=>ns.getD i 0) (tuples' true) (λh2 vs s' pins' C rv I' hC=>?_) (λvs s' pins' i j C hi hj rv I' hC=>?_) λD p s' hD po pu I'=>⟨.ref D,_,I',rfl,q D p hD po pu⟩
 .have lv:=rv.length;have KT:∀(k:Nat),k<=vs.length->∃fs:List Value,fs.length=vs.length-k/\KatTups s'.heap (vs.drop k) fs/\∀v∈fs,∃i t,v=Value.int i t:=by
   intro k hk;generalize hd:vs.length-k=d
   induction d generalizing k with
   |zero =>
    refine⟨[],rfl,?_,λv hv=>nomatch hv⟩;rw[List.drop_of_length_le ()];exact KatTups.nil
   |succ d ih =>
    obtain⟨fs,f1,f2,f3⟩:=ih (k+1) () (by omega);obtain⟨p,o,m,t,w,g1,g2,g3,g4⟩:=tupAt rv I' k ();rw[getD_at (by lia:k<vs.length)]at g1;refine⟨.int (ns.getD k 0) t::fs,by rw[kG,f1],?_,λv hv=>?_⟩
    .rw[<-uS (show k<vs.length by lia),g1];exact KatTups.cons g2 g3 g4 rfl f2
    .rcases kK.mp hv with rfl|hv
     .exact⟨_,_,rfl⟩
     .exact f3 v hv
  obtain⟨fs,f1,f2,f3⟩:=KT 0 (kN _);rw[uK]at f2;refine kat_kind f2 () (T:=.type "int") (λv hv=>?_) ⋯ ?_
  .obtain⟨i,t,rfl⟩:=f3 v hv;exact Looks.of_pure rfl
  have hkind:(Value.type "int" != Value.type "tuple")=true:=⋯
  rw[hkind];exact hC
 .obtain⟨p1,o1,m1,t1,w1,a1,a2,_,a4⟩:=tupAt rv I' i hi;obtain⟨p2,o2,m2,t2,w2,b1,b2,_,b4⟩:=tupAt rv I' j hj;rw[a1,b1];refine kat_lt a2 a4 b2 b4 ?_;show KatLex _ _ _ true _ _ [(Value.int (ns.getD i 0) t1,Value.int (ns.getD j 0) t2),(w1,w2)] 0 s';refine kat_cons (wpAny_eqBool_int ?_);by_cases e:ns.getD i 0=ns.getD j 0
  .have hij:i=j:=by
    have e':=e;rw[getD_at (by lia:i<ns.length),getD_at (by lia:j<ns.length)]at e';exact(List.getElem_inj nd).mp e'
   subst hij;rw[a1]at b1;cases b1;rw[a2]at b2;cases b2;rw[a4]at b4;injection b4 with b4 _;have b5:[Value.int (ns.getD i 0) t1,w1]=[Value.int (ns.getD i 0) t2,w2]:=congrArg Array.toList b4;injection b5 with b6 b7;injection b7 with b8 _;subst b8;rw[beq_self_eq_true];refine kat_yes (kat_cons (SeqAt.EqAt.same w1 _ _ _ _ ?_));refine kat_yes (kat_nil ?_);have z:decide (ns.getD i 0<ns.getD i 0)=false:=decide_eq_false ();rw[z]at hC;exact hC
  .rw[beq_eq_false_iff_ne.mpr e];exact kat_no (oneLt_int hC)
def txt(l:List Nat):Str:=⟨l.toArray⟩
theorem yK(l:List Nat):(txt l).length=l.length:=by simp[txt,Str.length]
theorem zdn{a b:List Nat}(h:txt a=txt b):a=b:=by
 have:(txt a).cps.toList=(txt b).cps.toList:=by rw[h]
 simpa[txt]using this
section
variable{X:Cx}
def rIxC:R2:=λx y H Q=>∃(l:List Nat)(i:Int)(c:Nat),x=.str (txt l)/\y=.int i/\l.length<=1000000/\atI l i=some c/\Q (.str (txt [c])) H
theorem Z1:IxR X rIxC:=by
 intro value slice pins s σ H x y v u Q I rx ry h hs;refine E_3 h λl i c n8=>A_5 n8 λe9 n90 hl hc q=>?_;clear n8 h;subst e9;subst n90;exact zeC value slice pins s σ H _ _ v u Q I rx ry ⟨txt l,i,c,rfl,rfl,by rw[yK];exact kw hl ⋯,by simpa[txt]using hc,q⟩ hs
end
section
variable{X:Cx}{K:Frag}
theorem z7(hK:X.K=K):IxR X (rIxT K):=by subst hK;exact zw
theorem zbP(hK:X.K=K):IxR X (rIxL K):=by subst hK;exact yc
theorem zaj(hK:X.K=K):yI X (.builtin "len") (λxs H Q=>∃p ys,xs=[.ref p]/\(SqL K H p ys\/SqT K H p ys)/\Q (.int ys.length) H):=by subst hK;exact zA
theorem xO{es:List Expr}{k:Nat}{t:TGs}{n:Nat}{pos:Pos}(hK:X.K=K)(hc:X.calm=true)(h:PGs X es t)
  (hn:(assignEach es X.env).length=n:=by rfl)(hs:(assignEach es X.env).findIdx? (·.1)=none:=by rfl):PG X (.Tuple es k pos) (gTup K n t):=by
 subst hK;exact wI hc h hn hs
end
end _L2
namespace _Lin
abbrev W:=List Nat
def glue:List W->W
 |[]=>[]
 |[a]=>a
 |a::b::r=>a++32::glue (b::r)
theorem jf:∀(ws:List W)(w:W),ws≠[]->glue (ws++[w])=glue ws++32::w
 |[],_,h=>absurd rfl h
 |[a],w,_=>rfl
 |a::b::r,w,_=>by
  have ih:glue (b::(r++[w]))=glue (b::r)++32::w:=jf (b::r) w (by simp);show a++32::glue (b::(r++[w]))=(a++32::glue (b::r))++32::w;rw[ih];simp
theorem snoc_ind{P:List W->Prop}(h0:P [])(h1:∀ws w,P ws->P (ws++[w])):∀(n:Nat)(ws:List W),ws.length=n->P ws
 |0,ws,h=>by rw[vN.mp h];exact h0
 |n+1,ws,h=>by
  have hn:ws≠[]:=λz=>by rw[z]at h;cases h
  rw[<-vZ hn];exact h1 _ _ (snoc_ind h0 h1 n _ (by rw[uZ,h];rfl))
def put(wide:Int)(rows:List W)(w:W):List W :=
 match rows.getLast? with
 |some r=>if(r.length:Int)+1+w.length<=wide then rows.dropLast++[r++32::w]else rows++[w]
 |none=>[w]
def taken(wide:Int)(ws:List W):List W:=ws.foldl (put wide) []
theorem xA(wide:Int)(ws:List W)(w:W):taken wide (ws++[w])=put wide (taken wide ws) w:=by
 unfold taken;rw[uo];rfl
theorem qz{rows:List W}{r:W}(h:rows.getLast?=some r):rows=rows.dropLast++[r]:=by
 have hn:rows≠[]:=λz=>by rw[z]at h;cases h
 rw[List.getLast?_eq_some_getLast hn]at h;rw[<-Option.some.inj h];exact(vZ hn).symm
theorem zeJ{wide:Int}{rows:List W}{w:W}(h:∀r∈rows,(r.length:Int)<=wide)(hw:(w.length:Int)<=wide):∀r∈put wide rows w,(r.length:Int)<=wide:=by
 intro r hr;unfold put at hr;split at hr
 .rename_i q e;split at hr
  .rename_i c;rcases k7.mp hr with m|m
   .exact h r (List.dropLast_subset _ m)
   .rw[kq.mp m,kt,kG]
    lia
  .rcases k7.mp hr with m|m
   .exact h r m
   .rw[kq.mp m];exact hw
 .rw[kq.mp hr];exact hw
theorem zbQ{wide:Int}(ws:List W):(∀w∈ws,(w.length:Int)<=wide)->∀r∈taken wide ws,(r.length:Int)<=wide :=
 snoc_ind (P:=λws=>(∀w∈ws,(w.length:Int)<=wide)->∀r∈taken wide ws,(r.length:Int)<=wide) (λ_ r hr=>(k6 hr).elim)
  (λws w ih h=>by
   rw[xA];exact zeJ (ih λv hv=>h v (vJ _ hv)) (h w (by simp))) _ ws rfl
theorem QT(wide:Int)(rows:List W)(w:W):(put wide rows w).length<=rows.length+1:=by
 unfold put;split
 .rename_i r e;split
  .have:=qz e;have e2:rows.length=rows.dropLast.length+1:=by
    conv=>lhs;rw[this,kt]
    rfl
   rw[kt,vo]
   lia
  .simp
 .simp
theorem wQ(wide:Int)(ws:List W):(taken wide ws).length<=ws.length :=
 snoc_ind (P:=λws=>(taken wide ws).length<=ws.length) (km _) (λws w ih=>by
  rw[xA,kt,vo];exact kw (QT _ _ _) (vw ih)) _ ws rfl
def pos(ws:List W)(k:Nat):Int:=((ws.take k).map (λw=>(w.length:Int)+1)).sum
theorem j0(ws:List W):pos ws 0=0:=rfl
theorem pos_succ{ws:List W}{k:Nat}{w:W}(h:ws[k]?=some w):pos ws (k+1)=pos ws k+w.length+1:=by
 obtain⟨hk,e⟩:=kf.mp h;unfold pos;rw[<-kC hk,kF,bm,e];show _+(((w.length:Int)+1)+0)=_
 lia
theorem zbR(ws:List W)(k:Nat):pos ws k<=pos ws (k+1):=by
 by_cases h:k<ws.length
 .rw[pos_succ (kc h)]
  lia
 .unfold pos;rw[uy (),uy ()];exact kX _
theorem wR(ws:List W){i:Nat}:∀{j:Nat},i<=j->pos ws i<=pos ws j
 |0,h=>by rw[uN.mp h];exact kX _
 |j+1,h=>by
  rcases Nat.lt_or_ge i (j+1)with z|z
  .exact vT (wR ws (ua z)) (zbR ws j)
  .rw[uU h z];exact kX _
def gr(ws:List W)(wide:Int):Nat->Nat×Nat
 |0=>(0,0)
 |k+1=>if(gr ws wide k).1≠0/\pos ws (k+1)-pos ws (gr ws wide k).2-1<=wide then gr ws wide k else ((gr ws wide k).1+1,k)
section
variable{ws:List W}{wide:Int}
theorem qi{k:Nat}(h:(gr ws wide k).1≠0/\pos ws (k+1)-pos ws (gr ws wide k).2-1<=wide):gr ws wide (k+1)=gr ws wide k:=by
 conv=>lhs;unfold gr
 rw[if_pos h]
theorem qA{k:Nat}(h:¬((gr ws wide k).1≠0/\pos ws (k+1)-pos ws (gr ws wide k).2-1<=wide)):gr ws wide (k+1)=((gr ws wide k).1+1,k):=by
 conv=>lhs;unfold gr
 rw[if_neg h]
theorem zak:∀{k:Nat},0<k->0<(gr ws wide k).1
 |k+1,_=>by
  by_cases h:(gr ws wide k).1≠0/\pos ws (k+1)-pos ws (gr ws wide k).2-1<=wide
  .rw[qi h];lia
  .rw[qA h];exact ux _
theorem zdo(k:Nat):(gr ws wide k).1<=(gr ws wide (k+1)).1/\(gr ws wide (k+1)).1<=(gr ws wide k).1+1:=by
 by_cases h:(gr ws wide k).1≠0/\pos ws (k+1)-pos ws (gr ws wide k).2-1<=wide
 .rw[qi h];lia
 .rw[qA h];exact⟨vV _,km _⟩
theorem zcH:∀k:Nat,(gr ws wide k).1<=k
 |0=>km _
 |k+1=>kw (zdo k).2 (vw (zcH k))
theorem XS:∀{k:Nat},0<k->(gr ws wide k).2<k/\(gr ws wide k).1=(gr ws wide (gr ws wide k).2).1+1
 |k+1,_=>by
  by_cases h:(gr ws wide k).1≠0/\pos ws (k+1)-pos ws (gr ws wide k).2-1<=wide
  .rw[qi h];have hk:0<k:=Nat.pos_of_ne_zero λz=>by
    rw[z]at h;exact h.1 rfl
   have:=XS hk;exact⟨vG this.1,this.2⟩
  .rw[qA h];exact⟨vH _,rfl⟩
theorem zeK(hw:∀w∈ws,(w.length:Int)<=wide):∀{k:Nat},0<k->k<=ws.length->pos ws k-pos ws (gr ws wide k).2-1<=wide
 |k+1,_,hk=>by
  by_cases h:(gr ws wide k).1≠0/\pos ws (k+1)-pos ws (gr ws wide k).2-1<=wide
  .rw[qi h];exact h.2
  .rw[qA h];have:=pos_succ (kc (show k<ws.length by assumption));have:=hw _ (vv (show k<ws.length by assumption));dsimp only
   lia
theorem jg{f k:Nat}(hf:pos ws k-pos ws f-1<=wide):∀j,f<=j->j<=k->(gr ws wide j).1=(gr ws wide f).1\/((gr ws wide j).1=(gr ws wide f).1+1/\f<=(gr ws wide j).2)
 |0,h,_=>by rw[uN.mp h];exact .inl rfl
 |j+1,h,hk=>by
  rcases Nat.lt_or_ge j f with z|z
  .rw[show f=j+1 by lia];exact .inl rfl
  .by_cases c:(gr ws wide j).1≠0/\pos ws (j+1)-pos ws (gr ws wide j).2-1<=wide
   .rw[qi c];exact jg hf j z (uE hk)
   .rcases jg hf j z (uE hk)with a|⟨a,b⟩
    .rw[qA c];exact .inr ⟨by rw[a],z⟩
    .exfalso;apply c;refine⟨(),?_⟩;have:=wR ws hk;have:=wR ws b
     lia
theorem zcI{f k:Nat}(hk:f<=k)(hf:pos ws k-pos ws f-1<=wide):(gr ws wide k).1<=(gr ws wide f).1+1:=by
 rcases jg hf k hk (km _)with a|⟨a,_⟩<;>lia
theorem XT:∀{k:Nat},k<=ws.length->(taken wide (ws.take k)).length=(gr ws wide k).1/\(0<k->∃r,(taken wide (ws.take k)).getLast?=some r/\(r.length:Int)=pos ws k-pos ws (gr ws wide k).2-1)
 |0,_=>⟨rfl,λh=>absurd h (vP _)⟩
 |k+1,hk=>by
  have hk':k<ws.length:=hk;obtain⟨l,g⟩:=XT (k:=k) (vF hk');have ps:=pos_succ (kc hk');rw[<-kC hk',xA];generalize ws[k]=w at ps;by_cases h0:k=0
  .subst h0;have e:gr ws wide 1=(1,0):=by
    rw[qA (λz=>z.1 rfl)];rfl
   rw[e];refine⟨rfl,λ_=>⟨w,rfl,?_⟩⟩;rw[j0]at ps;have ps:pos ws 1=0+(w.length:Int)+1:=ps;show(w.length:Int)=pos ws 1-0-1
   lia
  .obtain⟨r,er,lr⟩:=g ();have sp:=qz er;have n0:(gr ws wide k).1≠0:=uw (zak ());unfold put;rw[er];dsimp only;by_cases c:(r.length:Int)+1+w.length<=wide
   .rw[if_pos c,qi ⟨n0,()⟩];refine⟨?_,λ_=>⟨r++32::w,by simp,?_⟩⟩
    .rw[<-l]
     conv=>rhs;rw[sp]
     simp
    .rw[kt,kG]
     lia
   .rw[if_neg c,qA (λz=>c ())];refine⟨by rw[kt,l];rfl,λ_=>⟨w,by simp,?_⟩⟩;dsimp only
    lia
end
end _Lin
namespace _L2
open PySem PySem.Spec PyProof.Rows PySem.W
theorem qj(a b:List Nat):txt a++txt b=txt (a++b):=by
 refine Str.ext' ?_;rw[Str.cps_append];simp[txt]
def Its(l:List Nat):It:=⟨λi _=>i<l.length,λi H x H'=>H'=H/\∃c,l[i]?=some c/\x=.str (txt [c]),λi _=>l.length<=i⟩
theorem QU{P:Program}{w:World}{K:PySem.W.Frag}{tg:Expr}(it:Addr)(l:List Nat)(t:Tok):Turn P w K tg (Its l) [it] it (λi h=>h.IsStrIter it "str_ascii_iterator" (txt l) t i) where
 mem:=by simp
 obj:=λi h st b hb=>by
  have e:b=it:=by simpa using hb
  subst e;obtain⟨o,e,c,d⟩:=st;exact⟨o,e,λv z=>by rw[d]at z;cases z⟩
 keep:=λi h h' st k=>let ⟨o,ho,r⟩:=st;⟨o,k it (by simp) o ho,r⟩
 item:=by
  intro X hP hw hK hc i pins s σ H E I hf st hg;subst hP hw hK;obtain⟨f0,f1,f2,f3,f4,f5⟩:=hf it (by simp);have hg:i<l.length:=hg;refine wpAny_pyNext_ascii_item st (c:=l[i]) (by simp[txt,hg]) λh' st' sb=>?_;have I1:Inv X pins σ H {s with heap:=h',toks:=s.toks+1}:=I.turned (t':=s.toks+1) (λb o hb e=>(sb.2 b hb).trans e) f0 f1 f3 f4 f5;obtain⟨o,e,c,d⟩:=id st';exact⟨_,rfl,Zm (s:={s with heap:=h',toks:=s.toks+1}) e c d ⋯ ⟨.str (txt [l[i]]),H,I1,⟨_,rfl⟩,⟨rfl,l[i],kc hg,rfl⟩,st',λb hb=>(hf b hb).1⟩⟩
 done:=by
  intro X hP hw hK hc i pins s σ H E I hf st hg;subst hP hw hK;obtain⟨f0,f1,f2,f3,f4,f5⟩:=hf it (by simp);have hg:l.length<=i:=hg;exact wpAny_pyNext_ascii_end (I.ok.hd hc) st (by simp[txt,hg]) λh' eb=>⟨rfl,I.turned (t':=s.toks) (λb o hb e=>eb b o hb e) f0 f1 f3 f4 f5⟩
 self:=λ_ _ _ _ _ st h=>wpAny_pyIter_striter_ascii st h
section
variable{X:Cx}{tg:Expr}
def iTxt(tl:TE):TI:=λσ H R=>tl σ H λx H1=>∃l:List Nat,x=.str (txt l)/\(∀c∈l,c<128)/\R (Its l) H1
theorem zeL{l:Expr}{tl:TE}(hl:PE X l tl):PI X tg l (iTxt tl):=by
 intro pins s σ H R I h;refine thn (hl pins s σ H _ I h) λv s1 h9=>?_;obtain⟨x,H1,I1,r1,q1⟩:=h9;obtain⟨l,e,ha,q⟩:=q1;subst e;obtain⟨t,rfl⟩:=r1;refine wpAny_pyIter_ascii (by simpa[txt]using ha) ?_;refine I_5 s1.heap.objs.size [s1.heap.objs.size] _ _ H1 ⟨rfl,I1.kept (t':=s1.toks) λb o e=>Heap.get?_push_of_some _ e,QU _ l t,⟨_,Heap.get?_push_size _ rfl,rfl,rfl⟩,λb hb=>?_,q⟩;have e:b=s1.heap.objs.size:=by simpa using hb
 subst e;exact I1.fpOk (km _) (I1.hok.fresh (km _))
theorem YG:OpR X (compareOp .LtE) (λx y H Q=>∃i j,x=.str i/\y=.str j/\Q (.bl (!decide (j.cps.toList<i.cps.toList))) H):=by
 intro pins s σ H x y v u Q I rx ry h;refine E_2 h λi j n8=>A_3 n8 λe9 n90 q=>?_;clear n8 h;subst e9;subst n90;obtain⟨t,rfl⟩:=rx;obtain⟨t',rfl⟩:=ry;exact PySem.P.le_str (zW I q rfl)
theorem YH:∀(ls:List (List Nat)),Str.join (txt [32]) (ls.map txt)=txt (_Lin.glue ls)
 |[]=>rfl
 |[a]=>rfl
 |a::b::r=>by
  have ih:=YH (b::r);show txt a++txt [32]++Str.join (txt [32]) ((b::r).map txt)=_;rw[ih,qj,qj];simp[_Lin.glue]
end
section
variable{g:TG}{tc:TT}{te:TE}{σ0:St}{H0:Hp}{R:List V->Hp->Prop}{l:List Nat}
theorem zdp(Pv:Nat->List V->St->Hp->Prop)(h0:Pv 0 [] σ0 H0)(hz:∀i ys σ H,i<=l.length->Pv i ys σ H->ys.length<=sizeLine)(hst:∀ys σ H,Pv l.length ys σ H->R ys H)
  (hgo:∀i c ys σ H,l[i]?=some c->Pv i ys σ H->g (.str (txt [c])) σ H λσ2 H3=>tc σ2 H3 λb H4=>if b=true then te σ2 H4 λy H5=>Pv (i+1) (ys++[y]) σ2 H5 else Pv (i+1) ys σ2 H4):
  ∃W:Nat->Nat->List V->St->Hp->Prop,(∃m,W 0 m [] σ0 H0)/\∀i m ys σ' H',W i m ys σ' H' ->
   ((Its l).stop i H'/\ys.length<=sizeLine/\R ys H') \/
   ((Its l).go i H'/\ys.length<=sizeLine/\∃N:List V->St->Hp->Prop,(∀ys' σ2 H2,N ys' σ2 H2->∃m',m'<m/\W (i+1) m' ys' σ2 H2) /\
     ∀x H2,(Its l).yld i H' x H2->g x σ' H2 λσ2 H3=>tc σ2 H3 λb H4=>if b=true then te σ2 H4 λy H5=>N (ys++[y]) σ2 H5 else N ys σ2 H4) :=
 wF (n:=l.length) Pv h0 hz (λys σ H p=>⟨km _,hst ys σ H p⟩) λi ys σ H hi p=>⟨hi,λx H2 y=>by
  obtain⟨e,c,hc,ex⟩:=y;subst e ex;exact hgo i c ys σ _ hc p⟩
end
section
variable{σ:St}{H:Hp}{ta tb:TE}
theorem qB{w:List Nat}(a:Evl ta σ H (.str (txt w)))(h:w.length<=1000000):Evl (tCB (λxs H Q=>∃z:Str,xs=[.str z]/\z.length<=sizeLine/\Q (.int z.length) H) (wc ta tNil)) σ H (.int (w.length:Nat)):=λQ q =>
 a _ ⟨txt w,rfl,by rw[yK];exact kw h ⋯,by rw[yK];exact q⟩
theorem XU{u w:List Nat}(a:Evl ta σ H (.str (txt u)))(b:Evl tb σ H (.str (txt w)))(h:u.length+w.length<=1000000):Evl (tOp (λx y H Q=>∃i j,x=.str i/\y=.str j/\i.length+j.length<=sizeLine/\Q (.str (i++j)) H) ta tb) σ H (.str (txt (u++w))):=λQ q =>
 a _ (b _ ⟨txt u,txt w,rfl,rfl,by rw[yK,yK];exact kw h ⋯,by rw[qj];exact q⟩)
theorem Z2{c:TT}{tb:TS}{D:Ends}(Pv:Nat->St->Hp->Prop)(m0:Nat)(h0:Pv m0 σ H)
  (hs:∀m σ H,Pv m σ H->∃(p:Prop)(_:Decidable p),Tst c σ H p/\(p->tb {D with nx:=λσ' H'=>∃m',m'<m/\Pv m' σ' H',ct:=λσ' H'=>∃m',m'<m/\Pv m' σ' H',bk:=D.nx} σ H)/\(¬p->D.nx σ H)):JS c tb D σ H:=by
 refine⟨Pv,⟨m0,h0⟩,λm σ H p=>?_⟩;obtain⟨q,dq,t,h1,h2⟩:=hs m σ H p;refine t _ ?_;by_cases z:q
 .rw[decide_eq_true z,if_pos rfl];exact⟨_,λ_ _ y=>y,h1 z⟩
 .rw[decide_eq_false z,if_neg kH];exact h2 z
theorem jG{t u:TS}{D:Ends}(R:St->Hp->Prop)(h3:∀σ H,R σ H->u D σ H)(h:(∀σ H,R σ H->u D σ H)->t {D with nx:=u D} σ H):tSeq t u D σ H:=h h3
theorem zJ{i:Nat}{v:V}{Q:St->Hp->Prop}(h:Q (σ.set i (some v)) H):zU i v σ H Q:=h
theorem zdq{t:TA}{i:Nat}{u:TS}{D:Ends}(h:t σ H λxs H1=>xs.length<=sizeLine/\∀p,H1 p=none->u D (σ.set i (some (.ref p))) (upd H1 p (.lst xs))):tSeq (tAsg (tLst t) (zU i)) u D σ H:=h
end
end _L2
namespace _L2
open PySem PySem.Spec PyProof.Rows
theorem Inv.turnedL{X:Cx}{pins:List (Addr×Obj)}{σ:St}{H:Hp}{s:Shared}{h':Heap}{t':Nat}{ch:List Addr}(I:Inv X pins σ H s)(k:∀b o,b∉ch->s.heap.get? b=some o->h'.get? b=some o)(hf:∀b∈ch,FpOk X pins H b):
  Inv X pins σ H {s with heap:=h',toks:=t'}:=by
 have nit:∀b u,H b=some u->b∉ch:=λb u e m=>by rw[(hf b m).1]at e;cases e
 refine I.step (g':=s.gens) (d':=s.drawn) (ch:=ch) (λb hb=>?_) (λb o _ _ m e _=>k b o m e) (λb o _ _ m e _=>⟨o.slots,k b o m e⟩) (λ_ _ _ _ n=>n) (λb o m e=>⟨o,k b o m e⟩) (λ_ _ e=>e) (λ_ _ _ e=>e)
  (λb ps e=>⟨#[],by rw[e];simp⟩) (λm hm=>?_) (λb u e=>?_) I.bare
 .obtain⟨a0,a1,a2,a3,a4,a5⟩:=hf b hb;exact⟨a3,a1,a4,a5⟩
 .obtain⟨o,es,ep,ho,r⟩:=hm;exact⟨o,es,ep,k _ o (λm=>(hf _ m).2.1 rfl) ho,r⟩
 .refine(I.hok b u e).stay (λc v hc q=>k c v (λm=>?_) q) (λ_ q=>q) λ_ _ q=>q;rcases hc with z|z
  .rw[z]at m;exact nit b u e m
  .exact nit c _ z m
theorem xk{h:Heap}{a c:Addr}{its:Array Value}{o:Obj}(hl:h.IsList a its)(hc:h.get? c=some o)(hn:o.cls≠.type "list"):a≠c:=λz=>by
 obtain⟨o',g1,g2,_⟩:=hl;rw[z,hc]at g1;cases g1;exact hn g2
def ItZ(K:PySem.W.Frag)(a b:Addr):It :=
 ⟨λi H=>∃xs ys x y,SqL K H a xs/\SqL K H b ys/\xs[i]?=some x/\ys[i]?=some y,
 λi H x H'=>∃p u v,H p=none/\x=.ref p/\H'=upd H p (.tup [u,v])/\(∀xs,SqL K H a xs->xs[i]?=some u)/\∀ys,SqL K H b ys->ys[i]?=some v,
 λi H=>∃xs ys,SqL K H a xs/\SqL K H b ys/\(xs.length<=i\/ys.length<=i)⟩
structure Dst(z TI TO i1 i2:Addr):Prop where
 TIz:TI≠z
 TOz:TO≠z
 i1z:i1≠z
 i2z:i2≠z
 TITO:TI≠TO
 TIi1:TI≠i1
 TIi2:TI≠i2
 TOi1:TO≠i1
 TOi2:TO≠i2
 i12:i1≠i2
theorem zal(n:Nat):Dst (n+4) (n+2) (n+3) n (n+1):=by
 have ne:∀{i j:Nat},i≠j->(show Nat from n+i)≠(show Nat from n+j):=λh z=>h (Nat.add_left_cancel z);exact⟨ne (i:=2) (j:=4) ⋯,ne (i:=3) (j:=4) ⋯,ne (i:=0) (j:=4) ⋯,ne (i:=1) (j:=4) ⋯,ne (i:=2) (j:=3) ⋯,ne (i:=2) (j:=0) ⋯,ne (i:=2) (j:=1) ⋯,ne (i:=3) (j:=0) ⋯,ne (i:=3) (j:=1) ⋯,ne (i:=0) (j:=1) ⋯⟩
theorem YI{n c:Nat}(h:c=n+4\/c=n+2\/c=n+3\/c=n\/c=n+1):n<=c:=()
theorem YJ{h:Heap}{z TI TO i1 i2 a b:Addr}{xs ys:Array Value}{k1 k2:Nat}{f0 v u:Value}(D:Dst z TI TO i1 i2)(hz:IsZip h z TI TO f0)(hTO:IsPair h TO v u)(h1:h.IsListIter i1 a k1)(h2:h.IsListIter i2 b k2)(l1:h.IsList a xs)(l2:h.IsList b ys):
  ZipApart z TI TO i1 i2 a b:=by
 obtain⟨o1,e1,c1,_⟩:=h1;obtain⟨o2,e2,c2,_⟩:=h2;have n1:o1.cls≠.type "list" := by rw[c1];decide
 have n2:o2.cls≠.type "list" := by rw[c2];decide
 have nz:Value.type "zip" ≠ .type "list" := by decide
 have nt:Value.type "tuple" ≠ .type "list" := by decide
 exact⟨D.TIz,D.TOz,D.i1z,D.i2z,D.TITO,D.TIi1,D.TIi2,D.TOi1,D.TOi2,D.i12,xk l1 hz nz,xk l1 hTO nt,xk l1 e1 n1,xk l1 e2 n2,xk l2 hz nz,xk l2 hTO nt,xk l2 e1 n1,xk l2 e2 n2⟩
theorem zbS{P:Program}{w:World}{K:PySem.W.Frag}{elts:List Expr}{kx:Nat}{px:Pos}(a b z TI TO i1 i2:Addr)(D:Dst z TI TO i1 i2):
  Turn P w K (.Tuple elts kx px) (ItZ K a b) [z,TI,TO,i1,i2] z (λi h=>IsZip h z TI TO .none/\IsPair h TI (.ref i1) (.ref i2)/\(∃v u,IsPair h TO v u)/\h.IsListIter i1 a i/\h.IsListIter i2 b i) where
 mem:=by simp
 obj:=λi h st c hc=>by
  obtain⟨hz,hTI,⟨v,u,hTO⟩,⟨o1,e1,c1,d1⟩,⟨o2,e2,c2,d2⟩⟩:=st;have hc:c=z\/c=TI\/c=TO\/c=i1\/c=i2:=by simpa using hc
  rcases hc with rfl|rfl|rfl|rfl|rfl
  .exact⟨_,hz,λv y=>by have y':Data.fields _=Data.cell v:=y;cases y'⟩
  .exact⟨_,hTI,λv y=>by have y':Data.seq _=Data.cell v:=y;cases y'⟩
  .exact⟨_,hTO,λv y=>by have y':Data.seq _=Data.cell v:=y;cases y'⟩
  .exact⟨o1,e1,λv y=>by rw[d1]at y;cases y⟩
  .exact⟨o2,e2,λv y=>by rw[d2]at y;cases y⟩
 keep:=λi h h' st k=>by
  obtain⟨hz,hTI,⟨v,u,hTO⟩,h1,h2⟩:=st;exact⟨k z (by simp) _ hz,k TI (by simp) _ hTI,⟨v,u,k TO (by simp) _ hTO⟩,h1.at λo q=>k i1 (by simp) o q,h2.at λo q=>k i2 (by simp) o q⟩
 item:=by
  intro X hP hw hK hc i pins s σ H E I hf st hg;subst hP hw hK;obtain⟨hz,hTI,⟨v0,u0,hTO⟩,h1,h2⟩:=st;obtain⟨xs,ys,x,y,hq1,hq2,hx,hy⟩:=hg;obtain⟨its,rv,tp,hz1⟩:=I.list hq1;obtain⟨jts,rw',tq,hz2⟩:=I.list hq2;obtain⟨u,hu,ru⟩:=rv.get hx;obtain⟨v,hv,rv'⟩:=rw'.get hy;have Z:=YJ D hz hTO h1 h2 tp.isList tq.isList;refine wpAny_pyNext_zip_item Z hz hTI hTO h1 h2 tp.isList tq.isList (x:=u) (y:=v) (by simpa using hu) (by simpa using hv) λh' a1 a2 a3 a4 a5 a6 hk=>?_;refine⟨_,rfl,wpAny_letOwnedTupleGo_zip a1 λh'' hz'' hs=>?_⟩;have lt:∀{c o},s.heap.get? c=some o->s.heap.objs.size≠c:=λe=>uw (Heap.lt_size e);have ne1:=lt hz;have k2:∀c o,c∉[z,TO,i1,i2]->s.heap.get? c=some o->h''.get? c=some o:=λc o m q=>by
   have m:c≠z/\c≠TO/\c≠i1/\c≠i2:=by simpa using m
   exact(hs.2 c m.1).trans (hk c o m.1 m.2.1 m.2.2.1 m.2.2.2 q)
  have I1:Inv X pins σ H {s with heap:=h'',toks:=s.toks}:=I.turnedL (t':=s.toks) k2 λc m=>hf c (by
   have m:c=z\/c=TO\/c=i1\/c=i2:=by simpa using m
   rcases m with rfl|rfl|rfl|rfl<;>simp)
  have hn:H s.heap.objs.size=none:=I.hok.fresh (km _);have FP:=I.fpOk (b:=s.heap.objs.size) (km _) hn;have hT2:h''.get? s.heap.objs.size=some {cls:=.type "tuple",data:=.seq #[u,v]}:=(hs.2 _ ne1).trans a5;have I2:=I1.track (p:=s.heap.objs.size) (o:=.tup [x,y]) hn (Heap.get?_none_of_le I.sz) FP.2.1 FP.2.2.2.2.1 FP.2.2.2.2.2
   ⟨Zz2,[u,v],.cons ru (.cons rv' .nil),⟨_,hT2,rfl,_,rfl⟩⟩
  refine⟨.ref s.heap.objs.size,_,I2,rfl,⟨_,x,y,hn,rfl,rfl,λzs hy'=>?_,λzs hy'=>?_⟩,⟨hz'',(hs.2 _ D.TIz).trans (hk _ _ D.TIz D.TITO D.TIi1 D.TIi2 hTI),⟨_,_,(hs.2 _ D.TOz).trans a2⟩,a3.at λo q=>(hs.2 _ D.i1z).trans q,a4.at λo q=>(hs.2 _ D.i2z).trans q⟩,λc hc=>?_⟩
  .rw[I.list_inj hy' hq1];exact hx
  .rw[I.list_inj hy' hq2];exact hy
  .have hb2:c≠s.heap.objs.size:=by
    have m:c=z\/c=TI\/c=TO\/c=i1\/c=i2:=by simpa using hc
    rcases m with rfl|rfl|rfl|rfl|rfl
    .exact ne1.symm
    .exact(lt hTI).symm
    .exact(lt hTO).symm
    .obtain⟨o,g,_⟩:=h1;exact(lt g).symm
    .obtain⟨o,g,_⟩:=h2;exact(lt g).symm
   rw[zN hb2];exact(hf c hc).1
 done:=by
  intro X hP hw hK hc i pins s σ H E I hf st hg;subst hP hw hK;obtain⟨hz,hTI,⟨v0,u0,hTO⟩,h1,h2⟩:=st;obtain⟨xs,ys,hq1,hq2,hx⟩:=hg;obtain⟨its,rv,tp,hz1⟩:=I.list hq1;obtain⟨jts,rw',tq,hz2⟩:=I.list hq2;have l1:=rv.length;have l2:=rw'.length;have Z:=YJ D hz hTO h1 h2 tp.isList tq.isList;refine wpAny_pyNext_zip_end (I.ok.hd hc) Z hz hTI hTO h1 h2 tp.isList tq.isList ?_ λh' hk=>⟨rfl,I.turnedL (t':=s.toks) (ch:=[z,TO,i1,i2]) (λc o m q=>?_) λc m=>hf c ?_⟩
  .rcases hx with hx|hx
   .left;simp;lia
   .right;simp;lia
  .have m:c≠z/\c≠TO/\c≠i1/\c≠i2:=by simpa using m
   exact hk c o m.1 m.2.1 m.2.2.1 m.2.2.2 q
  .have m:c=z\/c=TO\/c=i1\/c=i2:=by simpa using m
   rcases m with rfl|rfl|rfl|rfl<;>simp
 self:=λ_ _ _ _ _ st h=>wpAny_pyIter_zip st.1 h
def iZip(K:PySem.W.Frag)(ta:TA):TI:=λσ H R=>ta σ H λvs H1=>∃a b,vs=[.ref a,.ref b]/\(∃xs,SqL K H1 a xs)/\(∃ys,SqL K H1 b ys)/\R (ItZ K a b) H1
theorem qk{X:Cx}{l r:Expr}{ta:TA}{elts:List Expr}{kx:Nat}{px p pos:Pos}(hg:Gl X "zip")(hm:X.mg "zip"=none)(ha:PA X [l,r] ta)(hs:starEach [l,r] X.env=[(false,eval l X.env),(false,eval r X.env)]:=by rfl)(hs2:starEach [r] X.env=[(false,eval r X.env)]:=by rfl):
  PI X (.Tuple elts kx px) (.Call (.Name "zip" p) [l,r] [] pos) (iZip X.K ta):=by
 intro pins s σ H R I h;refine Call_ (yR I hg hm boot_zip (vB (thn (ha pos pins s σ H _ I h) λus s1 ⟨vs,H1,I1,r1,q1⟩=>?_) (by rw[hs,hs2]) (by rw[hs2];rfl)));obtain⟨a,b,e,⟨xs,hq1⟩,⟨ys,hq2⟩,q⟩:=q1;subst e;cases r1 with
 |cons r rr =>
  cases rr with
  |cons r' rr =>
   cases rr;cases r;cases r';obtain⟨its,rv,tp,hz1⟩:=I1.list hq1;obtain⟨jts,rw',tq,hz2⟩:=I1.list hq2;refine call_zip_2 tp.isList tq.isList λh' a1 a2 a3 a4 a5 a6 hk=>?_;refine wpAny_pyIter_zip a1 ?_;refine⟨s1.heap.objs.size+4,[s1.heap.objs.size+4,s1.heap.objs.size+2,s1.heap.objs.size+3,s1.heap.objs.size,s1.heap.objs.size+1],_,_,H1,rfl,I1.kept (t':=s1.toks) hk,
    zbS a b _ _ _ _ _ (zal _),⟨a1,a2,⟨_,_,a3⟩,a4,a5⟩,λc hc=>?_,q⟩
   have m:c=s1.heap.objs.size+4\/c=s1.heap.objs.size+2\/c=s1.heap.objs.size+3\/c=s1.heap.objs.size\/c=s1.heap.objs.size+1:=by simpa using hc
   have le:s1.heap.objs.size<=c:=YI m;exact I1.fpOk le (I1.hok.fresh le)
section
variable{g:TG}{tc:TT}{te:TE}{σ0:St}{H0:Hp}{R:List V->Hp->Prop}{K:PySem.W.Frag}{a b:Addr}{xs ys:List V}
theorem ql(Pv:Nat->List V->St->Hp->Prop)(h0:Pv 0 [] σ0 H0)(hz:∀i us σ H,i<=min xs.length ys.length->Pv i us σ H->us.length<=sizeLine/\SqL K H a xs/\SqL K H b ys)(hst:∀us σ H,Pv (min xs.length ys.length) us σ H->R us H)
  (hgo:∀i x y us σ H p,xs[i]?=some x->ys[i]?=some y->Pv i us σ H->H p=none->g (.ref p) σ (upd H p (.tup [x,y])) λσ2 H3=>tc σ2 H3 λc H4=>if c=true then te σ2 H4 λu H5=>Pv (i+1) (us++[u]) σ2 H5 else Pv (i+1) us σ2 H4):
  ∃W:Nat->Nat->List V->St->Hp->Prop,(∃m,W 0 m [] σ0 H0)/\∀i m us σ' H',W i m us σ' H' ->
   ((ItZ K a b).stop i H'/\us.length<=sizeLine/\R us H') \/
   ((ItZ K a b).go i H'/\us.length<=sizeLine/\∃N:List V->St->Hp->Prop,(∀us' σ2 H2,N us' σ2 H2->∃m',m'<m/\W (i+1) m' us' σ2 H2) /\
     ∀x H2,(ItZ K a b).yld i H' x H2->g x σ' H2 λσ2 H3=>tc σ2 H3 λc H4=>if c=true then te σ2 H4 λu H5=>N (us++[u]) σ2 H5 else N us σ2 H4) :=
 wF (n:=min xs.length ys.length) Pv h0 (λi us σ H hi p=>(hz i us σ H hi p).1)
  (λus σ H p=>⟨⟨xs,ys,(hz _ us σ H (km _) p).2.1,(hz _ us σ H (km _) p).2.2,()⟩,hst us σ H p⟩)
  λi us σ H hi p=>⟨⟨xs,ys,xs[i]'(),ys[i]'(),(hz i us σ H (vF hi) p).2.1,(hz i us σ H (vF hi) p).2.2,kc _,kc _⟩,λx H2 y=>by
   obtain⟨q,u,v,hn,e,e2,y1,y2⟩:=y;subst e e2;have z:=hz i us σ H (vF hi) p;exact hgo i u v us σ H q (y1 xs z.2.1) (y2 ys z.2.2) p hn⟩
end
end _L2
namespace _Lin
theorem Qb:∀{a b:W}{x y:W},32∉a->32∉b->a++32::x=b++32::y->a=b/\x=y
 |[],[],x,y,_,_,h=>by cases h;exact⟨rfl,rfl⟩
 |[],c::b,x,y,_,hb,h=>by
  cases h;exact absurd kg hb
 |c::a,[],x,y,ha,_,h=>by
  cases h;exact absurd kg ha
 |c::a,d::b,x,y,ha,hb,h=>by
  have h:c::(a++32::x)=d::(b++32::y):=h;injection h with h1 h2;obtain⟨e1,e2⟩:=Qb (λz=>ha (kn _ z)) (λz=>hb (kn _ z)) h2;exact⟨by rw[h1,e1],e2⟩
theorem XV:∀(A B:List W),A≠[]->B≠[]->(∀a∈A,32∉a)->(∀b∈B,32∉b)->glue A=glue B->A=B
 |[],_,h,_,_,_,_=>absurd rfl h
 |_,[],_,h,_,_,_=>absurd rfl h
 |[a],[b],_,_,_,_,h=>by
  have h:a=b:=h;rw[h]
 |[a],b::c::r,_,_,ha,_,h=>by
  have h:a=b++32::glue (c::r):=h;exact absurd (by rw[h];simp) (ha a kg)
 |a::c::r,[b],_,_,_,hb,h=>by
  have h:a++32::glue (c::r)=b:=h;exact absurd (by rw[<-h];simp) (hb b kg)
 |a::c::r,b::d::t,_,_,ha,hb,h=>by
  have h:a++32::glue (c::r)=b++32::glue (d::t):=h;obtain⟨e1,e2⟩:=Qb (ha a kg) (hb b kg) h;rw[e1,XV (c::r) (d::t) (by simp) (by simp) (λz hz=>ha z (kn _ hz)) (λz hz=>hb z (kn _ hz)) e2]
end _Lin
namespace _L2
open PySem PySem.Spec PyProof.Rows PySem.Builtin PySem.Builtin.Str _Lin
theorem QV(p:Str):txt p.cps.toList=p:=by
 refine Str.ext' ?_;simp[txt]
theorem QW{ws:List W}(hn:ws≠[])(hw:∀w∈ws,w≠[]/\32∉w):Txt.split (txt (glue ws)) (txt [32])=ws.map txt:=by
 have j:=StrLaws.join_split (txt (glue ws)) (txt [32]);have fr:=StrLaws.split_free (txt (glue ws)) 32;have fr:∀p∈Txt.split (txt (glue ws)) (txt [32]),32∉p.cps.toList:=fr;generalize Txt.split (txt (glue ws)) (txt [32])=ps at j fr;have e:(ps.map λp=>p.cps.toList).map txt=ps:=by
  rw[vm]
  conv=>rhs;rw[<-bv ps]
  exact uv λp _=>QV p
 rw[<-e,YH]at j;have j:=zdn j;have ne:(ps.map λp=>p.cps.toList)≠[]:=λz=>by
  rw[z]at j
  match ws,hn,hw,j with
  |[a],_,hw,j=>exact(hw a kg).1 j.symm
  |a::b::r,_,hw,j =>
   have j:[]=a++32::glue (b::r):=j;exact absurd j.symm (by simp)
 have q:=XV _ _ ne hn (λa ha=>by
  obtain⟨p,hp,rfl⟩:=kU.mp ha;exact fr p hp) (λb hb=>(hw b hb).2) j
 rw[<-q,e]
theorem YK:∀{l:List (Str×Tok)}{ws:List W},l.map (·.1)=ws.map txt->Vals (ws.map λw=>V.str (txt w)) (strValues l)
 |[],[],_=>.nil
 |[],_::_,h=>nomatch h
 |_::_,[],h=>nomatch h
 |(x,t)::l,w::ws,h=>by
  injection h with h1 h2;have h1:x=txt w:=h1;subst h1;exact .cons ⟨t,rfl⟩ (YK h2)
section
variable{X:Cx}
theorem YL:MtR X "str.split" (λx vs H Q=>∃ws:List W,x=.str (txt (glue ws))/\vs=[.str " "]/\ws≠[]/\(∀w∈ws,w≠[]/\32∉w)/\(glue ws).length<=1000000/\ws.length<=1000000/\∀l,H l=none->Q (.ref l) (upd H l (.lst (ws.map λw=>V.str (txt w))))):=by
 intro pins s σ H x xs v us Q I rx rxs h;refine E_1 h λws n8=>A_7 n8 λe9 n90 hn hw hl hl2 q=>?_;clear n8 h;subst e9;subst n90;obtain⟨t,rfl⟩:=rx;obtain⟨z,rfl,u,rfl⟩:=vals1 rxs;have eb:(" " : Str)=txt [32]:=by decide +kernel
 rw[eb];have hs:=QW hn hw;have hx:(txt (glue ws)).length<=1000000:=by rw[yK];exact hl
 have big:(1000002:Nat)<=sizeLine:=⋯
 generalize txt (glue ws)=x at hs hx;have hy:((txt [32]).length==0)=false:=by decide +kernel
 have fin:∀(l:List (Str×Tok))(k:Nat),l.map (·.1)=Txt.split x (txt [32])->EP X pins σ Q (.ref s.heap.objs.size) {s with heap:=s.heap.push {cls:=.type "list",data:=.seq (strValues l).toArray},toks:=k}:=λl k e =>
  ⟨.ref s.heap.objs.size,_,I.laid (t':=k) (λb u e=>Heap.get?_push_of_some _ e) (km _) (show yq X.prog X.w _ _ _ (.lst (ws.map λw=>V.str (txt w)))from⟨by rw[ke];lia,strValues l,_,YK (e.trans hs),Heap.get?_push_size _ rfl⟩),rfl,q _ (I.hok.fresh (km _))⟩
 have hnn:(partsBetween x (occurrences x (txt [32]) 0 x.length (x.length+1)) (txt [32]).length).length<=sizeLine:=by
  have e1:=StrLaws.occ_length_le x (txt [32]) 0 x.length (x.length+1);rw[length_partsBetween]
  lia
 cases h1:(decide (x.length<(txt [32]).length)||decide (strKind x<strKind (txt [32])))
 .cases hf:(occurrences x (txt [32]) 0 x.length (x.length+1)).isEmpty
  .refine call_meets F.slot_str_split (typeIs_str _ _ _) F.entry_str_split (F.args_str_split_2 _ _) (meets_str_split_sep x (txt [32]) t u h1 hy hf () hnn) ?_;show wants _ _ _ {s with toks:=_,heap:=s.heap.push {cls:=.type "list",data:=.seq (strsFrom s.toks (partsBetween x (occurrences x (txt [32]) 0 x.length (x.length+1)) (txt [32]).length)).toArray}};rw[strsFrom_eq];exact fin (numbered s.toks _) _ ((numbered_texts _ _).trans ((if_neg (ne_true_of_eq_false h1)).trans (if_neg (ne_true_of_eq_false hf))).symm)
  .exact call_meets F.slot_str_split (typeIs_str _ _ _) F.entry_str_split (F.args_str_split_2 _ _) (meets_str_split_not_found x (txt [32]) t u h1 hy hf)
    (fin [(x,t)] s.toks ((if_neg (ne_true_of_eq_false h1)).trans (if_pos hf)).symm)
 .exact call_meets F.slot_str_split (typeIs_str _ _ _) F.entry_str_split (F.args_str_split_2 _ _) (meets_str_split_cannot_occur x (txt [32]) t u h1)
   (fin [(x,t)] s.toks (if_pos h1).symm)
end
end _L2
namespace _L2
open PySem PySem.Spec PyProof.Rows
section
variable{X:Cx}
theorem zam(hc:X.calm=true):yI X (.builtin "sum") (λxs H Q=>∃(a:Addr)(ns:List Int),xs=[.ref a]/\SqL X.K H a (ns.map V.int)/\Q (.int ns.sum) H):=by
 intro pins s σ H xs us Q I r h;refine E_2 h λa ns n8=>A_3 n8 λe9 hq q=>?_;clear n8 h;subst e9;obtain⟨u,rfl,ru⟩:=vals1 r;cases ru;obtain⟨its,rv,tp,hz⟩:=I.list hq;have hl:=rv.length;rw[ke]at hl;refine call_sum_walkG (YD I tp.isList hc λs2 e W st hfp=>?_);subst e;refine⟨_,_,_,_,_,_,λi=>ns.getD i 0,rfl,W,st,hfp,xm rv,λh' tk t' hk=>?_⟩;refine⟨.int ns.sum,H,I.kept (t':=tk) λb o e=>hk b o (λm=>?_) (Heap.get?_push_of_some _ e),⟨t',?_⟩,q⟩
 .have:=Heap.lt_size e;rw[kq.mp m]at this;exact vP _ this
 .rw[ku,<-hl,we ns _ (km _),kJ]
end
end _L2
namespace _Lin
def putG(wide:Int)(gs:List (List W))(v:W):List (List W) :=
 match gs.getLast? with
 |some g=>if((glue g).length:Int)+1+v.length<=wide then gs.dropLast++[g++[v]]else gs++[[v]]
 |none=>[[v]]
def grp(wide:Int)(ws:List W):List (List W):=ws.foldl (putG wide) []
theorem xX(wide:Int)(ws:List W)(v:W):grp wide (ws++[v])=putG wide (grp wide ws) v:=by
 unfold grp;rw[uo];rfl
theorem yH(wide:Int)(R:List (List W))(g:List W)(v:W):putG wide (R++[g]) v=if((glue g).length:Int)+1+v.length<=wide then R++[g++[v]]else R++[g]++[[v]]:=by
 unfold putG;rw[List.getLast?_concat,bG]
theorem xE{α:Type}(l:List α):l=[]\/∃r a,l=r++[a]:=by
 by_cases h:l=[]
 .exact .inl h
 .exact .inr ⟨_,_,(vZ h).symm⟩
theorem Zy(wide:Int)(ws:List W):(∀g∈grp wide ws,g≠[])/\(ws≠[]->grp wide ws≠[]) :=
 snoc_ind (P:=λws=>(∀g∈grp wide ws,g≠[])/\(ws≠[]->grp wide ws≠[])) ⟨λg hg=>(k6 hg).elim,λh=>absurd rfl h⟩ (λws v ih=>by
  rw[xX];rcases xE (grp wide ws)with e|⟨R,g,e⟩
  .rw[e];exact⟨λg hg=>by rw[kq.mp hg];simp,λ_=>by simp[putG]⟩
  .rw[e]at ih ⊢;rw[yH];split
   .refine⟨λh hh=>?_,λ_=>by simp⟩;rcases k7.mp hh with m|m
    .exact ih.1 h (vJ _ m)
    .rw[kq.mp m];simp
   .refine⟨λh hh=>?_,λ_=>by simp⟩;rcases k7.mp hh with m|m
    .exact ih.1 h m
    .rw[kq.mp m];simp) _ ws rfl
theorem qC(wide:Int)(ws:List W):(grp wide ws).map glue=taken wide ws :=
 snoc_ind (P:=λws=>(grp wide ws).map glue=taken wide ws) rfl (λws v ih=>by
  rw[xX,xA,<-ih];rcases xE (grp wide ws)with e|⟨R,g,e⟩
  .rw[e];rfl
  .have gn:=(Zy wide ws).1 g (by rw[e];simp);rw[e,yH,kF];unfold put;rw[show(List.map glue [g])=[glue g]from rfl,List.getLast?_concat,bG];dsimp only;split
   .rw[kF];show R.map glue++[glue (g++[v])]=_;rw[jf _ _ gn]
   .rw[kF,kF];rfl) _ ws rfl
theorem XW(wide:Int)(ws:List W):(grp wide ws).flatten=ws :=
 snoc_ind (P:=λws=>(grp wide ws).flatten=ws) rfl (λws v ih=>by
  rw[xX]
  conv=>rhs;rw[<-ih]
  rcases xE (grp wide ws)with e|⟨R,g,e⟩
  .rw[e];simp[putG]
  .rw[e,yH];split<;>simp) _ ws rfl
theorem wG(wide:Int)(ws:List W):(grp wide ws).length=(taken wide ws).length:=by rw[<-qC,ke]
def val(g h:List W):Int:=((glue g).length:Int)+1+(h.headD []).length
def vals:List (List W)->List Int
 |[]=>[]
 |[_]=>[]
 |g::h::r=>val g h::vals (h::r)
theorem jh:∀(R:List (List W))(g h:List W),vals (R++[g]++[h])=vals (R++[g])++[val g h]
 |[],g,h=>rfl
 |[a],g,h=>rfl
 |a::b::r,g,h=>by
  have ih:=jh (b::r) g h;show val a b::vals (b::r++[g]++[h])=val a b::vals (b::r++[g])++[val g h];rw[ih];rfl
theorem ji:∀(R:List (List W))(g g':List W),g.headD []=g'.headD []->vals (R++[g])=vals (R++[g'])
 |[],g,g',_=>rfl
 |[a],g,g',e=>by
  show [val a g]=[val a g'];unfold val;rw[e]
 |a::b::r,g,g',e=>by
  show val a b::vals (b::r++[g])=val a b::vals (b::r++[g']);rw[ji (b::r) g g' e]
theorem YM{g:List W}(h:g≠[])(v:W):(g++[v]).headD []=g.headD []:=by
 cases g with
 |nil=>exact absurd rfl h
 |cons a r=>rfl
theorem zan(wide:Int)(ws:List W):∀z∈vals (grp wide ws),wide<z :=
 snoc_ind (P:=λws=>∀z∈vals (grp wide ws),wide<z) (λz hz=>(k6 hz).elim) (λws v ih=>by
  rw[xX];rcases xE (grp wide ws)with e|⟨R,g,e⟩
  .rw[e];exact λz hz=>(k6 hz).elim
  .have gn:=(Zy wide ws).1 g (by rw[e];simp);rw[e]at ih ⊢;rw[yH];split
   .rw[ji R _ g (YM gn v)];exact ih
   .rw[jh];intro z hz;rcases k7.mp hz with m|m
    .exact ih z m
    .rw[kq.mp m];unfold val;show wide<((glue g).length:Int)+1+(v.length:Int)
     lia) _ ws rfl
theorem XX{wide v:Int}(hv:wide<=v)(ws:List W):(∀z∈vals (grp wide ws),v<z)->grp v ws=grp wide ws :=
 snoc_ind (P:=λws=>(∀z∈vals (grp wide ws),v<z)->grp v ws=grp wide ws) (λ_=>rfl) (λws x ih=>by
  rw[xX,xX];rcases xE (grp wide ws)with e|⟨R,g,e⟩
  .intro _;rw[ih (by rw[e];exact λz hz=>(k6 hz).elim),e];rfl
  .have gn:=(Zy wide ws).1 g (by rw[e];simp);rw[e]at ih ⊢;rw[yH];split
   .rw[ji R _ g (YM gn x)];intro h;rw[ih h,yH,if_pos ()]
   .rw[jh];intro h;rw[ih (λz hz=>h z (vJ _ hz)),yH,if_neg];have:=h (val g [x]) (by simp);unfold val at this;have:v<((glue g).length:Int)+1+(x.length:Int):=this
    lia) _ ws rfl
theorem qD:∀gs:List (List W),(vals gs).length=gs.length-1
 |[]=>rfl
 |[_]=>rfl
 |g::h::r=>by
  show(vals (h::r)).length+1=_;rw[qD (h::r)];simp
def cnt(ws:List W)(v:Int):Nat:=(gr ws v ws.length).1
theorem xh(ws:List W)(v:Int):(taken v ws).length=cnt ws v:=by
 have:=(XT (ws:=ws) (wide:=v) (km _)).1
 rwa [kJ]at this
theorem zdr{ws:List W}{v v':Int}(h:v<=v')(hw:∀w∈ws,(w.length:Int)<=v):∀k,k<=ws.length->(gr ws v' k).1<=(gr ws v k).1:=λk=>Nat.strongRecOn k λk ih hk=>by
 by_cases h0:k=0
 .subst h0;exact km _
 .obtain⟨s1,s2⟩:=XS (ws:=ws) (wide:=v) (k:=k) ();have ft:=zeK hw (k:=k) () hk;have up:=zcI (ws:=ws) (wide:=v') (f:=(gr ws v k).2) (k:=k) () ();have:=ih _ s1 ()
  lia
theorem wS{ws:List W}{v v':Int}(h:v<=v')(hw:∀w∈ws,(w.length:Int)<=v):cnt ws v'<=cnt ws v:=zdr h hw _ (km _)
theorem jH{ws:List W}(h:ws≠[])(v:Int):0<cnt ws v:=zak (bc.mpr h)
theorem zao(ws:List W)(v:Int):cnt ws v<=ws.length:=zcH _
def total(ws:List W):Int:=pos ws ws.length-1
theorem jj{ws:List W}(v:Int)(h:total ws<=v):cnt ws v<=1:=by
 have:=zcI (ws:=ws) (wide:=v) (f:=0) (k:=ws.length) (kN _) (by rw[j0];unfold total at h;lia);exact this
def falls(c:Int->Nat)(lo:Int):Nat->List (Int×Nat)
 |0=>[(lo,c lo)]
 |k+1=>if c (lo+(k+1:Nat))<c (lo+k)then falls c lo k++[(lo+(k+1:Nat),c (lo+(k+1:Nat)))]else falls c lo k
theorem qE{c:Int->Nat}{lo:Int}{a:Nat}:∀{k:Nat},a<=k->(∀j,a<=j->j<=k->c (lo+j)=c (lo+a))->falls c lo k=falls c lo a
 |0,h,_=>by rw[uN.mp h]
 |k+1,h,hc=>by
  rcases br h with z|z
  .have ih:=qE (c:=c) (lo:=lo) (a:=a) (k:=k) () λj h1 h2=>hc j h1 ();show(if c (lo+(k+1:Nat))<c (lo+k)then _ else falls c lo k)=_;rw[if_neg,ih];have e1:=hc (k+1) (by omega) (km _);have e2:=hc k () ()
   lia
  .rw[z]
theorem jk{c:Int->Nat}{lo:Int}:∀{k:Nat}{p:Int×Nat},p∈falls c lo k->p=(lo,c lo)\/∃j,j<k/\p=(lo+(j+1:Nat),c (lo+(j+1:Nat)))/\c (lo+(j+1:Nat))<c (lo+j)
 |0,p,h=>.inl (kq.mp h)
 |k+1,p,h=>by
  have h:p∈(if c (lo+(k+1:Nat))<c (lo+k)then falls c lo k++[(lo+(k+1:Nat),c (lo+(k+1:Nat)))]else falls c lo k):=h;split at h
  .rcases k7.mp h with m|m
   .rcases jk m with e|⟨j,h1,h2⟩
    .exact .inl e
    .exact .inr ⟨j,(),h2⟩
   .exact .inr ⟨k,vH _,kq.mp m,by assumption⟩
  .rcases jk h with e|⟨j,h1,h2⟩
   .exact .inl e
   .exact .inr ⟨j,(),h2⟩
theorem jm{c:Int->Nat}{lo:Int}:∀k:Nat,(falls c lo k).length<=k+1
 |0=>km _
 |k+1=>by
  show(if c (lo+(k+1:Nat))<c (lo+k)then falls c lo k++[(lo+(k+1:Nat),c (lo+(k+1:Nat)))]else falls c lo k).length<=_;have:=jm (c:=c) (lo:=lo) k;split
  .rw[kt,vo]
   lia
  .lia
def wid:List W->Nat
 |[]=>0
 |a::r=>max a.length (wid r)
theorem qm:∀{ws:List W}{u:W},u∈ws->u.length<=wid ws
 |a::r,u,h=>by
  show u.length<=max a.length (wid r);rcases kK.mp h with e|e
  .rw[e];exact bK _ _
  .exact kw (qm e) (u7 _ _)
theorem qo:∀{ws:List W},ws≠[]->∃u,u∈ws/\u.length=wid ws
 |[],h=>absurd rfl h
 |[a],_=>⟨a,kg,(Nat.max_eq_left (kN _)).symm⟩
 |a::b::r,_=>by
  obtain⟨u,hu,e⟩:=qo (ws:=b::r) (by simp);by_cases c:a.length<=wid (b::r)
  .exact⟨u,kn _ hu,by rw[e];exact(Nat.max_eq_right c).symm⟩
  .exact⟨a,kg,(Nat.max_eq_left ()).symm⟩
theorem zeM{ws:List W}{M:Int}(hM:M∈ws.map λu=>(u.length:Int))(hle:∀z∈ws.map λu=>(u.length:Int),z<=M):M=(wid ws:Int):=by
 obtain⟨u,hu,rfl⟩:=kU.mp hM;obtain⟨v,hv,e⟩:=qo (ws:=ws) (λz=>by rw[z]at hu;exact(k6 hu).elim);have h1:=qm hu;have h2:=hle (v.length:Int) (kU.mpr ⟨v,hv,rfl⟩)
 lia
theorem zeN(ws:List W)(k:Nat):0<=pos ws k:=by
 have:=wR ws (kN k)
 rwa [j0]at this
theorem jn{ws:List W}(h:ws≠[]):(wid ws:Int)<=total ws:=by
 obtain⟨u,hu,e⟩:=qo h;obtain⟨i,hi,eu⟩:=vg.mp hu;have ps:=pos_succ (kc hi);rw[eu]at ps;have:=wR ws (show i+1<=ws.length by assumption);have:=zeN ws i;unfold total
 lia
def xF(ws:List W):List (Int×Nat):=if ws=[]then [(1,1)]else falls (cnt ws) (wid ws) (total ws-wid ws).toNat
theorem zap{ws:List W}{w M v:Int}(hall:∀z∈vals (grp w ws),M<=z)(h1:w<=v)(h2:v<M):cnt ws v=cnt ws w:=by
 have e:=XX h1 ws λz hz=>Int.lt_of_lt_of_le h2 (hall z hz);rw[<-xh,<-xh,<-wG,<-wG,e]
theorem QX{ws:List W}{lo w M:Int}(h1:lo<=w)(h2:w<M)(hst:∀v,w<=v->v<M->cnt ws v=cnt ws w):
  falls (cnt ws) lo (M-lo).toNat=if cnt ws M<cnt ws w then falls (cnt ws) lo (w-lo).toNat++[(M,cnt ws M)]else falls (cnt ws) lo (w-lo).toNat:=by
 obtain⟨k,hk⟩:∃k:Nat,(M-lo).toNat=k+1:=⟨(M-lo).toNat-1,()⟩;rw[hk];show(if cnt ws (lo+(k+1:Nat))<cnt ws (lo+k)then falls (cnt ws) lo k++[(lo+(k+1:Nat),cnt ws (lo+(k+1:Nat)))]else falls (cnt ws) lo k)=_;have eM:lo+((k+1:Nat):Int)=M:=by omega
 have e1:cnt ws (lo+(k:Int))=cnt ws w:=hst _ (by omega) (by omega);have e2:falls (cnt ws) lo k=falls (cnt ws) lo (w-lo).toNat:=qE (by omega) λj h3 h4=>by
  rw[hst _ () (by omega),hst (lo+((w-lo).toNat:Int)) () (by omega)]
 rw[eM,e1,e2]
theorem zaq{ws:List W}{lo w T:Int}(hn:ws≠[])(hw:∀u∈ws,(u.length:Int)<=lo)(h1:lo<=w)(h2:w<=T)(c1:cnt ws w<=1):falls (cnt ws) lo (T-lo).toNat=falls (cnt ws) lo (w-lo).toNat:=by
 refine qE (by omega) λj h3 h4=>?_;have hw':∀u∈ws,(u.length:Int)<=w:=λu hu=>vT (hw u hu) h1;have a1:=wS (ws:=ws) (v:=w) (v':=lo+(j:Int)) () hw';have a2:=wS (ws:=ws) (v:=w) (v':=lo+((w-lo).toNat:Int)) () hw';have b1:=jH hn (lo+(j:Int));have b2:=jH hn (lo+((w-lo).toNat:Int))
 lia
theorem zar{ws:List W}{w:Int}(h1:w<=total ws)(c1:1<cnt ws w):∃z,z∈vals (grp w ws)/\z<=total ws:=by
 apply Classical.byContradiction;intro no;have e:=XX h1 ws λz hz=>Int.not_le.mp λy=>no ⟨z,hz,y⟩;have e2:cnt ws (total ws)=cnt ws w:=by rw[<-xh,<-xh,<-wG,<-wG,e]
 have:=jj (ws:=ws) (total ws) (kX _)
 lia
theorem XY:∀{gs:List (List W)}{i:Nat}{g h:List W},gs[i]?=some g->gs[i+1]?=some h->(vals gs)[i]?=some (val g h)
 |[],i,g,h,e,_=>by simp at e
 |[a],i,g,h,_,e=>by simp at e
 |a::b::r,0,g,h,e1,e2=>by
  simp at e1 e2;subst e1 e2;rfl
 |a::b::r,i+1,g,h,e1,e2=>by
  have:=XY (gs:=b::r) (i:=i) (g:=g) (h:=h) (by simpa using e1) (by simpa using e2);simpa[vals]using this
theorem Z3(ws:List W):(ws.map λu=>(u.length:Int)).sum+ws.length=pos ws ws.length:=by
 unfold pos;rw[kJ]
 induction ws with
 |nil=>rfl
 |cons a r ih =>
  rw[kY,va,kY,va,kG,<-ih]
  lia
end _Lin
namespace _L2
open PySem
def GI(mg:Str->Option Value)(x:Str)(n:Int):Prop:=∃t,mg x=some (.int n t)
theorem zx{X:Cx}{x:Str}{n:Int}{pos:Pos}(hg:Gl X x)(h:GI X.mg x n)(hd:(x==("__debug__" : Str))=false:=by decide):PE X (.Name x pos) (tC (.int n)):=by
 obtain⟨t,h⟩:=h;exact qe hg h ⟨t,rfl⟩ hd
theorem zeO{X:Cx}{x:Str}{C:Addr}{pos:Pos}(hg:Gl X x)(hm:X.mg x=some (.ref C))(hd:(x==("__debug__" : Str))=false:=by decide):PE X (.Name x pos) (tC (.ref C)):=qe hg hm rfl hd
theorem yM{X:Cx}{x:Str}{T:String}{pos:Pos}(hg:Gl X x)(hm:X.mg x=none)(hv:bootBuiltins x=some (.type T))(hn:x ≠ "__name__" := by decide)(hd:(x==("__debug__" : Str))=false:=by decide):PE X (.Name x pos) (tC (.ty T)):=zda hg hm hv rfl hn hd
end _L2
namespace _JN
open PySem _L2 _Lin
def top(i:Nat):Stmt:=PySem.Challenge.pw_pagepart_k84_whole_page_of_a_setting.main.body.getD i (.Pass ⟨0,0,0,0⟩)
abbrev QY:Stmt:=top 30
abbrev QZ:Stmt:=top 31
abbrev sAre:Stmt:=top 32
abbrev Z4:Stmt:=top 33
abbrev XZ:Stmt:=top 34
abbrev Q0:Stmt:=top 35
abbrev X1:Stmt:=top 36
abbrev Z5:Stmt:=top 37
abbrev Z6:Stmt:=top 94
abbrev sLw:Stmt:=top 96
abbrev sLaw:Stmt:=top 101
abbrev X6:Stmt:=top 16
abbrev sHas:Stmt:=top 44
abbrev sBr:Stmt:=top 45
abbrev sNum:Stmt:=top 46
abbrev Q2:Stmt:=top 47
abbrev Q3:Stmt:=top 48
abbrev X7:Stmt:=top 49
abbrev Z7:Stmt:=top 17
abbrev Q4:Stmt:=top 88
abbrev Q5:Stmt:=top 89
abbrev sNar:Stmt:=top 90
abbrev sOn:Stmt:=top 91
abbrev Q6:Stmt:=top 92
abbrev Q7:Stmt:=top 52
abbrev sRTx:Stmt:=top 53
abbrev sSbs:Stmt:=top 54
abbrev sAll:Stmt:=top 55
abbrev Q8:Stmt:=top 56
abbrev sBst:Stmt:=top 57
abbrev sSo:Stmt:=top 58
abbrev sLow:Stmt:=top 59
abbrev Q9:Stmt:=top 60
abbrev sTst:Stmt:=top 61
abbrev sLh:Stmt:=top 62
abbrev X8:Stmt:=top 63
abbrev X9:Stmt:=top 65
abbrev sPa:Stmt:=top 66
abbrev sPd:Stmt:=top 67
abbrev sPo:Stmt:=top 68
abbrev jo:Stmt:=top 69
abbrev sHin:Stmt:=top 70
abbrev j3:Stmt:=top 71
abbrev sBox:Stmt:=top 18
abbrev Ja:Stmt:=top 19
abbrev Z8:Stmt:=top 20
abbrev j4:Stmt:=top 21
abbrev sAny:Stmt:=top 22
abbrev Jb:Stmt:=top 23
abbrev Jc:Stmt:=top 24
abbrev sTtl:Stmt:=top 25
abbrev Jd:Stmt:=top 26
abbrev Wa:Stmt:=top 95
abbrev sLiw:Stmt:=top 75
abbrev sBin:Stmt:=top 76
abbrev sLii:Stmt:=top 77
abbrev sUnc:Stmt:=top 78
abbrev sPac:Stmt:=top 79
abbrev sPdn:Stmt:=top 80
abbrev sPar:Stmt:=top 81
abbrev Je:Stmt:=top 82
abbrev sFst:Stmt:=top 83
abbrev sWho:Stmt:=top 74
abbrev sStk:Stmt:=top 84
abbrev sTop:Stmt:=top 85
abbrev sTof:Stmt:=top 86
theorem fresh{H:Hp}{p:Addr}{o:HO}{R:Hp->Prop}(hn:H p=none)(k:∀H1,Same H H1->H1 p=some o->R H1):R (upd H p o) :=
 k _ (λb u e=>by rw[zN (yd e hn)];exact e) zc
structure Callee(P:Program)(w:World)(K:PySem.W.Frag)(mg:Str->Option Value)(base:Heap)(CX:CXT)(k:Nat)(x:Str)(f:Addr)(fd:FuncData)(ps:List Str)(sp:Sp):Prop where
 ok:FnOk P w K mg base CX k f fd ps sp
 bound:mg x=some (.ref f)
 kp:um K (.ref f)=true
 bd:Binds K fd ps []
theorem zeP{ns:List Int}{k:Int}(h0:0<=k)(h1:k<ns.length):atI (ns.map V.int) k=some (.int (ns.getD k.toNat 0)):=by
 obtain⟨j,rfl⟩:=vO h0;refine yX ?_;rw[kM,kc ()];simp[List.getD,show j<ns.length by lia]
theorem yu{H H1:Hp}{l:Addr}{o:HO}(S:Same H H1)(hn:H l=none):Same H (upd H1 l o):=λb u e=>by
 rw[zN (yd e hn)];exact S b u e
theorem zd{H:Hp}{p:Addr}{o:HO}(hn:H p=none):Same H (upd H p o):=λb u e=>by rw[zN (yd e hn)];exact e
theorem Wb{σ:St}{H:Hp}:Evl (tUn (rU λi=>V.int (-i)) (tC (V.int 1))) σ H (.int (-1)):=λQ q=>⟨1,rfl,q⟩
def tx(ws:List W):List V:=ws.map λw=>V.str (txt w)
theorem yf(ws:List W):(tx ws).length=ws.length:=ke _
theorem zeQ{ws:List W}{i:Nat}{w:W}(h:ws[i]?=some w):(tx ws)[i]?=some (V.str (txt w)):=by
 unfold tx;rw[kM,h];rfl
theorem xY{ws:List W}{i:Nat}{x:V}(h:(tx ws)[i]?=some x):∃w,ws[i]?=some w/\x=V.str (txt w):=by
 unfold tx at h;rw[kM]at h;cases e:ws[i]? with
 |none=>rw[e]at h;cases h
 |some w=>rw[e]at h;cases h;exact⟨w,rfl,rfl⟩
theorem Z9(ws:List W)(w:W):tx ws++[V.str (txt w)]=tx (ws++[w]):=by
 unfold tx;rw[kF];rfl
def good(c:Nat):Prop:=33<=c/\c<=126/\c≠37
def okW(w:W):Prop:=1<=w.length/\w.length<=12/\∀c∈w,good c
structure Nm(K:PySem.W.Frag)(mg:Str->Option Value):Prop where
 gOUT:GI mg "LEFT_OUT" 37
 gMOST:GI mg "MOST_SIGNS" 12
 ti:mg "isinstance"=none
 tstr:mg "str"=none
 tlist:mg "list"=none
 tl:mg "len"=none
 tall:mg "all"=none
 tany:mg "any"=none
 tord:mg "ord"=none
theorem Ya(n:Nat):(ve n true).all id=true:=by simp
def zas:Sp:=λvs H Q _=>∃c:Nat,vs=[.str (txt [c])]/\good c/\Q (.bl true) H
def zat:Sp:=λvs H Q _=>∃l:W,vs=[.str (txt l)]/\okW l/\∀H',Same H H'->Q (.bl true) H'
def Jf:Sp:=λvs H Q _=>∃(a:Addr)(ws:List W),vs=[.ref a]/\H a=some (.lst (tx ws))/\(∀w∈ws,okW w)/\ws.length<=1000/\∀H',Same H H'->Q (.bl true) H'
def j5:Sp:=λvs H Q _=>∃(a:Addr)(ws:List W),vs=[.ref a]/\H a=some (.lst (tx ws))/\(∀w∈ws,okW w)/\ws.length<=1000/\∀H',Same H H'->Q .non H'
def Yb:Sp:=λvs H Q _=>∃(a:Addr)(ws:List W)(wide:Int),vs=[.ref a,.int wide]/\H a=some (.lst (tx ws))/\(∀w∈ws,okW w)/\ws.length<=1000 /\
 ∀(l:Addr)(H':Hp),Same H H'->H l=none->H' l=some (.lst (tx (taken wide ws)))->Q (.ref l) H'
theorem zau(c d:Nat):decide ((txt [c]).cps.toList<(txt [d]).cps.toList)=decide (c<d):=by
 rw[decide_eq_decide];show([c]:List Nat) < [d]↔c<d;rw[List.cons_lt_cons_iff];constructor
 .rintro(z|⟨_,z⟩)
  .exact z
  .exact absurd z (List.not_lt_nil _)
 .exact .inl
section
variable{P:Program}{w:World}{K:PySem.W.Frag}{mg:Str->Option Value}{base:Heap}
theorem zeR:zu ["sign"] ["sign"] (zl QY):=by trivial
theorem zds{f:Addr}{fd:FuncData}(F:Fun K "is_sign" "is_sign" QY f fd)(Z:Nm K mg):FnOk P w K mg base CX0 1 f fd ["sign"] zas:=by
 obtain⟨gOUT,gMOST,ti,tstr,tlist,tl,tall,tany,tord⟩:=Z;refine F.ok zeR (λvs H Q E h=>?_) (λcdv A outer s H vs Q E hr h=>?_)
 .obtain⟨c,rfl,_⟩:=h;rfl
 .refine E_1 h λc n8=>A_3 n8 λe9 n90 q=>?_;clear n8 h;subst e9;obtain⟨h1,h2,h3⟩:=n90;refine⟨_,(zf (zo (yg (XC YG YG xS (pv 0) xS) (yG (z5 ww (zp zbD (by rfl) tord PyProof.Rows.boot_ord (za (pv 0) zb)) (zx rfl gOUT) (zD _)))))),?_⟩;have e1:("!" : Str)=txt [33]:=by decide +kernel
  have e2:("~" : Str)=txt [126]:=by decide +kernel
  refine⟨_,rfl,_,_,rfl,rfl,_,rfl,?_⟩;have d1:(!decide ((txt [c]).cps.toList<(("!" : Str)).cps.toList))=true:=by rw[e1,zau,decide_eq_false (uc.mpr h1)];rfl
  rw[d1];refine iteT ⟨_,_,rfl,rfl,_,rfl,?_⟩;have d2:(!decide ((("~" : Str)).cps.toList<(txt [c]).cps.toList))=true:=by rw[e2,zau,decide_eq_false (uc.mpr h2)];rfl
  rw[d2];refine iteT ⟨_,rfl,_,rfl,rfl,rfl,?_⟩;have d3:(!decide (V.int (((txt [c]).cps.getD 0 0:Nat))=V.int 37))=true:=by
   rw[show(txt [c]).cps.getD 0 0=c from rfl,decide_eq_false (λz=>h3 (by injection z with z;lia))];rfl
  rw[d3];exact q
end
theorem Jg{w:W}(h:okW w):∀c∈w,c<128:=λc hc=>by
 have:=h.2.2 c hc;unfold good at this
 lia
theorem qc(wide:Int)(ws:List W):(∀w∈ws,w.length<=12)->∀r∈taken wide ws,r.length<=13*ws.length :=
 snoc_ind (P:=λws=>(∀w∈ws,w.length<=12)->∀r∈taken wide ws,r.length<=13*ws.length) (λ_ r hr=>(k6 hr).elim) (λws w ih h r hr=>by
  have ih:=ih λv hv=>h v (vJ _ hv);have hw:=h w (by simp);rw[xA]at hr;rw[kt,vo];unfold put at hr;split at hr
  .rename_i q e;have hq:=ih q (List.mem_of_getLast? e);split at hr
   .rcases k7.mp hr with m|m
    .have:=ih r (List.dropLast_subset _ m)
     lia
    .rw[kq.mp m,kt,kG]
     lia
   .rcases k7.mp hr with m|m
    .have:=ih r m
     lia
    .rw[kq.mp m]
     lia
  .rw[kq.mp hr]
   lia) _ ws rfl
theorem zbT(us:List V)(v u:V):ixN (us++[v]).length (-1)=some us.length/\(us++[v]).set us.length u=us++[u]:=by
 refine⟨?_,?_⟩
 .unfold ixN;rw[kt,vo,if_neg ⋯,if_pos ()];congr 1
  lia
 .rw[List.set_append_right _ _ (km _),Nat.sub_self];rfl
section
variable{P:Program}{w:World}{K:PySem.W.Frag}{mg:Str->Option Value}{base:Heap}
theorem zeS:zu ["thing"] ["thing"] (zl QZ):=by trivial
theorem zdt{f fS:Addr}{fd fdS:FuncData}(F:Fun K "is_word" "is_word" QZ f fd)(Z:Nm K mg)(Si:Callee P w K mg base CX0 1 "is_sign" fS fdS ["sign"] zas):FnOk P w K mg base CX0 2 f fd ["thing"] zat:=by
 obtain⟨gOUT,gMOST,ti,tstr,tlist,tl,tall,tany,tord⟩:=Z;refine F.ok zeS (λvs H Q E h=>?_) (λcdv A outer s H vs Q E hr h=>?_)
 .obtain⟨l,rfl,_⟩:=h;rfl
 .refine E_1 h λl n8=>A_3 n8 λe9 hw q=>?_;clear n8 h;subst e9;have l1:=hw.1;have l12:=hw.2.1;refine⟨_,(ze (zO (PW.pt (xi (z9 (zX (zp yj (by rfl) ti k8 (za (pv 0) (za (yM rfl tstr PyProof.Rows.boot_str) zb))))) (yZ (z9 (jV y7 y7 zk (zp yT (by rfl) tl kW (za (pv 0) zb)) (zx rfl gMOST))))))
   (zf (zo yN))
   zF)
   (zf (zo (zp (xg rfl) (by rfl) tall vS (za (zQ (Nc:=["sign"]) (ix:=[none]) rfl rfl (by exact(zeL (pv 0))) (λ_ _ _ _ _=>(zt (i:=0) (by show(["sign"]:List Str).Nodup;decide +kernel) rfl (Or.inl rfl))) (λ_ _ _ _ _=>zP) (λ_ _ _ _ _=>(zg Si.ok hr rfl Si.bound Si.kp Si.bd .nil zr (za (pv 0) zb)))) zb))))),?_⟩
  refine⟨_,rfl,_,_,_,_,rfl,rfl,.of (.str _),rfl,_,rfl,iteF ?_⟩;refine⟨_,rfl,txt l,rfl,(by rw[yK];exact kw l12 ⋯),_,_,rfl,rfl,_,rfl,?_⟩;rw[yK,decide_eq_true (show(1:Int)<=(l.length:Nat)by lia)];refine iteT ⟨_,_,rfl,rfl,_,rfl,?_⟩;rw[decide_eq_true (show((l.length:Nat):Int)<=12 by lia)];refine iteF ⟨_,rfl,l,rfl,Jg hw,zdp (l:=l) (λi ys σ H'=>ys=(ve i true).map V.bl/\H'=H/\∃o,σ=[o]) ⟨rfl,rfl,none,rfl⟩
   (λi ys σ H' hi h9=>by obtain⟨e,_⟩:=h9;exact(by rw[e,ke,vz];exact kw (show _<=1000 by lia) ⋯)) ?_ ?_⟩
  .rintro ys σ H' ⟨rfl,rfl,_⟩ la nl;refine⟨la,ve l.length true,rfl,SqL.of zc,?_⟩;rw[Ya];exact q _ (zd nl)
  .rintro i c ys σ H' hx ⟨rfl,rfl,o,rfl⟩;dsimp only[zU,tYes];refine iteT ⟨_,rfl,c,rfl,hw.2.2 c (ky hx),?_,rfl,_,rfl⟩;rw[v6,kF];rfl
theorem zf3:zu ["things"] ["things"] (zl sAre):=by trivial
theorem zeT{f fS:Addr}{fd fdS:FuncData}(F:Fun K "are_words" "are_words" sAre f fd)(Z:Nm K mg)(Wo:Callee P w K mg base CX0 2 "is_word" fS fdS ["thing"] zat):FnOk P w K mg base CX0 3 f fd ["things"] Jf:=by
 obtain⟨gOUT,gMOST,ti,tstr,tlist,tl,tall,tany,tord⟩:=Z;refine F.ok zf3 (λvs H Q E h=>?_) (λcdv A outer s H vs Q E hr h=>?_)
 .refine E_2 h λa ws n8=>A_2 n8 λe9 _=>?_;clear n8 h;subst e9;rfl
 .refine E_2 h λa ws n8=>A_5 n8 λe9 ha hw hn q=>?_;clear n8 h;subst e9;refine⟨_,(zf (zo (yg (zp yj (by rfl) ti k8 (za (pv 0) (za (yM rfl tlist vX) zb))) (yG (zp (xg rfl) (by rfl) tall vS (za (zQ (Nc:=["thing"]) (ix:=[none]) rfl rfl (by refine' zV ?zz;case zz=>exact(pv 0)) (λ_ _ _ _ _=>(zt (i:=0) (by show(["thing"]:List Str).Nodup;decide +kernel) rfl (Or.inl rfl))) (λ_ _ _ _ _=>zP) (λ_ _ _ _ _=>(zg Wo.ok hr rfl Wo.bound Wo.kp Wo.bd .nil zr (za (pv 0) zb)))) zb)))))),?_⟩;refine⟨_,rfl,_,_,_,_,rfl,rfl,.of (.lst ha),rfl,_,rfl,iteT ?_⟩;refine⟨_,rfl,a,rfl,⟨_,SqL.of ha⟩,zZ (K:=K) (a:=a) (xs:=tx ws) (λi ys σ H'=>ys=(ve i true).map V.bl/\Same H H'/\∃o,σ=[o]) ⟨rfl,Same.refl _,none,rfl⟩
   (λi ys σ H' hi h9=>by obtain⟨e,S,_⟩:=h9;exact(⟨by rw[yf]at hi;rw[e,ke,vz];exact kw (show _<=1000 by lia) ⋯,SqL.of (S _ _ ha)⟩)) ?_ ?_⟩
  .rintro ys σ H' ⟨rfl,S,_⟩ la nl;refine⟨la,ve (tx ws).length true,rfl,SqL.of zc,?_⟩;rw[Ya];exact q _ (S.trans (zd nl))
  .rintro i x ys σ H' hx ⟨rfl,S,o,rfl⟩;obtain⟨u,hu,rfl⟩:=xY hx;dsimp only[zU,tYes];refine iteT ⟨_,rfl,u,rfl,hw u (ky hu),λH2 S2=>⟨?_,S.trans S2,_,rfl⟩⟩;rw[v6,kF];rfl
theorem zbU:zu ["things"] ["things"] (zl Z4):=by trivial
theorem zav{f fS:Addr}{fd fdS:FuncData}(F:Fun K "refuse_no_words" "refuse_no_words" Z4 f fd)(Ar:Callee P w K mg base CX0 3 "are_words" fS fdS ["things"] Jf):FnOk P w K mg base CX0 4 f fd ["things"] j5:=by
 refine F.ok zbU (λvs H Q E h=>?_) (λcdv A outer s H vs Q E hr h=>?_)
 .refine E_2 h λa ws n8=>A_2 n8 λe9 _=>?_;clear n8 h;subst e9;rfl
 .refine E_2 h λa ws n8=>A_5 n8 λe9 ha hw hn q=>?_;clear n8 h;subst e9;exact⟨_,(zf (zO (z9 (zX (zg Ar.ok hr rfl Ar.bound Ar.kp Ar.bd .nil zr (za (pv 0) zb))))
   yP
   zF)),_,rfl,a,ws,rfl,ha,hw,hn,λH' S=>⟨_,rfl,iteF (q H' S)⟩⟩
theorem Yc:zu ["words","wide","rows","word"] ["words","wide"] (zl XZ):=by trivial
theorem zbV{f:Addr}{fd:FuncData}(F:Fun K "taken" "taken" XZ f fd)(tl:mg "len"=none):FnOk P w K mg base CX0 1 f fd ["words","wide"] Yb:=by
 refine F.ok Yc (λvs H Q E h=>?_) (λcdv A outer s H vs Q E hr h=>?_)
 .refine E_3 h λa ws wide n8=>A_2 n8 λe9 _=>?_;clear n8 h;subst e9;rfl
 .refine E_3 h λa ws wide n8=>A_5 n8 λe9 ha hw hn q=>?_;clear n8 h;subst e9;refine⟨_,(ze (zB (i:=2) Yc.nd rfl (Or.inl rfl) (yh zb))
   (ze (yS PassesOwn.never rfl (zV (pv 0)) (zt (i:=3) Yc.nd rfl (Or.inl rfl))
   (zf (zO (PW.pt (qY (jW (pv 2) (λ_=>rfl)) (qf (zI y7 (zK yL (zK yL (zp yT (by rfl) tl kW (za (zm yc (pv 2) (wX wk zk) (λ_ _=>rfl)) zb)) zk) (zp yT (by rfl) tl kW (za (pv 3) zb))) (pv 1) (zD _)))))
    (zf (Zk (zK wx (zK wx (zm yc (pv 2) (wX wk zk) (λ_ _=>rfl)) xS) (pv 3)) (JR (pv 2) (wX wk zk) set_list)))
    (zf (yw (xw vj vQ vR xr (pv 2) (za (pv 3) zb)))))))
   (zf (zo (pv 2))))),?_⟩
  refine⟨Zz0,λl nl=>?_⟩;refine fresh (R:=λH1=>_) nl λH1 S1 h1=>?_;refine⟨_,rfl,a,rfl,⟨_,SqL.of (S1 _ _ ha)⟩,?_⟩;refine xp (K:=K) (a:=a) (xs:=tx ws) (λi σ H2=>∃o:Option V,σ=[some (.ref a),some (.int wide),some (.ref l),o]/\Same H H2/\H2 l=some (.lst (tx (taken wide (ws.take i)))))
   ⟨none,rfl,S1,h1⟩ (λi σ H2 _ h9=>by obtain⟨_,_,S,_⟩:=h9;exact(SqL.of (S _ _ ha))) ?_ ?_
  .intro i x σ H2 hi h8;refine E_1 h8 λo n8=>A_3 n8 λe9 S hl=>?_;clear n8 h8;subst e9;obtain⟨v,hv,rfl⟩:=xY hi;obtain⟨hil,ev⟩:=kf.mp hv;have et:taken wide (ws.take (i+1))=put wide (taken wide (ws.take i)) v:=by rw[<-kC hil,ev,xA]
   rw[et];have bd:=qc wide (ws.take i) λu hu=>(hw u (u4 hu)).2.1;have lb:=wQ wide (ws.take i);rw[kQ]at bd lb;have vb:=(hw v (ky hv)).2.1;generalize taken wide (ws.take i)=rows at hl bd lb ⊢;refine zJ ?_;unfold put;cases el:rows.getLast? with
   |none =>
    have e':rows=[]:=List.getLast?_eq_none_iff.mp el;subst e';refine⟨_,rfl,false,.inl ⟨[],SqL.of hl,rfl⟩,iteF ?_⟩;exact⟨_,rfl,.inl ⟨rfl,_,SqL.of hl⟩,_,rfl,l,_,_,rfl,rfl,hl,by show 0<sizeLine;decide,_,rfl,yu S nl,by rw[zc];rfl⟩
   |some r =>
    have sp:=qz el;have rb:=bd r (List.mem_of_getLast? el);have ers:tx rows=tx rows.dropLast++[V.str (txt r)]:=by
     conv=>lhs;rw[sp]
     rw[Z9]
    have hl2:H2 l=some (.lst (tx rows.dropLast++[V.str (txt r)])):=by rw[<-ers];exact hl
    have ea:atI (tx rows.dropLast++[V.str (txt r)]) (-1)=some (V.str (txt r)):=jY _ _;have rs:r.length<=100000:=()
    refine⟨_,rfl,true,.inl ⟨_,SqL.of hl2,by simp⟩,iteT ?_⟩;refine yV (p:=(r.length:Int)+1+v.length<=wide) (zT (zT (zT (qB (xW (zh rfl) Wb (SqL.of hl2) ea) ()) zC) (qB (zh rfl) ())) (zh rfl)) _ ?_;dsimp only;refine ite2 (λc=>?_) (λc=>?_)
    .have c:=of_decide_eq_true c;rw[if_pos c];have sl:=zbT (tx rows.dropLast) (V.str (txt r)) (V.str (txt (r++32::v)));refine XU (w:=v) (XU (w:=[32]) (xW (zh rfl) Wb (SqL.of hl2) ea) zC (by simp;lia)) (zh rfl) (by simp;lia) _ ?_;refine⟨_,rfl,_,rfl,l,_,_,_,rfl,rfl,hl2,sl.1,?_⟩;refine⟨_,rfl,yu S nl,?_⟩;rw[zc];have e2:r++[32]++v=r++32::v:=by simp
     rw[e2,sl.2,Z9]
    .have c:¬(r.length:Int)+1+v.length<=wide:=λz=>c (decide_eq_true z);rw[if_neg c];refine⟨_,rfl,.inl ⟨rfl,_,SqL.of hl⟩,_,rfl,l,_,_,rfl,rfl,hl,?_,_,rfl,yu S nl,by rw[zc,Z9]⟩;rw[yf];exact vC (show rows.length<=1000 by lia) ⋯
  .intro σ H2 h8;refine E_1 h8 λo n8=>A_3 n8 λe9 S hl=>?_;clear n8 h8;subst e9;rw[yf,kJ]at hl;exact⟨_,rfl,q l H2 S nl hl⟩
end
def PrAt(H:Hp)(v:V)(p:Int×Nat):Prop:=∃a,v=.ref a/\H a=some (.tup [.int p.1,.int (p.2:Nat)])
def ym(H:Hp):List V->List (Int×Nat)->Prop:=Paired (PrAt H)
theorem PrAt.same{H H':Hp}(S:Same H H'){v:V}{p:Int×Nat}(h:PrAt H v p):PrAt H' v p:=let ⟨a,e,z⟩:=h;⟨a,e,S _ _ z⟩
theorem ym.imp{H H':Hp}(f:∀v p,PrAt H v p->PrAt H' v p):∀{vs:List V}{ps:List (Int×Nat)},ym H vs ps->ym H' vs ps
 |_,_,.nil=>.nil
 |_,_,.cons h t=>.cons (f _ _ h) (ym.imp f t)
theorem ym.same{H H':Hp}(S:Same H H'){vs:List V}{ps:List (Int×Nat)}(h:ym H vs ps):ym H' vs ps:=ym.imp (λ_ _=>PrAt.same S) h
theorem ym.len{H:Hp}{vs:List V}{ps:List (Int×Nat)}(h:ym H vs ps):vs.length=ps.length:=Paired.length h
theorem PrAt.upd{H:Hp}{l:Addr}{xs:List V}{o':HO}(hl:H l=some (.lst xs)){v:V}{p:Int×Nat}(h:PrAt H v p):PrAt (upd H l o') v p:=by
 obtain⟨a,e,z⟩:=h;exact⟨a,e,by rw[zN (qu z hl (by intro q;cases q))];exact z⟩
theorem ym.upd{H:Hp}{l:Addr}{xs:List V}{o':HO}(hl:H l=some (.lst xs)){vs:List V}{ps:List (Int×Nat)}(h:ym H vs ps):ym (upd H l o') vs ps:=ym.imp (λ_ _=>PrAt.upd hl) h
theorem ym.snoc{H:Hp}{vs:List V}{ps:List (Int×Nat)}{v:V}{p:Int×Nat}(h:ym H vs ps)(r:PrAt H v p):ym H (vs++[v]) (ps++[p]):=Paired.snoc h r
theorem jp{u:W}(h:okW u):u≠[]/\32∉u:=by
 refine⟨λz=>?_,λz=>?_⟩
 .have:=h.1;rw[z]at this;simp at this
 .have:=(h.2.2 32 z).1
  lia
theorem Wc{gs:List (List W)}:∀{g:List W},g∈gs->g.length<=gs.flatten.length:=by
 induction gs with
 |nil=>intro g h;exact(k6 h).elim
 |cons a r ih =>
  intro g h;rw[k5,kt];rcases kK.mp h with e|e
  .rw[e];lia
  .have:=ih e
   lia
theorem y8(xs:List V)(k:Nat)(h:k<=xs.length):cutV xs (some (k:Int)) none=xs.drop k:=by
 unfold cutV;rw[_HT.wK,_HT.W6,Nat.min_eq_left h];exact uy (by rw[vk];exact km _)
def zaw:Sp:=λvs H Q _=>∃g h:List W,vs=[.str (txt (glue g)),.str (txt (glue h))]/\h≠[]/\(∀u∈h,okW u)/\(glue g).length<=100000/\(glue h).length<=100000/\h.length<=1000/\∀H',Same H H'->Q (.int (val g h)) H'
def zax:Sp:=λvs H Q _=>∃(a:Addr)(gs:List (List W)),vs=[.ref a]/\H a=some (.lst (tx (gs.map glue)))/\(∀g∈gs,g≠[]/\(∀u∈g,okW u)/\(glue g).length<=100000/\g.length<=1000)/\2<=gs.length/\gs.length<=1000 /\
 ∀M,M∈vals gs->(∀z∈vals gs,M<=z)->∀H',Same H H'->Q (.int M) H'
def Wd:Sp:=λvs H Q _=>∃(a:Addr)(ws:List W),vs=[.ref a]/\H a=some (.lst (tx ws))/\(∀w∈ws,okW w)/\ws.length<=1000 /\
 ∀(l:Addr)(us:List V)(H':Hp),Same H H'->H l=none->H' l=some (.lst us)->ym H' us (xF ws)->Q (.ref l) H'
section
variable{P:Program}{w:World}{K:PySem.W.Frag}{mg:Str->Option Value}{base:Heap}
theorem zeU:zu ["row","behind"] ["row","behind"] (zl Q0):=by trivial
theorem zdu{f:Addr}{fd:FuncData}(F:Fun K "with_next_word" "with_next_word" Q0 f fd)(tl:mg "len"=none):FnOk P w K mg base CX0 1 f fd ["row","behind"] zaw:=by
 refine F.ok zeU (λvs H Q E h=>?_) (λcdv A outer s H vs Q E hr h=>?_)
 .revert h;intro n7;refine E_2 n7 λg h n8=>A_2 n8 λe9 _=>?_;clear n8 n7;subst e9;rfl
 .revert h;intro n7;refine E_2 n7 λg h n8=>A_7 n8 λe9 hn hw lg lh nh q=>?_;clear n8 n7;subst e9;refine⟨_,(zf (zo (zK yL (zK yL (zp yT (by rfl) tl kW (za (pv 0) zb)) zk) (zp yT (by rfl) tl kW (za (zm yc (xw PySem.F.plainAttrs_str PySem.F.slot_str_split PySem.F.type_str_split YL (pv 1) (by exact(za xS zb))) zk (λ_ _=>rfl)) zb))))),?_⟩;refine⟨_,rfl,_,rfl,(by rw[yK];exact kw lg ⋯),_,_,rfl,rfl,_,rfl,rfl,h,rfl,rfl,hn,(λu hu=>jp (hw u hu)),(),(),λl nl=>?_⟩;obtain⟨u,r,rfl⟩:∃u r,h=u::r:=by
   cases h with
   |nil=>exact absurd rfl hn
   |cons u r=>exact⟨u,r,rfl⟩
  have hu:=hw u kg;refine I_4 l _ _ (V.str (txt u)) ⟨rfl,rfl,SqL.of zc,(by exact yX (xs:=(u::r).map λw=>V.str (txt w)) (j:=0) rfl),_,rfl,(by rw[yK];exact kw hu.2.1 ⋯),_,_,rfl,rfl,?_⟩;have:=q _ (zd (o:=.lst ((u::r).map λw=>V.str (txt w))) nl);rw[yK,yK];exact this
theorem zeV:zu ["rows"] ["rows"] (zl X1):=by trivial
theorem zdv{f fW:Addr}{fd fdW:FuncData}(F:Fun K "next_width" "next_width" X1 f fd)(tmin:mg "min"=none)(tzip:mg "zip"=none)(Wn:Callee P w K mg base CX0 1 "with_next_word" fW fdW ["row","behind"] zaw):FnOk P w K mg base CX0 2 f fd ["rows"] zax:=by
 refine F.ok zeV (λvs H Q E h=>?_) (λcdv A outer s H vs Q E hr h=>?_)
 .refine E_2 h λa gs n8=>A_2 n8 λe9 _=>?_;clear n8 h;subst e9;rfl
 .refine E_2 h λa gs n8=>A_6 n8 λe9 ha hg n2 n3 q=>?_;clear n8 h;subst e9;refine⟨_,(zf (zo (zp (zag rfl) (by rfl) tmin PyProof.Rows.boot_min (za (zQ (Nc:=["row","behind"]) (ix:=[none,none]) rfl rfl (by exact(qk rfl tzip (za (pv 0) (za (yp yQ (pv 0) (yx zk) yJ) zb)))) (λ_ _ _ _ _=>(xO (K:=K) (n:=2) rfl rfl (zR (zt (i:=0) (by show(["row","behind"]:List Str).Nodup;decide +kernel) rfl (Or.inl rfl)) (zR (zt (i:=1) (by show(["row","behind"]:List Str).Nodup;decide +kernel) rfl (Or.inl rfl)) yB)))) (λ_ _ _ _ _=>zP) (λ_ _ _ _ _=>(zg Wn.ok hr rfl Wn.bound Wn.kp Wn.bd .nil zr (za (pv 0) (za (pv 1) zb))))) zb)))),?_⟩;refine⟨_,rfl,_,rfl,_,rfl,a,_,rfl,SqL.of ha,λpc nc=>?_⟩;have Sc:=zd (o:=.lst (cutV (tx (gs.map glue)) (some 1) none)) nc;have lgs:(tx (gs.map glue)).length=gs.length:=by rw[yf,ke]
  have hpc:(upd H pc (.lst (cutV (tx (gs.map glue)) (some 1) none))) pc=some (.lst ((tx (gs.map glue)).drop 1)):=by
   rw[zc];exact congrArg (λz=>some (HO.lst z)) (y8 _ 1 ())
  have ha2:=Sc _ _ ha;generalize upd H pc (.lst (cutV (tx (gs.map glue)) (some 1) none))=H1 at Sc hpc ha2;have lm:min (tx (gs.map glue)).length ((tx (gs.map glue)).drop 1).length=gs.length-1:=by
   rw[vk,lgs]
   lia
  refine⟨a,pc,rfl,⟨_,SqL.of ha2⟩,⟨_,SqL.of hpc⟩,ql (K:=K) (a:=a) (b:=pc) (xs:=tx (gs.map glue)) (ys:=(tx (gs.map glue)).drop 1) (λi us σ H'=>us=((vals gs).take i).map V.int/\Same H1 H'/\∃o1 o2,σ=[o1,o2])
   ⟨rfl,Same.refl _,none,none,rfl⟩ (λi us σ H' hi h9=>by obtain⟨e,S,_⟩:=h9;exact(⟨by rw[e,ke,kQ,qD];exact kw (show _<=1000 by lia) ⋯,SqL.of (S _ _ ha2),SqL.of (S _ _ hpc)⟩)) ?_ ?_⟩
  .rintro us σ H' ⟨e,S,_⟩ l nl;rw[lm,<-qD gs,kJ]at e;subst e;refine⟨l,vals gs,rfl,SqL.of zc,by rw[qD];lia,λM hM hle=>?_⟩;exact q M hM hle _ (Sc.trans (S.trans (zd nl)))
  .intro i x y us σ H' p hx hy h8 hn;refine A_3 h8 λe S n8=>E_2 n8 λo1 o2 e9=>?_;clear n8 h8;subst e9;subst e;obtain⟨z1,hz1,rfl⟩:=xY hx;rw[List.getElem?_drop]at hy;obtain⟨z2,hz2,rfl⟩:=xY hy;rw[kM]at hz1 hz2;obtain⟨g,eg,rfl⟩:∃g,gs[i]?=some g/\z1=glue g:=by
    cases e:gs[i]? with
    |none=>rw[e]at hz1;cases hz1
    |some g=>rw[e]at hz1;cases hz1;exact⟨g,rfl,rfl⟩
   obtain⟨h,eh,rfl⟩:∃h,gs[i+1]?=some h/\z2=glue h:=by
    rw[Nat.add_comm 1 i]at hz2;cases e:gs[i+1]? with
    |none=>rw[e]at hz2;cases hz2
    |some g=>rw[e]at hz2;cases hz2;exact⟨g,rfl,rfl⟩
   have ev:=XY eg eh;obtain⟨hil,ev'⟩:=kf.mp ev;have G:=hg g (ky eg);have Hh:=hg h (ky eh);have Sp:=zd (o:=.tup [V.str (txt (glue g)),V.str (txt (glue h))]) hn;refine⟨p,_,rfl,SqT.of zc,rfl,_,_,rfl,_,_,rfl,rfl,?_⟩;dsimp only[tYes];refine iteT ?_;refine⟨_,rfl,_,rfl,g,h,rfl,Hh.1,Hh.2.1,G.2.2.1,Hh.2.2.1,Hh.2.2.2,λH2 S2=>⟨?_,S.trans (Sp.trans S2),_,_,rfl⟩⟩;rw[<-kC hil,kF,ev'];rfl
theorem xL:zu ["words","wide","rows","stairs","fewer"] ["words"] (zl Z5):=by trivial
theorem zay{f fR fT fN:Addr}{fd fdR fdT fdN:FuncData}(F:Fun K "text_stairs" "text_stairs" Z5 f fd)(tl:mg "len"=none)(tmax:mg "max"=none)(Re:Callee P w K mg base CX0 4 "refuse_no_words" fR fdR ["things"] j5)
  (Ta:Callee P w K mg base CX0 1 "taken" fT fdT ["words","wide"] Yb)(Nw:Callee P w K mg base CX0 2 "next_width" fN fdN ["rows"] zax):FnOk P w K mg base CX0 5 f fd ["words"] Wd:=by
 refine F.ok xL (λvs H Q E h=>?_) (λcdv A outer s H vs Q E hr h=>?_)
 .refine E_2 h λa ws n8=>A_2 n8 λe9 _=>?_;clear n8 h;subst e9;rfl
 .refine E_2 h λa ws n8=>A_5 n8 λe9 ha hw hn q=>?_;clear n8 h;subst e9;refine⟨_,(ze (yw (zg Re.ok hr rfl Re.bound Re.kp Re.bd .nil zr (za (pv 0) zb)))
   (ze (zO (z9 (jW (pv 0) (λ_=>rfl)))
   (zf (zo (yh (za (ye (za zk (za zk zb))) zb))))
   zF)
   (ze (zB (i:=1) xL.nd rfl (Or.inl rfl) (zp (zah rfl) (by rfl) tmax PyProof.Rows.boot_max (za (zQ (Nc:=["word"]) (ix:=[none]) rfl rfl (by refine' zV ?zz;case zz=>exact(pv 0)) (λ_ _ _ _ _=>(zt (i:=0) (by show(["word"]:List Str).Nodup;decide +kernel) rfl (Or.inl rfl))) (λ_ _ _ _ _=>zP) (λ_ _ _ _ _=>(zp yT (by rfl) tl kW (za (pv 0) zb)))) zb)))
   (ze (zB (i:=2) xL.nd rfl (Or.inl rfl) (zg Ta.ok (hr.mono (show 1<=4 by decide)) rfl Ta.bound Ta.kp Ta.bd .nil zr (za (pv 0) (za (pv 1) zb))))
   (ze (zB (i:=3) xL.nd rfl (Or.inl rfl) (yh (za (ye (za (pv 1) (za (zp zA (by rfl) tl kW (za (pv 2) zb)) zb))) zb)))
   (ze (PS.nox (jU PassesOwn.never (zI wY (zp zA (by rfl) tl kW (za (pv 2) zb)) zk (zD _))
   (ze (zB (i:=1) xL.nd rfl (Or.inl rfl) (zg Nw.ok (hr.mono (show 2<=4 by decide)) rfl Nw.bound Nw.kp Nw.bd .nil zr (za (pv 2) zb)))
    (ze (zB (i:=4) xL.nd rfl (Or.inl rfl) (zg Ta.ok (hr.mono (show 1<=4 by decide)) rfl Ta.bound Ta.kp Ta.bd .nil zr (za (pv 0) (za (pv 1) zb))))
    (ze (zO (zI yO (zp zA (by rfl) tl kW (za (pv 4) zb)) (zp zA (by rfl) tl kW (za (pv 2) zb)) (zD _))
    (zf (yw (xw vj vQ vR xr (pv 3) (za (ye (za (pv 1) (za (zp zA (by rfl) tl kW (za (pv 4) zb)) zb))) zb))))
    zF)
    (zf (zB (i:=2) xL.nd rfl (Or.inl rfl) (pv 4))))))))
   (zf (zo (pv 3))))))))),?_⟩
  refine⟨_,rfl,a,ws,rfl,ha,hw,hn,λH1 S1=>?_⟩;have ha1:=S1 _ _ ha;by_cases h0:ws=[]
  .subst h0;refine⟨_,rfl,false,.inl ⟨[],SqL.of ha1,rfl⟩,iteT ?_⟩;refine⟨Zz2,λp np=>⟨Zz1,λl nl=>?_⟩⟩;have Sp:=zd (o:=.tup [.int 1,.int 1]) np;have Sl:=zd (o:=.lst [.ref p]) nl;refine q l [.ref p] _ (S1.trans (Sp.trans Sl)) ((S1.trans Sp).free nl) zc ?_;show ym _ _ [(1,1)];exact .cons ⟨p,rfl,Sl _ _ zc⟩ .nil
  have ht:(!(tx ws).isEmpty)=true:=by
   cases ws with
   |nil=>exact absurd rfl h0
   |cons a r=>rfl
  refine⟨_,rfl,true,.inl ⟨_,SqL.of ha1,ht.symm⟩,iteF ?_⟩;have w12:∀u∈ws,u.length<=12:=λu hu=>(hw u hu).2.1;refine⟨_,rfl,a,rfl,⟨_,SqL.of ha1⟩,zZ (K:=K) (a:=a) (xs:=tx ws) (λi ys σ H'=>ys=((ws.take i).map λu=>(u.length:Int)).map V.int/\H'=H1/\∃o,σ=[o]) ⟨rfl,rfl,none,rfl⟩
   (λi ys σ H' hi h9=>by obtain⟨e,e2,_⟩:=h9;exact(⟨by rw[e,ke,ke,kQ];exact kw (show _<=1000 by lia) ⋯,by rw[e2];exact SqL.of ha1⟩)) ?_ ?_⟩
  case refine_2 =>
   intro i x ys σ H' hx h8;obtain⟨e,rfl,o,rfl⟩:=h8;subst e;obtain⟨v,hv,rfl⟩:=xY hx;obtain⟨hil,ev⟩:=kf.mp hv;dsimp only[zU,tYes];refine iteT ?_;refine qB (zh rfl) (kw (w12 v (ky hv)) ⋯) _ ?_;refine⟨?_,rfl,_,rfl⟩;rw[<-kC hil,ev,kF,kF];rfl
  intro ys σ H' h8 p2 n2;obtain⟨e,rfl,_⟩:=h8;rw[yf,kJ]at e;subst e;have S2:=zd (o:=.lst ((ws.map λu=>(u.length:Int)).map V.int)) n2;have hp2:(upd H' p2 (.lst ((ws.map λu=>(u.length:Int)).map V.int))) p2=some (.lst ((ws.map λu=>(u.length:Int)).map V.int)):=zc;have S12:=S1.trans S2;generalize upd H' p2 (.lst ((ws.map λu=>(u.length:Int)).map V.int))=H2 at S2 hp2 S12;refine⟨p2,_,rfl,SqL.of hp2,by rw[ke];exact bc.mpr h0,λM hM1 hM=>?_⟩;have eM:=zeM hM1 hM;subst eM;have hwl:∀u∈ws,(u.length:Int)<=(wid ws:Int):=λu hu=>uk.mpr (qm hu);refine⟨_,rfl,_,rfl,a,ws,wid ws,rfl,S12 _ _ ha,hw,hn,λlr H3 S3 _ hlr=>?_⟩;have S13:=S12.trans S3;refine⟨_,rfl,_,rfl,_,_,rfl,.inl (SqL.of hlr),Zz2,λp np=>⟨Zz1,λls nls=>?_⟩⟩;have Sp:=zd (o:=.tup [.int (wid ws),.int ((tx (taken (wid ws) ws)).length:Nat)]) np;have Sl:=zd (o:=.lst [.ref p]) nls;have Spl:=Sp.trans Sl;have fls:H ls=none:=(S13.trans Sp).free nls;have nlr:lr≠ls:=yd (Sp _ _ hlr) nls;have hlr4:=Spl _ _ hlr;have S4:=S13.trans Spl;have hls:(upd (upd H3 p (.tup [.int (wid ws),.int ((tx (taken (wid ws) ws)).length:Nat)])) ls (.lst [.ref p])) ls=some (.lst [.ref p]):=zc;have hP:ym (upd (upd H3 p (.tup [.int (wid ws),.int ((tx (taken (wid ws) ws)).length:Nat)])) ls (.lst [.ref p])) [.ref p] (falls (cnt ws) (wid ws) ((wid ws:Int)-wid ws).toNat):=by
   rw[Int.sub_self];refine .cons ⟨p,rfl,?_⟩ .nil;rw[Sl _ _ zc,yf,xh]
  generalize upd (upd H3 p (.tup [.int (wid ws),.int ((tx (taken (wid ws) ws)).length:Nat)])) ls (.lst [.ref p])=H4 at hlr4 S4 hls hP;clear Sp Sl Spl np nls S3 hlr S13 S12 hp2 S2 n2;have hT:=jn h0;refine run_seq ?_;refine Z2 (λm σ H5=>∃(wd:Int)(lr:Addr)(us:List V)(o4:Option V),m=(total ws-wd).toNat/\(wid ws:Int)<=wd/\wd<=total ws/\σ=[some (.ref a),some (.int wd),some (.ref lr),some (.ref ls),o4]/\Same H H5/\H5 lr=some (.lst (tx (taken wd ws)))/\lr≠ls /\
    H5 ls=some (.lst us)/\ym H5 us (falls (cnt ws) (wid ws) (wd-wid ws).toNat)/\us.length<=14000) _ ⟨(wid ws:Int),lr,[.ref p],none,rfl,kX _,hT,rfl,S4,hlr4,nlr,hls,hP,by show 1<=14000;decide⟩ ?_
  clear hlr4 S4 hls hP nlr;intro m σ H5 h8;refine E_4 h8 λwd lr us o4 n8=>A_10 n8 λe9 h1 h2 n92 S5 hlr nlr hls hP ulen=>?_;clear n8 h8;subst e9;subst n92;have ct:=xh ws wd;refine⟨(1:Int)<((tx (taken wd ws)).length:Nat),inferInstance,yV (zT (yU (zh rfl) (SqL.of hlr)) zC),λc=>?_,λc=>?_⟩
  .rw[yf,ct]at c;have c1:1<cnt ws wd:=()
   have hwd:∀u∈ws,(u.length:Int)<=wd:=λu hu=>vT (hwl u hu) h1;obtain⟨z0,hz0,hz1⟩:=zar h2 c1;have bt:=qc wd ws w12;have gl:=wG wd ws;have gg:=qC wd ws;have gf:=XW wd ws;have gn:=(Zy wd ws).1;have hlr':H5 lr=some (.lst (tx ((grp wd ws).map glue))):=by rw[gg];exact hlr
   refine⟨_,rfl,lr,grp wd ws,rfl,hlr',λg hg=>⟨gn g hg,λu hu=>hw u ?_,?_,?_⟩,(),?_,λM hM hle H6 S6=>?_⟩
   .rw[<-gf];exact List.mem_flatten.mpr ⟨g,hg,hu⟩
   .have:glue g∈taken wd ws:=by rw[<-gg];exact kU.mpr ⟨g,hg,rfl⟩
    have:=bt _ this
    lia
   .have:=Wc hg;rw[gf]at this
    lia
   .rw[gl];exact kw (wQ wd ws) hn
   have hMw:=zan wd ws M hM;have hMT:M<=total ws:=vT (hle z0 hz0) hz1;have jump:=QX (ws:=ws) (lo:=wid ws) h1 hMw λv a1 a2=>zap (M:=M) hle a1 a2;have S56:=S5.trans S6;refine⟨_,rfl,_,rfl,a,ws,M,rfl,S56 _ _ ha,hw,hn,λlf H7 S7 nlf hlf=>?_⟩;have S67:=S6.trans S7;have hls7:=S67 _ _ hls;have hlr7:=S67 _ _ hlr;have hP7:=hP.same S67;have S57:=S5.trans S67;have nlf2:lf≠ls:=λz=>by rw[z]at nlf;rw[S6 _ _ hls]at nlf;cases nlf
   have cf:=xh ws M
   try dsimp only
   refine jG (R:=λσ H8=>∃us:List V,σ=[some (.ref a),some (.int M),some (.ref lr),some (.ref ls),some (.ref lf)]/\Same H H8/\H8 lf=some (.lst (tx (taken M ws)))/\H8 ls=some (.lst us)/\ym H8 us (falls (cnt ws) (wid ws) (M-wid ws).toNat)/\us.length<=14000) ?_ (λk=>?_)
   case refine_1 =>
    intro σ H8 h8;refine E_1 h8 λus n8=>A_6 n8 λe9 S8 hlf8 hls8 hP8 ul8=>?_;clear n8 h8;subst e9;refine⟨_,rfl,(total ws-M).toNat,(),M,lf,us,_,rfl,(),hMT,rfl,S8,hlf8,nlf2,hls8,hP8,ul8⟩
   refine wM (p:=((tx (taken M ws)).length:Int)<((tx (taken wd ws)).length:Nat)) (yV (zT (yU (zh rfl) (SqL.of hlf)) (yU (zh rfl) (SqL.of hlr7)))) (λc2=>?_) (λc2=>?_)
   .rw[yf,yf,ct,cf]at c2;rw[if_pos ()]at jump;refine⟨_,rfl,.inl ⟨rfl,_,SqL.of hls7⟩,_,rfl,_,rfl,_,_,rfl,.inl (SqL.of hlf),Zz2,λp np=>?_⟩;have Sp:=zd (o:=.tup [.int M,.int ((tx (taken M ws)).length:Nat)]) np;have hls8:=Sp _ _ hls7;have ul:us.length=(falls (cnt ws) (wid ws) (wd-wid ws).toNat).length:=hP.len;have fl:=jm (c:=cnt ws) (lo:=(wid ws:Int)) (wd-wid ws).toNat;have tb:total ws<=13000:=by
     have e:=Z3 ws;have:(ws.map λu=>(u.length:Int)).sum<=12*ws.length:=by
      have:∀l:List W,(∀u∈l,u.length<=12)->(l.map λu=>(u.length:Int)).sum<=12*l.length:=λl=>by
       induction l with
       |nil=>intro _;exact kX _
       |cons x r ih =>
        intro hx;have i1:=ih λu hu=>hx u (kn _ hu);have i2:=hx x kg;rw[kY,va,kG]
        lia
      exact this ws w12
     unfold total
     lia
    refine⟨ls,_,_,rfl,rfl,hls8,by rw[show us.length=_ from ul];exact vC (show _<=14000 by lia) ⋯,?_⟩;refine k _ _ ⟨us++[.ref p],rfl,yu (S57.trans Sp) fls,?_,zc,?_,?_⟩
    .rw[zN nlf2];exact Sp _ _ hlf
    .rw[jump];refine((hP7.same Sp).upd hls8).snoc ⟨p,rfl,?_⟩;rw[zN (λz=>by rw[z,hls7]at np;cases np),zc,yf,cf]
    .rw[kt,vo,ul]
     lia
   .rw[yf,yf,ct,cf]at c2;rw[if_neg ()]at jump;refine z6 ?_;exact k _ _ ⟨us,rfl,S57,hlf,hls7,by rw[jump];exact hP7,ulen⟩
  .rw[yf,ct]at c;refine⟨_,rfl,q ls us H5 S5 fls hls ?_⟩;unfold xF;rw[if_neg h0,zaq h0 hwl h1 h2 ()];exact hP
end
end _JN
namespace _Tre
open PySem _L2
inductive T where
 |non|bl (b:Bool)|int (i:Int)|str (x:Str)|tup (ts:List T)|lst|dic
mutual
def sz:T->Nat
 |.tup ts=>1+szL ts
 |.non=>1
 |.bl _=>1
 |.int _=>1
 |.str _=>1
 |.lst=>1
 |.dic=>1
def szL:List T->Nat
 |[]=>0
 |t::r=>sz t+szL r
end
theorem jq:∀t:T,0<sz t
 |.tup ts=>by unfold sz;lia
 |.non=>by unfold sz;decide
 |.bl _=>by unfold sz;decide
 |.int _=>by unfold sz;decide
 |.str _=>by unfold sz;decide
 |.lst=>by unfold sz;decide
 |.dic=>by unfold sz;decide
theorem Yd:∀(a b:List T),szL (a++b)=szL a+szL b
 |[],b=>by show szL b=szL []+szL b;unfold szL;lia
 |t::a,b=>by
  show sz t+szL (a++b)=szL (t::a)+szL b;rw[Yd a b,szL]
  lia
theorem xZ(k:Str)(ps:List T):sz (.tup [.str k,.tup ps])=3+szL ps:=by
 simp only[sz,szL]
 lia
def bar:Str := "|"
def dash:Str := "-"
def isK(k:Str):Prop:=k=bar\/k=dash
def HasK(t:T)(k:Str):Prop:=∃q,t=.tup [.str k,q]
mutual
inductive Good:T->List Int->Prop where
 |leaf(i:Int):Good (.int i) [i]
 |node{k:Str}{ps:List T}{nss:List (List Int)}(hk:isK k)(h2:2<=ps.length)(hn:∀p∈ps,¬HasK p k)(h:zL ps nss):Good (.tup [.str k,.tup ps]) nss.flatten
inductive zL:List T->List (List Int)->Prop where
 |nil:zL [] []
 |cons{t:T}{ns:List Int}{ts:List T}{nss:List (List Int)}(h:Good t ns)(r:zL ts nss):zL (t::ts) (ns::nss)
end
theorem zL.app:∀{a b:List T}{x y:List (List Int)},zL a x->zL b y->zL (a++b) (x++y)
 |_,_,_,_,.nil,s=>s
 |_,_,_,_,.cons h r,s=>.cons h (zL.app r s)
theorem zL.split:∀{a b:List T}{z:List (List Int)},zL (a++b) z->∃x y,z=x++y/\zL a x/\zL b y
 |[],b,z,h=>⟨[],z,rfl,.nil,h⟩
 |t::a,b,_,.cons h r=>by
  obtain⟨x,y,e,h1,h2⟩:=zL.split (a:=a) (b:=b) r;exact⟨_::x,y,by rw[e];rfl,.cons h h1,h2⟩
theorem zL.one{t:T}{z:List (List Int)}(h:zL [t] z):∃ns,z=[ns]/\Good t ns:=by
 cases h with
 |cons h r =>
  cases r;exact⟨_,rfl,h⟩
theorem zL.len:∀{a:List T}{x:List (List Int)},zL a x->x.length=a.length
 |_,_,.nil=>rfl
 |_,_,.cons _ r=>by rw[kG,kG,r.len]
mutual
theorem Good.ne:∀{t:T}{ns:List Int},Good t ns->0<ns.length
 |_,_,.leaf i=>ux _
 |_,_,.node (ps:=ps) (nss:=nss) hk h2 hn h=>vd () (zL.le h)
theorem zL.le:∀{ts:List T}{nss:List (List Int)},zL ts nss->ts.length<=nss.flatten.length
 |_,_,.nil=>km _
 |_,_,.cons h r=>by
  rw[k5,kt,kG];have:=h.ne;have:=zL.le r
  lia
end
mutual
theorem Good.uniq:∀{t:T}{a b:List Int},Good t a->Good t b->a=b
 |_,_,_,.leaf i,h'=>by cases h';rfl
 |_,_,_,.node _ _ _ h,h'=>by
  cases h' with
  |node _ _ _ h2=>rw[zL.uniq h h2]
theorem zL.uniq:∀{t:List T}{a b:List (List Int)},zL t a->zL t b->a=b
 |_,_,_,.nil,h'=>by cases h';rfl
 |_,_,_,.cons h r,h'=>by
  cases h' with
  |cons h2 r2=>rw[Good.uniq h h2,zL.uniq r r2]
end
structure Rel(t:T)(ahead:List T)(ns:List Int):Prop where
 fw:∀x,Good t x->∃z,zL ahead z/\x.Perm (ns++z.flatten)
 bw:∀z,zL ahead z->∃x,Good t x/\x.Perm (ns++z.flatten)
theorem Rel.start(t:T):Rel t [t] [] :=
 ⟨λx h=>⟨[x],.cons h .nil,by simp⟩,λz h=>by
  obtain⟨ns,rfl,h2⟩:=h.one;exact⟨ns,h2,by simp⟩⟩
theorem Rel.leaf{t:T}{a:List T}{ns:List Int}{i:Int}(R:Rel t (a++[.int i]) ns):Rel t a (ns++[i]):=by
 refine⟨λx h=>?_,λz h=>?_⟩
 .obtain⟨z,hz,p⟩:=R.fw x h;obtain⟨u,v,rfl,h1,h2⟩:=hz.split;obtain⟨m,rfl,h3⟩:=h2.one;cases h3;refine⟨u,h1,p.trans ?_⟩;rw[vL,ud];refine List.Perm.append_left ns ?_;show(u.flatten++([i]++[])).Perm ([i]++u.flatten);rw[vh];exact uV
 .obtain⟨x,h1,p⟩:=R.bw (z++[[i]]) (h.app (.cons (.leaf i) .nil));refine⟨x,h1,p.trans ?_⟩;rw[vL,ud];refine List.Perm.append_left ns ?_;show(z.flatten++([i]++[])).Perm ([i]++z.flatten);rw[vh];exact uV
theorem Rel.node{t:T}{a ps:List T}{ns:List Int}{k:Str}(R:Rel t (a++[.tup [.str k,.tup ps]]) ns)(hk:isK k)(h2:2<=ps.length)(hn:∀p∈ps,¬HasK p k):Rel t (a++ps) ns:=by
 refine⟨λx h=>?_,λz h=>?_⟩
 .obtain⟨z,hz,p⟩:=R.fw x h;obtain⟨u,v,rfl,h1,h3⟩:=hz.split;obtain⟨m,rfl,h4⟩:=h3.one;cases h4 with
  |node _ _ _ h5=>exact⟨_,h1.app h5,by simpa using p⟩
 .obtain⟨u,v,rfl,h1,h3⟩:=h.split;obtain⟨x,hx,p⟩:=R.bw (u++[v.flatten]) (h1.app (.cons (.node hk h2 hn h3) .nil));exact⟨x,hx,by simpa using p⟩
theorem Rel.none{t p:T}{a:List T}{ns:List Int}(R:Rel t (a++[p]) ns)(hp:∀m,¬Good p m):∀x,¬Good t x:=λx h=>by
 obtain⟨z,hz,_⟩:=R.fw x h;obtain⟨u,v,rfl,h1,h3⟩:=hz.split;obtain⟨m,_,h4⟩:=h3.one;exact hp m h4
theorem Rel.many{t:T}{a:List T}{ns:List Int}(R:Rel t a ns):∀x,Good t x->ns.length+a.length<=x.length:=λx h=>by
 obtain⟨z,hz,p⟩:=R.fw x h;rw[p.length_eq,kt];have:=hz.le
 lia
theorem Rel.done{t:T}{ns:List Int}(R:Rel t [] ns):∃x,Good t x/\x.Perm ns:=by
 obtain⟨x,h,p⟩:=R.bw [] .nil;exact⟨x,h,by simpa using p⟩
def up(n:Nat):List Int:=(kR n).map λi:Nat=>(i:Int)
def wm(t:T):Prop:=∃x,Good t x/\x.length<=24/\x.Perm (up x.length)
theorem qp(n:Nat):(up n).length=n:=by unfold up;rw[ke,vq]
theorem YN(n:Nat):(up n).Pairwise (· <= ·):=by
 unfold up;rw[List.pairwise_map];exact List.pairwise_lt_range.imp λh=>()
theorem zbW(n:Nat):(up n).Nodup:=by
 unfold up;rw[List.nodup_iff_pairwise_ne,List.pairwise_map];exact List.pairwise_lt_range.imp λh=>()
theorem zaz{a b:List Int}(p:a.Perm b)(ha:a.Pairwise (· <= ·))(hb:b.Pairwise (· <= ·)):a=b:=p.eq_of_pairwise (λx y _ _ h1 h2=>ut h1 h2) ha hb
end _Tre
namespace PySem
open AutoSeq1
set_option maxRecDepth 100000 in
theorem jr(l:Addr)(items:Array Value)(n:Nat)(b:Addr)(items2:Array Value)(n2:Nat)(dd:Option Addr)(sl:Array (Option Value))(hs0:¬(!items.isEmpty&&Builtin.List.listTooLong (items.size+items2.size))=true)(hs1:items.size<=sizeLine)(hs2:items.size+items2.size<=sizeLine+1):
  Meets (Builtin.«list.extend» ⟨[.ref l,.ref b],[]⟩) (λ_ R s=>s.heap.get? l=some {cls:=.type "list",dict:=none,data:=.seq items n,slots:=#[]}/\s.heap.get? b=some {cls:=.type "tuple",dict:=dd,data:=.seq items2 n2,slots:=sl}/\R (.ok (.ret Value.none)) {s with heap:=s.heap.update l (Obj.mapSeq λx=>x++items2),toks:=s.toks}) :=
 .of_wp λprog w A R s h=>by
  obtain⟨hp,g,d,tk,os⟩:=s;obtain⟨hl,hb,h⟩:=h;have f1:=idx_int;have f2:=sub_tuple_tuple;have f3:=sub_list_list;have f4:=sub_tuple_list;have f5:=sub_list_tuple;
  have hz':(items++items2).size<=sizeLine+1:=by rw[Array.size_append];exact hs2
  wp_walk using(wpAny_updateSeq hl rfl (hz:=hs1) (_hz':=hz')),wpAny_loadPart' hl,wpAny_loadPart' hb;exact⟨_,rfl,h⟩
end PySem
namespace _L2
open PySem PySem.Spec PyProof.Rows
section
variable{X:Cx}
theorem Zz:MtM X "list.extend" (λx vs H Q=>∃l b xs zs,x=.ref l/\vs=[.ref b]/\H l=some (.lst xs)/\SqT X.K H b zs/\xs.length+zs.length<=sizeLine/\Q .non (upd H l (.lst (xs++zs)))):=by
 intro pins s σ H x vs v us Q I rx rv h;refine E_4 h λl b xs zs n8=>A_6 n8 λe9 n90 hH hB hz q=>?_;clear n8 h;subst e9;subst n90;cases rx;obtain⟨u,rfl,ru⟩:=rv.one;cases ru;obtain⟨z,its,n,r,hl,e⟩:=I.lstM hH;obtain⟨its2,r2,⟨⟨cls,dd,data,sl⟩,e2,hc,n2,hd⟩,hz2⟩:=I.tuple hB;simp only at hc hd;subst hc hd;have hl2:=r2.length;have hsz:its.toArray.size+its2.toArray.size<=sizeLine:=by rw[ku,ku];lia
 have hlong:¬(!its.toArray.isEmpty&&Builtin.List.listTooLong (its.toArray.size+its2.toArray.size))=true:=by
  rw[XG hsz,Bool.and_false];exact kH
 refine call_meets F.slot_list_extend ⟨_,e,rfl⟩ F.entry_list_extend (F.args_list_extend_2 _ _)
  (jr l its.toArray n b its2.toArray n2 dd sl hlong (by rw[ku];lia) ()) ⟨e,e2,?_⟩
 refine⟨.non,_,I.lset (its':=its++its2) hH e (by simp) (r.append r2) ?_,rfl,q⟩;rw[kt];omega
theorem js:∀{ns:List Int}{us:List Value},Vals (ns.map V.int) us->IntsAre us ns
 |[],_,.nil=>.nil
 |n::ns,_,.cons ⟨t,e⟩ r=>by
  subst e;exact .cons n t (js r)
theorem qG:∀{ns:List Int}{us:List Value},IntsAre us ns->Vals (ns.map V.int) us
 |_,_,.nil=>.nil
 |_,_,.cons n t r=>.cons ⟨t,rfl⟩ (qG r)
theorem Jh:yI X (.builtin "sorted") (λxs H Q=>∃(a:Addr)(ns:List Int),xs=[.ref a]/\SqL X.K H a (ns.map V.int)/\ns.length<64/\∀(l:Addr)(ms:List Int),H l=none->ms.Perm ns->ms.Pairwise (· <= ·)->Q (.ref l) (upd H l (.lst (ms.map V.int)))):=by
 intro pins s σ H xs us Q I r h;refine E_2 h λa ns n8=>A_4 n8 λe9 hq h64 q=>?_;clear n8 h;subst e9;obtain⟨u,rfl,ru⟩:=vals1 r;cases ru;obtain⟨its,rv,tp,hz⟩:=I.list hq;have hl:=rv.length;rw[ke]at hl;refine sorted_ints tp.isList (js rv) () λout ms hI pm st=>?_;obtain⟨e,he⟩:=sortedAll_at s.heap its out;have ln:(ms.map V.int).length<=sizeLine:=by rw[ke,pm.length_eq];exact kw (vF h64) ⋯
 refine⟨.ref (s.heap.objs.size+1),_,I.laid (t':=s.toks) (o:=.lst (ms.map V.int)) (λb u e=>sortedAll_old e) (vV _) ⟨ln,out.toList,e,qG hI,?_⟩,rfl,q _ ms (I.hok.fresh (vV _)) pm st⟩;rw[he]
end
def ItR(K:PySem.W.Frag)(a:Addr)(n:Nat):It :=
 ⟨λi H=>i<n/\∃xs,SqL K H a xs/\xs.length=n,λi H x H'=>H'=H/\∀xs,SqL K H a xs->xs[n-1-i]?=some x,λi H=>n<=i⟩
theorem zbX{P:Program}{w:World}{K:PySem.W.Frag}{tg:Expr}(a it:Addr)(n:Nat):Turn P w K tg (ItR K a n) [it] it (λi h=>h.IsRevIter it a ((n:Int)-1-i)/\i<=n) where
 mem:=by simp
 obj:=λi h st b hb=>by
  have e:b=it:=by simpa using hb
  subst e;obtain⟨⟨o,e,c,d⟩,_⟩:=st;exact⟨o,e,λv z=>by rw[d]at z;cases z⟩
 keep:=λi h h' st k=>⟨st.1.at λo e=>k it (by simp) o e,st.2⟩
 item:=by
  intro X hP hw hK hc i pins s σ H E I hf st hg;subst hP hw hK;obtain⟨hi,xs,hq,hx⟩:=hg;obtain⟨its,rv,p,hz⟩:=I.list hq;have e1:xs[n-1-i]?=some (xs[n-1-i]'(by omega)):=kc (by omega);obtain⟨u,hu,ru⟩:=rv.get e1;obtain⟨f0,f1,f2,f3,f4,f5⟩:=hf it (by simp);have st1:s.heap.IsRevIter it a ((n-1-i:Nat):Int):=by
   have:=st.1
   rwa [show(n:Int)-1-i=((n-1-i:Nat):Int)by omega]at this
  refine wpAny_pyNext_rev_item st1 p.isList (x:=u) (by simpa using hu) λh' st' sb=>?_;have I1:Inv X pins σ H {s with heap:=h'}:=I.turned (t':=s.toks) (λb o hb e=>(sb.2 b hb).trans e) f0 f1 f3 f4 f5;have st2:h'.IsRevIter it a ((n:Int)-1-((i+1:Nat):Int)):=by
   rwa [show((n-1-i:Nat):Int)-1=(n:Int)-1-((i+1:Nat):Int)by lia]at st'
  obtain⟨o,e,c,d⟩:=id st2;exact⟨u,rfl,Zm (s:={s with heap:=h'}) e c d ⋯ ⟨_,H,I1,ru,⟨rfl,λys hy=>by rw[I.list_inj hy hq];exact e1⟩,⟨st2,by assumption⟩,λb hb=>(hf b hb).1⟩⟩
 done:=by
  intro X hP hw hK hc i pins s σ H E I hf st hg;subst hP hw hK;have hg:n<=i:=hg;obtain⟨f0,f1,f2,f3,f4,f5⟩:=hf it (by simp);have st1:s.heap.IsRevIter it a (-1):=by
   have:=st.1
   rwa [show(n:Int)-1-i = -1 by have:=st.2;lia]at this
  exact wpAny_pyNext_rev_end (I.ok.hd hc) st1 λh' eb=>⟨rfl,I.turned (t':=s.toks) (λb o hb e=>eb b o hb e) f0 f1 f3 f4 f5⟩
 self:=λ_ _ _ _ _ st h=>wpAny_pyIter_revIter st.1 h
def iRev(K:PySem.W.Frag)(ta:TA):TI:=λσ H R=>ta σ H λvs H1=>∃a xs,vs=[.ref a]/\SqL K H1 a xs/\R (ItR K a xs.length) H1
theorem zeW{X:Cx}{tg l:Expr}{ta:TA}{p pos:Pos}(hg:Gl X "reversed")(hm:X.mg "reversed"=none)(ha:PA X [l] ta)(hs:starEach [l] X.env=[(false,eval l X.env)]:=by rfl):
  PI X tg (.Call (.Name "reversed" p) [l] [] pos) (iRev X.K ta):=by
 intro pins s σ H R I h;refine Call_ (yR I hg hm boot_reversed (vB (thn (ha pos pins s σ H _ I h) λus s1 ⟨vs,H1,I1,r1,q1⟩=>?_) hs rfl));obtain⟨a,xs,e,hq,q⟩:=q1;subst e;cases r1 with
 |cons r rr =>
  cases rr;cases r;obtain⟨its,rv,tp,hz⟩:=I1.list hq;have hl:=rv.length;refine call_reversed_list tp.isList ?_;have e0:((its.toArray.size:Nat):Int)-1=(xs.length:Int)-1-((0:Nat):Int):=by rw[ku];lia
  have st0:(s1.heap.push (revObj a (((its.toArray.size:Nat):Int)-1))).IsRevIter s1.heap.objs.size a ((xs.length:Int)-1-((0:Nat):Int)):=⟨_,Heap.get?_push_size _ rfl,rfl,by rw[e0];rfl⟩;refine wpAny_pyIter_revIter st0 ?_;refine I_5 s1.heap.objs.size [s1.heap.objs.size] _ _ H1 ⟨rfl,I1.kept (t':=s1.toks) λb o e=>Heap.get?_push_of_some _ e,zbX a _ xs.length,⟨st0,kN _⟩,λb hb=>?_,q⟩;have e:b=s1.heap.objs.size:=by simpa using hb
  subst e;exact I1.fpOk (km _) (I1.hok.fresh (km _))
section
variable{X:Cx}
def tLR3(ta:TA):TE:=λσ H Q=>ta σ H λvs H1=>∃n:Nat,vs=[.int n]/\n<=1000000/\∀l,H1 l=none->Q (.ref l) (upd H1 l (.lst ((kR n).map λi:Nat=>V.int i)))
theorem Ji{n:Nat}{its:Array Value}(h:ItemsOf (λi v=>∃t,v=Value.int (0+(i:Int)*1) t) its n):Vals ((kR n).map λi:Nat=>V.int i) its.toList:=by
 obtain⟨h1,h2⟩:=h;have:∀(us:List Value)(k:Nat),(∀j v,us[j]?=some v->∃t,v=Value.int ((k+j:Nat):Int) t)->Vals ((kR us.length).map λi:Nat=>V.int ((k+i:Nat):Int)) us:=by
  intro us
  induction us with
  |nil=>intro k _;exact .nil
  |cons u us ih =>
   intro k h;rw[kG,List.range_succ_eq_map,kY,vm];refine .cons ?_ ?_
   .obtain⟨t,rfl⟩:=h 0 u rfl;exact⟨t,rfl⟩
   .have:=ih (k+1) λj v e=>by
     obtain⟨t,rfl⟩:=h (j+1) v (by simpa using e);exact⟨t,by rw[show k+1+j=k+(j+1)by lia]⟩
    have e:((λi:Nat=>V.int ((k+i:Nat):Int))∘Nat.succ)=λi:Nat=>V.int ((k+1+i:Nat):Int):=by
     funext i;show V.int ((k+(i+1):Nat):Int)=V.int ((k+1+i:Nat):Int);rw[show k+(i+1)=k+1+i by lia]
    rw[e];exact this
 have:=this its.toList 0 λj v e=>by
  obtain⟨t,rfl⟩:=h2 j v (by rw[<-Array.getElem?_toList];exact e);exact⟨t,by simp⟩
 rw[Array.length_toList,h1]at this;simpa using this
theorem We{a:Expr}{ta:TA}{p p2 pos pos2:Pos}(hc:X.calm=true)(hgl:Gl X "list")(hml:X.mg "list"=none)(hg:Gl X "range")(hm:X.mg "range"=none)(ha:PA X [a] ta)(hs:starEach [a] X.env=[(false,eval a X.env)]:=by rfl)
  (hs2:starEach [.Call (.Name "range" p2) [a] [] pos2] X.env=[(false,eval (.Call (.Name "range" p2) [a] [] pos2) X.env)]:=by rfl):PE X (.Call (.Name "list" p) [.Call (.Name "range" p2) [a] [] pos2] [] pos) (tLR3 ta):=by
 intro pins s σ H Q I h;refine wpAny_Call_Name_kw (yR I hgl hml boot_list (vB ?_ hs2 rfl));rw[hs2];refine Calls.spliced_cons (Call_ (yR I hg hm boot_range (vB (thn (ha pos2 pins s σ H _ I h) λus s1 ⟨vs,H1,I1,r1,q1⟩=>?_) hs rfl)));obtain⟨n,e,hn,q⟩:=q1;subst e;obtain⟨u,rfl,t,rfl⟩:=vals1 r1;refine call_range_1 (Calls.spliced_nil ?_);refine call_list_range (n:=n) (I1.ok.hd hc) (IsRange.new ..) (small_one ⋯ ⋯ () ()) (by rw[rangeSize_one];split<;>lia) () λh' tk acc c' kp hl it=>?_;have I2:Inv X pins σ H1 {s1 with heap:=s1.heap.push {cls:=.type "range",data:=.fields #[.int 0 s1.toks,.int n t,.int 1 (s1.toks+1)]},toks:=s1.toks+1+1}:=I1.kept λb o e=>Heap.get?_push_of_some _ e;refine⟨.ref _,_,I2.laid (t':=tk) (o:=.lst ((kR n).map λi:Nat=>V.int i)) kp (km _) ⟨by rw[ke,vq];exact kw hn ⋯,acc.toList,c',Ji it,by simpa using hl⟩,rfl,q _ (I2.hok.fresh (km _))⟩
end
end _L2
namespace _JN
open PySem _L2 _Tre PySem.W
mutual
inductive At(H:Hp):V->T->Prop where
 |int(i:Int):At H (.int i) (.int i)
 |str(x:Str):At H (.str x) (.str x)
 |tup{a:Addr}{vs:List V}{ts:List T}(e:H a=some (.tup vs))(h:AtL H vs ts):At H (.ref a) (.tup ts)
inductive AtL(H:Hp):List V->List T->Prop where
 |nil:AtL H [] []
 |cons{v:V}{t:T}{vs:List V}{ts:List T}(h:At H v t)(r:AtL H vs ts):AtL H (v::vs) (t::ts)
end
mutual
theorem At.same{H H':Hp}(S:Same H H'):∀{v:V}{t:T},At H v t->At H' v t
 |_,_,.int i=>.int i
 |_,_,.str x=>.str x
 |_,_,.tup e h=>.tup (S _ _ e) (AtL.same S h)
theorem AtL.same{H H':Hp}(S:Same H H'):∀{vs:List V}{ts:List T},AtL H vs ts->AtL H' vs ts
 |_,_,.nil=>.nil
 |_,_,.cons h r=>.cons (At.same S h) (AtL.same S r)
end
theorem AtL.len{H:Hp}:∀{vs:List V}{ts:List T},AtL H vs ts->vs.length=ts.length
 |_,_,.nil=>rfl
 |_,_,.cons _ r=>by rw[kG,kG,r.len]
theorem AtL.get{H:Hp}:∀{vs:List V}{ts:List T}{i:Nat}{v:V},AtL H vs ts->vs[i]?=some v->∃t,ts[i]?=some t/\At H v t
 |_,_,_,_,.nil,e=>by simp at e
 |_,_,0,_,.cons h _,e=>by simp at e;subst e;exact⟨_,rfl,h⟩
 |_,_,i+1,v,.cons _ r,e=>by
  obtain⟨t,h1,h2⟩:=AtL.get (i:=i) (v:=v) r (by simpa using e);exact⟨t,by simpa using h1,h2⟩
theorem AtL.app{H:Hp}:∀{vs us:List V}{ts ss:List T},AtL H vs ts->AtL H us ss->AtL H (vs++us) (ts++ss)
 |_,_,_,_,.nil,s=>s
 |_,_,_,_,.cons h r,s=>.cons h (AtL.app r s)
theorem AtL.snoc{H:Hp}:∀{ts:List T}{t:T}{vs:List V},AtL H vs (ts++[t])->∃us v,vs=us++[v]/\AtL H us ts/\At H v t
 |[],t,_,.cons h .nil=>⟨[],_,rfl,.nil,h⟩
 |b::ts,t,_,.cons h r=>by
  obtain⟨us,v,e,h1,h2⟩:=AtL.snoc (ts:=ts) r;exact⟨_::us,v,by rw[e];rfl,.cons h h1,h2⟩
def tyT:T->Value
 |.non=>.type "NoneType"
 |.bl _=>.type "bool"
 |.int _=>.type "int"
 |.str _=>.type "str"
 |.tup _=>.type "tuple"
 |.lst=>.type "list"
 |.dic=>.type "dict"
theorem At.ty{K:PySem.W.Frag}{H:Hp}{v:V}{t:T}(h:At H v t):TyX K H v (tyT t):=by
 cases h with
 |int i=>exact .of (.int i)
 |str x=>exact .of (.str x)
 |tup e _=>exact .of (.tup e)
def isI:T->Bool
 |.int _=>true
 |_=>false
def isTp:T->Bool
 |.tup _=>true
 |_=>false
structure Nt(K:PySem.W.Frag)(mg:Str->Option Value)(kA:Addr):Prop where
 gKIND:GI mg "KIND" 0
 gPARTS:GI mg "PARTS" 1
 gMOST_BOXES:GI mg "MOST_BOXES" 24
 gKINDS:mg "KINDS"=some (.ref kA)
 kk:∀H,SqT K H kA [.str bar,.str dash]
 ti:mg "isinstance"=none
 tint:mg "int"=none
 tbool:mg "bool"=none
 tstr:mg "str"=none
 ttup:mg "tuple"=none
 tlist:mg "list"=none
 tl:mg "len"=none
 tany:mg "any"=none
 ts:mg "sorted"=none
 tr:mg "range"=none
 kI:∀{H x t},At H x t->kitOne K (tyT t) (.type "int")=some (isI t)
 kB:kitOne K (.type "int") (.type "bool")=some false
 kS:kitOne K (.type "str") (.type "str")=some true
 kT:∀{H x t},At H x t->kitOne K (tyT t) (.type "tuple")=some (isTp t)
def isKb(k:Str):Bool:=decide (k=bar)||decide (k=dash)
theorem zbY{k:Str}:isKb k=true↔isK k:=by
 unfold isKb isK;rw[bn,decide_eq_true_eq,decide_eq_true_eq]
def x5:Sp:=λvs H Q _=>∃(x:V)(t:T),vs=[x]/\At H x t/\Q (.bl (isI t)) H
def zcJ:Sp:=λvs H Q _=>∃(x:V)(t:T)(n:List Int),vs=[x]/\At H x t/\Good t n/\Q (.bl (isTp t)) H
def spBr:Sp:=λvs H Q _=>∃(x:V)(k:Str)(ps:List T)(n:List Int),vs=[x]/\At H x (.tup [.str k,.tup ps])/\Good (.tup [.str k,.tup ps]) n/\ps.length<=100000/\∀H',Same H H'->Q (.bl true) H'
section
variable{P:Program}{w:World}{K:PySem.W.Frag}{mg:Str->Option Value}{base:Heap}{kA:Addr}
theorem zdw:zu ["thing"] ["thing"] (zl X6):=by trivial
theorem zbZ{f:Addr}{fd:FuncData}(F:Fun K "is_whole" "is_whole" X6 f fd)(Z:Nt K mg kA):FnOk P w K mg base CX0 1 f fd ["thing"] x5:=by
 obtain⟨gKIND,gPARTS,gMOST_BOXES,gKINDS,kk,ti,tint,tbool,tstr,ttup,tlist,tl,tany,ts,tr,kI,kB,kS,kT⟩:=Z;refine F.ok zdw (λvs H Q E h=>?_) (λcdv A outer s H vs Q E hr h=>?_)
 .refine E_2 h λx t n8=>A_2 n8 λe9 _=>?_;clear n8 h;subst e9;rfl
 .refine E_2 h λx t n8=>A_3 n8 λe9 hA q=>?_;clear n8 h;subst e9;refine⟨_,(zf (zo (yg (zp yj (by rfl) ti k8 (za (pv 0) (za (yM rfl tint PyProof.Rows.boot_int) zb))) (yG (JQ (zp yj (by rfl) ti k8 (za (pv 0) (za (yM rfl tbool PyProof.Rows.boot_bool) zb)))))))),?_⟩;refine⟨_,rfl,_,_,_,_,rfl,rfl,hA.ty,kI hA,_,rfl,?_⟩;cases hA with
  |int i=>exact iteT ⟨_,rfl,_,_,_,_,rfl,rfl,.of (.int i),kB,_,rfl,q⟩
  |str x=>exact iteF q
  |tup e h=>exact iteF q
theorem zf4:zu ["thing"] ["thing"] (zl sHas):=by trivial
theorem zb0(k:Str):inV (.str k) [.str bar,.str dash]=isKb k:=by
 unfold isKb;show(eqV (.str bar) (.str k)||(eqV (.str dash) (.str k)||false))=_;rw[bE,vn,bn,bn,decide_eq_true_eq,decide_eq_true_eq];have e:∀a b:Str,eqV (.str a) (.str b)=true↔b=a:=λa b=>by
  show(a==b)=true↔b=a;rw[beq_iff_eq];exact eq_comm
 rw[e,e]
theorem zeX{f:Addr}{fd:FuncData}(F:Fun K "has_kind" "has_kind" sHas f fd)(Z:Nt K mg kA):FnOk P w K mg base CX0 1 f fd ["thing"] zcJ:=by
 obtain⟨gKIND,gPARTS,gMOST_BOXES,gKINDS,kk,ti,tint,tbool,tstr,ttup,tlist,tl,tany,ts,tr,kI,kB,kS,kT⟩:=Z;refine F.ok zf4 (λvs H Q E h=>?_) (λcdv A outer s H vs Q E hr h=>?_)
 .refine E_3 h λx t n n8=>A_2 n8 λe9 _=>?_;clear n8 h;subst e9;rfl
 .refine E_3 h λx t n n8=>A_4 n8 λe9 hA g q=>?_;clear n8 h;subst e9;refine⟨_,(zf (zo (yg (zp yj (by rfl) ti k8 (za (pv 0) (za (yM rfl ttup vx) zb))) (yg (z5 xH (zp zA (by rfl) tl kW (za (pv 0) zb)) zk (zD _)) (yg (zp yj (by rfl) ti k8 (za (zm zw (pv 0) (zx rfl gKIND) (λ_ _=>rfl)) (za (yM rfl tstr PyProof.Rows.boot_str) zb))) (yG (z5 J6 (zm zw (pv 0) (zx rfl gKIND) (λ_ _=>rfl)) (zeO rfl gKINDS) rfl))))))),?_⟩;refine⟨_,rfl,_,_,_,_,rfl,rfl,hA.ty,kT hA,_,rfl,?_⟩;cases g with
  |leaf i=>exact iteF q
  |node hk _ _ _ =>
   cases hA with
   |tup e hL =>
   cases hL with
   |cons h0 hr =>
   cases h0;cases hr with
   |cons h1 hr =>
   cases hr;refine iteT ⟨_,rfl,_,_,rfl,.inr (SqT.of e),rfl,_,rfl,iteT ?_⟩;refine⟨_,rfl,_,_,_,_,rfl,rfl,SqT.of e,rfl,_,_,_,_,rfl,rfl,.of (.str _),kS,_,rfl,?_⟩;refine iteT ⟨_,rfl,_,_,_,_,rfl,rfl,SqT.of e,rfl,kA,_,rfl,.inr (kk _),rfl,rfl,?_⟩;rw[zb0,zbY.mpr hk];exact q
end
def Jj:Sp:=λvs H Q _=>∃(x:V)(t:T)(n:List Int),vs=[x]/\At H x t/\Good t n/\n.length<=24/\∀(r:List Int)(l:Addr)(H':Hp),Same H H'->H l=none->H' l=some (.lst (r.map V.int))->r.Perm n->Q (.ref l) H'
def zaA:Sp:=λvs H Q _=>∃(x:V)(t:T)(n:List Int),vs=[x]/\At H x t/\Good t n/\wm t/\∀H',Same H H'->Q (.bl true) H'
theorem zdx{K:PySem.W.Frag}{H:Hp}{a c:Addr}{ms ns:List Int}(ha:SqL K H a (ms.map V.int))(hc:SqL K H c (ns.map V.int)):EqR K H 1 (.ref a) (.ref c) (decide (ms=ns)):=by
 by_cases hl:ms.length=ns.length
 .have fl:∀(xs:List Int)(j:Nat),j<(xs.map V.int).length->(xs.map V.int).getD j .non=.int (xs.getD j 0):=λxs j hj=>by
   rw[ke]at hj;rw[kP,kM,kc hj,kP,kc hj];rfl
  have:=EqR.lsts (K:=K) (H:=H) (n:=0) (e:=λj=>eqV (.int (ms.getD j 0)) (.int (ns.getD j 0))) ha hc (by rw[ke,ke];exact hl) λj hj=>by
   rw[fl ms j hj,fl ns j (by rw[ke]at hj ⊢;lia)];exact .flat rfl rfl
  have e:(kR (ms.map V.int).length).all (λj=>eqV (.int (ms.getD j 0)) (.int (ns.getD j 0)))=decide (ms=ns):=by
   rw[vn,decide_eq_true_eq,vM,ke];constructor
   .intro h;apply u8 hl;intro i h1 h2;have:=h i (vp.mpr h1);have this:(ms.getD i 0==ns.getD i 0)=true:=this;rw[beq_iff_eq,kP,kP,kc h1,kc h2]at this;exact this
   .rintro rfl j _;show(ms.getD j 0==ms.getD j 0)=true;rw[beq_iff_eq]
  rw[<-e];exact this
 .rw[decide_eq_false (λz=>hl (by rw[z]))];exact EqR.lens (n:=0) ha hc (by rw[ke,ke];exact hl)
theorem _root_._Tre.zL.memN':∀{ts:List T}{nss:List (List Int)},zL ts nss->∀p∈ts,∃n,Good p n/\True
 |_,_,.nil,p,hp=>(k6 hp).elim
 |_,_,.cons h r,p,hp=>by
  rcases kK.mp hp with e|e
  .rw[e];exact⟨_,h,trivial⟩
  .exact r.memN' p e
section
variable{P:Program}{w:World}{K:PySem.W.Frag}{mg:Str->Option Value}{base:Heap}{kA:Addr}
theorem scBr:zu ["thing","parts"] ["thing"] (zl sBr):=by trivial
theorem zf5{f fH:Addr}{fd fdH:FuncData}(F:Fun K "is_branch" "is_branch" sBr f fd)(Z:Nt K mg kA)(Hk:Callee P w K mg base CX0 1 "has_kind" fH fdH ["thing"] zcJ):FnOk P w K mg base CX0 2 f fd ["thing"] spBr:=by
 obtain⟨gKIND,gPARTS,gMOST_BOXES,gKINDS,kk,ti,tint,tbool,tstr,ttup,tlist,tl,tany,ts,tr,kI,kB,kS,kT⟩:=Z;refine F.ok scBr (λvs H Q E h=>?_) (λcdv A outer s H vs Q E hr h=>?_)
 .refine E_4 h λx k ps n n8=>A_2 n8 λe9 _=>?_;clear n8 h;subst e9;rfl
 .refine E_4 h λx k ps n n8=>A_5 n8 λe9 hA g hn q=>?_;clear n8 h;subst e9;refine⟨_,(ze (zO (z9 (zX (zg Hk.ok hr rfl Hk.bound Hk.kp Hk.bd .nil zr (za (pv 0) zb))))
   (zf (zo yN))
   zF)
   (ze (zB (i:=1) scBr.nd rfl (Or.inl rfl) (zm zw (pv 0) (zx rfl gPARTS) (λ_ _=>rfl)))
   (ze (zO (PW.pt (xi (z9 (zX (zp yj (by rfl) ti k8 (za (pv 1) (za (yM rfl ttup vx) zb))))) (yZ (zI yO (zp zA (by rfl) tl kW (za (pv 1) zb)) zk (zD _)))))
   (zf (zo yN))
   zF)
   (zf (zo (JQ (zp (je rfl) (by rfl) tany bC (za (zQ (Nc:=["part","thing"]) (ix:=[none,some 0]) rfl rfl (by exact(xT (pv 1))) (λ_ _ _ _ _=>(zt (i:=0) (by show(["part","thing"]:List Str).Nodup;decide +kernel) rfl (Or.inl rfl))) (λ_ _ _ _ _=>zP) (λ_ _ _ _ _=>(yg (zg Hk.ok hr rfl Hk.bound Hk.kp Hk.bd .nil zr (za (pv 0) zb)) (yG (z5 xH (zm (z7 (K:=K) rfl) (pv 0) (zx rfl gKIND) (λ_ _=>rfl)) (zm (z7 (K:=K) rfl) (pv 1) (zx rfl gKIND) (λ_ _=>rfl)) (zD _)))))) zb)))))))),?_⟩
  refine⟨_,rfl,x,_,n,rfl,hA,g,_,rfl,iteF ?_⟩;cases hA with
  |@tup a us ss e hL =>
  cases hL with
  |@cons u0 _ _ _ h0 hr =>
  cases h0;cases hr with
  |@cons u1 _ _ _ hq hr2 =>
  cases hr2;cases g with
  |@node _ _ nss hk h2 hno gl =>
  refine⟨_,rfl,_,_,_,_,rfl,rfl,SqT.of e,rfl,?_⟩;refine⟨_,rfl,_,_,_,_,rfl,rfl,hq.ty,kT hq,_,rfl,?_⟩;cases hq with
  |@tup b ws ps e2 hP =>
  have ln:=hP.len;refine iteF ⟨_,rfl,_,_,rfl,.inr (SqT.of e2),_,_,rfl,rfl,_,rfl,?_⟩;rw[decide_eq_false ()];refine iteF ⟨_,rfl,b,rfl,⟨_,SqT.of e2⟩,xN (K:=K) (a:=b) (xs:=ws) (λi ys σ H'=>ys=(ve i false).map V.bl/\H'=H/\∃o,σ=[o,some (.ref a)]) ⟨rfl,rfl,none,rfl⟩
   (λi ys σ H' hi h9=>by obtain⟨e,e3,_⟩:=h9;exact(⟨by rw[e,ke,vz];exact kw (show _<=1000000 by lia) ⋯,by rw[e3];exact SqT.of e2⟩)) ?_ ?_⟩
  .rintro ys σ H' ⟨rfl,rfl,_⟩ la nl;refine⟨la,ve ws.length false,rfl,SqL.of zc,_,rfl,?_⟩;rw[show(ve ws.length false).any id=false by simp];exact q _ (zd nl)
  .rintro i x ys σ H' hx ⟨rfl,rfl,o,rfl⟩;obtain⟨p,ep,hAp⟩:=hP.get hx;have fin:∀b:Bool,b=false->((ve i false).map V.bl)++[V.bl b]=(ve (i+1) false).map V.bl:=λb eb=>by
    rw[v6,kF,eb];rfl
   obtain⟨m,gp,_⟩:=gl.memN' p (ky ep);dsimp only[zU,tYes];refine iteT ⟨_,rfl,x,p,m,rfl,hAp,gp,_,rfl,?_⟩;have hnp:=hno p (ky ep);cases gp with
   |leaf j=>exact iteF ⟨fin _ rfl,rfl,_,rfl⟩
   |@node j r _ _ _ _ _ =>
    cases hAp with
    |@tup c vs2 _ e4 hL2 =>
    cases hL2 with
    |@cons v0 _ _ _ g0 gr =>
    cases g0;cases gr with
    |@cons v1 _ _ _ g1 gr2 =>
    cases gr2;refine iteT ⟨_,rfl,_,_,_,_,rfl,rfl,SqT.of e4,rfl,_,rfl,_,_,_,_,rfl,rfl,SqT.of e,rfl,rfl,fin _ ?_,rfl,_,rfl⟩;exact decide_eq_false λz=>hnp ⟨_,by injection z with z;rw[z]⟩
theorem Xr:zu ["thing","numbers","ahead","part"] ["thing"] (zl sNum):=by trivial
theorem zeY{f fW fB:Addr}{fd fdW fdB:FuncData}(F:Fun K "numbers_in" "numbers_in" sNum f fd)(Z:Nt K mg kA)(Wo:Callee P w K mg base CX0 1 "is_whole" fW fdW ["thing"] x5)(Br:Callee P w K mg base CX0 2 "is_branch" fB fdB ["thing"] spBr):FnOk P w K mg base CX0 4 f fd ["thing"] Jj:=by
 obtain⟨gKIND,gPARTS,gMOST_BOXES,gKINDS,kk,ti,tint,tbool,tstr,ttup,tlist,tl,tany,ts,tr,kI,kB,kS,kT⟩:=Z;refine F.ok Xr (λvs H Q E h=>?_) (λcdv A outer s H vs Q E hr h=>?_)
 .refine E_3 h λx t n n8=>A_2 n8 λe9 _=>?_;clear n8 h;subst e9;rfl
 .refine E_3 h λx t n n8=>A_5 n8 λe9 hA g n24 q=>?_;clear n8 h;subst e9;refine⟨_,(ze (zB (i:=1) Xr.nd rfl (Or.inl rfl) (yh zb))
   (ze (zB (i:=2) Xr.nd rfl (Or.inl rfl) (yh (za (pv 0) zb)))
   (ze (jU PassesOwn.never (jW (pv 2) (λ_=>rfl))
   (ze (zB (i:=3) Xr.nd rfl (Or.inl rfl) (zeD vj PySem.F.slot_list_pop PySem.F.type_list_pop zeE (pv 2)))
    (ze (zO (zX (zg Wo.ok (hr.mono (show 1<=3 by decide)) rfl Wo.bound Wo.kp Wo.bd .nil zr (za (pv 3) zb)))
    (zf (yw (xw vj vQ vR xr (pv 1) (za (pv 3) zb))))
    (zf (zO (zX (zg Br.ok (hr.mono (show 2<=3 by decide)) rfl Br.bound Br.kp Br.bd .nil zr (za (pv 3) zb)))
     (zf (yw (xw vj uF uG Zz (pv 2) (za (zm zw (pv 3) (zx rfl gPARTS) (λ_ _=>rfl)) zb))))
     (zf (zo (yh zb))))))
    (zf (zO (zI wY (zK yL (zp zA (by rfl) tl kW (za (pv 1) zb)) (zp zA (by rfl) tl kW (za (pv 2) zb))) (zx rfl gMOST_BOXES) (zD _))
    (zf (zo (yh zb)))
    zF)))))
   (zf (zo (pv 1)))))),?_⟩
  refine⟨Zz0,λln nln=>?_⟩;have S1:=zd (o:=.lst []) nln;have h1:(upd H ln (.lst [])) ln=some (.lst []):=zc;generalize upd H ln (.lst [])=H1 at S1 h1;refine⟨_,rfl,Zz1,λla nla=>?_⟩;have S2:=S1.trans (zd (o:=.lst [x]) nla);have h2:(upd H1 la (.lst [x])) la=some (.lst [x]):=zc;have h1:=zd (o:=.lst [x]) nla _ _ h1;have fla:H la=none:=S1.free nla;have nn:ln≠la:=λz=>by rw[z,h2]at h1;cases h1
  generalize upd H1 la (.lst [x])=H2 at S2 h1 h2;dsimp only;refine run_seq ?_;refine Z2 (λm σ H3=>∃(us:List V)(ts:List T)(ns:List Int)(o:Option V),m=szL ts/\σ=[some x,some (.ref ln),some (.ref la),o]/\Same H H3/\H3 ln=some (.lst (ns.map V.int))/\H3 la=some (.lst us)/\AtL H us ts/\Rel t ts ns) (szL [t])
   ⟨[x],[t],[],none,rfl,rfl,S2,h1,h2,.cons hA .nil,.start t⟩ ?_
  intro m σ H3 h8;refine E_4 h8 λus ts ns o n8=>A_7 n8 λe9 n90 S3 hln hla hL R=>?_;clear n8 h8;subst e9;subst n90;have l24:=R.many n g;have lus:=hL.len;have te:∀k:Bool,k=!us.isEmpty->k=decide (us≠[]):=λk e=>by
   rw[e];cases us<;>simp
  refine⟨us≠[],inferInstance,λQ' q'=>⟨_,rfl,_,.inl ⟨us,SqL.of hla,rfl⟩,by rw[te _ rfl];exact q'⟩,λhne=>?_,λhne=>?_⟩
  .obtain⟨ts',p,rfl⟩:∃ts' p,ts=ts'++[p]:=by
    have:ts≠[]:=λz=>by rw[z]at lus;exact hne (vN.mp lus)
    exact⟨_,_,(vZ this).symm⟩
   obtain⟨us',v,rfl,hL',hv⟩:=hL.snoc;obtain⟨m,gp⟩:∃m,Good p m:=Classical.byContradiction λz=>R.none (λm w=>z ⟨m,w⟩) n g;refine⟨_,rfl,.inl ⟨rfl,_,SqL.of hla⟩,la,_,v,rfl,rfl,hla,(by simp),?_⟩;have S4:Same H (upd H3 la (.lst (us'++[v]).dropLast)):=yu S3 fla;have hla4:(upd H3 la (.lst (us'++[v]).dropLast)) la=some (.lst us'):=by rw[zc,bG]
   have hln4:(upd H3 la (.lst (us'++[v]).dropLast)) ln=some (.lst (ns.map V.int)):=by rw[zN nn];exact hln
   generalize upd H3 la (.lst (us'++[v]).dropLast)=H4 at S4 hla4 hln4;rw[kt,vo]at l24;have ssz:szL (ts'++[p])=szL ts'+sz p:=by rw[Yd];show szL ts'+(sz p+szL [])=_;rw[show szL []=0 by unfold szL;rfl];lia
   have psz:=jq p
   try dsimp only
   refine jG (R:=λσ H5=>∃(us5:List V)(ts5:List T)(ns5:List Int),σ=[some x,some (.ref ln),some (.ref la),some v]/\Same H H5/\H5 ln=some (.lst (ns5.map V.int))/\H5 la=some (.lst us5)/\AtL H us5 ts5/\Rel t ts5 ns5/\szL ts5<szL (ts'++[p])) ?_ (λk=>?_)
   case refine_1 =>
    intro σ H5 h8;refine E_3 h8 λus5 ts5 ns5 n8=>A_7 n8 λe9 S5 hln5 hla5 hL5 R5 lt5=>?_;clear n8 h8;subst e9;have l5:=hL5.len;refine wM (p:=(24:Int)<(((ns5.map V.int).length:Nat):Int)+((us5.length:Nat):Int)) (yV (zT (zT (yU (zh rfl) (SqL.of hln5)) (yU (zh rfl) (SqL.of hla5))) zC)) (λc=>?_) (λc=>?_)
    .rw[ke]at c;have:=R5.many n g
     lia
    .rw[ke]at c;exact⟨szL ts5,lt5,us5,ts5,ns5,_,rfl,rfl,S5,hln5,hla5,hL5,R5⟩
   refine⟨_,rfl,v,p,rfl,hv.same S4,_,rfl,?_⟩;cases gp with
   |leaf i =>
    cases hv;refine iteT ⟨_,rfl,.inl ⟨rfl,_,SqL.of hln4⟩,_,rfl,ln,_,_,rfl,rfl,hln4,by rw[ke];exact vC (show _<=24 by lia) ⋯,?_⟩;exact k _ _ ⟨us',ts',ns++[i],rfl,yu S4 nln,by rw[zc,kF];rfl,by rw[zN nn.symm];exact hla4,hL',R.leaf,()⟩
   |@node kd ps nss hk h2p hno gl =>
    have R2:=R.node hk h2p hno;have m2:=R2.many n g;rw[kt]at m2;refine iteF ⟨_,rfl,v,kd,ps,_,rfl,hv.same S4,.node hk h2p hno gl,(),λH5 S5=>⟨_,rfl,iteT ?_⟩⟩;have S45:=S4.trans S5;cases hv with
    |@tup a _ _ e hLL =>
    cases hLL with
    |@cons u0 _ _ _ g0 gr =>
    cases g0;cases gr with
    |@cons u1 _ _ _ g1 gr2 =>
    cases gr2;cases g1 with
    |@tup b ws _ e2 hP =>
    have lw:=hP.len;refine⟨_,rfl,.inl ⟨rfl,_,SqL.of (S5 _ _ hla4)⟩,_,rfl,_,_,_,_,rfl,rfl,SqT.of (S45 _ _ e),rfl,la,b,_,_,rfl,rfl,S5 _ _ hla4,SqT.of (S45 _ _ e2),kw (show us'.length+ws.length<=2000 by have:=hL'.len;lia) ⋯,?_⟩;refine k _ _ ⟨us'++ws,ts'++ps,ns,rfl,yu S45 fla,by rw[zN nn];exact S5 _ _ hln4,zc,hL'.app hP,R2,?_⟩;rw[ssz,Yd,xZ]
    lia
  .have e0:us=[]:=Classical.byContradiction λz=>hne z;subst e0;cases hL;obtain⟨y,gy,py⟩:=R.done;rw[Good.uniq gy g]at py;exact⟨_,rfl,q ns ln H3 S3 nln hln py.symm⟩
theorem zaB:zu ["thing","numbers"] ["thing"] (zl Q2):=by trivial
theorem zdy{f fN:Addr}{fd fdN:FuncData}(F:Fun K "is_tree" "is_tree" Q2 f fd)(Z:Nt K mg kA)(Nu:Callee P w K mg base CX0 4 "numbers_in" fN fdN ["thing"] Jj):FnOk P w K mg base CX0 5 f fd ["thing"] zaA:=by
 obtain⟨gKIND,gPARTS,gMOST_BOXES,gKINDS,kk,ti,tint,tbool,tstr,ttup,tlist,tl,tany,ts,tr,kI,kB,kS,kT⟩:=Z;refine F.ok zaB (λvs H Q E h=>?_) (λcdv A outer s H vs Q E hr h=>?_)
 .refine E_3 h λx t n n8=>A_2 n8 λe9 _=>?_;clear n8 h;subst e9;rfl
 .refine E_3 h λx t n n8=>A_5 n8 λe9 hA g iT q=>?_;clear n8 h;subst e9;refine⟨_,(ze (zB (i:=1) zaB.nd rfl (Or.inl rfl) (zg Nu.ok hr rfl Nu.bound Nu.kp Nu.bd .nil zr (za (pv 0) zb)))
   (zf (zo (yg (z5 wY (zp zA (by rfl) tl kW (za (pv 1) zb)) zk (zD _)) (yG (z5 (zai hr.units) (zp Jh (by rfl) ts PyProof.Rows.boot_sorted (za (pv 1) zb)) (We rfl rfl tlist rfl tr (za (zp zA (by rfl) tl kW (za (pv 1) zb)) zb)) (zD _))))))),?_⟩
  obtain⟨y,gy,n24,py⟩:=iT;cases Good.uniq g gy;have l0:=g.ne;refine⟨_,rfl,x,t,n,rfl,hA,g,n24,λr l H1 S1 nl hl pr=>?_⟩;have lr:=pr.length_eq;refine⟨_,rfl,_,_,rfl,.inl (SqL.of hl),_,_,rfl,rfl,_,rfl,?_⟩;rw[ke];rw[decide_eq_true ()];refine iteT ⟨_,rfl,l,r,rfl,SqL.of hl,(),λl2 ms nl2 pm st=>?_⟩;have S2:=zd (o:=.lst (ms.map V.int)) nl2;have h2:(upd H1 l2 (.lst (ms.map V.int))) l2=some (.lst (ms.map V.int)):=zc;have hl2:=S2 _ _ hl;generalize upd H1 l2 (.lst (ms.map V.int))=H2 at S2 h2 hl2;refine⟨_,rfl,_,_,rfl,.inl (SqL.of hl2),r.length,by rw[ke],(),λl3 nl3=>?_⟩;have S3:=zd (o:=.lst ((kR r.length).map λi:Nat=>V.int i)) nl3;have h3:(upd H2 l3 (.lst ((kR r.length).map λi:Nat=>V.int i))) l3=some (.lst ((up r.length).map V.int)):=by
   rw[zc];unfold up;rw[vm];rfl
  refine I_4 l2 l3 1 _ ⟨rfl,rfl,zdx (SqL.of (S3 _ _ h2)) (SqL.of h3),⋯,?_⟩;show Q (.bl (decide (ms=up r.length))) _;rw[decide_eq_true (by rw[lr];exact zaz (pm.trans (pr.trans py)) st (YN _))];exact q _ (S1.trans (S2.trans S3))
end
end _JN
namespace _Tre
open PySem
theorem qq:∀ts:List T,ts.length<=szL ts
 |[]=>kN _
 |t::r=>by
  have:=qq r;have:=jq t;show r.length+1<=sz t+szL r
  lia
end _Tre
namespace _JN
open PySem _L2 _Tre PySem.W
def Wf(K:PySem.W.Frag):Sp:=λvs H Q _=>∃(a:Addr)(ns:List Int)(k:Int),vs=[.ref a,.int k]/\SqL K H a (ns.map V.int)/\0<=k/\∀n:Int,Q (.int n) H
end _JN
namespace _Tre
open PySem
theorem Good.flat{t:T}{n:List Int}(g:Good t n)(k:Str):∃ps nss,zL ps nss/\nss.flatten=n/\(∀p∈ps,¬HasK p k)/\szL ps<=sz t/\1<=ps.length/\(t=.tup [.str k,.tup ps]\/(ps=[t]/\((∃i,t=.int i)\/∃k' qs,t=.tup [.str k',.tup qs]/\k'≠k))):=by
 cases g with
 |leaf i =>
  refine⟨[.int i],[[i]],.cons (.leaf i) .nil,rfl,λp hp=>?_,by simp only[szL];lia,km _,.inr ⟨rfl,.inl ⟨i,rfl⟩⟩⟩;rw[kq.mp hp];rintro⟨q,e⟩;cases e
 |@node k' ps nss hk h2 hn h =>
  by_cases e:k'=k
  .subst e;exact⟨ps,nss,h,rfl,hn,by rw[xZ];lia,(),.inl rfl⟩
  .refine⟨[.tup [.str k',.tup ps]],[nss.flatten],.cons (.node hk h2 hn h) .nil,by simp,λp hp=>?_,by simp only[szL];lia,km _,.inr ⟨rfl,.inr ⟨k',ps,rfl,e⟩⟩⟩;rw[kq.mp hp];rintro⟨q,e2⟩;injection e2 with e2;injection e2 with e3 e4;injection e3 with e3;exact e e3
end _Tre
namespace _JN
open PySem _L2 _Tre PySem.W
theorem AtL.knot{H:Hp}{vs:List V}{k:Str}{ps:List T}(h:AtL H vs [.str k,.tup ps]):∃b ws,vs=[.str k,.ref b]/\H b=some (.tup ws)/\AtL H ws ps:=by
 cases h with
 |cons h r =>
  cases h;cases r with
  |cons h2 r2 =>
   cases r2;cases h2 with
   |tup e hq=>exact⟨_,_,rfl,e,hq⟩
theorem zdz:("|-" : Str)=txt [124,45]:=by decide +kernel
theorem zaC(i:Int):∃c:Nat,atI [124,45] (i % 2)=some c/\isK (txt [c]):=by
 rcases(show i % 2=0\/i % 2=1 by lia)with e|e<;>rw[e]
 .exact⟨124,rfl,.inl (by decide +kernel)⟩
 .exact⟨45,rfl,.inr (by decide +kernel)⟩
theorem zb1(ns:List Int)(lo hi:Option Int):∃ms:List Int,cutV (ns.map V.int) lo hi=ms.map V.int:=by
 unfold cutV;exact⟨_,by rw[<-bh,<-List.map_take]⟩
end _JN
namespace _Tre
open PySem
mutual
theorem Good.szN:∀{t:T}{n:List Int},Good t n->sz t+3<=4*n.length
 |_,_,.leaf i=>by simp[sz]
 |_,_,.node (k:=k) (ps:=ps) (nss:=nss) hk h2 hn h=>by
  have:=zL.szN h;have:=xZ k ps
  lia
theorem zL.szN:∀{ts:List T}{nss:List (List Int)},zL ts nss->szL ts+3*ts.length<=4*nss.flatten.length
 |_,_,.nil=>by simp[szL]
 |_,_,.cons h r=>by
  have:=h.szN;have:=zL.szN r;rw[k5,kt,kG];simp only[szL]
  lia
end
theorem zcK:∀(r:List T)(p:T),p∈r->sz p<=szL r
 |q::r,p,h=>by
  simp only[szL];rcases kK.mp h with z|z
  .rw[z];lia
  .have:=zcK r p z
   lia
theorem ZA{ps:List T}{p:T}(h2:2<=ps.length)(hp:p∈ps):sz p+1<=szL ps:=by
 obtain⟨i,hi,e⟩:=vg.mp hp;have c:ps[i]?=some p:=by rw[kc hi,e]
 match ps,h2,i,c with
 |a::b::r,_,0,c =>
  have c:a=p:=by simpa using c
  subst c;have:=jq b;simp only[szL]
  lia
 |a::r,_,j+1,c =>
  have:=zcK r p (ky (i:=j) (by simpa using c));have:=jq a;simp only[szL]
  lia
def okN(n:List Int):Prop:=∀i∈n,0<=i/\i<24
theorem wm.okN{t:T}{n:List Int}(h:wm t)(g:Good t n):okN n/\n.length<=24:=by
 obtain⟨x,gx,l,p⟩:=h;have e:=Good.uniq g gx;subst e;refine⟨λi hi=>?_,l⟩;have:=p.mem_iff.mp hi;unfold up at this;obtain⟨j,hj,rfl⟩:=kU.mp this;have:=vp.mp hj
 lia
end _Tre
namespace _JN
open PySem _L2 _Tre PySem.W
def zaD:Sp:=λvs H Q _=>∃(x:V)(t:T)(n:List Int),vs=[x]/\At H x t/\Good t n/\wm t/\∀H',Same H H'->Q .non H'
def Qc:Sp:=λvs H Q _=>∃(x:V)(t:T)(n:List Int),vs=[x]/\At H x t/\Good t n/\wm t/\∀H',Same H H'->Q (.int n.length) H'
section
variable{P:Program}{w:World}{K:PySem.W.Frag}{mg:Str->Option Value}{base:Heap}{kA:Addr}
theorem zeZ:zu ["thing"] ["thing"] (zl Q3):=by trivial
theorem zdA{f fT:Addr}{fd fdT:FuncData}(F:Fun K "refuse_no_tree" "refuse_no_tree" Q3 f fd)(Tr:Callee P w K mg base CX0 5 "is_tree" fT fdT ["thing"] zaA):FnOk P w K mg base CX0 6 f fd ["thing"] zaD:=by
 refine F.ok zeZ (λvs H Q E h=>?_) (λcdv A outer s H vs Q E hr h=>?_)
 .refine E_3 h λx t n n8=>A_2 n8 λe9 _=>?_;clear n8 h;subst e9;rfl
 .refine E_3 h λx t n n8=>A_5 n8 λe9 hA g iT q=>?_;clear n8 h;subst e9;exact⟨_,(zf (zO (z9 (zX (zg Tr.ok hr rfl Tr.bound Tr.kp Tr.bd .nil zr (za (pv 0) zb))))
   yP
   zF)),_,rfl,x,t,n,rfl,hA,g,iT,λH1 S1=>⟨_,rfl,iteF (q H1 S1)⟩⟩
theorem zdB:zu ["tree"] ["tree"] (zl X7):=by trivial
theorem zb2{f fR fN:Addr}{fd fdR fdN:FuncData}(F:Fun K "boxes_of" "boxes_of" X7 f fd)(tl:mg "len"=none)(Re:Callee P w K mg base CX0 6 "refuse_no_tree" fR fdR ["thing"] zaD)(Nu:Callee P w K mg base CX0 4 "numbers_in" fN fdN ["thing"] Jj):FnOk P w K mg base CX0 7 f fd ["tree"] Qc:=by
 refine F.ok zdB (λvs H Q E h=>?_) (λcdv A outer s H vs Q E hr h=>?_)
 .refine E_3 h λx t n n8=>A_2 n8 λe9 _=>?_;clear n8 h;subst e9;rfl
 .refine E_3 h λx t n n8=>A_5 n8 λe9 hA g iT q=>?_;clear n8 h;subst e9;refine⟨_,(ze (yw (zg Re.ok hr rfl Re.bound Re.kp Re.bd .nil zr (za (pv 0) zb)))
   (zf (zo (zp zA (by rfl) tl kW (za (zg Nu.ok (hr.mono (show 4<=6 by decide)) rfl Nu.bound Nu.kp Nu.bd .nil zr (za (pv 0) zb)) zb))))),_,rfl,x,t,n,rfl,hA,g,iT,λH1 S1=>?_⟩
  refine⟨_,rfl,x,t,n,rfl,hA.same S1,g,(iT.okN g).2,λr l H2 S2 nl hl pr=>⟨l,_,rfl,.inl (SqL.of hl),?_⟩⟩;rw[ke,pr.length_eq];exact q H2 (S1.trans S2)
end
end _JN
namespace _Sta
open _Lin
abbrev S:=List (Nat×Nat)
abbrev R:=Nat->Nat->Prop
def Lt(p q:Nat×Nat):Prop:=p.1<q.1/\q.2<p.2
def Ok(A:S):Prop:=A.Pairwise Lt/\∀p∈A,1<=p.1/\1<=p.2
def reg(A:S):R:=λw h=>∃p,p∈A/\p.1<=w/\p.2<=h
structure Up(P:R):Prop where
 up:∀{w h w' h'},P w h->w<=w'->h<=h'->P w' h'
 pos:∀{w h},P w h->1<=w/\1<=h
def Same(P Q:R):Prop:=∀w h,P w h↔Q w h
theorem Same.trans{P Q U:R}(h:Same P Q)(k:Same Q U):Same P U:=λw j=>(h w j).trans (k w j)
def bes(P Q:R):R:=λw h=>∃a b,a+b<=w/\P a h/\Q b h
def dwn(P Q:R):R:=λw h=>∃a b,a+b<=h/\P w a/\Q w b
theorem zb3{P P' Q Q':R}(h:Same P P')(k:Same Q Q'):Same (bes P Q) (bes P' Q'):=λw j=>by
 constructor
 .rintro⟨a,b,e,x,y⟩;exact⟨a,b,e,(h _ _).mp x,(k _ _).mp y⟩
 .rintro⟨a,b,e,x,y⟩;exact⟨a,b,e,(h _ _).mpr x,(k _ _).mpr y⟩
theorem ZB{P Q:R}(h:Up P)(k:Up Q):Up (bes P Q):=⟨λ⟨a,b,e,x,y⟩ u v=>⟨a,b,kw e u,h.up x (km _) v,k.up y (km _) v⟩,λ⟨a,b,e,x,y⟩=>by
 have:=h.pos x
 lia⟩
theorem ZC{P Q:R}(h:Up P)(k:Up Q):Up (dwn P Q):=⟨λ⟨a,b,e,x,y⟩ u v=>⟨a,b,kw e v,h.up x u (km _),k.up y u (km _)⟩,λ⟨a,b,e,x,y⟩=>by
 have:=h.pos x
 lia⟩
def sbs:S->S->S
 |a::as,b::bs=>(a.1+b.1,max a.2 b.2)::(if a.2=max a.2 b.2 then(if b.2=max a.2 b.2 then sbs as bs else sbs as (b::bs))else sbs (a::as) bs)
 |[],_=>[]
 |_::_,[]=>[]
termination_by a b=>a.length+b.length
decreasing_by all_goals simp_wf<;>lia
theorem wT(a:Nat×Nat)(as:S)(b:Nat×Nat)(bs:S):sbs (a::as) (b::bs)=(a.1+b.1,max a.2 b.2)::(if a.2=max a.2 b.2 then(if b.2=max a.2 b.2 then sbs as bs else sbs as (b::bs))else sbs (a::as) bs):=by
 rw[sbs]
theorem jI(b:S):sbs [] b=[]:=by rw[sbs]
theorem qH(a:S):sbs a []=[]:=by cases a<;>rw[sbs]
theorem ind{C:S->S->Prop}(h1:∀b,C [] b)(h2:∀a as,C (a::as) [])(h3:∀a as b bs,C as bs->C as (b::bs)->C (a::as) bs->C (a::as) (b::bs)):∀n A B,A.length+B.length<=n->C A B
 |n,[],B,_=>h1 B
 |n,a::as,[],_=>h2 a as
 |0,a::as,b::bs,h=>by simp at h
 |n+1,a::as,b::bs,h=>by
  simp only[kG]at h;exact h3 a as b bs (ind h1 h2 h3 n as bs ()) (ind h1 h2 h3 n as (b::bs) (by simp only[kG];lia)) (ind h1 h2 h3 n (a::as) bs (by simp only[kG];lia))
theorem ind'{C:S->S->Prop}(h1:∀b,C [] b)(h2:∀a as,C (a::as) [])(h3:∀a as b bs,C as bs->C as (b::bs)->C (a::as) bs->C (a::as) (b::bs))(A B:S):C A B:=ind h1 h2 h3 _ A B (km _)
theorem jJ(A B:S):∀z∈sbs A B,∃x y,x∈A/\y∈B/\z=(x.1+y.1,max x.2 y.2):=by
 refine ind' (C:=λA B=>∀z∈sbs A B,∃x y,x∈A/\y∈B/\z=(x.1+y.1,max x.2 y.2)) (λb z hz=>?_) (λa as z hz=>?_) (λa as b bs i1 i2 i3 z hz=>?_) A B
 .rw[jI]at hz;exact(k6 hz).elim
 .rw[qH]at hz;exact(k6 hz).elim
 .rw[wT]at hz;rcases kK.mp hz with e|e
  .exact⟨a,b,kg,kg,e⟩
  .split at e
   .split at e
    .obtain⟨x,y,hx,hy,e⟩:=i1 z e;exact⟨x,y,kn _ hx,kn _ hy,e⟩
    .obtain⟨x,y,hx,hy,e⟩:=i2 z e;exact⟨x,y,kn _ hx,hy,e⟩
   .obtain⟨x,y,hx,hy,e⟩:=i3 z e;exact⟨x,y,hx,kn _ hy,e⟩
theorem Ok.tail{a:Nat×Nat}{as:S}(h:Ok (a::as)):Ok as:=⟨(vf.mp h.1).2,λp hp=>h.2 p (kn _ hp)⟩
theorem Ok.head{a:Nat×Nat}{as:S}(h:Ok (a::as)):∀x∈as,a.1<x.1/\x.2<a.2:=(vf.mp h.1).1
theorem Ok.all{a:Nat×Nat}{as:S}(h:Ok (a::as)):∀x∈a::as,a.1<=x.1/\x.2<=a.2:=λx hx=>by
 rcases kK.mp hx with e|e
 .rw[e];exact⟨km _,km _⟩
 .have:=h.head x e
  lia
theorem ze0(A B:S):Ok A->Ok B->Ok (sbs A B):=by
 refine ind' (C:=λA B=>Ok A->Ok B->Ok (sbs A B)) (λb _ _=>?_) (λa as _ _=>?_) (λa as b bs i1 i2 i3 hA hB=>?_) A B
 .rw[jI];exact⟨List.Pairwise.nil,λp hp=>(k6 hp).elim⟩
 .rw[qH];exact⟨List.Pairwise.nil,λp hp=>(k6 hp).elim⟩
 .rw[wT];have pa:=hA.2 a kg;have pb:=hB.2 b kg;have fin:∀L:S,Ok L->(∀z∈L,a.1+b.1<z.1/\z.2<max a.2 b.2)->Ok ((a.1+b.1,max a.2 b.2)::L):=λL o h=>⟨vf.mpr ⟨h,o.1⟩,λp hp=>by
   rcases kK.mp hp with e|e
   .rw[e];exact⟨show 1<=a.1+b.1 by lia,show 1<=max a.2 b.2 by lia⟩
   .exact o.2 p e⟩
  split
  .split
   .refine fin _ (i1 hA.tail hB.tail) λz hz=>?_;obtain⟨x,y,hx,hy,e⟩:=jJ _ _ z hz;have:=hA.head x hx;have:=hB.head y hy;rw[e];show a.1+b.1<x.1+y.1/\max x.2 y.2<max a.2 b.2
    lia
   .refine fin _ (i2 hA.tail hB) λz hz=>?_;obtain⟨x,y,hx,hy,e⟩:=jJ _ _ z hz;have:=hA.head x hx;have:=hB.all y hy;rw[e];show a.1+b.1<x.1+y.1/\max x.2 y.2<max a.2 b.2
    lia
  .refine fin _ (i3 hA hB.tail) λz hz=>?_;obtain⟨x,y,hx,hy,e⟩:=jJ _ _ z hz;have:=hA.all x hx;have:=hB.head y hy;rw[e];show a.1+b.1<x.1+y.1/\max x.2 y.2<max a.2 b.2
   lia
theorem ze1(A B:S):Ok A->Ok B->∀x∈A,∀y∈B,∀w h,x.1+y.1<=w->x.2<=h->y.2<=h->reg (sbs A B) w h:=by
 refine ind' (C:=λA B=>Ok A->Ok B->∀x∈A,∀y∈B,∀w h,x.1+y.1<=w->x.2<=h->y.2<=h->reg (sbs A B) w h) (λb _ _ x hx=>(k6 hx).elim) (λa as _ _ x _ y hy=>(k6 hy).elim) (λa as b bs i1 i2 i3 hA hB x hx y hy w h e1 e2 e3=>?_) A B;rw[wT];have ax:=hA.all x hx;have by':=hB.all y hy;by_cases c:max a.2 b.2<=h
 .exact⟨_,kg,show a.1+b.1<=w by lia,c⟩
 .have up:∀L:S,reg L w h->reg ((a.1+b.1,max a.2 b.2)::L) w h:=λL ⟨p,m,z⟩=>⟨p,kn _ m,z⟩;refine up _ ?_;have xa:a.2=max a.2 b.2->x∈as:=λz=>by
   rcases kK.mp hx with e|e
   .rw[e]at e2;lia
   .exact e
  have yb:b.2=max a.2 b.2->y∈bs:=λz=>by
   rcases kK.mp hy with e|e
   .rw[e]at e3;lia
   .exact e
  split
  .rename_i c1;split
   .rename_i c2;exact i1 hA.tail hB.tail x (xa c1) y (yb c2) w h e1 e2 e3
   .exact i2 hA.tail hB x (xa c1) y hy w h e1 e2 e3
  .exact i3 hA hB.tail x hx y (yb ()) w h e1 e2 e3
theorem zdC{A B:S}(hA:Ok A)(hB:Ok B):Same (reg (sbs A B)) (bes (reg A) (reg B)):=λw h=>by
 constructor
 .rintro⟨z,m,e1,e2⟩;obtain⟨x,y,hx,hy,rfl⟩:=jJ A B z m;have e1:x.1+y.1<=w:=e1;have e2:max x.2 y.2<=h:=e2;exact⟨x.1,y.1,e1,⟨x,hx,km _,()⟩,⟨y,hy,km _,()⟩⟩
 .rintro⟨a,b,e,⟨x,hx,x1,x2⟩,⟨y,hy,y1,y2⟩⟩;exact ze1 A B hA hB x hx y hy w h () x2 y2
def exch(A:S):S:=A.reverse.map λp=>(p.2,p.1)
theorem j6{A:S}{z:Nat×Nat}:z∈exch A↔(z.2,z.1)∈A:=by
 unfold exch;rw[kU];constructor
 .intro h8;obtain⟨p,hp,rfl⟩:=h8;exact List.mem_reverse.mp hp
 .intro h;exact⟨_,List.mem_reverse.mpr h,rfl⟩
theorem zdD{A:S}(h:Ok A):Ok (exch A):=by
 refine⟨?_,λp hp=>?_⟩
 .unfold exch;rw[List.pairwise_map,List.pairwise_reverse];exact h.1.imp λ⟨a,b⟩=>⟨b,a⟩
 .have:=h.2 _ (j6.mp hp);exact⟨this.2,this.1⟩
theorem zb4(A:S):∀w h,reg (exch A) w h↔reg A h w:=λw h=>by
 constructor
 .rintro⟨p,m,a,b⟩;exact⟨_,j6.mp m,b,a⟩
 .rintro⟨p,m,a,b⟩;exact⟨(p.2,p.1),j6.mpr m,b,a⟩
def Low(P:R)(w:Nat):Option Nat->Prop
 |none=>∀h,¬P w h
 |some v=>P w v/\∀h,P w h->v<=h
theorem Low.of{P Q:R}(s:Same P Q){w:Nat}:∀{o:Option Nat},Low P w o->Low Q w o
 |none,l=>λh z=>l h ((s _ _).mpr z)
 |some v,l=>⟨(s _ _).mp l.1,λh z=>l.2 h ((s _ _).mpr z)⟩
theorem Low.uniq{P:R}{w:Nat}:∀{a b:Option Nat},Low P w a->Low P w b->a=b
 |none,none,_,_=>rfl
 |none,some v,h,k=>(h v k.1).elim
 |some v,none,h,k=>(k v h.1).elim
 |some v,some u,h,k=>by rw[uU (h.2 u k.1) (k.2 v h.1)]
def Bd(P:R)(M:Nat):Prop:=∀w h,P w h->∃v,v<=w/\v<=M/\P v h
theorem Bd.mono{P:R}{M N:Nat}(h:Bd P M)(k:M<=N):Bd P N:=λw j z=>by
 obtain⟨v,a,b,c⟩:=h w j z;exact⟨v,a,(),c⟩
theorem ze2{P Q:R}{M N:Nat}(h:Bd P M)(k:Bd Q N):Bd (bes P Q) (M+N):=by
 rintro w j ⟨a,b,e,x,y⟩;obtain⟨u,u1,u2,u3⟩:=h a j x;obtain⟨v,v1,v2,v3⟩:=k b j y;exact⟨u+v,(),(),u,v,km _,u3,v3⟩
theorem ze3{P Q:R}(hP:Up P)(hQ:Up Q){M N:Nat}(h:Bd P M)(k:Bd Q N):Bd (dwn P Q) (M+N):=by
 rintro w j ⟨a,b,e,x,y⟩;obtain⟨u,u1,u2,u3⟩:=h w a x;obtain⟨v,v1,v2,v3⟩:=k w b y;exact⟨max u v,(),(),a,b,e,hP.up u3 (bK _ _) (km _),hQ.up v3 (u7 _ _) (km _)⟩
def xj(ws:List W):R:=λw h=>1<=w/\(∀u∈ws,u.length<=w)/\max 1 (cnt ws (w:Int))<=h
theorem Qd(ws:List W):Up (xj ws):=⟨λ⟨a,b,c⟩ x y=>⟨(),λu hu=>kw (b u hu) x,by
 have:=wS (ws:=ws) (v:=(_:Nat)) (v':=(_:Nat)) (uk.mpr x) λu hu=>uk.mpr (b u hu)
 lia⟩,λ⟨a,b,c⟩=>()⟩
def stN(ws:List W):S:=(xF ws).map λp=>(p.1.toNat,p.2)
theorem Wg{c:Int->Nat}{lo:Int}(h0:1<=lo):∀k:Nat,(∀j:Nat,j<k->c (lo+(j+1:Nat))<=c (lo+j))->(∀j:Nat,j<=k->1<=c (lo+j)) ->
  Ok ((falls c lo k).map λp=>(p.1.toNat,p.2))/\(∀p∈falls c lo k,lo<=p.1/\p.1<=lo+k/\c (lo+k)<=p.2)/\∀w h:Nat,reg ((falls c lo k).map λp=>(p.1.toNat,p.2)) w h↔∃j:Nat,j<=k/\lo+j<=w/\c (lo+j)<=h
 |0,_,hp=>by
  have e0:lo+((0:Nat):Int)=lo:=Int.add_zero _;have p0:=hp 0 (km _);rw[e0]at p0;refine⟨⟨uL _ _,λp hp=>?_⟩,λp hp=>?_,λw h=>?_⟩
  .have hp:p=(lo.toNat,c lo):=kq.mp hp;rw[hp];exact⟨show 1<=lo.toNat by lia,p0⟩
  .have hp:p=(lo,c lo):=kq.mp hp;rw[hp,e0];exact⟨kX _,kX _,km _⟩
  .constructor
   .rintro⟨p,hp,a,b⟩;have hp:p=(lo.toNat,c lo):=kq.mp hp;rw[hp]at a b;have a:lo.toNat<=w:=a;exact⟨0,km _,(),by rw[e0];exact b⟩
   .rintro⟨j,hj,a,b⟩;have:j=0:=()
    subst this;rw[e0]at a b;exact⟨(lo.toNat,c lo),kq.mpr rfl,show lo.toNat<=w by lia,b⟩
 |k+1,ha,hp=>by
  obtain⟨i1,i2,i3⟩:=Wg (c:=c) (lo:=lo) h0 k (λj hj=>ha j ()) (λj hj=>hp j ());have hs:=ha k (vH _);show Ok ((if c (lo+(k+1:Nat))<c (lo+k)then falls c lo k++[(lo+(k+1:Nat),c (lo+(k+1:Nat)))]else falls c lo k).map λp=>(p.1.toNat,p.2))/\(∀p∈(if c (lo+(k+1:Nat))<c (lo+k)then falls c lo k++[(lo+(k+1:Nat),c (lo+(k+1:Nat)))]else falls c lo k),lo<=p.1/\p.1<=lo+(k+1:Nat)/\c (lo+(k+1:Nat))<=p.2)/\∀w h:Nat,reg ((if c (lo+(k+1:Nat))<c (lo+k)then falls c lo k++[(lo+(k+1:Nat),c (lo+(k+1:Nat)))]else falls c lo k).map λp=>(p.1.toNat,p.2)) w h↔∃j:Nat,j<=k+1/\lo+j<=w/\c (lo+j)<=h;by_cases d:c (lo+(k+1:Nat))<c (lo+k)
  .rw[if_pos d];refine⟨⟨?_,λp hp'=>?_⟩,λp hp'=>?_,λw h=>?_⟩
   .rw[kF,bH];refine⟨i1.1,uL _ _,λa ha' b hb=>?_⟩;have hb:b=((lo+(k+1:Nat)).toNat,c (lo+(k+1:Nat))):=kq.mp hb;obtain⟨p,hp',rfl⟩:=kU.mp ha';have:=i2 p hp';rw[hb];exact⟨show p.1.toNat<(lo+(k+1:Nat)).toNat by lia,show c (lo+(k+1:Nat))<p.2 by omega⟩
   .rw[kF]at hp';rcases k7.mp hp' with e|e
    .exact i1.2 p e
    .have e:p=((lo+(k+1:Nat)).toNat,c (lo+(k+1:Nat))):=kq.mp e;rw[e];exact⟨show 1<=(lo+(k+1:Nat)).toNat by lia,hp (k+1) (km _)⟩
   .rcases k7.mp hp' with e|e
    .have:=i2 p e;exact⟨this.1,(),by omega⟩
    .rw[kq.mp e];exact⟨show lo<=lo+(k+1:Nat)by lia,kX _,km _⟩
   .rw[kF];constructor
    .rintro⟨p,hp',a,b⟩;rcases k7.mp hp' with e|e
     .obtain⟨j,x,y⟩:=(i3 w h).mp ⟨p,e,a,b⟩;exact⟨j,(),y⟩
     .have e:p=((lo+(k+1:Nat)).toNat,c (lo+(k+1:Nat))):=kq.mp e;rw[e]at a b;have a:(lo+(k+1:Nat)).toNat<=w:=a;exact⟨k+1,km _,(),b⟩
    .rintro⟨j,x,y,z⟩;rcases br x with e|e
     .obtain⟨p,q1,q2⟩:=(i3 w h).mpr ⟨j,(),y,z⟩;exact⟨p,vJ _ q1,q2⟩
     .subst e;exact⟨((lo+(k+1:Nat)).toNat,c (lo+(k+1:Nat))),kO _ (kq.mpr rfl),show(lo+(k+1:Nat)).toNat<=w by lia,z⟩
  .rw[if_neg d];refine⟨i1,λp hp'=>?_,λw h=>?_⟩
   .have:=i2 p hp';exact⟨this.1,(),by omega⟩
   .rw[i3];constructor
    .rintro⟨j,x,y⟩;exact⟨j,(),y⟩
    .rintro⟨j,x,y,z⟩;rcases br x with e|e
     .exact⟨j,(),y,z⟩
     .subst e;exact⟨k,km _,(),()⟩
theorem qI{ws:List W}{w:Nat}:(∀u∈ws,u.length<=w)↔wid ws<=w:=by
 constructor
 .intro h;by_cases e:ws=[]
  .subst e;exact kN _
  .obtain⟨u,hu,e⟩:=qo e;have:=h u hu
   lia
 .intro h u hu;exact kw (qm hu) h
theorem zf6{ws:List W}(h1:∀u∈ws,1<=u.length):Ok (stN ws)/\Same (reg (stN ws)) (xj ws):=by
 unfold stN xF;by_cases e:ws=[]
 .subst e;rw[if_pos rfl];refine⟨⟨uL _ _,λp hp=>?_⟩,λw h=>?_⟩
  .have hp:p=(1,1):=kq.mp hp;rw[hp];exact⟨km _,km _⟩
  .have c0:cnt [] (w:Int)=0:=uN.mp (zao [] _);constructor
   .rintro⟨p,hp,a,b⟩;have hp:p=(1,1):=kq.mp hp;rw[hp]at a b;exact⟨a,λu hu=>(k6 hu).elim,by rw[c0];exact b⟩
   .rintro⟨a,_,b⟩;rw[c0]at b;exact⟨(1,1),kq.mpr rfl,a,b⟩
 .rw[if_neg e];obtain⟨u,hu,eu⟩:=qo e;have w1:1<=wid ws:=by rw[<-eu];exact h1 u hu
  have wt:=jn e;have fit:∀v:Int,(wid ws:Int)<=v->∀u∈ws,(u.length:Int)<=v:=λv hv u hu=>vT (uk.mpr (qm hu)) hv;obtain⟨k1,k2,k3⟩:=Wg (c:=cnt ws) (lo:=(wid ws:Int)) () (total ws-wid ws).toNat (λj _=>wS () (fit _ ())) (λj _=>jH e _);refine⟨k1,λw h=>?_⟩;rw[k3];constructor
  .rintro⟨j,x,y,z⟩;refine⟨(),qI.mpr (),?_⟩;have a:=wS (ws:=ws) (v:=(wid ws:Int)+j) (v':=(w:Int)) y (fit _ ());have b:=jH e ((wid ws:Int)+j)
   lia
  .rintro⟨a,b,c⟩;have b:=qI.mp b;by_cases t:(w:Int)<=total ws
   .refine⟨w-wid ws,by omega,(),?_⟩;rw[show(wid ws:Int)+((w-wid ws:Nat):Int)=(w:Int)by lia]
    lia
   .refine⟨(total ws-wid ws).toNat,km _,(),?_⟩;have:=jj (ws:=ws) ((wid ws:Int)+((total ws-wid ws).toNat:Int)) ()
    lia
def y9(ws:List W):Nat:=1+(ws.map λu=>u.length+1).sum
theorem zb5:∀ws:List W,(((ws.map λu=>u.length+1).sum:Nat):Int)=pos ws ws.length:=λws=>by
 rw[<-Z3]
 induction ws with
 |nil=>rfl
 |cons a r ih =>
  rw[kY,va,kY,va,kG]
  lia
theorem zdE(ws:List W):Bd (xj ws) (y9 ws):=by
 rintro w h ⟨a,b,c⟩;have mp:=zb5 ws;by_cases e:w<=y9 ws
 .exact⟨w,km _,e,a,b,c⟩
 .have b':=qI.mp b;refine⟨y9 ws,(),km _,?_,qI.mpr ?_,?_⟩
  .unfold y9;lia
  .by_cases z:ws=[]
   .subst z;exact kN _
   .have:=jn z;unfold y9;unfold total at this
    lia
  .have:=jj (ws:=ws) ((y9 ws:Nat):Int) (by unfold total y9;lia);omega
open _Tre
mutual
inductive HasR(Ls:List R):T->R->Prop where
 |leaf{i:Int}{P:R}(h0:0<=i)(h:Ls[i.toNat]?=some P):HasR Ls (.int i) P
 |bar{ps:List T}{P:R}{Ps:List R}(h:zH Ls ps (P::Ps)):HasR Ls (.tup [.str bar,.tup ps]) (Ps.foldl bes P)
 |dash{ps:List T}{P:R}{Ps:List R}(h:zH Ls ps (P::Ps)):HasR Ls (.tup [.str dash,.tup ps]) (Ps.foldl dwn P)
inductive zH(Ls:List R):List T->List R->Prop where
 |nil:zH Ls [] []
 |cons{t:T}{P:R}{ts:List T}{Ps:List R}(h:HasR Ls t P)(r:zH Ls ts Ps):zH Ls (t::ts) (P::Ps)
end
theorem zH.len{Ls:List R}:∀{ts:List T}{Ps:List R},zH Ls ts Ps->ts.length=Ps.length
 |_,_,.nil=>rfl
 |_,_,.cons _ r=>by rw[kG,kG,r.len]
theorem zH.get{Ls:List R}:∀{ts:List T}{Ps:List R}{i:Nat}{t:T},zH Ls ts Ps->ts[i]?=some t->∃P,Ps[i]?=some P/\HasR Ls t P
 |_,_,_,_,.nil,e=>by simp at e
 |_,_,0,_,.cons h _,e=>by simp at e;subst e;exact⟨_,rfl,h⟩
 |_,_,i+1,t,.cons _ r,e=>by
  obtain⟨P,h1,h2⟩:=zH.get (i:=i) (t:=t) r (by simpa using e);exact⟨P,by simpa using h1,h2⟩
mutual
theorem Qe{Ls:List R}:∀{t:T}{n:List Int},Good t n->(∀i∈n,0<=i/\i<(Ls.length:Int))->∃P,HasR Ls t P
 |_,_,.leaf i,h=>by
  have:=h i kg;exact⟨_,.leaf this.1 (kc (by omega))⟩
 |_,_,.node (k:=k) (ps:=ps) hk h2 hn hl,h=>by
  obtain⟨Ps,hP⟩:=Wj hl h;have ln:=hP.len;cases Ps with
  |nil=>rw[bp]at ln;lia
  |cons P Ps =>
   rcases hk with e|e
   .rw[e];exact⟨_,.bar hP⟩
   .rw[e];exact⟨_,.dash hP⟩
theorem Wj{Ls:List R}:∀{ts:List T}{nss:List (List Int)},zL ts nss->(∀i∈nss.flatten,0<=i/\i<(Ls.length:Int))->∃Ps,zH Ls ts Ps
 |_,_,.nil,_=>⟨[],.nil⟩
 |_,_,.cons h r,hn=>by
  obtain⟨P,hP⟩:=Qe h λi hi=>hn i (by rw[k5];exact vJ _ hi);obtain⟨Ps,hPs⟩:=Wj r λi hi=>hn i (by rw[k5];exact kO _ hi);exact⟨P::Ps,.cons hP hPs⟩
end
theorem Ye{f:R->R->R}(hf:∀P Q,Up P->Up Q->Up (f P Q)):∀(Ps:List R)(P:R),Up P->(∀Q∈Ps,Up Q)->Up (Ps.foldl f P)
 |[],P,h,_=>h
 |Q::Ps,P,h,k=>Ye hf Ps (f P Q) (hf P Q h (k Q kg)) λU hU=>k U (kn _ hU)
mutual
theorem HasR.up{Ls:List R}(hL:∀L∈Ls,Up L):∀{t:T}{P:R},HasR Ls t P->Up P
 |_,_,.leaf _ h=>hL _ (ky h)
 |_,_,.bar h=>Ye (λ_ _ a b=>ZB a b) _ _ (zH.up hL h _ kg) λQ hQ=>zH.up hL h Q (kn _ hQ)
 |_,_,.dash h=>Ye (λ_ _ a b=>ZC a b) _ _ (zH.up hL h _ kg) λQ hQ=>zH.up hL h Q (kn _ hQ)
theorem zH.up{Ls:List R}(hL:∀L∈Ls,Up L):∀{ts:List T}{Ps:List R},zH Ls ts Ps->∀P∈Ps,Up P
 |_,_,.nil,P,hP=>(k6 hP).elim
 |_,_,.cons h r,P,hP=>by
  rcases kK.mp hP with e|e
  .rw[e];exact HasR.up hL h
  .exact zH.up hL r P e
end
def Bds:List R->List Nat->Prop
 |[],[]=>True
 |P::Ps,M::Ms=>Bd P M/\Bds Ps Ms
 |_,_=>False
theorem Yf{f:R->R->R}(hf:∀P Q,Up P->Up Q->Up (f P Q))(hb:∀P Q M N,Up P->Up Q->Bd P M->Bd Q N->Bd (f P Q) (M+N)):∀(Ps:List R)(Ms:List Nat)(P:R)(M:Nat),Up P->(∀Q∈Ps,Up Q)->Bd P M->Bds Ps Ms->Bd (Ps.foldl f P) (M+Ms.sum)
 |[],[],P,M,_,_,b,_=>b
 |Q::Ps,N::Ms,P,M,u,us,b,⟨bq,bs⟩=>by
  have:=Yf hf hb Ps Ms (f P Q) (M+N) (hf P Q u (us Q kg)) (λU hU=>us U (kn _ hU)) (hb P Q M N u (us Q kg) b bq) bs;rw[va,<-bF];exact this
 |[],_::_,_,_,_,_,_,z=>z.elim
 |_::_,[],_,_,_,_,_,z=>z.elim
def many(Ms:Nat->Nat)(n:List Int):Nat:=(n.map λi=>Ms i.toNat).sum
theorem jt(Ms:Nat->Nat):∀nss:List (List Int),many Ms nss.flatten=(nss.map (many Ms)).sum
 |[]=>rfl
 |n::nss=>by
  have:=jt Ms nss;unfold many at *;rw[k5,kF,bm,this,kY,va]
theorem YO{i:Int}{n:List Int}(g:Good (.int i) n):n=[i]:=by
 cases g;rfl
theorem w6{k:PySem.Str}{ps:List T}{n:List Int}(g:Good (.tup [.str k,.tup ps]) n):∃nss,n=nss.flatten/\zL ps nss:=by
 cases g with
 |node _ _ _ h=>exact⟨_,rfl,h⟩
theorem YQ{n:List (List Int)}(g:zL [] n):n=[]:=by
 cases g;rfl
theorem ZD{t:T}{ts:List T}{n:List (List Int)}(g:zL (t::ts) n):∃a r,n=a::r/\Good t a/\zL ts r:=by
 cases g with
 |cons h r=>exact⟨_,_,rfl,h,r⟩
mutual
theorem HasR.bd0{Ls:List R}(hL:∀L∈Ls,Up L){Ms:Nat->Nat}(hM:∀(i:Nat)(P:R),Ls[i]?=some P->Bd P (Ms i)):∀{t:T}{P:R},HasR Ls t P->∀{n:List Int},Good t n->Bd P (many Ms n)
 |_,_,.leaf (i:=i) h0 h,n,g=>by
  rw[YO g];show Bd _ (Ms i.toNat+0);exact hM _ _ h
 |_,_,.bar (P:=P) (Ps:=Ps) h,n,g=>by
  obtain⟨nss,e,g⟩:=w6 g;have b:=zH.bd0 hL hM h g;have u:=zH.up hL h;rw[e,jt];cases nss with
  |nil=>exact b.elim
  |cons m nss =>
   rw[kY,va];exact Yf (λ_ _ a b=>ZB a b) (λ_ _ _ _ _ _ a b=>ze2 a b) Ps _ P _ (u P kg) (λQ hQ=>u Q (kn _ hQ)) b.1 b.2
 |_,_,.dash (P:=P) (Ps:=Ps) h,n,g=>by
  obtain⟨nss,e,g⟩:=w6 g;have b:=zH.bd0 hL hM h g;have u:=zH.up hL h;rw[e,jt];cases nss with
  |nil=>exact b.elim
  |cons m nss =>
   rw[kY,va];exact Yf (λ_ _ a b=>ZC a b) (λ_ _ _ _ u v a b=>ze3 u v a b) Ps _ P _ (u P kg) (λQ hQ=>u Q (kn _ hQ)) b.1 b.2
theorem zH.bd0{Ls:List R}(hL:∀L∈Ls,Up L){Ms:Nat->Nat}(hM:∀(i:Nat)(P:R),Ls[i]?=some P->Bd P (Ms i)):∀{ts:List T}{Ps:List R},zH Ls ts Ps->∀{nss:List (List Int)},zL ts nss->Bds Ps (nss.map (many Ms))
 |_,_,.nil,nss,g=>by rw[YQ g];exact True.intro
 |_,_,.cons h r,nss,g=>by
  obtain⟨a,b,e,g,gs⟩:=ZD g;rw[e];exact⟨HasR.bd0 hL hM h g,zH.bd0 hL hM r gs⟩
end
theorem HasR.bd{Ls:List R}(hL:∀L∈Ls,Up L){Ms:Nat->Nat}(hM:∀(i:Nat)(P:R),Ls[i]?=some P->Bd P (Ms i)){t:T}{n:List Int}{P:R}(g:Good t n)(h:HasR Ls t P):Bd P (many Ms n):=HasR.bd0 hL hM h g
def OkS(A:S)(P:R):Prop:=Ok A/\Same (reg A) P
inductive OkSs:List S->List R->Prop where
 |nil:OkSs [] []
 |cons{A:S}{P:R}{As:List S}{Ps:List R}(h:OkS A P)(r:OkSs As Ps):OkSs (A::As) (P::Ps)
theorem OkSs.snoc:∀{As:List S}{Ps:List R}{A:S}{P:R},OkSs As Ps->OkS A P->OkSs (As++[A]) (Ps++[P])
 |_,_,_,_,.nil,h=>.cons h .nil
 |_,_,_,_,.cons k r,h=>.cons k (OkSs.snoc r h)
theorem OkSs.get:∀{As:List S}{Ps:List R}{i:Nat}{P:R},OkSs As Ps->Ps[i]?=some P->∃A,As[i]?=some A/\OkS A P
 |_,_,_,_,.nil,e=>by simp at e
 |_,_,0,_,.cons h _,e=>by simp at e;subst e;exact⟨_,rfl,h⟩
 |_,_,i+1,P,.cons _ r,e=>by
  obtain⟨A,h1,h2⟩:=OkSs.get (i:=i) (P:=P) r (by simpa using e);exact⟨A,by simpa using h1,h2⟩
theorem j7:∀{As:List S}{Ps:List R}{A:S}{P:R},OkSs As Ps->OkS A P->OkS (As.foldl sbs A) (Ps.foldl bes P)
 |_,_,_,_,.nil,h=>h
 |_,_,A,P,.cons (A:=B) (P:=Q) k r,h=>by
  rw[List.foldl_cons,List.foldl_cons];exact j7 (A:=sbs A B) (P:=bes P Q) r ⟨ze0 _ _ h.1 k.1,(zdC h.1 k.1).trans (zb3 h.2 k.2)⟩
def tr(P:R):R:=λw h=>P h w
theorem OkS.exch{A:S}{P:R}(h:OkS A P):OkS (exch A) (tr P):=⟨zdD h.1,λw k=>(zb4 A w k).trans (h.2 k w)⟩
theorem OkSs.exch:∀{As:List S}{Ps:List R},OkSs As Ps->OkSs (As.map _Sta.exch) (Ps.map tr)
 |_,_,.nil=>.nil
 |_,_,.cons h r=>.cons h.exch (OkSs.exch r)
theorem Qf:∀(Ps:List R)(P:R),tr ((Ps.map tr).foldl bes (tr P))=Ps.foldl dwn P
 |[],P=>rfl
 |Q::Ps,P=>Qf Ps (dwn P Q)
theorem zdF(A B:S):(sbs A B).length<=A.length+B.length:=by
 refine ind' (C:=λA B=>(sbs A B).length<=A.length+B.length) (λb=>?_) (λa as=>?_) (λa as b bs i1 i2 i3=>?_) A B
 .rw[jI];exact kN _
 .rw[qH];exact kN _
 .rw[wT,kG,kG,kG];rw[kG]at i2 i3;split
  .split<;>lia
  .lia
theorem qJ:∀(As:List S)(A:S),(As.foldl sbs A).length<=A.length+(As.map List.length).sum
 |[],A=>km _
 |B::As,A=>by
  have:=qJ As (sbs A B);have:=zdF A B;rw[List.foldl_cons,kY,va]
  lia
theorem j8(A:S):(exch A).length=A.length:=by
 unfold exch;rw[ke,bM]
theorem zaE(As:List S):(As.map exch).map List.length=As.map List.length:=by
 rw[vm];exact uv λA _=>j8 A
end _Sta
namespace _L2
open PySem PySem.Spec PyProof.Rows
section
variable{g:TG}{tc:TT}{te:TE}{σ0:St}{H0:Hp}{R:List V->Hp->Prop}{K:PySem.W.Frag}{a:Addr}{xs:List V}
theorem zdG(Pv:Nat->List V->St->Hp->Prop)(h0:Pv 0 [] σ0 H0)(hz:∀i ys σ H,i<=xs.length->Pv i ys σ H->ys.length<=sizeLine/\SqL K H a xs)(hst:∀ys σ H,Pv xs.length ys σ H->R ys H)
  (hgo:∀i x ys σ H,i<xs.length->xs[xs.length-1-i]?=some x->Pv i ys σ H->g x σ H λσ2 H3=>tc σ2 H3 λb H4=>if b=true then te σ2 H4 λy H5=>Pv (i+1) (ys++[y]) σ2 H5 else Pv (i+1) ys σ2 H4):
  ∃W:Nat->Nat->List V->St->Hp->Prop,(∃m,W 0 m [] σ0 H0)/\∀i m ys σ' H',W i m ys σ' H' ->
   ((ItR K a xs.length).stop i H'/\ys.length<=sizeLine/\R ys H') \/
   ((ItR K a xs.length).go i H'/\ys.length<=sizeLine/\∃N:List V->St->Hp->Prop,(∀ys' σ2 H2,N ys' σ2 H2->∃m',m'<m/\W (i+1) m' ys' σ2 H2) /\
     ∀x H2,(ItR K a xs.length).yld i H' x H2->g x σ' H2 λσ2 H3=>tc σ2 H3 λb H4=>if b=true then te σ2 H4 λy H5=>N (ys++[y]) σ2 H5 else N ys σ2 H4) :=
 wF (n:=xs.length) Pv h0 (λi ys σ H hi p=>(hz i ys σ H hi p).1) (λys σ H p=>⟨km _,hst ys σ H p⟩)
  λi ys σ H hi p=>⟨⟨hi,xs,(hz i ys σ H (vF hi) p).2,rfl⟩,λx H2 y=>by
   obtain⟨e,y⟩:=y;subst e;exact hgo i x ys σ _ hi (y xs (hz i ys σ _ (vF hi) p).2) p⟩
end
def GT(mg:Str->Option Value)(x:Str)(v:Str):Prop:=∃t,mg x=some (.str v t)
theorem zcL{X:Cx}{x v:Str}{pos:Pos}(hg:Gl X x)(h:GT X.mg x v)(hd:(x==("__debug__" : Str))=false:=by decide):PE X (.Name x pos) (tC (.str v)):=by
 obtain⟨t,h⟩:=h;exact qe hg h ⟨t,rfl⟩ hd
end _L2
namespace _L2
open PySem
theorem Xl{X:Cx}{K:PySem.W.Frag}(hK:X.K=K):yI X (.type "list") (λxs H Q=>∃p ys,xs=[.ref p]/\(SqL K H p ys\/SqT K H p ys)/\∀l,H l=none->Q (.ref l) (upd H l (.lst ys))):=by
 subst hK;exact qZ
end _L2
namespace _JN
open PySem _L2 _Lin _Tre PySem.W
open _Sta (R Ok sbs exch reg OkS OkSs stN)
abbrev Stc:=_Sta.S
def Tx(H:Hp)(v:V)(ws:List W):Prop:=∃a,v=.ref a/\H a=some (.lst (tx ws))/\(∀u∈ws,okW u)/\ws.length<=40
theorem Tx.same{H H':Hp}(S:Same H H'){v:V}{ws:List W}(h:Tx H v ws):Tx H' v ws:=let ⟨a,e,z,r⟩:=h;⟨a,e,S _ _ z,r⟩
def Txs(H:Hp):List V->List (List W)->Prop:=Paired (Tx H)
theorem Txs.same{H H':Hp}(S:Same H H'):∀{vs:List V}{ts:List (List W)},Txs H vs ts->Txs H' vs ts
 |_,_,.nil=>.nil
 |_,_,.cons h t=>.cons (h.same S) (Txs.same S t)
theorem Txs.len{H:Hp}{vs:List V}{ts:List (List W)}(h:Txs H vs ts):vs.length=ts.length:=Paired.length h
theorem Txs.get{H:Hp}:∀{vs:List V}{ts:List (List W)}{i:Nat}{v:V},Txs H vs ts->vs[i]?=some v->∃t,ts[i]?=some t/\Tx H v t
 |_,_,_,_,.nil,e=>by simp at e
 |_,_,0,_,.cons r _,e=>by simp at e;subst e;exact⟨_,rfl,r⟩
 |_,_,i+1,v,.cons _ t,e=>by
  obtain⟨p,h1,h2⟩:=Txs.get (i:=i) (v:=v) t (by simpa using e);exact⟨p,by simpa using h1,h2⟩
theorem Txs.snoc{H:Hp}{vs:List V}{ts:List (List W)}{v:V}{t:List W}(h:Txs H vs ts)(r:Tx H v t):Txs H (vs++[v]) (ts++[t]):=Paired.snoc h r
structure Gd(H:Hp)(x:V)(a:Addr)(t:T)(n:List Int)(wss:List (List W)):Prop where
 at_:At H x t
 tree:wm t
 good:Good t n
 pm:n.Perm (up wss.length)
 len:wss.length<=24
 txs:∃us,H a=some (.lst us)/\Txs H us wss
theorem Gd.nlen{H:Hp}{x:V}{a:Addr}{t:T}{n:List Int}{wss:List (List W)}(h:Gd H x a t n wss):n.length=wss.length:=by
 rw[h.pm.length_eq,qp]
def StAt(H:Hp)(v:V)(p:Nat×Nat):Prop:=∃a,v=.ref a/\H a=some (.tup [.int (p.1:Int),.int (p.2:Int)])
def zY(H:Hp):List V->Stc->Prop:=Paired (StAt H)
theorem StAt.same{H H':Hp}(S:Same H H'){v:V}{p:Nat×Nat}(h:StAt H v p):StAt H' v p:=let ⟨a,e,z⟩:=h;⟨a,e,S _ _ z⟩
theorem zY.same{H H':Hp}(S:Same H H'):∀{vs:List V}{ps:Stc},zY H vs ps->zY H' vs ps
 |_,_,.nil=>.nil
 |_,_,.cons h t=>.cons (h.same S) (zY.same S t)
theorem zY.len{H:Hp}{vs:List V}{ps:Stc}(h:zY H vs ps):vs.length=ps.length:=Paired.length h
theorem zY.get{H:Hp}:∀{vs:List V}{ps:Stc}{i:Nat}{p:Nat×Nat},zY H vs ps->ps[i]?=some p->∃v,vs[i]?=some v/\StAt H v p
 |_,_,_,_,.nil,e=>by simp at e
 |_,_,0,_,.cons r _,e=>by simp at e;subst e;exact⟨_,rfl,r⟩
 |_,_,i+1,p,.cons _ t,e=>by
  obtain⟨v,h1,h2⟩:=zY.get (i:=i) (p:=p) t (by simpa using e);exact⟨v,by simpa using h1,h2⟩
theorem zY.get'{H:Hp}:∀{vs:List V}{ps:Stc}{i:Nat}{v:V},zY H vs ps->vs[i]?=some v->∃p,ps[i]?=some p/\StAt H v p
 |_,_,_,_,.nil,e=>by simp at e
 |_,_,0,_,.cons r _,e=>by simp at e;subst e;exact⟨_,rfl,r⟩
 |_,_,i+1,v,.cons _ t,e=>by
  obtain⟨p,h1,h2⟩:=zY.get' (i:=i) (v:=v) t (by simpa using e);exact⟨p,by simpa using h1,h2⟩
theorem zY.snoc{H:Hp}{vs:List V}{ps:Stc}{v:V}{p:Nat×Nat}(h:zY H vs ps)(r:StAt H v p):zY H (vs++[v]) (ps++[p]):=Paired.snoc h r
theorem zY.upd{H:Hp}{l:Addr}{xs:List V}{o':HO}(hl:H l=some (.lst xs)):∀{vs:List V}{ps:Stc},zY H vs ps->zY (upd H l o') vs ps
 |_,_,.nil=>.nil
 |_,_,.cons ⟨a,e,z⟩ t=>.cons ⟨a,e,by rw[zN (qu z hl (by intro y;cases y))];exact z⟩ (zY.upd hl t)
theorem ym.sts{H:Hp}:∀{vs:List V}{ps:List (Int×Nat)},ym H vs ps->(∀p∈ps,0<=p.1)->zY H vs (ps.map λp=>(p.1.toNat,p.2))
 |_,_,.nil,_=>.nil
 |_,_,.cons (b:=p) ⟨a,e,z⟩ t,h=>by
  refine .cons ⟨a,e,?_⟩ (ym.sts t λp hp=>h p (kn _ hp));have:=h p kg;rw[z];show some (HO.tup [V.int p.1,V.int (p.2:Int)])=some (HO.tup [V.int ((p.1.toNat:Nat):Int),V.int (p.2:Int)]);rw[Int.toNat_of_nonneg this]
def BsAt(H0 H:Hp)(v:V)(A:Stc):Prop:=∃l us,v=.ref l/\H0 l=none/\H l=some (.lst us)/\zY H us A
def yn(H0 H:Hp):List V->List Stc->Prop:=Paired (BsAt H0 H)
theorem BsAt.same{H0 H H':Hp}(S:Same H H'){v:V}{A:Stc}(h:BsAt H0 H v A):BsAt H0 H' v A:=let ⟨l,us,e,n,z,s⟩:=h;⟨l,us,e,n,S _ _ z,s.same S⟩
theorem yn.same{H0 H H':Hp}(S:Same H H'):∀{vs:List V}{As:List Stc},yn H0 H vs As->yn H0 H' vs As
 |_,_,.nil=>.nil
 |_,_,.cons h t=>.cons (h.same S) (yn.same S t)
theorem yn.len{H0 H:Hp}{vs:List V}{As:List Stc}(h:yn H0 H vs As):vs.length=As.length:=Paired.length h
theorem yn.get{H0 H:Hp}:∀{vs:List V}{As:List Stc}{i:Nat}{A:Stc},yn H0 H vs As->As[i]?=some A->∃v,vs[i]?=some v/\BsAt H0 H v A
 |_,_,_,_,.nil,e=>by simp at e
 |_,_,0,_,.cons r _,e=>by simp at e;subst e;exact⟨_,rfl,r⟩
 |_,_,i+1,p,.cons _ t,e=>by
  obtain⟨v,h1,h2⟩:=yn.get (i:=i) (A:=p) t (by simpa using e);exact⟨v,by simpa using h1,h2⟩
theorem yn.get'{H0 H:Hp}:∀{vs:List V}{As:List Stc}{i:Nat}{v:V},yn H0 H vs As->vs[i]?=some v->∃A,As[i]?=some A/\BsAt H0 H v A
 |_,_,_,_,.nil,e=>by simp at e
 |_,_,0,_,.cons r _,e=>by simp at e;subst e;exact⟨_,rfl,r⟩
 |_,_,i+1,v,.cons _ t,e=>by
  obtain⟨p,h1,h2⟩:=yn.get' (i:=i) (v:=v) t (by simpa using e);exact⟨p,by simpa using h1,h2⟩
theorem yn.snoc{H0 H:Hp}{vs:List V}{As:List Stc}{v:V}{A:Stc}(h:yn H0 H vs As)(r:BsAt H0 H v A):yn H0 H (vs++[v]) (As++[A]):=Paired.snoc h r
def zaF:Sp:=λvs H Q _=>∃(x:V)(ws:List W),vs=[x]/\Tx H x ws/\∀H',Same H H'->Q (.bl true) H'
def zcM:Sp:=λvs H Q _=>∃(x:V)(a:Addr)(t:T)(n:List Int)(wss:List (List W)),vs=[x,.ref a]/\Gd H x a t n wss/\∀H',Same H H'->Q .non H'
def zcN:Sp:=λvs H Q _=>∃(a b:Addr)(us ws:List V)(A B:Stc),vs=[.ref a,.ref b]/\H a=some (.lst us)/\H b=some (.lst ws)/\zY H us A/\zY H ws B/\A.length+B.length<=1000000 /\
 ∀(l:Addr)(rs:List V)(H':Hp),Same H H'->H l=none->H' l=some (.lst rs)->zY H' rs (sbs A B)->Q (.ref l) H'
def Jk:Sp:=λvs H Q _=>∃(a:Addr)(us:List V)(A:Stc)(As:List Stc)(H0:Hp),vs=[.ref a]/\H a=some (.lst us)/\yn H0 H us (A::As)/\Same H0 H/\A.length+(As.map List.length).sum<=1000000/\As.length<=1000 /\
 ∀(l:Addr)(rs:List V)(H':Hp),Same H H'->H0 l=none->H' l=some (.lst rs)->zY H' rs (As.foldl sbs A)->Q (.ref l) H'
def Wk:Sp:=λvs H Q _=>∃(a:Addr)(us:List V)(A:Stc),vs=[.ref a]/\H a=some (.lst us)/\zY H us A/\A.length<=1000000 /\
 ∀(l:Addr)(rs:List V)(H':Hp),Same H H'->H l=none->H' l=some (.lst rs)->zY H' rs (exch A)->Q (.ref l) H'
def Jl:Sp:=λvs H Q _=>∃(a:Addr)(us:List V)(wss:List (List W)),vs=[.ref a]/\H a=some (.lst us)/\Txs H us wss/\wss.length<=1000 /\
 ∀(l:Addr)(rs:List V)(H':Hp),Same H H'->H l=none->H' l=some (.lst rs)->yn H H' rs (wss.map stN)->Q (.ref l) H'
structure Ns(K:PySem.W.Frag)(mg:Str->Option Value):Prop where
 gWIDE:GI mg "WIDE" 0
 gHIGH:GI mg "HIGH" 1
 gMOST_WORDS:GI mg "MOST_WORDS" 40
 gACROSS:GT mg "ACROSS" "|"
 tl:mg "len"=none
 ti:mg "isinstance"=none
 tlist:mg "list"=none
 tall:mg "all"=none
 tmax:mg "max"=none
 trev:mg "reversed"=none
section
variable{P:Program}{w:World}{K:PySem.W.Frag}{mg:Str->Option Value}{base:Heap}{kA:Addr}
theorem ze4:zu ["thing"] ["thing"] (zl Q7):=by trivial
theorem zdH{f fA:Addr}{fd dA:FuncData}(F:Fun K "is_text" "is_text" Q7 f fd)(Z:Ns K mg)(Ar:Callee P w K mg base CX0 3 "are_words" fA dA ["things"] Jf):FnOk P w K mg base CX0 4 f fd ["thing"] zaF:=by
 obtain⟨gWIDE,gHIGH,gMOST_WORDS,gACROSS,tl,ti,tlist,tall,tmax,trev⟩:=Z;refine F.ok ze4 (λvs H Q E h=>?_) (λcdv A outer s H vs Q E hr h=>?_)
 .refine E_2 h λx ws n8=>A_2 n8 λe9 _=>?_;clear n8 h;subst e9;rfl
 .refine E_2 h λx ws n8=>A_3 n8 λe9 n90 q=>?_;clear n8 h;subst e9;obtain⟨a,rfl,ha,hw,h40⟩:=n90;refine⟨_,(zf (zo (yg (zg Ar.ok hr rfl Ar.bound Ar.kp Ar.bd .nil zr (za (pv 0) zb)) (yG (z5 y7 (zp zA (by rfl) tl kW (za (pv 0) zb)) (zx rfl gMOST_WORDS) (zD _)))))),?_⟩;refine⟨_,rfl,a,ws,rfl,ha,hw,(),λH1 S1=>⟨_,rfl,iteT ⟨_,rfl,a,tx ws,rfl,.inl (SqL.of (S1 _ _ ha)),_,_,rfl,rfl,?_⟩⟩⟩;rw[yf];show Q (.bl (decide (((ws.length:Nat):Int)<=40))) H1;rw[decide_eq_true (show((ws.length:Nat):Int)<=40 by lia)];exact q H1 S1
theorem zcO:zu ["tree","texts","many"] ["tree","texts"] (zl sRTx):=by trivial
theorem ze5{f fB fI:Addr}{fd dB dI:FuncData}(F:Fun K "refuse_no_texts" "refuse_no_texts" sRTx f fd)(Z:Ns K mg)(Bo:Callee P w K mg base CX0 7 "boxes_of" fB dB ["tree"] Qc)(It:Callee P w K mg base CX0 4 "is_text" fI dI ["thing"] zaF):
  FnOk P w K mg base CX0 8 f fd ["tree","texts"] zcM:=by
 obtain⟨gWIDE,gHIGH,gMOST_WORDS,gACROSS,tl,ti,tlist,tall,tmax,trev⟩:=Z;refine F.ok zcO (λvs H Q E h=>?_) (λcdv A outer s H vs Q E hr h=>?_)
 .refine E_5 h λx a t n wss n8=>A_2 n8 λe9 _=>?_;clear n8 h;subst e9;rfl
 .refine E_5 h λx a t n wss n8=>A_3 n8 λe9 g q=>?_;clear n8 h;subst e9;refine⟨_,(ze (zB (i:=2) zcO.nd rfl (Or.inl rfl) (zg Bo.ok hr rfl Bo.bound Bo.kp Bo.bd .nil zr (za (pv 0) zb)))
   (ze (zO (PW.pt (xi (z9 (zX (zp yj (by rfl) ti k8 (za (pv 1) (za (yM rfl tlist vX) zb))))) (yZ (zI ww (zp zA (by rfl) tl kW (za (pv 1) zb)) (pv 2) (zD _)))))
   yP
   zF)
   (zf (zO (z9 (zX (zp (xg rfl) (by rfl) tall vS (za (zQ (Nc:=["text"]) (ix:=[none]) rfl rfl (by refine' zV ?zz;case zz=>exact(pv 1)) (λ_ _ _ _ _=>(zt (i:=0) (by show(["text"]:List Str).Nodup;decide +kernel) rfl (Or.inl rfl))) (λ_ _ _ _ _=>zP) (λ_ _ _ _ _=>(zg It.ok (hr.mono (show 4<=7 by decide)) rfl It.bound It.kp It.bd .nil zr (za (pv 0) zb)))) zb))))
   yP
   zF)))),?_⟩
  obtain⟨xs,ha,hT⟩:=id g.txs;have lx:=hT.len;have nl:=g.nlen;have l24:=g.len;refine⟨_,rfl,x,t,n,rfl,g.at_,g.good,g.tree,λH1 S1=>?_⟩;refine⟨_,rfl,_,_,_,_,rfl,rfl,.of (.lst (S1 _ _ ha)),rfl,_,rfl,iteF ?_⟩;refine⟨_,rfl,a,xs,rfl,.inl (SqL.of (S1 _ _ ha)),_,rfl,rfl,_,rfl,?_⟩;rw[lx,<-nl,decide_eq_true rfl];refine iteF ?_;refine z6 ?_;dsimp only;refine⟨_,rfl,a,rfl,⟨_,SqL.of (S1 _ _ ha)⟩,zZ (K:=K) (a:=a) (xs:=xs) (λi ys σ H'=>ys=(ve i true).map V.bl/\Same H H'/\∃o,σ=[o]) ⟨rfl,S1,none,rfl⟩
   (λi ys σ H' hi h9=>by obtain⟨e,S,_⟩:=h9;exact(⟨by rw[e,ke,vz];exact kw (show _<=1000 by lia) ⋯,SqL.of (S _ _ ha)⟩)) ?_ ?_⟩
  case refine_2 =>
   rintro i v ys σ H' hx ⟨rfl,S,o,rfl⟩;obtain⟨ws,hb,hj⟩:=hT.get hx;dsimp only[zU,tYes];refine iteT ⟨_,rfl,v,ws,rfl,hj.same S,λH2 S2=>⟨?_,S.trans S2,_,rfl⟩⟩;rw[v6,kF];rfl
  rintro ys σ H2 ⟨rfl,S2,_⟩ pl npl;refine⟨pl,ve xs.length true,rfl,SqL.of zc,_,rfl,?_⟩;rw[Ya];exact iteF (q _ (S2.trans (zd npl)))
end
theorem zaG{ws:List W}(h:∀u∈ws,okW u):pos ws ws.length<=13*(ws.length:Int):=by
 rw[<-Z3];have:∀l:List W,(∀u∈l,okW u)->(l.map λu=>(u.length:Int)).sum<=12*(l.length:Int):=by
  intro l
  induction l with
  |nil=>intro _;decide
  |cons a r ih =>
   intro h;have:=ih λu hu=>h u (kn _ hu);have:=(h a kg).2.1;rw[kY,va,kG]
   lia
 have:=this ws h
 lia
theorem Qg{ws:List W}(h:∀u∈ws,okW u)(h40:ws.length<=40):(stN ws).length<=600:=by
 unfold stN xF;rw[ke];split
 .show 1<=600;decide
 .have:=jm (c:=cnt ws) (lo:=(wid ws:Int)) (total ws-wid ws).toNat;have:=zaG h;unfold total at *;omega
theorem Xs{us:List V}{i:Nat}{v:V}(h:us[i]?=some v):atI us (i:Int)=some v:=yX h
section
variable{P:Program}{w:World}{K:PySem.W.Frag}{mg:Str->Option Value}{base:Heap}{kA:Addr}
theorem w9:zu ["one","other","stairs","first","second","wide","high"] ["one","other"] (zl sSbs):=by trivial
theorem ze6{f:Addr}{fd:FuncData}(F:Fun K "side_by_side" "side_by_side" sSbs f fd)(Z:Ns K mg):FnOk P w K mg base CX0 1 f fd ["one","other"] zcN:=by
 obtain⟨gWIDE,gHIGH,gMOST_WORDS,gACROSS,tl,ti,tlist,tall,tmax,trev⟩:=Z;refine F.ok w9 (λvs H Q E h=>?_) (λcdv A outer s H vs Q E hr h=>?_)
 .refine E_6 h λa b us ws A B n8=>A_2 n8 λe9 _=>?_;clear n8 h;subst e9;rfl
 .refine E_6 h λa b us ws A1 B1 n8=>A_7 n8 λe9 ha hb hA hB hn q=>?_;clear n8 h;subst e9;refine⟨_,(ze (zB (i:=2) w9.nd rfl (Or.inl rfl) (yh zb))
   (ze (zB (i:=3) w9.nd rfl (Or.inl rfl) zk)
   (ze (zB (i:=4) w9.nd rfl (Or.inl rfl) zk)
   (ze (jU PassesOwn.never (PW.pt (qY (zI yO (pv 3) (zp zA (by rfl) tl kW (za (pv 0) zb)) (zD _)) (qf (zI yO (pv 4) (zp zA (by rfl) tl kW (za (pv 1) zb)) (zD _)))))
   (ze (zB (i:=5) w9.nd rfl (Or.inl rfl) (zK yL (zm zw (zm yc (pv 0) (pv 3) (λ_ _=>rfl)) (zx rfl gWIDE) (λ_ _=>rfl)) (zm zw (zm yc (pv 1) (pv 4) (λ_ _=>rfl)) (zx rfl gWIDE) (λ_ _=>rfl))))
    (ze (zB (i:=6) w9.nd rfl (Or.inl rfl) (zp (JW rfl) (by rfl) tmax PyProof.Rows.boot_max (za (zm zw (zm yc (pv 0) (pv 3) (λ_ _=>rfl)) (zx rfl gHIGH) (λ_ _=>rfl)) (za (zm zw (zm yc (pv 1) (pv 4) (λ_ _=>rfl)) (zx rfl gHIGH) (λ_ _=>rfl)) zb))))
    (ze (yw (xw vj vQ vR xr (pv 2) (za (ye (za (pv 5) (za (pv 6) zb))) zb)))
    (ze (zO (zI xH (zm zw (zm yc (pv 0) (pv 3) (λ_ _=>rfl)) (zx rfl gHIGH) (λ_ _=>rfl)) (pv 6) (zD _))
    (zf (Xz (i:=3) w9.nd rfl (Or.inl rfl) zk XA))
    zF)
    (zf (zO (zI xH (zm zw (zm yc (pv 1) (pv 4) (λ_ _=>rfl)) (zx rfl gHIGH) (λ_ _=>rfl)) (pv 6) (zD _))
    (zf (Xz (i:=4) w9.nd rfl (Or.inl rfl) zk XA))
    zF)))))))
   (zf (zo (pv 2))))))),?_⟩
  have la:=hA.len;have lb:=hB.len;refine zdq ⟨Zz0,λl nl=>?_⟩;have S1:=zd (o:=.lst []) nl;have hl1:(upd H l (.lst [])) l=some (.lst []):=zc;generalize upd H l (.lst [])=H1 at S1 hl1;dsimp only;refine run_seq (Z2 (λm σ H2=>∃(i j:Nat)(out:Stc)(rs:List V)(o5 o6:Option V),m=A1.length+B1.length-(i+j)/\i<=A1.length/\j<=B1.length/\out.length<=i+j/\out++sbs (A1.drop i) (B1.drop j)=sbs A1 B1 /\
   σ=[some (.ref a),some (.ref b),some (.ref l),some (.int (i:Int)),some (.int (j:Int)),o5,o6]/\Same H H2/\H2 l=some (.lst rs)/\zY H2 rs out) _
   ⟨0,0,[],[],none,none,rfl,kN _,kN _,km _,rfl,rfl,S1,hl1,.nil⟩ ?_)
  intro m σ H2 h8;refine E_6 h8 λi j out rs o5 o6 n8=>A_9 n8 λe9 hi hj ho eo n94 S2 hl2 hR=>?_;clear n8 h8;subst e9;subst n94;refine⟨(i:Int)<(us.length:Int)/\(j:Int)<(ws.length:Int),inferInstance,Qa (yV (zT (zh rfl) (yU (zh rfl) (SqL.of (S2 _ _ ha))))) (yV (zT (zh rfl) (yU (zh rfl) (SqL.of (S2 _ _ hb))))),λc=>?_,λc=>?_⟩
  .have hi':i<A1.length:=by omega
   have hj':j<B1.length:=()
   obtain⟨p,ep⟩:∃p,A1[i]?=some p:=⟨_,kc hi'⟩;obtain⟨r,er⟩:∃r,B1[j]?=some r:=⟨_,kc hj'⟩;obtain⟨v,ev,pv,rfl,hpv⟩:=hA.get ep;obtain⟨u,eu,pu,rfl,hpu⟩:=hB.get er;have dA:A1.drop i=p::A1.drop (i+1):=by rw[uB hi',(kf.mp ep).2]
   have dB:B1.drop j=r::B1.drop (j+1):=by rw[uB hj',(kf.mp er).2]
   have lr:=hR.len;have I1:∀{H3:Hp}{σ:St},Same H H3->σ[0]?=some (some (.ref a))->σ[3]?=some (some (.int (i:Int)))->Evl (tOp (rIxT K) (tOp (rIxL K) (tVar 0) (tVar 3)) (tC (.int 1))) σ H3 (.int (p.2:Int)):=λS e1 e2=>zE (xW (zh e1) (zh e2) (SqL.of (S _ _ ha)) (Xs ev)) zC (SqT.of (S _ _ hpv)) rfl;have I2:∀{H3:Hp}{σ:St},Same H H3->σ[1]?=some (some (.ref b))->σ[4]?=some (some (.int (j:Int)))->Evl (tOp (rIxT K) (tOp (rIxL K) (tVar 1) (tVar 4)) (tC (.int 1))) σ H3 (.int (r.2:Int)):=λS e1 e2=>zE (xW (zh e1) (zh e2) (SqL.of (S _ _ hb)) (Xs eu)) zC (SqT.of (S _ _ hpu)) rfl;refine xx (v:=.int ((p.1:Int)+(r.1:Int))) (zT (zE (xW (zh rfl) (zh rfl) (SqL.of (S2 _ _ ha)) (Xs ev)) zC (SqT.of (S2 _ _ hpv)) rfl) (zE (xW (zh rfl) (zh rfl) (SqL.of (S2 _ _ hb)) (Xs eu)) zC (SqT.of (S2 _ _ hpu)) rfl)) ?_;have em:(if(r.2:Int)>(p.2:Int)then(r.2:Int)else (p.2:Int))=((max p.2 r.2:Nat):Int):=by
    split<;>lia
   refine xx (v:=.int ((max p.2 r.2:Nat):Int)) (by rw[<-em];exact zae (g:=λi j=>.int (if j>i then j else i)) (I1 S2 rfl rfl) (I2 S2 rfl rfl)) ?_;refine⟨_,rfl,.inl ⟨rfl,_,SqL.of hl2⟩,_,rfl,_,rfl,Zz2,λtp ntp=>?_⟩;have S3:=S2.trans (zd (o:=.tup [.int ((p.1:Int)+(r.1:Int)),.int ((max p.2 r.2:Nat):Int)]) ntp);have htp:(upd H2 tp (.tup [.int ((p.1:Int)+(r.1:Int)),.int ((max p.2 r.2:Nat):Int)])) tp=some (.tup [.int ((p.1:Int)+(r.1:Int)),.int ((max p.2 r.2:Nat):Int)]):=zc;have hl3:=zd (o:=.tup [.int ((p.1:Int)+(r.1:Int)),.int ((max p.2 r.2:Nat):Int)]) ntp _ _ hl2;have hR3:=hR.same (zd (o:=.tup [.int ((p.1:Int)+(r.1:Int)),.int ((max p.2 r.2:Nat):Int)]) ntp);generalize upd H2 tp (.tup [.int ((p.1:Int)+(r.1:Int)),.int ((max p.2 r.2:Nat):Int)])=H3 at S3 htp hl3 hR3;refine⟨l,_,_,rfl,rfl,hl3,vC (show rs.length<=1000000 by lia) ⋯,?_⟩;have S4:Same H (upd H3 l (.lst (rs++[.ref tp]))):=yu S3 nl;have hl4:(upd H3 l (.lst (rs++[.ref tp]))) l=some (.lst (rs++[.ref tp])):=zc;have ex:StAt H3 (.ref tp) (p.1+r.1,max p.2 r.2):=⟨tp,rfl,by rw[htp];rfl⟩;have hR4:=(hR3.snoc ex).upd (o':=.lst (rs++[.ref tp])) hl3;generalize upd H3 l (.lst (rs++[.ref tp]))=H4 at S4 hl4 hR4;have lo:(out++[(p.1+r.1,max p.2 r.2)]).length=out.length+1:=by rw[kt];rfl
   have es:out++[(p.1+r.1,max p.2 r.2)]++(if p.2=max p.2 r.2 then(if r.2=max p.2 r.2 then sbs (A1.drop (i+1)) (B1.drop (j+1))else sbs (A1.drop (i+1)) (B1.drop j))else sbs (A1.drop i) (B1.drop (j+1)))=sbs A1 B1:=by
    rw[<-eo,dA,dB,_Sta.wT,ud];rfl
   have T1:∀{σ:St},σ[0]?=some (some (.ref a))->σ[3]?=some (some (.int (i:Int)))->σ[6]?=some (some (.int ((max p.2 r.2:Nat):Int)))->Tst (Zn (tOp rEq (tOp (rIxT K) (tOp (rIxL K) (tVar 0) (tVar 3)) (tC (.int 1))) (tVar 6))) σ H4 ((p.2:Int)=((max p.2 r.2:Nat):Int)):=λe1 e2 e3=>yV (Z0 (I1 S4 e1 e2) (zh e3));have T2:∀{σ:St},σ[1]?=some (some (.ref b))->σ[4]?=some (some (.int (j:Int)))->σ[6]?=some (some (.int ((max p.2 r.2:Nat):Int)))->Tst (Zn (tOp rEq (tOp (rIxT K) (tOp (rIxL K) (tVar 1) (tVar 4)) (tC (.int 1))) (tVar 6))) σ H4 ((r.2:Int)=((max p.2 r.2:Nat):Int)):=λe1 e2 e3=>yV (Z0 (I2 S4 e1 e2) (zh e3));refine zeG (T1 rfl rfl rfl) (λc1=>?_) (λc1=>?_)
   .have c1:p.2=max p.2 r.2:=()
    rw[if_pos c1]at es;refine⟨_,rfl,_,_,rfl,rfl,?_⟩;refine wM (T2 rfl rfl rfl) (λc2=>?_) (λc2=>?_)
    .have c2:r.2=max p.2 r.2:=()
     rw[if_pos c2]at es;refine⟨_,rfl,_,_,rfl,rfl,?_⟩;exact⟨_,by omega,i+1,j+1,_,_,_,_,rfl,by assumption,by assumption,(),es,rfl,S4,hl4,hR4⟩
    .rw[if_neg ()]at es;exact⟨_,(),i+1,j,_,_,_,_,rfl,by assumption,by omega,(),es,rfl,S4,hl4,hR4⟩
   .have c1:¬p.2=max p.2 r.2:=()
    rw[if_neg c1]at es;refine z6 ?_;dsimp only;refine wM (T2 rfl rfl rfl) (λc2=>?_) (λc2=>?_)
    .refine⟨_,rfl,_,_,rfl,rfl,?_⟩;exact⟨_,(),i,j+1,_,_,_,_,rfl,by omega,by assumption,(),es,rfl,S4,hl4,hR4⟩
    .lia
  .have e0:sbs (A1.drop i) (B1.drop j)=[]:=by
    by_cases z:i<A1.length
    .have:B1.drop j=[]:=List.drop_eq_nil_iff.mpr ();rw[this,_Sta.qH]
    .have:A1.drop i=[]:=List.drop_eq_nil_iff.mpr ();rw[this,_Sta.jI]
   rw[e0,vh]at eo;subst eo;exact⟨_,rfl,q l rs H2 S2 nl hl2 hR⟩
theorem Xt:zu ["parts","stairs","part"] ["parts"] (zl sAll):=by trivial
theorem ze7{f fS:Addr}{fd dS:FuncData}(F:Fun K "all_side_by_side" "all_side_by_side" sAll f fd)(Sb:Callee P w K mg base CX0 1 "side_by_side" fS dS ["one","other"] zcN):FnOk P w K mg base CX0 2 f fd ["parts"] Jk:=by
 refine F.ok Xt (λvs H Q E h=>?_) (λcdv A outer s H vs Q E hr h=>?_)
 .refine E_5 h λa us A As H0 n8=>A_2 n8 λe9 _=>?_;clear n8 h;subst e9;rfl
 .refine E_5 h λa us A1 As H0 n8=>A_7 n8 λe9 ha hB S0 hn h1000 q=>?_;clear n8 h;subst e9;refine⟨_,(ze (zB (i:=1) Xt.nd rfl (Or.inl rfl) (zm yc (pv 0) zk (λ_ _=>rfl)))
   (ze (yS PassesOwn.never rfl (zV (yp yQ (pv 0) (yx zk) yJ)) (zt (i:=2) Xt.nd rfl (Or.inl rfl))
   (zf (zB (i:=1) Xt.nd rfl (Or.inl rfl) (zg Sb.ok hr rfl Sb.bound Sb.kp Sb.bd .nil zr (za (pv 1) (za (pv 2) zb))))))
   (zf (zo (pv 1))))),?_⟩
  cases hB with
  |@cons v0 _ vs _ h0 hr =>
  refine E_2 h0 λl0 us0 n8=>A_4 n8 λe9 n0 hl0 hs0=>?_;clear n8 h0;subst e9;refine⟨_,rfl,a,_,0,.ref l0,rfl,rfl,SqL.of ha,yX (j:=0) rfl,?_⟩;have lv:=Paired.length hr;refine run_seq ⟨_,rfl,_,rfl,a,_,rfl,SqL.of ha,λpc nc=>?_⟩;have ec:cutV (V.ref l0::vs) (some 1) none=vs:=y8 (V.ref l0::vs) 1 (by simp);rw[ec];have S1:=zd (o:=.lst vs) nc;have hpc:(upd H pc (.lst vs)) pc=some (.lst vs):=zc;generalize upd H pc (.lst vs)=H1 at S1 hpc;refine⟨pc,rfl,⟨_,SqL.of hpc⟩,?_⟩;have hr:yn H0 H vs As:=hr;refine xp (K:=K) (a:=pc) (xs:=vs) (λi σ H2=>∃(l:Addr)(rs:List V)(o:Option V),σ=[some (.ref a),some (.ref l),o]/\Same H1 H2/\H0 l=none/\H2 l=some (.lst rs)/\zY H2 rs ((As.take i).foldl sbs A1))
   ⟨l0,us0,none,rfl,Same.refl _,n0,S1 _ _ hl0,hs0.same S1⟩ (λi σ H2 _ h9=>by obtain⟨_,_,_,_,S,_⟩:=h9;exact(SqL.of (S _ _ hpc))) ?_ ?_
  .intro i x σ H2 hi h8;refine E_3 h8 λl rs o n8=>A_5 n8 λe9 S2 nl hl hR=>?_;clear n8 h8;subst e9;obtain⟨B,eB,lb,bs,rfl,nb,hb,hsb⟩:=hr.get' hi;obtain⟨hil,ev⟩:=kf.mp eB;refine zJ ?_;have S12:=S1.trans S2;have fl:=_Sta.qJ (As.take i) A1;have zbf:((As.take i).map List.length).sum+B.length<=(As.map List.length).sum:=by
    have e:As=As.take i++B::As.drop (i+1):=by
     have:=vK i As;rw[uB hil,ev]at this;exact this.symm
    conv=>rhs;rw[e]
    rw[kF,bm,kY,va]
    lia
   refine⟨_,rfl,_,rfl,l,lb,rs,bs,_,B,rfl,hl,S12 _ _ hb,hR,hsb.same S12,(),λl3 rs3 H3 S3 nl3 hl3 hR3=>?_⟩;refine⟨l3,rs3,_,rfl,S2.trans S3,(S0.trans S12).free nl3,hl3,?_⟩;rw[<-kC hil,ev,uo];exact hR3
  .intro σ H2 h8;refine E_3 h8 λl rs o n8=>A_5 n8 λe9 S2 nl hl hR=>?_;clear n8 h8;subst e9;rw[lv,kJ]at hR;exact⟨_,rfl,q l rs H2 (S1.trans S2) nl hl hR⟩
theorem ze8:zu ["stairs"] ["stairs"] (zl Q8):=by trivial
theorem zdI{f:Addr}{fd:FuncData}(F:Fun K "exchanged" "exchanged" Q8 f fd)(Z:Ns K mg):FnOk P w K mg base CX0 1 f fd ["stairs"] Wk:=by
 obtain⟨gWIDE,gHIGH,gMOST_WORDS,gACROSS,tl,ti,tlist,tall,tmax,trev⟩:=Z;refine F.ok ze8 (λvs H Q E h=>?_) (λcdv A outer s H vs Q E hr h=>?_)
 .refine E_3 h λa us A n8=>A_2 n8 λe9 _=>?_;clear n8 h;subst e9;rfl
 .refine E_3 h λa us A1 n8=>A_5 n8 λe9 ha hA hn q=>?_;clear n8 h;subst e9;refine⟨_,(zf (zo (zQ (Nc:=["wide","high"]) (ix:=[none,none]) rfl rfl (by exact(zeW rfl trev (za (pv 0) zb))) (λ_ _ _ _ _=>(xO (K:=K) (n:=2) rfl rfl (zR (zt (i:=0) (by show(["wide","high"]:List Str).Nodup;decide +kernel) rfl (Or.inl rfl)) (zR (zt (i:=1) (by show(["wide","high"]:List Str).Nodup;decide +kernel) rfl (Or.inl rfl)) yB)))) (λ_ _ _ _ _=>zP) (λ_ _ _ _ _=>(ye (za (pv 1) (za (pv 0) zb))))))),?_⟩;have la:=hA.len;refine⟨_,rfl,a,us,rfl,SqL.of ha,zdG (K:=K) (a:=a) (xs:=us) (λi ys σ H2=>Same H H2/\zY H2 ys ((A1.reverse.take i).map λp=>(p.2,p.1))/\∃o o2,σ=[o,o2]) ⟨Same.refl _,.nil,none,none,rfl⟩
   (λi ys σ H2 hi h9=>by obtain⟨S,h,_⟩:=h9;exact(⟨by rw[h.len,ke,kQ];exact kw (show _<=1000000 by lia) ⋯,SqL.of (S _ _ ha)⟩)) ?_ ?_⟩
  case refine_2 =>
   intro i x ys σ H2 hi hx h8;refine A_3 h8 λS2 hY n8=>E_2 n8 λo o2 e9=>?_;clear n8 h8;subst e9;obtain⟨p,ep,pa,rfl,hpa⟩:=hA.get' hx;refine⟨pa,_,rfl,SqT.of (S2 _ _ hpa),rfl,_,_,rfl,_,_,rfl,rfl,?_⟩;dsimp only[zU,tYes];refine iteT ⟨_,rfl,_,rfl,Zz2,λtp ntp=>?_⟩;have S3:=zd (o:=.tup [.int (p.2:Int),.int (p.1:Int)]) ntp;have hir:i<A1.reverse.length:=by rw[bM];lia
   have er:A1.reverse[i]=p:=by
    rw[List.getElem_reverse];have e2:A1[A1.length-1-i]?=some p:=by rw[<-la];exact ep
    rw[kc (by omega)]at e2;exact Option.some.inj e2
   refine⟨S2.trans S3,?_,_,_,rfl⟩;rw[<-kC hir,er,kF];exact(hY.same S3).snoc ⟨tp,rfl,zc⟩
  rintro ys σ H2 ⟨S2,hY,_⟩ l nl;rw[la,<-bM,kJ]at hY;exact q l ys _ (S2.trans (zd nl)) (S2.free nl) zc (hY.same (zd nl))
theorem zf7:zu ["texts"] ["texts"] (zl sBst):=by trivial
theorem ze9{f fT:Addr}{fd dT:FuncData}(F:Fun K "box_stairs" "box_stairs" sBst f fd)(Ts:Callee P w K mg base CX0 5 "text_stairs" fT dT ["words"] Wd):FnOk P w K mg base CX0 6 f fd ["texts"] Jl:=by
 refine F.ok zf7 (λvs H Q E h=>?_) (λcdv A outer s H vs Q E hr h=>?_)
 .refine E_3 h λa us wss n8=>A_2 n8 λe9 _=>?_;clear n8 h;subst e9;rfl
 .refine E_3 h λa us wss n8=>A_5 n8 λe9 ha hT hn q=>?_;clear n8 h;subst e9;refine⟨_,(zf (zo (zQ (Nc:=["words"]) (ix:=[none]) rfl rfl (by refine' zV ?zz;case zz=>exact(pv 0)) (λ_ _ _ _ _=>(zt (i:=0) (by show(["words"]:List Str).Nodup;decide +kernel) rfl (Or.inl rfl))) (λ_ _ _ _ _=>zP) (λ_ _ _ _ _=>(zg Ts.ok hr rfl Ts.bound Ts.kp Ts.bd .nil zr (za (pv 0) zb)))))),?_⟩;have lt:=hT.len;refine⟨_,rfl,a,rfl,⟨_,SqL.of ha⟩,zZ (K:=K) (a:=a) (xs:=us) (λi ys σ H2=>Same H H2/\yn H H2 ys ((wss.take i).map stN)/\∃o,σ=[o]) ⟨Same.refl _,.nil,none,rfl⟩
   (λi ys σ H2 hi h9=>by obtain⟨S,h,_⟩:=h9;exact(⟨by rw[h.len,ke,kQ];exact kw (show _<=1000 by lia) ⋯,SqL.of (S _ _ ha)⟩)) ?_ ?_⟩
  case refine_2 =>
   intro i x ys σ H2 hx h8;refine A_3 h8 λS2 hY n8=>E_1 n8 λo e9=>?_;clear n8 h8;subst e9;obtain⟨ws,ew,pa,rfl,hpa,hw,h40⟩:=hT.get hx;obtain⟨hil,ev⟩:=kf.mp ew;dsimp only[zU,tYes];refine iteT ⟨_,rfl,pa,ws,rfl,S2 _ _ hpa,hw,(),λl3 us3 H3 S3 nl3 hl3 hP=>?_⟩;refine⟨S2.trans S3,?_,_,rfl⟩;rw[<-kC hil,ev,kF];refine(hY.same S3).snoc ⟨l3,us3,rfl,S2.free nl3,hl3,?_⟩;refine hP.sts λp hp=>?_;unfold xF at hp;split at hp
   .rw[kq.mp hp];decide
   .rcases jk hp with e|⟨j,_,e,_⟩
    .rw[e];exact Int.natCast_nonneg _
    .rw[e];show 0<=(wid ws:Int)+((j+1:Nat):Int)
     lia
  rintro ys σ H2 ⟨S2,hY,_⟩ l nl;rw[lt,kJ]at hY;exact q l ys _ (S2.trans (zd nl)) (S2.free nl) zc (hY.same (zd nl))
end
end _JN
namespace _Tre
theorem zL.get:∀{ts:List T}{nss:List (List Int)}{i:Nat}{t:T},zL ts nss->ts[i]?=some t->∃n,nss[i]?=some n/\Good t n
 |_,_,_,_,.nil,e=>by simp at e
 |_,_,0,_,.cons h _,e=>by simp at e;subst e;exact⟨_,rfl,h⟩
 |_,_,i+1,t,.cons _ r,e=>by
  obtain⟨n,h1,h2⟩:=zL.get (i:=i) (t:=t) r (by simpa using e);exact⟨n,by simpa using h1,h2⟩
end _Tre
namespace _JN
open PySem _L2 _Lin _Tre PySem.W
open _Sta (R Ok sbs exch reg OkS OkSs stN HasR zH)
def spSo(d:Nat):Sp:=λvs H Q _=>∃(x:V)(t:T)(n:List Int)(b:Addr)(bvs:List V)(As:List Stc)(Ls:List R)(P:R)(H0:Hp),vs=[x,.ref b]/\At H x t/\Good t n/\HasR Ls t P/\H b=some (.lst bvs)/\yn H0 H bvs As/\OkSs As Ls/\(∀A∈As,A.length<=600) /\
 n.length<=24/\sz t+3<=4*d/\d<=24/\Same H0 H/\∀(l:Addr)(us:List V)(A:Stc)(H':Hp),Same H H'->H0 l=none->H' l=some (.lst us)->zY H' us A->OkS A P->A.length<=600*n.length->Q (.ref l) H'
def Lvs(wss:List (List W)):List R:=wss.map _Sta.xj
def Xu:Sp:=λvs H Q _=>∃(x:V)(a:Addr)(t:T)(n:List Int)(wss:List (List W)),vs=[x,.ref a]/\Gd H x a t n wss /\
 ∀(P:R)(l:Addr)(us:List V)(A:Stc)(H':Hp),HasR (Lvs wss) t P->Same H H'->H l=none->H' l=some (.lst us)->zY H' us A->OkS A P->A.length<=15000->Q (.ref l) H'
theorem YR{wss:List (List W)}(h:∀ws∈wss,∀u∈ws,okW u):OkSs (wss.map stN) (Lvs wss):=by
 unfold Lvs
 induction wss with
 |nil=>exact .nil
 |cons a r ih=>exact .cons (_Sta.zf6 λu hu=>(h a kg u hu).1) (ih λws hw=>h ws (kn _ hw))
theorem wn(wss:List (List W)):∀L∈Lvs wss,_Sta.Up L:=λL hL=>by
 obtain⟨ws,_,rfl⟩:=kU.mp hL;exact _Sta.Qd ws
theorem x6:∀{nss:List (List Int)}{n:List Int},n∈nss->n.length<=nss.flatten.length
 |a::r,n,h=>by
  rw[k5,kt];rcases kK.mp h with e|e
  .rw[e];lia
  .have:=x6 e
   lia
theorem zaH:∀{L:List Stc}{B:Stc},B∈L->B.length<=(L.map List.length).sum
 |a::r,B,h=>by
  rw[kY,va];rcases kK.mp h with e|e
  .rw[e];lia
  .have:=zaH e
   lia
theorem Txs.okw{H:Hp}:∀{vs:List V}{ts:List (List W)},Txs H vs ts->∀ws∈ts,∀u∈ws,okW u
 |_,_,.nil,ws,h=>(k6 h).elim
 |_,_,.cons h t,ws,hw=>by
  rcases kK.mp hw with e|e
  .rw[e];obtain⟨_,_,_,z,_⟩:=h;exact z
  .exact Txs.okw t ws e
theorem Txs.ok40{H:Hp}:∀{vs:List V}{ts:List (List W)},Txs H vs ts->∀ws∈ts,ws.length<=40
 |_,_,.nil,ws,h=>(k6 h).elim
 |_,_,.cons h t,ws,hw=>by
  rcases kK.mp hw with e|e
  .rw[e];obtain⟨_,_,_,_,z⟩:=h;exact z
  .exact Txs.ok40 t ws e
theorem x8:(dash:Str)≠bar:=by decide +kernel
section
variable{P:Program}{w:World}{K:PySem.W.Frag}{mg:Str->Option Value}{base:Heap}{kA:Addr}
theorem scSo:zu ["tree","boxes","parts"] ["tree","boxes"] (zl sSo):=by trivial
theorem zfa{f:Addr}{fd:FuncData}(F:Fun K "stairs_of" "stairs_of" sSo f fd):FnOk P w K mg base CX0 3 f fd ["tree","boxes"] (spSo 0):=by
 refine F.ok scSo (λvs H Q E h=>?_) (λcdv A outer s H vs Q E hr h=>?_)
 .refine E_9 h λx t n b bvs As Ls P H0 n8=>A_2 n8 λe9 _=>?_;clear n8 h;subst e9;rfl
 .refine E_9 h λx t n b bvs As Ls P H0 n8=>A_11 n8 λe9 _ _ _ _ _ _ _ _ hz _=>?_;clear n8 h;subst e9
  lia
theorem zfb{f fW fA fX:Addr}{fd dW dA dX:FuncData}{d:Nat}(F:Fun K "stairs_of" "stairs_of" sSo f fd)(gKIND:GI mg "KIND" 0)(gPARTS:GI mg "PARTS" 1)(Z:Ns K mg)(Wo:Callee P w K mg base CX0 1 "is_whole" fW dW ["thing"] x5)
  (Al:Callee P w K mg base CX0 2 "all_side_by_side" fA dA ["parts"] Jk)(Ex:Callee P w K mg base CX0 1 "exchanged" fX dX ["stairs"] Wk)(So:Callee P w K mg base CX0 (d+3) "stairs_of" f fd ["tree","boxes"] (spSo d)):FnOk P w K mg base CX0 (d+4) f fd ["tree","boxes"] (spSo (d+1)):=by
 obtain⟨gWIDE,gHIGH,gMOST_WORDS,gACROSS,tl,ti,tlist,tall,tmax,trev⟩:=Z;refine F.ok scSo (λvs H Q E h=>?_) (λcdv A outer s H vs Q E hr h=>?_)
 .refine E_9 h λx t n b bvs As Ls P H0 n8=>A_2 n8 λe9 _=>?_;clear n8 h;subst e9;rfl
 .refine E_9 h λx t n b bvs As Ls P1 H0 n8=>A_13 n8 λe9 hA g hR hb hB hO h600 n24 hz hd S0 q=>?_;clear n8 h;subst e9;refine⟨_,(ze (zO (zX (zg Wo.ok (hr.mono ()) rfl Wo.bound Wo.kp Wo.bd .nil zr (za (pv 0) zb)))
   (zf (zo (zm yc (pv 1) (pv 0) (λ_ _=>rfl))))
   zF)
   (ze (qh (i:=2) (Nc:=["part","boxes"]) (ix:=[none,some 1]) scSo.nd rfl (Or.inl rfl) rfl rfl (by exact(xT (zm zw (pv 0) (zx rfl gPARTS) (λ_ _=>rfl)))) (λ_ _ _ _ _=>(zt (i:=0) (by show(["part","boxes"]:List Str).Nodup;decide +kernel) rfl (Or.inl rfl))) (λ_ _ _ _ _=>zP) (λ_ _ _ _ _=>(zg So.ok hr rfl So.bound So.kp So.bd .nil zr (za (pv 0) (za (pv 1) zb)))))
   (ze (zO (zI xH (zm zw (pv 0) (zx rfl gKIND) (λ_ _=>rfl)) (zcL rfl gACROSS) (zD _))
   (zf (zo (zg Al.ok (hr.mono ()) rfl Al.bound Al.kp Al.bd .nil zr (za (pv 2) zb))))
   zF)
   (zf (zo (zg Ex.ok (hr.mono ()) rfl Ex.bound Ex.kp Ex.bd .nil zr (za (zg Al.ok (hr.mono ()) rfl Al.bound Al.kp Al.bd .nil zr (za (zQ (Nc:=["part"]) (ix:=[none]) rfl rfl (by refine' zV ?zz;case zz=>exact(pv 2)) (λ_ _ _ _ _=>(zt (i:=0) (by show(["part"]:List Str).Nodup;decide +kernel) rfl (Or.inl rfl))) (λ_ _ _ _ _=>zP) (λ_ _ _ _ _=>(zg Ex.ok (hr.mono ()) rfl Ex.bound Ex.kp Ex.bd .nil zr (za (pv 0) zb)))) zb)) zb))))))),?_⟩
  refine⟨_,rfl,x,t,rfl,hA,_,rfl,?_⟩;cases g with
  |leaf i =>
   cases hA;cases hR with
   |leaf h0 hL =>
   obtain⟨A1,eA,oA⟩:=hO.get hL;obtain⟨v,ev,l,us,rfl,nl,hl,hs⟩:=hB.get eA;have ati:atI bvs i=some (.ref l):=by
    have:=yX ev
    rwa [Int.toNat_of_nonneg h0]at this
   refine iteT ⟨_,rfl,_,rfl,b,_,_,_,rfl,rfl,SqL.of hb,ati,q l us A1 H (Same.refl _) nl hl hs oA ?_⟩;have:=h600 A1 (ky eA);show A1.length<=600*1;omega
  |@node k ps nss hk h2 hn hG =>
   cases hA with
   |@tup a0 vs0 ss e hL =>
   obtain⟨b0,ws,rfl,e2,hQ⟩:=hL.knot;have lq:=hQ.len;have nsz:=xZ k ps;have lps:=qq ps;refine iteF ?_;refine z6 ?_;dsimp only;obtain⟨P0,Ps,hRL,eP⟩:∃P0 Ps,zH Ls ps (P0::Ps)/\((k=bar/\P1=Ps.foldl _Sta.bes P0)\/(k=dash/\P1=Ps.foldl _Sta.dwn P0)):=by
    cases hR with
    |bar h=>exact⟨_,_,h,.inl ⟨rfl,rfl⟩⟩
    |dash h=>exact⟨_,_,h,.inr ⟨rfl,rfl⟩⟩
   have lP:=hRL.len;have lG:=hG.len;refine⟨_,rfl,a0,_,_,_,rfl,rfl,SqT.of e,rfl,b0,rfl,⟨_,SqT.of e2⟩,xN (K:=K) (a:=b0) (xs:=ws) (λi ys σ H'=>∃Bs:List Stc,yn H0 H' ys Bs/\OkSs Bs ((P0::Ps).take i)/\Bs.length=i/\(Bs.map List.length).sum<=600*(nss.take i).flatten.length/\Same H H'/\∃o,σ=[o,some (.ref b)]) ⟨[],.nil,.nil,rfl,km _,Same.refl _,none,rfl⟩
    (λi ys σ H' hi h9=>by obtain⟨Bs,h1,_,l1,_,S3,_⟩:=h9;exact(⟨by rw[h1.len,l1];exact kw (show i<=1000000 by lia) ⋯,SqT.of (S3 _ _ e2)⟩)) ?_ ?_⟩
   case refine_2 =>
    intro i y ys σ H1 hy h8;obtain⟨Bs,hBs,oBs,lB,sB,S1,o,rfl⟩:=h8;obtain⟨p,ep,hAp⟩:=hQ.get hy;obtain⟨hil,ev⟩:=kf.mp ep;have pm:p∈ps:=ky ep;obtain⟨np,enp,gp⟩:=hG.get ep;obtain⟨hin,evn⟩:=kf.mp enp;obtain⟨Pp,ePp,hPp⟩:=hRL.get ep;obtain⟨hip,evp⟩:=kf.mp ePp;have two:=ZA h2 pm;have ln:=x6 (ky enp);dsimp only[zU,tYes];refine iteT ?_;refine⟨_,rfl,_,rfl,y,p,np,b,bvs,As,Ls,Pp,H0,rfl,hAp.same S1,gp,hPp,S1 _ _ hb,hB.same S1,hO,h600,(),(),(),S0.trans S1,λl us A1 H2 S2 nl hl hs oA lA=>?_⟩;refine⟨Bs++[A1],(hBs.same S2).snoc ⟨l,us,rfl,nl,hl,hs⟩,?_,by rw[kt,lB];rfl,?_,S1.trans S2,_,rfl⟩
    .rw[<-kC hip,evp];exact oBs.snoc oA
    .rw[<-kC hin,evn,vL,kt,kF,bm];simp only[k5,uz,vh,kY,List.map_nil,va,List.sum_nil]
     lia
   rintro ys σ H1 ⟨Bs,hBs,oBs,lB,sB,S1,_⟩ pl npl;rw[lq,lP,kJ]at oBs;rw[lq,<-lG,kJ]at sB;have S2:=S1.trans (zd (o:=.lst ys) npl);have hpl:(upd H1 pl (.lst ys)) pl=some (.lst ys):=zc;have hBs2:=hBs.same (zd (o:=.lst ys) npl);generalize upd H1 pl (.lst ys)=H2 at S2 hpl hBs2;clear hBs;cases oBs with
   |@cons B0 _ Br _ o0 oR =>
   rw[kY,va]at sB;rw[kG]at lB
   try dsimp only
   refine⟨_,rfl,a0,_,_,_,rfl,rfl,SqT.of (S2 _ _ e),rfl,rfl,_,rfl,?_⟩;have ek:decide (V.str k=V.str "|")=decide (k=bar):=by
    rw[decide_eq_decide];exact⟨λz=>by injection z,λz=>by rw[z];rfl⟩
   rw[ek];rcases eP with⟨rfl,rfl⟩|⟨rfl,rfl⟩
   .rw[decide_eq_true rfl];refine iteT ⟨_,rfl,pl,ys,B0,Br,H0,rfl,hpl,hBs2,S0.trans S2,(),(),λl rs H3 S3 nl hl hs=>?_⟩;have fl:=_Sta.qJ Br B0;exact q l rs _ H3 (S2.trans S3) nl hl hs (_Sta.j7 oR o0) ()
   .rw[decide_eq_false x8];refine iteF ?_;refine z6 ?_;dsimp only;refine⟨_,rfl,pl,rfl,⟨_,SqL.of hpl⟩,zZ (K:=K) (a:=pl) (xs:=ys) (λi zs σ H'=>yn H0 H' zs (((B0::Br).take i).map exch)/\Same H2 H'/\∃o,σ=[o]) ⟨.nil,Same.refl _,none,rfl⟩
     (λi zs σ H' hi h9=>by obtain⟨h1,S3,_⟩:=h9;exact(⟨by rw[h1.len,ke,kQ,kG];exact kw (show _<=1000000 by lia) ⋯,SqL.of (S3 _ _ hpl)⟩)) ?_ ?_⟩
    case refine_2 =>
     intro i y zs σ H3 hy h8;refine A_3 h8 λhZ S3 n8=>E_1 n8 λo e9=>?_;clear n8 h8;subst e9;obtain⟨B,eB,lb,us,rfl,nb,hlb,hsb⟩:=hBs2.get' hy;obtain⟨hil,ev⟩:=kf.mp eB;have lB':B.length<=1000000:=by
      have m:B∈B0::Br:=ky eB;have:=zaH m;rw[kY,va]at this
      lia
     dsimp only[zU,tYes];refine iteT ⟨_,rfl,lb,us,B,rfl,S3 _ _ hlb,hsb.same S3,lB',λl rs H4 S4 nl hl hs=>⟨?_,S3.trans S4,_,rfl⟩⟩;rw[<-kC hil,ev,kF];exact(hZ.same S4).snoc ⟨l,rs,rfl,(S0.trans (S2.trans S3)).free nl,hl,hs⟩
    rintro zs σ H3 ⟨hZ,S3,_⟩ pz npz;have ly:=hBs2.len;rw[ly,kJ,kY]at hZ;have S4:=S3.trans (zd (o:=.lst zs) npz);have hpz:(upd H3 pz (.lst zs)) pz=some (.lst zs):=zc;have hZ4:=hZ.same (zd (o:=.lst zs) npz);generalize upd H3 pz (.lst zs)=H4 at S4 hpz hZ4;have el:(exch B0).length+((Br.map exch).map List.length).sum=B0.length+(Br.map List.length).sum:=by rw[_Sta.j8,_Sta.zaE]
    refine I_5 pz zs (exch B0) (Br.map exch) H0 ⟨rfl,hpz,hZ4,S0.trans (S2.trans S4),(),by rw[ke];lia,λl rs H5 S5 nl hl hs=>?_⟩;have fl:=_Sta.qJ (Br.map exch) (exch B0);refine⟨l,rs,_,rfl,hl,hs,(),λl2 rs2 H6 S6 nl2 hl2 hs2=>?_⟩;have o1:=(_Sta.j7 oR.exch o0.exch).exch;rw[_Sta.Qf]at o1;exact q l2 rs2 _ H6 (S2.trans (S4.trans (S5.trans S6))) ((S0.trans (S2.trans (S4.trans S5))).free nl2) hl2 hs2 o1 (by rw[_Sta.j8];lia)
theorem zcP{f fW fA fX:Addr}{fd dW dA dX:FuncData}(F:Fun K "stairs_of" "stairs_of" sSo f fd)(gKIND:GI mg "KIND" 0)(gPARTS:GI mg "PARTS" 1)(Z:Ns K mg)(Wo:Callee P w K mg base CX0 1 "is_whole" fW dW ["thing"] x5)
  (Al:Callee P w K mg base CX0 2 "all_side_by_side" fA dA ["parts"] Jk)(Ex:Callee P w K mg base CX0 1 "exchanged" fX dX ["stairs"] Wk)(bo:mg "stairs_of"=some (.ref f))(kp:um K (.ref f)=true)(bd:Binds K fd ["tree","boxes"] []):∀d,FnOk P w K mg base CX0 (d+3) f fd ["tree","boxes"] (spSo d)
 |0=>zfa F
 |d+1=>zfb F gKIND gPARTS Z Wo Al Ex ⟨zcP F gKIND gPARTS Z Wo Al Ex bo kp bd d,bo,kp,bd⟩
theorem zf8:zu ["tree","texts"] ["tree","texts"] (zl sTst):=by trivial
theorem zfc{f fR fS fB:Addr}{fd dR dS dB:FuncData}(F:Fun K "tree_stairs" "tree_stairs" sTst f fd)(Rt:Callee P w K mg base CX0 8 "refuse_no_texts" fR dR ["tree","texts"] zcM)(So:Callee P w K mg base CX0 27 "stairs_of" fS dS ["tree","boxes"] (spSo 24))
  (Bs:Callee P w K mg base CX0 6 "box_stairs" fB dB ["texts"] Jl):FnOk P w K mg base CX0 28 f fd ["tree","texts"] Xu:=by
 refine F.ok zf8 (λvs H Q E h=>?_) (λcdv A outer s H vs Q E hr h=>?_)
 .refine E_5 h λx a t n wss n8=>A_2 n8 λe9 _=>?_;clear n8 h;subst e9;rfl
 .refine E_5 h λx a t n wss n8=>A_3 n8 λe9 gd q=>?_;clear n8 h;subst e9;refine⟨_,(ze (yw (zg Rt.ok (hr.mono ⋯) rfl Rt.bound Rt.kp Rt.bd .nil zr (za (pv 0) (za (pv 1) zb))))
   (zf (zo (zg So.ok hr rfl So.bound So.kp So.bd .nil zr (za (pv 0) (za (zg Bs.ok (hr.mono ⋯) rfl Bs.bound Bs.kp Bs.bd .nil zr (za (pv 1) zb)) zb)))))),?_⟩
  .obtain⟨xs,ha,hT⟩:=id gd.txs;have hl:=gd.nlen;have iT:=gd.tree;have g:=gd.good;have hA:=gd.at_;have n24:=(iT.okN g).2;refine⟨_,rfl,_,rfl,x,a,t,n,wss,rfl,gd,λH1 S1=>?_⟩;have lw:=hT.len;have okw:=hT.okw;have ok40:=hT.ok40;refine⟨_,rfl,_,rfl,a,xs,wss,rfl,S1 _ _ ha,hT.same S1,(),λlb rs H2 S2 nlb hlb hBs=>?_⟩;have rng:∀i∈n,0<=i/\i<((Lvs wss).length:Int):=λi hi=>by
    obtain⟨y,gy,l24,py⟩:=iT;have e:=Good.uniq g gy;subst e;have:=py.mem_iff.mp hi;unfold up at this;obtain⟨j,hj,rfl⟩:=kU.mp this;have:=vp.mp hj;unfold Lvs;rw[ke]
    lia
   obtain⟨P1,hP⟩:=_Sta.Qe g rng;have hsz:=g.szN;refine I_9 x t n lb rs (wss.map stN) (Lvs wss) P1 H1 ⟨rfl,hA.same (S1.trans S2),g,hP,hlb,hBs,YR okw,λA hA=>?_,n24,(),⋯,S2,λl us A1 H3 S3 nl hl hs oA lA=>?_⟩
   .obtain⟨ws,hw,rfl⟩:=kU.mp hA;exact Qg (okw ws hw) (ok40 ws hw)
   .exact q P1 l us A1 H3 hP (S1.trans (S2.trans S3)) (S1.free nl) hl hs oA ()
end
theorem Wl{K:PySem.W.Frag}{H:Hp}{n:Nat}{x y:V}{b:Bool}(h:EqR K H n x y b)(e:b=true):EqR K H n x y true:=e ▸ h
theorem all_true(n:Nat):((kR n).all λ_=>true)=true:=vM.mpr λ_ _=>rfl
theorem zf9{K:PySem.W.Frag}{H:Hp}{n:Nat}{a b:Addr}{ws:List W}(ha:SqL K H a (tx ws))(hb:SqL K H b (tx ws)):EqR K H (n+1) (.ref a) (.ref b) true:=by
 have fl:∀j,j<(tx ws).length->xI ((tx ws).getD j .non)=true:=λj hj=>by
  rw[yf]at hj;rw[kP,zeQ (kc hj)];rfl
 exact Wl (EqR.lsts (n:=n) (e:=λ_=>true) ha hb rfl λj hj=>Wl (.flat (fl j hj) (fl j hj)) (XQ (fl j hj))) (all_true _)
theorem eq_empty{K:PySem.W.Frag}{H:Hp}{a b:Addr}{xs:List V}(ha:H a=some (.lst xs))(hb:H b=some (.lst [])):EqR K H 1 (.ref a) (.ref b) (decide (xs=[])):=by
 by_cases h:xs=[]
 .subst h;rw[decide_eq_true rfl];exact zf9 (ws:=[]) (SqL.of ha) (SqL.of hb)
 .rw[decide_eq_false h];exact EqR.lens (n:=0) (SqL.of ha) (SqL.of hb) λz=>h (vN.mp z)
open _Sta (Low)
def oV:Option Nat->V
 |none=>.non
 |some n=>.int (n:Int)
end _JN
namespace _Sta
open _Tre _Lin
def Nem(P:R):Prop:=∃w h,P w h
theorem zdJ{P Q:R}(hP:Up P)(hQ:Up Q)(a:Nem P)(b:Nem Q):Nem (bes P Q):=by
 obtain⟨w1,h1,p⟩:=a;obtain⟨w2,h2,q⟩:=b;exact⟨w1+w2,max h1 h2,w1,w2,km _,hP.up p (km _) (bK _ _),hQ.up q (km _) (u7 _ _)⟩
theorem zdK{P Q:R}(hP:Up P)(hQ:Up Q)(a:Nem P)(b:Nem Q):Nem (dwn P Q):=by
 obtain⟨w1,h1,p⟩:=a;obtain⟨w2,h2,q⟩:=b;exact⟨max w1 w2,h1+h2,h1,h2,km _,hP.up p (bK _ _) (km _),hQ.up q (u7 _ _) (km _)⟩
theorem zb6(ws:List W):Nem (xj ws):=⟨max 1 (wid ws),max 1 (cnt ws ((max 1 (wid ws):Nat):Int)),(),λu hu=>kw (qm hu) (u7 _ _),km _⟩
theorem j9{f:R->R->R}(hf:∀P Q,Up P->Up Q->Up (f P Q))(hn:∀P Q,Up P->Up Q->Nem P->Nem Q->Nem (f P Q)):∀(Ps:List R)(P:R),Up P->Nem P->(∀Q∈Ps,Up Q/\Nem Q)->Nem (Ps.foldl f P)
 |[],P,_,n,_=>n
 |Q::Ps,P,u,n,k=>j9 hf hn Ps (f P Q) (hf P Q u (k Q kg).1) (hn P Q u (k Q kg).1 n (k Q kg).2) λU hU=>k U (kn _ hU)
mutual
theorem HasR.nem{Ls:List R}(hL:∀L∈Ls,Up L)(hN:∀L∈Ls,Nem L):∀{t:T}{P:R},HasR Ls t P->Nem P
 |_,_,.leaf _ h=>hN _ (ky h)
 |_,_,.bar h=>j9 (λ_ _ a b=>ZB a b) (λ_ _ a b c d=>zdJ a b c d) _ _ (zH.up hL h _ kg) (zH.nem hL hN h _ kg) λQ hQ=>⟨zH.up hL h Q (kn _ hQ),zH.nem hL hN h Q (kn _ hQ)⟩
 |_,_,.dash h=>j9 (λ_ _ a b=>ZC a b) (λ_ _ a b c d=>zdK a b c d) _ _ (zH.up hL h _ kg) (zH.nem hL hN h _ kg) λQ hQ=>⟨zH.up hL h Q (kn _ hQ),zH.nem hL hN h Q (kn _ hQ)⟩
theorem zH.nem{Ls:List R}(hL:∀L∈Ls,Up L)(hN:∀L∈Ls,Nem L):∀{ts:List T}{Ps:List R},zH Ls ts Ps->∀P∈Ps,Nem P
 |_,_,.nil,P,hP=>(k6 hP).elim
 |_,_,.cons h r,P,hP=>by
  rcases kK.mp hP with e|e
  .rw[e];exact HasR.nem hL hN h
  .exact zH.nem hL hN r P e
end
mutual
theorem wo{Ls:List R}:∀{t:T}{P Q:R},HasR Ls t P->HasR Ls t Q->P=Q
 |_,_,_,.leaf _ h,h'=>by
  cases h' with
  |leaf _ k=>rw[h]at k;exact Option.some.inj k
 |_,_,_,.bar h,h'=>by
  generalize e:(T.tup [.str bar,.tup _]:T)=t' at h';cases h' with
  |leaf _ _=>cases e
  |bar k =>
   injection e with e;injection e with _ e;injection e with e _;injection e with e;subst e;have:=qK h k;injection this with a b;subst a b;rfl
  |dash k =>
   injection e with e;injection e with e _;injection e with e;exact absurd e.symm (by decide +kernel)
 |_,_,_,.dash h,h'=>by
  generalize e:(T.tup [.str dash,.tup _]:T)=t' at h';cases h' with
  |leaf _ _=>cases e
  |dash k =>
   injection e with e;injection e with _ e;injection e with e _;injection e with e;subst e;have:=qK h k;injection this with a b;subst a b;rfl
  |bar k =>
   injection e with e;injection e with e _;injection e with e;exact absurd e (by decide +kernel)
theorem qK{Ls:List R}:∀{ts:List T}{Ps Qs:List R},zH Ls ts Ps->zH Ls ts Qs->Ps=Qs
 |_,_,_,.nil,h'=>by cases h';rfl
 |_,_,_,.cons h r,h'=>by
  cases h' with
  |cons k s=>rw[wo h k,qK r s]
end
theorem zb7{f:Int->Nat}{a b:List Int}(h:a.Perm b):(a.map f).sum=(b.map f).sum:=by
 induction h with
 |nil=>rfl
 |cons x _ ih=>rw[kY,va,kY,va,ih]
 |swap x y l=>simp only[kY,va];lia
 |trans _ _ i1 i2=>rw[i1,i2]
theorem zdL{wss:List (List W)}{t:T}{n:List Int}{P:R}(g:Good t n)(pm:n.Perm (up wss.length))(h:HasR (wss.map xj) t P):Bd P (wss.map y9).sum:=by
 have:=HasR.bd (Ls:=wss.map xj) (Ms:=λi=>y9 (wss.getD i [])) (λL hL=>by
  obtain⟨ws,_,rfl⟩:=kU.mp hL;exact Qd ws) (λi Q hQ=>by
  rw[kM]at hQ;cases e:wss[i]? with
  |none=>rw[e]at hQ;cases hQ
  |some ws =>
   rw[e]at hQ;cases hQ;rw[kP,e];exact zdE ws) g h
 refine this.mono (uO ?_);unfold many;rw[zb7 pm];unfold up;rw[vm];have e:((λi:Int=>y9 (wss.getD i.toNat []))∘λi:Nat=>(i:Int))=λi:Nat=>y9 (wss.getD i []):=by
  funext i;simp
 rw[e];have:(kR wss.length).map (λi=>y9 (wss.getD i []))=wss.map y9:=by
  apply u8
  .simp
  .intro i h1 h2;simp at h1 h2;simp[h1]
 rw[this]
theorem zdM{A:S}{w:Nat}{ns:List Nat}(h:∀n,n∈ns↔∃p,p∈A/\p.1<=w/\p.2=n):(ns=[]->Low (reg A) w none)/\∀M,M∈ns->(∀z∈ns,M<=z)->Low (reg A) w (some M):=by
 refine⟨λe k ⟨p,hp,a,b⟩=>?_,λM hM hl=>⟨?_,λk ⟨p,hp,a,b⟩=>?_⟩⟩
 .have:=(h p.2).mpr ⟨p,hp,a,rfl⟩;rw[e]at this;exact k6 this
 .obtain⟨p,hp,a,b⟩:=(h M).mp hM;exact⟨p,hp,a,uO b⟩
 .have:=hl p.2 ((h p.2).mpr ⟨p,hp,a,rfl⟩)
  lia
theorem zdN{A:S}{k:Nat}{ns:List Nat}(h:∀n,n∈ns↔∃p,p∈A/\p.2<=k/\p.1=n):(ns=[]->Low (tr (reg A)) k none)/\∀M,M∈ns->(∀z∈ns,M<=z)->Low (tr (reg A)) k (some M):=by
 refine⟨λe w ⟨p,hp,a,b⟩=>?_,λM hM hl=>⟨?_,λw ⟨p,hp,a,b⟩=>?_⟩⟩
 .have:=(h p.1).mpr ⟨p,hp,b,rfl⟩;rw[e]at this;exact k6 this
 .obtain⟨p,hp,a,b⟩:=(h M).mp hM;exact⟨p,hp,uO b,a⟩
 .have:=hl p.1 ((h p.1).mpr ⟨p,hp,b,rfl⟩)
  lia
end _Sta
namespace _L2
open PySem PySem.Spec PyProof.Rows
section
variable{prog:Program}{w:World}{A:Around}{R:Result->Shared->Prop}{I:Addr}{fp wr:List Addr}{n:Nat}{P:Nat->Value->Prop}{St:Nat->Heap->Prop}
def Kept(bt:Nat->Nat->Bool)(P:Nat->Value->Prop)(i:Nat)(acc:Array Value):Prop:=(i=0/\acc=#[])\/∃v,0<i/\acc=#[v,v]/\P (argBest bt (i-1)) v
theorem YS(W:Walks prog w A.in1 I fp wr n P St)(bt:Nat->Nat->Bool)(hcmp:CmpOf prog w A.in1 .Lt P bt)(S:Addr)(hSf:S∉fp)(x:Str)(d:Value):
  ∀(k i:Nat)(s:Shared)(acc:Array Value)(c:Nat),i+k=n->St i s.heap->Kept bt P i acc->s.heap.get? S=some {cls:=.type "list",dict:=none,data:=.seq acc c,slots:=#[]} ->
  (∀v h' tk,((0<n/\P (argBest bt (n-1)) v)\/(n=0/\v=d))->(∀b o,b∉wr->b≠S->s.heap.get? b=some o->h'.get? b=some o)->R (.ok (.ret v)) {s with heap:=h',toks:=tk}) ->
  codeAny (model prog w) A (.builtin "min.loop" ⟨[.ref I,.none,.ref S],[(x,d)]⟩) R s
 |0,i,s,acc,c,hk,hst,hK,hS,hR=>by
  have hSw:S∉wr:=λh=>hSf (W.sub _ h);have e:i=n:=by omega
  subst e;refine codeAny_builtin F.entry_min_loop ?_;rw[Around.under_plainId F.plain_min_loop _];show wpAny _ A.in1 (seqItems? (.ref S) >>= _) _ _ s;refine wpAny_bind (wpAny_seqItems hS rfl ?_);refine wpAny_bind (wpAny_tryCatch (W.done s _ _ hst λh' tk hk'=>?_));rcases hK with⟨i0,rfl⟩|⟨v,i0,rfl,hv⟩
  .show wpAny _ A.in1 (rule _ >>= λ_=>ret d) _ _ _;refine wpAny_bind (wpAny_rule (wpAny_pure ?_));exact hR d h' tk (.inr ⟨i0,rfl⟩) λb o hb _ q=>hk' b o hb q
  .have hS':=hk' S _ hSw hS;show wpAny _ A.in1 (updateSeq S (λ_=>#[]) >>= _) _ _ _;refine wpAny_bind (wpAny_updateSeq hS' rfl ?_);refine wpAny_bind (wpAny_letGo (wpAny_pure ?_));exact hR v _ tk (.inl ⟨i0,hv⟩) λb o hb bS q=>(Heap.get?_update_other _ _ (Ne.symm bS)).trans (hk' b o hb q)
 |k+1,i,s,acc,c,hk,hst,hK,hS,hR=>by
  have hSw:S∉wr:=λh=>hSf (W.sub _ h);have hname:(toString "min" ++ toString ".loop" : String) = "min.loop" := by decide
  refine codeAny_builtin F.entry_min_loop ?_;rw[Around.under_plainId F.plain_min_loop _];show wpAny _ A.in1 (seqItems? (.ref S) >>= _) _ _ s;refine wpAny_bind (wpAny_seqItems hS rfl ?_);refine wpAny_bind (wpAny_tryCatch (W.item i s _ _ () hst λv h' tk hP hst' hk'=>?_));have hS':=hk' S _ hSw hS;have oth:∀(acc':Array Value) b o,b≠S->h'.get? b=some o->(h'.update S (Obj.mapSeq λ_=>acc')).get? b=some o:=λ_ b o bS q=>(Heap.get?_update_other _ _ (Ne.symm bS)).trans q;have nx:∀(acc':Array Value)(c':Nat)(h'':Heap),Kept bt P (i+1) acc'->h''.get? S=some {cls:=.type "list",dict:=none,data:=.seq acc' c',slots:=#[]}->(∀b o,b≠S->h'.get? b=some o->h''.get? b=some o) ->
    codeAny (model prog w) A (.builtin "min.loop" ⟨[.ref I,.none,.ref S],[(x,d)]⟩) R {s with heap:=h'',toks:=tk}:=λacc' c' h'' hK' hS'' o'' =>
   YS W bt hcmp S hSf x d k (i+1) _ acc' c' () (W.frame _ _ _ hst' λb hb o q=>o'' b o (λz=>hSf (by rw[<-z];exact hb)) q) hK' hS'' λu h3 t3 hu k3=>hR u h3 t3 hu λb o hb bS q=>k3 b o hb bS (o'' b o bS (hk' b o hb q))
  rcases hK with⟨i0,rfl⟩|⟨u,i0,rfl,hu⟩
  .show wpAny _ A.in1 (updateSeq S (λ_=>#[v,v]) >>= _) _ _ _;refine wpAny_bind (wpAny_updateSeq hS' rfl ?_);rw[hname];exact wpAny_pure ⟨plainId_quiet F.plain_min_loop _,nx #[v,v] _ _ (.inr ⟨v,ux _,rfl,by subst i0;exact hP⟩) (Heap.get?_update_self _ hS' rfl) (oth _)⟩
  .obtain⟨j,rfl⟩:∃j,i=j+1:=⟨i-1,()⟩;have hu:P (argBest bt j) u:=hu;show wpAny _ A.in1 (tryCatch (holding [v,v] (richCompare .Lt v u >>= _)) _ >>= _) _ _ _;refine wpAny_bind (wpAny_tryCatch (wpAny_holding (wpAny_bind (hcmp (j+1) (argBest bt j) v u _ _ _ hP hu ?_))));refine wpAny_bind (wpAny_holding (wpAny_truthy_bool ?_));refine wpAny_bind (wpAny_letGo (wpAny_pure ?_));cases hb:bt (j+1) (argBest bt j)with
   |true =>
    rw[if_pos rfl];refine wpAny_bind (wpAny_updateSeq hS' rfl (wpAny_bind (wpAny_letGo ?_)));rw[hname];exact wpAny_pure ⟨plainId_quiet F.plain_min_loop _,nx #[v,v] _ _ (.inr ⟨v,ux _,rfl,by show P (if bt (j+1) (argBest bt j)=true then j+1 else argBest bt j) v;rw[if_pos hb];exact hP⟩) (Heap.get?_update_self _ hS' rfl) (oth _)⟩
   |false =>
    rw[if_neg kH];refine wpAny_bind (wpAny_letGo ?_);rw[hname];exact wpAny_pure ⟨plainId_quiet F.plain_min_loop _,nx #[u,u] _ _ (.inr ⟨u,ux _,rfl,by show P (if bt (j+1) (argBest bt j)=true then j+1 else argBest bt j) u;rw[if_neg (by rw[hb];exact kH)];exact hu⟩) hS' λ_ _ _ q=>q⟩
end
section
variable{prog:Program}{w:World}{A:Around}{E:Value->Shared->Prop}{s:Shared}
theorem zaI(a d:Value):argsOk "min" ⟨[a],[("default",d)]⟩:=by unfold argsOk;kernel_rfl
theorem zaJ{x d:Value}{Q:Value->Shared->Prop}
  (h:wpAny (model prog w) A.in1 (pyIter x) (λit s₂=>∃I fp wr n P St bt,it=.ref I/\Walks prog w A.in1 I fp wr n P St/\St 0 s₂.heap/\(∀b∈fp,b<s₂.heap.objs.size)/\CmpOf prog w A.in1 .Lt P bt /\
   ∀v h' tk,((0<n/\P (argBest bt (n-1)) v)\/(n=0/\v=d))->(∀b o,b∉wr->s₂.heap.get? b=some o->h'.get? b=some o)->Q v {s₂ with heap:=h',toks:=tk}) E s):
  wpAny (model prog w) A (call (.builtin "min") [x] [("default",d)]) Q E s:=by
 have hname:(toString "min" ++ toString ".loop" : String) = "min.loop" := by decide
 refine wpAny_call (codeAny_call_builtin F.plain_min F.entry_min ?_);simp only[checkBuiltinCall,F.kind_min];have body:wpAny (model prog w) A.in1 (Builtin.«min» ⟨[x],[("default",d)]⟩) (λfin s'=>match fin with
   |.done f=>(match (Except.ok f:Result)with | .ok (.ret v)=>Q v s' | .ok _=>False | .error e=>E e s')
   |.again c'=>c'.quiet=true/\codeAny (model prog w) A c' (λr s'=>match r with | .ok (.ret v)=>Q v s' | .ok _=>False | .error e=>E e s') s') E s:=by
  show wpAny _ A.in1 (Builtin.Builtins.bindParams "min" ["key","default"] 0 ⟨[],[("default",d)]⟩ >>= _) _ _ s;refine wpAny_bind (wpAny_of_eq (show Builtin.Builtins.bindParams "min" ["key","default"] 0 ⟨[],[("default",d)]⟩=pure [none,some d]from rfl) ?_);refine wpAny_bind (wpAny_pure ?_);refine wpAny_bind (wpAny_mono h (λit s₂ h₂=>?_) λ_ _ e=>e);refine E_7 h₂ λI fp wr n P St bt n8=>A_6 n8 λe9 W hst hfp hcmp hQ=>?_;clear n8 h₂;subst e9;refine wpAny_bind (wpAny_newObj_type ?_);have hSf:s₂.heap.objs.size∉fp:=λhm=>vP _ (hfp _ hm);rw[hname];refine wpAny_pure ⟨plainId_quiet F.plain_min_loop _,YS W bt hcmp s₂.heap.objs.size hSf "default" d n 0 _ #[] _ (u6 _) (W.frame _ _ _ hst λb _ o e=>Heap.get?_push_of_some _ e) (.inl ⟨rfl,rfl⟩) (Heap.get?_push_size _ rfl) λv h' tk hP hk=>?_⟩;exact hQ v h' tk hP λb o hbw e=>hk b o hbw (vc (Heap.lt_size e)) (Heap.get?_push_of_some _ e)
 cases hsig:Manifest.signature? "min" with
 |none=>exact wpAny_pure body
 |some sig =>
  have ha:=zaI x d;simp only[argsOk,hsig]at ha;have h2:Bind.checkArgs "min" sig ⟨[x],[("default",d)]⟩=pure Unit.unit:=ha;show wpAny _ A.in1 (Bind.checkArgs "min" sig ⟨[x],[("default",d)]⟩) _ _ s;rw[h2];exact wpAny_pure body
end
section
variable{X:Cx}
def zga(K:PySem.W.Frag)(tl:TE):TE:=λσ H Q=>tl σ H λx H1=>∃(a:Addr)(ns:List Int),x=.ref a/\SqL K H1 a (ns.map V.int)/\(ns=[]->Q .non H1)/\(∀M,M∈ns->(∀z∈ns,M<=z)->Q (.int M) H1)
theorem Qh{l:Expr}{tl:TE}{cc:Nat}{np kpos p pos:Pos}(hc:X.calm=true)(hg:Gl X "min")(hm:X.mg "min"=none)(hl:PE X l tl)(hs:starEach [l] X.env=[(false,eval l X.env)]:=by rfl):
  PE X (.Call (.Name "min" p) [l] [⟨some "default",.Constant .none cc np,kpos⟩] pos) (zga X.K tl):=by
 intro pins s σ H Q I h;refine wpAny_Call_Name_kw (yR I hg hm boot_min ?_ ⋯ ⋯);refine PyProof.Rows.callWith_kw (thn ((za hl zb hs) pos pins s σ H (λvs H1=>match vs with
  |[x]=>∃(a:Addr)(ns:List Int),x=.ref a/\SqL X.K H1 a (ns.map V.int)/\(ns=[]->Q .non H1)/\(∀M,M∈ns->(∀z∈ns,M<=z)->Q (.int M) H1)
  |_=>False) I h) λus s1 ⟨vs,H1,I1,r1,q1⟩=>?_) (by rw[hs];rfl) (by rw[hs];rfl) rfl rfl
 match vs,q1 with
 |[x],q1 =>
 obtain⟨u,rfl,ru⟩:=vals1 r1;refine thn ((W5 (nm:=some "default") xR JY) pos pins s1 σ H1 (λws H2=>ws=[.non]/\H2=H1) I1 ⟨rfl,rfl⟩) λus2 s2 h9=>?_;obtain⟨ws,H2,I2,r2,e1,e2⟩:=h9;subst e1 e2;obtain⟨u2,rfl,ru2⟩:=vals1 r2;refine E_2 q1 λa ns n8=>A_4 n8 λe9 hq q0 q=>?_;clear n8 q1;subst e9;cases (show u=Value.ref a from ru);cases (show u2=Value.none from ru2);show wpAny _ _ (call (.builtin "min") [.ref a] [(Str.ofString "default",.none)]) _ _ _;obtain⟨its,rv,tp,hz⟩:=I2.list hq;have hll:=rv.length;rw[ke]at hll;refine zaJ (wP I2 tp.isList hc λs3 e W st hfp=>?_);subst e;refine I_7 _ _ _ _ _ _ _ ⟨rfl,W,st,hfp,CmpOf.ints_lt (λi=>ns.getD i 0) (xm rv),λv h' tk hP hk=>?_⟩;have keep:Inv X pins σ H2 _:=I2.kept (t':=tk) λb o e=>hk b o (λm=>by
  have:=Heap.lt_size e;rw[kq.mp m]at this;exact vP _ this) (Heap.get?_push_of_some _ e)
 rw[ku]at hP;rcases hP with⟨h0,hP⟩|⟨h0,rfl⟩
 .obtain⟨t,rfl⟩:=xm rv _ _ hP;obtain⟨b1,b2⟩:=argBest_lt (λi=>ns.getD i 0) (its.length-1);refine⟨.int _,H2,keep,⟨t,rfl⟩,q _ (qv (by omega)) λz hz=>?_⟩;obtain⟨j,hj,e⟩:=Zu hz;rw[<-e];exact b2 j ()
 .exact⟨.non,H2,keep,rfl,q0 (vN.mp ())⟩
end
end _L2
namespace _JN
open PySem _L2 _Lin _Tre PySem.W
open _Sta (R Ok sbs exch reg OkS OkSs stN HasR zH Low tr)
def Jm:Sp:=λvs H Q _=>∃(a:Addr)(us:List V)(A:Stc)(wide:Nat),vs=[.ref a,.int wide]/\H a=some (.lst us)/\zY H us A/\A.length<=1000000/\∀(o:Option Nat)(H':Hp),Same H H'->Low (reg A) wide o->Q (oV o) H'
def Wm:Sp:=λvs H Q _=>∃(a:Addr)(us:List V)(A:Stc)(high:Nat),vs=[.ref a,.int high]/\H a=some (.lst us)/\zY H us A/\A.length<=1000000/\∀(o:Option Nat)(H':Hp),Same H H'->Low (tr (reg A)) high o->Q (oV o) H'
def spLh:Sp:=λvs H Q _=>∃(x:V)(a:Addr)(t:T)(n:List Int)(wss:List (List W))(wide:Nat),vs=[x,.ref a,.int wide]/\Gd H x a t n wss/\∀(P:R)(o:Option Nat)(H':Hp),HasR (Lvs wss) t P->Same H H'->Low P wide o->Q (oV o) H'
def Qi:Sp:=λvs H Q _=>∃(x:V)(a:Addr)(t:T)(n:List Int)(wss:List (List W))(high:Nat),vs=[x,.ref a,.int high]/\Gd H x a t n wss/\∀(P:R)(o:Option Nat)(H':Hp),HasR (Lvs wss) t P->Same H H'->Low (tr P) high o->Q (oV o) H'
theorem Wp{ns:List Nat}{M:Int}(hM:M∈ns.map λn:Nat=>(n:Int))(hl:∀z∈ns.map (λn:Nat=>(n:Int)),M<=z):∃m:Nat,M=(m:Int)/\m∈ns/\∀z∈ns,m<=z:=by
 obtain⟨m,hm,rfl⟩:=kU.mp hM;refine⟨m,rfl,hm,λz hz=>?_⟩;have:=hl (z:Int) (kU.mpr ⟨z,hz,rfl⟩)
 lia
section
variable{P:Program}{w:World}{K:PySem.W.Frag}{mg:Str->Option Value}{base:Heap}{kA:Addr}
theorem zgb:zu ["stairs","wide"] ["stairs","wide"] (zl sLow):=by trivial
theorem zfd{f:Addr}{fd:FuncData}(F:Fun K "lowest" "lowest" sLow f fd)(gWIDE:GI mg "WIDE" 0)(gHIGH:GI mg "HIGH" 1)(tmin:mg "min"=none):FnOk P w K mg base CX0 1 f fd ["stairs","wide"] Jm:=by
 refine F.ok zgb (λvs H Q E h=>?_) (λcdv A outer s H vs Q E hr h=>?_)
 .refine E_4 h λa us A wide n8=>A_2 n8 λe9 _=>?_;clear n8 h;subst e9;rfl
 .refine E_4 h λa us A1 wide n8=>A_5 n8 λe9 ha hA hn q=>?_;clear n8 h;subst e9;refine⟨_,(zf (zo (Qh rfl rfl tmin (zQ (Nc:=["stair","wide"]) (ix:=[none,some 1]) rfl rfl (by refine' zV ?zz;case zz=>exact(pv 0)) (λ_ _ _ _ _=>(zt (i:=0) (by show(["stair","wide"]:List Str).Nodup;decide +kernel) rfl (Or.inl rfl))) (λ_ _ _ _ _=>(jF (zI y7 (zm (z7 (K:=K) rfl) (pv 0) (zx rfl gWIDE) (λ_ _=>rfl)) (pv 1) (zD _)))) (λ_ _ _ _ _=>(zm (z7 (K:=K) rfl) (pv 0) (zx rfl gHIGH) (λ_ _=>rfl))))))),?_⟩;have la:=hA.len;refine⟨_,rfl,a,rfl,⟨_,SqL.of ha⟩,zZ (K:=K) (a:=a) (xs:=us) (λi ys σ H2=>H2=H/\ys=((((A1.take i).filter λp=>decide (p.1<=wide)).map λp=>p.2).map λn:Nat=>(n:Int)).map V.int/\∃o,σ=[o,some (.int (wide:Int))]) ⟨rfl,rfl,none,rfl⟩
   (λi ys σ H2 hi h9=>by obtain⟨e,e2,_⟩:=h9;exact(⟨by rw[e2,ke,ke,ke];exact kw (vA _ _) (by rw[kQ];exact kw (show _<=1000000 by lia) ⋯),by rw[e];exact SqL.of ha⟩)) ?_ ?_⟩
  case refine_2 =>
   rintro i x ys σ H2 hx ⟨rfl,rfl,o,rfl⟩;obtain⟨p,ep,pa,rfl,hpa⟩:=hA.get' hx;obtain⟨hil,ev⟩:=kf.mp ep;dsimp only[zU];refine yV (p:=(p.1:Int)<=(wide:Int)) (zT (zE (zh rfl) zC (SqT.of hpa) rfl) (zh rfl)) _ ?_;rw[<-kC hil,ev,List.filter_append];by_cases c:p.1<=wide
   .rw[decide_eq_true (show(p.1:Int)<=(wide:Int)by lia)];refine iteT ⟨_,rfl,pa,_,_,_,rfl,rfl,SqT.of hpa,rfl,rfl,?_,_,rfl⟩;rw[u9,decide_eq_true c,if_pos rfl,kF,kF,kF];rfl
   .rw[decide_eq_false (show ¬(p.1:Int)<=(wide:Int)by lia)];refine iteF ⟨rfl,?_,_,rfl⟩;rw[u9,decide_eq_false c];show _=((((A1.take i).filter _++[]).map _).map _).map _;rw[vh]
  rintro ys σ H2 ⟨rfl,rfl,_⟩ l nl;rw[la,kJ];have S:=zd (o:=.lst (((((A1.filter λp=>decide (p.1<=wide)).map λp=>p.2).map λn:Nat=>(n:Int)).map V.int))) nl;obtain⟨m1,m2⟩:=_Sta.zdM (A:=A1) (w:=wide) (ns:=(A1.filter λp=>decide (p.1<=wide)).map λp=>p.2) (λn=>by
   rw[kU];constructor
   .intro h8;obtain⟨p,hp,rfl⟩:=h8;obtain⟨h1,h2⟩:=vD.mp hp;exact⟨p,h1,of_decide_eq_true h2,rfl⟩
   .intro h8;obtain⟨p,h1,h2,rfl⟩:=h8;exact⟨p,vD.mpr ⟨h1,decide_eq_true h2⟩,rfl⟩)
  refine⟨l,_,rfl,SqL.of zc,λe=>q none _ S (m1 (List.map_eq_nil_iff.mp e)),λM hM hl=>?_⟩;obtain⟨m,rfl,hm,hl'⟩:=Wp hM hl;exact q (some m) _ S (m2 m hm hl')
theorem zfe:zu ["stairs","high"] ["stairs","high"] (zl Q9):=by trivial
theorem zdO{f:Addr}{fd:FuncData}(F:Fun K "narrowest" "narrowest" Q9 f fd)(gWIDE:GI mg "WIDE" 0)(gHIGH:GI mg "HIGH" 1)(tmin:mg "min"=none):FnOk P w K mg base CX0 1 f fd ["stairs","high"] Wm:=by
 refine F.ok zfe (λvs H Q E h=>?_) (λcdv A outer s H vs Q E hr h=>?_)
 .refine E_4 h λa us A high n8=>A_2 n8 λe9 _=>?_;clear n8 h;subst e9;rfl
 .refine E_4 h λa us A1 high n8=>A_5 n8 λe9 ha hA hn q=>?_;clear n8 h;subst e9;refine⟨_,(zf (zo (Qh rfl rfl tmin (zQ (Nc:=["stair","high"]) (ix:=[none,some 1]) rfl rfl (by refine' zV ?zz;case zz=>exact(pv 0)) (λ_ _ _ _ _=>(zt (i:=0) (by show(["stair","high"]:List Str).Nodup;decide +kernel) rfl (Or.inl rfl))) (λ_ _ _ _ _=>(jF (zI y7 (zm (z7 (K:=K) rfl) (pv 0) (zx rfl gHIGH) (λ_ _=>rfl)) (pv 1) (zD _)))) (λ_ _ _ _ _=>(zm (z7 (K:=K) rfl) (pv 0) (zx rfl gWIDE) (λ_ _=>rfl))))))),?_⟩;have la:=hA.len;refine⟨_,rfl,a,rfl,⟨_,SqL.of ha⟩,zZ (K:=K) (a:=a) (xs:=us) (λi ys σ H2=>H2=H/\ys=((((A1.take i).filter λp=>decide (p.2<=high)).map λp=>p.1).map λn:Nat=>(n:Int)).map V.int/\∃o,σ=[o,some (.int (high:Int))]) ⟨rfl,rfl,none,rfl⟩
   (λi ys σ H2 hi h9=>by obtain⟨e,e2,_⟩:=h9;exact(⟨by rw[e2,ke,ke,ke];exact kw (vA _ _) (by rw[kQ];exact kw (show _<=1000000 by lia) ⋯),by rw[e];exact SqL.of ha⟩)) ?_ ?_⟩
  case refine_2 =>
   rintro i x ys σ H2 hx ⟨rfl,rfl,o,rfl⟩;obtain⟨p,ep,pa,rfl,hpa⟩:=hA.get' hx;obtain⟨hil,ev⟩:=kf.mp ep;dsimp only[zU];refine yV (p:=(p.2:Int)<=(high:Int)) (zT (zE (zh rfl) zC (SqT.of hpa) rfl) (zh rfl)) _ ?_;rw[<-kC hil,ev,List.filter_append];by_cases c:p.2<=high
   .rw[decide_eq_true (show(p.2:Int)<=(high:Int)by lia)];refine iteT ⟨_,rfl,pa,_,_,_,rfl,rfl,SqT.of hpa,rfl,rfl,?_,_,rfl⟩;rw[u9,decide_eq_true c,if_pos rfl,kF,kF,kF];rfl
   .rw[decide_eq_false (show ¬(p.2:Int)<=(high:Int)by lia)];refine iteF ⟨rfl,?_,_,rfl⟩;rw[u9,decide_eq_false c];show _=((((A1.take i).filter _++[]).map _).map _).map _;rw[vh]
  rintro ys σ H2 ⟨rfl,rfl,_⟩ l nl;rw[la,kJ];have S:=zd (o:=.lst (((((A1.filter λp=>decide (p.2<=high)).map λp=>p.1).map λn:Nat=>(n:Int)).map V.int))) nl;obtain⟨m1,m2⟩:=_Sta.zdN (A:=A1) (k:=high) (ns:=(A1.filter λp=>decide (p.2<=high)).map λp=>p.1) (λn=>by
   rw[kU];constructor
   .intro h8;obtain⟨p,hp,rfl⟩:=h8;obtain⟨h1,h2⟩:=vD.mp hp;exact⟨p,h1,of_decide_eq_true h2,rfl⟩
   .intro h8;obtain⟨p,h1,h2,rfl⟩:=h8;exact⟨p,vD.mpr ⟨h1,decide_eq_true h2⟩,rfl⟩)
  refine⟨l,_,rfl,SqL.of zc,λe=>q none _ S (m1 (List.map_eq_nil_iff.mp e)),λM hM hl=>?_⟩;obtain⟨m,rfl,hm,hl'⟩:=Wp hM hl;exact q (some m) _ S (m2 m hm hl')
theorem scLh:zu ["tree","texts","wide"] ["tree","texts","wide"] (zl sLh):=by trivial
theorem zgc{f fT fL:Addr}{fd dT dL:FuncData}(F:Fun K "least_high" "least_high" sLh f fd)(Ts:Callee P w K mg base CX0 28 "tree_stairs" fT dT ["tree","texts"] Xu)(Lo:Callee P w K mg base CX0 1 "lowest" fL dL ["stairs","wide"] Jm):
  FnOk P w K mg base CX0 29 f fd ["tree","texts","wide"] spLh:=by
 refine F.ok scLh (λvs H Q E h=>?_) (λcdv A outer s H vs Q E hr h=>?_)
 .refine E_6 h λx a t n wss wide n8=>A_2 n8 λe9 _=>?_;clear n8 h;subst e9;rfl
 .refine E_6 h λx a t n wss wide n8=>A_3 n8 λe9 gd q=>?_;clear n8 h;subst e9;refine⟨_,(zf (zo (zg Lo.ok (hr.mono ⋯) rfl Lo.bound Lo.kp Lo.bd .nil zr (za (zg Ts.ok hr rfl Ts.bound Ts.kp Ts.bd .nil zr (za (pv 0) (za (pv 1) zb))) (za (pv 2) zb))))),_,rfl,_,rfl,x,a,t,n,wss,rfl,gd,λP1 l us A1 H1 hR S1 nl hl1 hs oA lA=>?_⟩;refine⟨_,rfl,l,us,A1,wide,rfl,hl1,hs,(),λo H2 S2 low=>?_⟩;exact q P1 o H2 hR (S1.trans S2) (low.of oA.2)
end
end _JN
namespace _Sta
open _Tre _Lin
structure Pc where
 l:Nat
 t:Nat
 r:Nat
 b:Nat
inductive PcsA(Ls:List R)(top below right:Nat):List T->Nat->List Pc->Prop where
 |one{t:T}{left:Nat}{P:R}(h:HasR Ls t P)(rm:P (right-left) (below-top)):PcsA Ls top below right [t] left [⟨left,top,right,below⟩]
 |cons{t t2:T}{ts:List T}{left w:Nat}{P:R}{pcs:List Pc}(h:HasR Ls t P)(lw:Low (tr P) (below-top) (some w))(r:PcsA Ls top below right (t2::ts) (left+w) pcs):PcsA Ls top below right (t::t2::ts) left (⟨left,top,left+w,below⟩::pcs)
inductive PcsD(Ls:List R)(left right below:Nat):List T->Nat->List Pc->Prop where
 |one{t:T}{top:Nat}{P:R}(h:HasR Ls t P)(rm:P (right-left) (below-top)):PcsD Ls left right below [t] top [⟨left,top,right,below⟩]
 |cons{t t2:T}{ts:List T}{top k:Nat}{P:R}{pcs:List Pc}(h:HasR Ls t P)(lw:Low P (right-left) (some k))(r:PcsD Ls left right below (t2::ts) (top+k) pcs):PcsD Ls left right below (t::t2::ts) top (⟨left,top,right,top+k⟩::pcs)
mutual
inductive ya(Ls:List R):T->Pc->List (Int×Pc)->Prop where
 |leaf{i:Int}{p:Pc}:ya Ls (.int i) p [(i,p)]
 |bar{ps:List T}{p:Pc}{pcs:List Pc}{res:List (List (Int×Pc))}(h:PcsA Ls p.t p.b p.r ps p.l pcs)(r:SetL Ls ps pcs res):ya Ls (.tup [.str bar,.tup ps]) p res.flatten
 |dash{ps:List T}{p:Pc}{pcs:List Pc}{res:List (List (Int×Pc))}(h:PcsD Ls p.l p.r p.b ps p.t pcs)(r:SetL Ls ps pcs res):ya Ls (.tup [.str dash,.tup ps]) p res.flatten
inductive SetL(Ls:List R):List T->List Pc->List (List (Int×Pc))->Prop where
 |nil:SetL Ls [] [] []
 |cons{t:T}{p:Pc}{ts:List T}{pcs:List Pc}{a:List (Int×Pc)}{res:List (List (Int×Pc))}(h:ya Ls t p a)(r:SetL Ls ts pcs res):SetL Ls (t::ts) (p::pcs) (a::res)
end
def Rm(P:R)(p:Pc):Prop:=P (p.r-p.l) (p.b-p.t)
inductive RmL:List R->List Pc->Prop where
 |nil:RmL [] []
 |cons{P:R}{p:Pc}{Ps:List R}{pcs:List Pc}(h:Rm P p)(r:RmL Ps pcs):RmL (P::Ps) (p::pcs)
theorem least{f:Nat->Prop}(h:∃n,f n):∃n,f n/\∀m,f m->n<=m:=by
 obtain⟨n,hn⟩:=h;have:∀k n,n<=k->f n->∃n,f n/\∀m,f m->n<=m:=by
  intro k
  induction k with
  |zero =>
   intro n h1 h2;exact⟨n,h2,λm _=>()⟩
  |succ k ih =>
   intro n h1 h2;by_cases c:∃m,m<n/\f m
   .obtain⟨m,m1,m2⟩:=c;exact ih m () m2
   .exact⟨n,h2,λm hm=>uc.mp λz=>c ⟨m,z,hm⟩⟩
 exact this n n (km _) hn
theorem Wq{P:R}{w:Nat}(h:∃k,P w k):∃k,Low P w (some k):=by
 obtain⟨k,a,b⟩:=least (f:=λk=>P w k) h;exact⟨k,a,b⟩
inductive Parts(h:Nat):List R->List Nat->Prop where
 |nil:Parts h [] []
 |cons{P:R}{a:Nat}{Ps:List R}{as:List Nat}(p:P a h)(r:Parts h Ps as):Parts h (P::Ps) (a::as)
theorem ZE:∀(Ps:List R)(P:R)(w h:Nat),(Ps.foldl bes P) w h->∃(a:Nat)(as:List Nat),P a h/\Parts h Ps as/\a+as.sum<=w
 |[],P,w,h,z=>⟨w,[],z,.nil,km _⟩
 |Q::Ps,P,w,h,z=>by
  obtain⟨a,as,⟨x,y,e,px,qy⟩,r,s⟩:=ZE Ps (bes P Q) w h z;exact⟨x,y::as,px,.cons qy r,by rw[va];lia⟩
theorem cutA{Ls:List R}{top below right:Nat}:∀{ps:List T}{P:R}{Ps:List R}{a:Nat}{as:List Nat}{left:Nat},zH Ls ps (P::Ps)->(∀Q∈P::Ps,Up Q)->P a (below-top)->Parts (below-top) Ps as->left+a+as.sum<=right ->
  ∃pcs,PcsA Ls top below right ps left pcs/\RmL (P::Ps) pcs
 |_,P,_,a,_,left,.cons h .nil,up,pa,.nil,le =>
  have z:P (right-left) (below-top):=(up P kg).up pa (show a<=right-left by simp at le;lia) (km _)
  ⟨_,.one h z,.cons z .nil⟩
 |_,P,_,a,_,left,.cons (ts:=_::_) h (.cons h2 r2),up,pa,.cons (a:=a2) (as:=as) p2 q2,le=>by
  obtain⟨w,lw⟩:=Wq (P:=tr P) (w:=below-top) ⟨a,pa⟩;have wa:w<=a:=lw.2 a pa;rw[va]at le;obtain⟨pcs,k1,k2⟩:=cutA (top:=top) (below:=below) (right:=right) (left:=left+w) (.cons h2 r2) (λQ hQ=>up Q (kn _ hQ)) p2 q2 ();refine⟨_,.cons h lw k1,.cons ?_ k2⟩;show P (left+w-left) (below-top);rw[uM];exact lw.1
theorem jO:∀(Ps:List R)(P:R)(w h:Nat),(Ps.foldl dwn P) w h->∃(a:Nat)(as:List Nat),P w a/\Parts w (Ps.map tr) as/\a+as.sum<=h
 |[],P,w,h,z=>⟨h,[],z,.nil,km _⟩
 |Q::Ps,P,w,h,z=>by
  obtain⟨a,as,⟨x,y,e,px,qy⟩,r,s⟩:=jO Ps (dwn P Q) w h z;exact⟨x,y::as,px,.cons qy r,by rw[va];lia⟩
theorem cutD{Ls:List R}{left right below:Nat}:∀{ps:List T}{P:R}{Ps:List R}{a:Nat}{as:List Nat}{top:Nat},zH Ls ps (P::Ps)->(∀Q∈P::Ps,Up Q)->P (right-left) a->Parts (right-left) (Ps.map tr) as->top+a+as.sum<=below ->
  ∃pcs,PcsD Ls left right below ps top pcs/\RmL (P::Ps) pcs
 |_,P,_,a,_,top,.cons h .nil,up,pa,.nil,le =>
  have z:P (right-left) (below-top):=(up P kg).up pa (km _) (show a<=below-top by simp at le;lia)
  ⟨_,.one h z,.cons z .nil⟩
 |_,P,_,a,_,top,.cons (ts:=_::_) h (.cons h2 r2),up,pa,.cons (a:=a2) (as:=as) p2 q2,le=>by
  obtain⟨k,lw⟩:=Wq (P:=P) (w:=right-left) ⟨a,pa⟩;have wa:k<=a:=lw.2 a pa;rw[va]at le;obtain⟨pcs,k1,k2⟩:=cutD (left:=left) (right:=right) (below:=below) (top:=top+k) (.cons h2 r2) (λQ hQ=>up Q (kn _ hQ)) p2 q2 ();refine⟨_,.cons h lw k1,.cons ?_ k2⟩;show P (right-left) (top+k-top);rw[uM];exact lw.1
mutual
theorem zaK{Ls:List R}(hL:∀L∈Ls,Up L):∀{t:T}{P:R}{p:Pc},HasR Ls t P->Rm P p->p.l<=p.r->p.t<=p.b->∃res,ya Ls t p res
 |_,_,p,.leaf _ _,_,_,_=>⟨_,.leaf⟩
 |_,_,p,.bar (P:=P) (Ps:=Ps) h,rm,le1,le2=>by
  obtain⟨a,as,pa,ps,s⟩:=ZE _ _ _ _ rm;obtain⟨pcs,k1,k2⟩:=cutA (Ls:=Ls) (top:=p.t) (below:=p.b) (right:=p.r) (left:=p.l) h (zH.up hL h) pa ps ();obtain⟨res,k3⟩:=Yg hL h k2;exact⟨_,.bar k1 k3⟩
 |_,_,p,.dash (P:=P) (Ps:=Ps) h,rm,le1,le2=>by
  obtain⟨a,as,pa,ps,s⟩:=jO _ _ _ _ rm;obtain⟨pcs,k1,k2⟩:=cutD (Ls:=Ls) (left:=p.l) (right:=p.r) (below:=p.b) (top:=p.t) h (zH.up hL h) pa ps ();obtain⟨res,k3⟩:=Yg hL h k2;exact⟨_,.dash k1 k3⟩
theorem Yg{Ls:List R}(hL:∀L∈Ls,Up L):∀{ts:List T}{Ps:List R}{pcs:List Pc},zH Ls ts Ps->RmL Ps pcs->∃res,SetL Ls ts pcs res
 |_,_,_,.nil,.nil=>⟨[],.nil⟩
 |_,_,_,.cons h r,.cons (p:=p) m n=>by
  have:=(HasR.up hL h).pos m;obtain⟨a,k1⟩:=zaK hL h m (by omega) ();obtain⟨res,k2⟩:=Yg hL r n;exact⟨_,.cons k1 k2⟩
end
mutual
theorem ya.keys0{Ls:List R}:∀{t:T}{p:Pc}{res:List (Int×Pc)},ya Ls t p res->∀{n:List Int},Good t n->res.map (·.1)=n
 |_,_,_,.leaf,n,g=>by rw[YO g];rfl
 |_,_,_,.bar h r,n,g=>by
  obtain⟨nss,e,g⟩:=w6 g;rw[e,List.map_flatten,SetL.keys0 r g]
 |_,_,_,.dash h r,n,g=>by
  obtain⟨nss,e,g⟩:=w6 g;rw[e,List.map_flatten,SetL.keys0 r g]
theorem SetL.keys0{Ls:List R}:∀{ts:List T}{pcs:List Pc}{res:List (List (Int×Pc))},SetL Ls ts pcs res->∀{nss:List (List Int)},zL ts nss->res.map (List.map (·.1))=nss
 |_,_,_,.nil,nss,g=>by rw[YQ g];rfl
 |_,_,_,.cons h r,nss,g=>by
  obtain⟨a,b,e,g,gs⟩:=ZD g;rw[e,kY,ya.keys0 h g,SetL.keys0 r gs]
end
theorem ya.keys{Ls:List R}{t:T}{n:List Int}{p:Pc}{res:List (Int×Pc)}(g:Good t n)(h:ya Ls t p res):res.map (·.1)=n:=ya.keys0 h g
theorem SetL.keys{Ls:List R}{ts:List T}{nss:List (List Int)}{pcs:List Pc}{res:List (List (Int×Pc))}(g:zL ts nss)(h:SetL Ls ts pcs res):res.map (List.map (·.1))=nss:=SetL.keys0 h g
theorem PcsA.rm{Ls:List R}{top below right:Nat}:∀{ts:List T}{left:Nat}{pcs:List Pc}{i:Nat}{t:T}{p:Pc},PcsA Ls top below right ts left pcs->ts[i]?=some t->pcs[i]?=some p->p.t=top/\p.b=below/\∃P,HasR Ls t P/\Rm P p
 |_,_,_,0,t,p,.one h rm,e1,e2=>by
  cases e1;cases e2;exact⟨rfl,rfl,_,h,rm⟩
 |_,_,_,i+1,t,p,.one h rm,e1,e2=>by simp at e1
 |_,left,_,0,t,p,.cons (w:=w) (P:=P) h lw r,e1,e2=>by
  cases e1;cases e2;refine⟨rfl,rfl,_,h,?_⟩;show P (left+w-left) (below-top);rw[uM];exact lw.1
 |_,_,_,i+1,t,p,.cons h lw r,e1,e2=>PcsA.rm (i:=i) r (by simpa using e1) (by simpa using e2)
theorem PcsD.rm{Ls:List R}{left right below:Nat}:∀{ts:List T}{top:Nat}{pcs:List Pc}{i:Nat}{t:T}{p:Pc},PcsD Ls left right below ts top pcs->ts[i]?=some t->pcs[i]?=some p->p.l=left/\p.r=right/\∃P,HasR Ls t P/\Rm P p
 |_,_,_,0,t,p,.one h rm,e1,e2=>by
  cases e1;cases e2;exact⟨rfl,rfl,_,h,rm⟩
 |_,_,_,i+1,t,p,.one h rm,e1,e2=>by simp at e1
 |_,top,_,0,t,p,.cons (k:=k) (P:=P) h lw r,e1,e2=>by
  cases e1;cases e2;refine⟨rfl,rfl,_,h,?_⟩;show P (right-left) (top+k-top);rw[uM];exact lw.1
 |_,_,_,i+1,t,p,.cons h lw r,e1,e2=>PcsD.rm (i:=i) r (by simpa using e1) (by simpa using e2)
def plc(first:Nat):List Nat->List Nat
 |[]=>[first]
 |a::r=>first::plc (first+a) r
theorem PcsA.ws{Ls:List R}{top below right:Nat}:∀{ts:List T}{left:Nat}{pcs:List Pc},PcsA Ls top below right ts left pcs->∃ws:List Nat,ws.length+1=ts.length/\(∀(i:Nat)(t:T)(w:Nat),ts[i]?=some t->ws[i]?=some w->∃P,HasR Ls t P/\Low (tr P) (below-top) (some w)) /\
  pcs=((plc left ws).zip ((plc left ws++[right]).drop 1)).map λq=>⟨q.1,top,q.2,below⟩
 |_,_,_,.one _ _=>⟨[],rfl,λi t w _ e=>by simp at e,rfl⟩
 |_,left,_,.cons (w:=w) (P:=P) h lw r=>by
  obtain⟨ws,l,k,e⟩:=r.ws;refine⟨w::ws,by simpa using l,λi t u e1 e2=>?_,?_⟩
  .match i,e1,e2 with
   |0,e1,e2 =>
    cases e1;cases e2;exact⟨P,h,lw⟩
   |i+1,e1,e2=>exact k i t u (by simpa using e1) (by simpa using e2)
  .rw[e];obtain⟨xs,ex⟩:∃xs,plc (left+w) ws=(left+w)::xs:=by cases ws<;>exact⟨_,rfl⟩
   show _=(((left::plc (left+w) ws).zip (((left::plc (left+w) ws)++[right]).drop 1)).map λq=>(⟨q.1,top,q.2,below⟩:Pc));rw[ex];rfl
theorem PcsD.ws{Ls:List R}{left right below:Nat}:∀{ts:List T}{top:Nat}{pcs:List Pc},PcsD Ls left right below ts top pcs->∃ws:List Nat,ws.length+1=ts.length/\(∀(i:Nat)(t:T)(w:Nat),ts[i]?=some t->ws[i]?=some w->∃P,HasR Ls t P/\Low P (right-left) (some w)) /\
  pcs=((plc top ws).zip ((plc top ws++[below]).drop 1)).map λq=>⟨left,q.1,right,q.2⟩
 |_,_,_,.one _ _=>⟨[],rfl,λi t w _ e=>by simp at e,rfl⟩
 |_,top,_,.cons (k:=w) (P:=P) h lw r=>by
  obtain⟨ws,l,k,e⟩:=r.ws;refine⟨w::ws,by simpa using l,λi t u e1 e2=>?_,?_⟩
  .match i,e1,e2 with
   |0,e1,e2 =>
    cases e1;cases e2;exact⟨P,h,lw⟩
   |i+1,e1,e2=>exact k i t u (by simpa using e1) (by simpa using e2)
  .rw[e];obtain⟨xs,ex⟩:∃xs,plc (top+w) ws=(top+w)::xs:=by cases ws<;>exact⟨_,rfl⟩
   show _=(((top::plc (top+w) ws).zip (((top::plc (top+w) ws)++[below]).drop 1)).map λq=>(⟨left,q.1,right,q.2⟩:Pc));rw[ex];rfl
theorem jK(first:Nat):∀ws:List Nat,(plc first ws).length=ws.length+1:=by
 intro ws
 induction ws generalizing first with
 |nil=>rfl
 |cons a r ih=>show(plc (first+a) r).length+1=_;rw[ih,kG]
theorem Wr:∀(ws:List Nat)(first a:Nat),plc first (ws++[a])=plc first ws++[first+ws.sum+a]
 |[],first,a=>by simp[plc]
 |b::r,first,a=>by
  show first::plc (first+b) (r++[a])=first::plc (first+b) r++[first+(b::r).sum+a]
  rw[Wr r,va,<-bF];rfl
theorem Ws:∀(ws:List Nat)(first:Nat),∃xs,plc first ws=xs++[first+ws.sum]
 |[],first=>⟨[],by simp[plc]⟩
 |b::r,first=>by
  obtain⟨xs,e⟩:=Ws r (first+b);exact⟨first::xs,by show first::plc (first+b) r=_;rw[e,va,<-bF];rfl⟩
end _Sta
namespace _L2
open PySem PySem.Spec PyProof.Rows
section
variable{prog:Program}{w:World}{A:Around}{E:Value->Shared->Prop}{s:Shared}
theorem Jn{it t:Addr}{i:Nat}{its:Array Value}{x:Value}{Q:Value->Shared->Prop}(hit:s.heap.IsTupleIter it t i)(ht:s.heap.IsTuple t its)(hx:its[i]?=some x)
  (hQ:∀h',h'.IsTupleIter it t (i+1)->Heap.SameBut it s.heap h'->Q x {s with heap:=h'}):wpAny (model prog w) A (Builtin.SmallTypes.nextOf (.ref it)) Q E s:=by
 obtain⟨o,ho,hc,hd⟩:=id hit;obtain⟨ol,hol,_,nl,hdl⟩:=ht;unfold Builtin.SmallTypes.nextOf;refine wpAny_bind (wpAny_callSpecial?_slot (name:=Str.ofString "__next__") hit.typeIs F.slot_tuple_iterator_next (wpAny_call_entry F.slot_tuple_iterator_next hit.typeIs F.entry_tuple_iterator_next ?_ (F.args_tuple_iterator_next_1 _)));show wpAny _ _ (field (.ref it) 0 >>= _) _ _ s;refine wpAny_bind (wpAny_field ho hd (x:=.ref t) rfl ?_);show wpAny _ _ (if(Value.ref t==Value.none)=true then _ else _) _ _ s;rw[if_neg (show ¬((Value.ref t==Value.none)=true)from kH)];show wpAny _ _ (field (.ref it) 1 >>= _) _ _ s;refine wpAny_bind (wpAny_field ho hd (x:=.int i 0) rfl ?_);show wpAny _ _ (seqItems? (.ref t) >>= _) _ _ s;refine wpAny_bind (wpAny_seqItems hol hdl ?_);simp only[v9,hx];refine wpAny_bind (wpAny_setField ho hd (by simp) (wpAny_pure ⟨x,rfl,wpAny_pure (hQ _ ?_ (Heap.SameBut.update ..))⟩));exact⟨_,Heap.get?_update_self _ ho (Obj.isFreed_of_fields (Obj.data_mapFields hd _)),(Obj.cls_mapFields ..).trans hc,by rw[Obj.data_mapFields hd];simp[rawInt]⟩
theorem zaL{it t:Addr}{i:Nat}{its:Array Value}{Q:Value->Shared->Prop}(hh:A.handled=none)(hit:s.heap.IsTupleIter it t i)(ht:s.heap.IsTuple t its)(hx:its[i]?=none)
  (hE:∀h' e,Heap.ExtBut it s.heap h'->(∃o,h'.get? e=some o/\o.cls=.type "StopIteration")->E (.ref e) {s with heap:=h'}):wpAny (model prog w) A (Builtin.SmallTypes.nextOf (.ref it)) Q E s:=by
 obtain⟨o,ho,hc,hd⟩:=id hit;obtain⟨ol,hol,_,nl,hdl⟩:=ht;unfold Builtin.SmallTypes.nextOf;refine wpAny_bind (wpAny_callSpecial?_slot (name:=Str.ofString "__next__") hit.typeIs F.slot_tuple_iterator_next (wpAny_call_entry F.slot_tuple_iterator_next hit.typeIs F.entry_tuple_iterator_next ?_ (F.args_tuple_iterator_next_1 _)));show wpAny _ _ (field (.ref it) 0 >>= _) _ _ s;refine wpAny_bind (wpAny_field ho hd (x:=.ref t) rfl ?_);show wpAny _ _ (if(Value.ref t==Value.none)=true then _ else _) _ _ s;rw[if_neg (show ¬((Value.ref t==Value.none)=true)from kH)];show wpAny _ _ (field (.ref it) 1 >>= _) _ _ s;refine wpAny_bind (wpAny_field ho hd (x:=.int i 0) rfl ?_);show wpAny _ _ (seqItems? (.ref t) >>= _) _ _ s;refine wpAny_bind (wpAny_seqItems hol hdl ?_);simp only[v9,hx];refine wpAny_bind (wpAny_rule (wpAny_bind (wpAny_setField ho hd (by simp) ?_)));show wpAny _ _ (newExc (.type "StopIteration") [] >>= _) _ _ _;refine wpAny_bind ?_;simp only[newExc,newTuple];refine wpAny_bind (wpAny_newObj_type ?_ (by size_fits));refine wpAny_bind (m:=firstArgMember _ _) (wpAny_of_eq (a:=Value.none) (by first|rfl|(simp only[firstArgMember];rfl)) ?_);refine wpAny_newObj_type ?_ (by size_fits);simp only[raiseNew];refine wpAny_bind (wpAny_handled ?_)
 first|rw[show A.in1.handled=none from hh]|rw[hh]
 refine wpAny_bind (wpAny_pure (wpAny_throw ?_));exact hE _ _ (((Heap.SameBut.update ..).extBut.push _).push _) ⟨_,Heap.get?_push_size _ rfl,rfl⟩
theorem zaM{z TI TO i1 i2 l1 l2:Addr}{k1 k2:Nat}{xs ys:Array Value}{x y a b:Value}{Q:Value->Shared->Prop}(D:ZipApart z TI TO i1 i2 l1 l2)
  (hz:IsZip s.heap z TI TO .none)(hTI:IsPair s.heap TI (.ref i1) (.ref i2))(hTO:IsPair s.heap TO a b)
  (h1:s.heap.IsTupleIter i1 l1 k1)(h2:s.heap.IsListIter i2 l2 k2)(hl1:s.heap.IsTuple l1 xs)(hl2:s.heap.IsList l2 ys)(hx:xs[k1]?=some x)(hy:ys[k2]?=some y)
  (hQ:∀h',IsZip h' z TI TO (rawInt s.heap.objs.size)->IsPair h' TO x y->h'.IsTupleIter i1 l1 (k1+1)->h'.IsListIter i2 l2 (k2+1)->IsPair h' s.heap.objs.size x y->h'.objs.size=s.heap.objs.size+1 ->
   (∀c o,c≠z->c≠TO->c≠i1->c≠i2->s.heap.get? c=some o->h'.get? c=some o)->Q (.ref s.heap.objs.size) {s with heap:=h'}):
  wpAny (model prog w) A (Builtin.«zip.__next__» ⟨[.ref z],[]⟩) (λfin s'=>∃v,fin=.done (.ret v)/\Q v s') E s:=by
 show wpAny _ _ (field (.ref z) 2 >>= _) _ _ _;refine wpAny_bind (wpAny_field hz rfl (x:=.bool false) rfl ?_);show wpAny _ _ (field (.ref z) 3 >>= _) _ _ _;refine wpAny_bind (wpAny_field hz rfl (x:=.ref TI) rfl ?_);refine wpAny_bind (wpAny_seqItems hTI rfl ?_);show wpAny _ _ (Builtin.SmallTypes.ownedTupleIsFree (.ref z) >>= _) _ _ _;refine wpAny_bind ?_;unfold Builtin.SmallTypes.ownedTupleIsFree;refine wpAny_bind (wpAny_field hz rfl (x:=.none) rfl (wpAny_pure ?_));simp only[if_true];refine wpAny_bind (wpAny_rule ?_);refine wpAny_bind (wpAny_field hz rfl (x:=.ref TO) rfl ?_);refine wpAny_bind (wpAny_setField_rec hz (by simp) λg1 hz1 s1=>?_)
 replace hz1:IsZip g1 z TI TO .ellipsis:=hz1
 refine wpAny_bind ?_;simp only[List.zipIdx_cons,List.zipIdx_nil,bJ,List.forIn_nil];refine wpAny_bind (wpAny_bind (wpAny_onRaise ?_));show wpAny _ _ (Builtin.SmallTypes.nextOf (.ref i1) >>= _) _ _ _;refine wpAny_bind (Jn (h1.extBut s1.extBut D.i1z) (hl1.extBut s1.extBut D.l1z) hx λg2 h12 s2=>wpAny_pure ?_);have hTO2:IsPair g2 TO a b:=s2.extBut _ _ D.TOi1 (s1.extBut _ _ D.TOz hTO);refine wpAny_bind (wpAny_seqItems hTO2 rfl ?_);refine wpAny_bind (wpAny_updateSeq_pair hTO2 λg3 hTO3 s3=>?_)
 replace hTO3:IsPair g3 TO x b:=hTO3
 refine wpAny_bind (wpAny_letGo (wpAny_pure ?_));refine wpAny_bind (wpAny_bind (wpAny_onRaise ?_));show wpAny _ _ (Builtin.SmallTypes.nextOf (.ref i2) >>= _) _ _ _;refine wpAny_bind (wpAny_nextOf_list_item (((h2.extBut s1.extBut D.i2z).extBut s2.extBut D.i12.symm).extBut s3.extBut D.TOi2.symm) (((hl2.extBut s1.extBut D.l2z).extBut s2.extBut D.l2i1).extBut s3.extBut D.l2TO) hy λg4 h24 s4=>wpAny_pure ?_);have hTO4:IsPair g4 TO x b:=s4.extBut _ _ D.TOi2 hTO3;refine wpAny_bind (wpAny_seqItems hTO4 rfl ?_);refine wpAny_bind (wpAny_updateSeq_pair hTO4 λg5 hTO5 s5=>?_)
 replace hTO5:IsPair g5 TO x y:=hTO5
 refine wpAny_bind (wpAny_letGo (wpAny_pure (wpAny_pure ?_)));refine wpAny_bind (wpAny_seqItems hTO5 rfl ?_);refine wpAny_bind (wpAny_newTuple ?_);have sz:g5.objs.size=s.heap.objs.size:=by rw[s5.1,s4.1,s3.1,s2.1,s1.1]
 have hz5:IsZip g5 z TI TO .ellipsis:=s5.extBut _ _ D.TOz.symm (s4.extBut _ _ D.i2z.symm (s3.extBut _ _ D.TOz.symm (s2.extBut _ _ D.i1z.symm hz1)));have keep:∀c o,c≠z->c≠TO->c≠i1->c≠i2->s.heap.get? c=some o->g5.get? c=some o:=λc o c1 c2 c3 c4 e=>s5.extBut _ _ c2 (s4.extBut _ _ c4 (s3.extBut _ _ c2 (s2.extBut _ _ c3 (s1.extBut _ _ c1 e))));have h15:g5.IsTupleIter i1 l1 (k1+1):=((h12.extBut s3.extBut D.TOi1.symm).extBut s4.extBut D.i12).extBut s5.extBut D.TOi1.symm;have h25:g5.IsListIter i2 l2 (k2+1):=h24.extBut s5.extBut D.TOi2.symm;have zlt:z<g5.objs.size:=Heap.lt_size hz5;show wpAny _ _ (Builtin.SmallTypes.ownedTupleHandOut (.ref z) (.ref g5.objs.size) >>= _) _ _ _;refine wpAny_bind ?_;unfold Builtin.SmallTypes.ownedTupleHandOut;have hz6:IsZip (g5.push {cls:=.type "tuple",data:=.seq #[x,y]}) z TI TO .ellipsis:=Heap.get?_push_of_some _ hz5;refine wpAny_bind (wpAny_setField_rec hz6 (by simp) λg7 hz7 s7=>?_)
 replace hz7:IsZip g7 z TI TO (rawInt g5.objs.size):=hz7
 refine wpAny_setField_rec hz7 (by simp) λg8 hz8 s8=>?_
 replace hz8:IsZip g8 z TI TO (rawInt g5.objs.size):=hz8
 have up:∀c o,c≠z->g5.get? c=some o->g8.get? c=some o:=λc o c1 e=>s8.extBut _ _ c1 (s7.extBut _ _ c1 (Heap.get?_push_of_some _ e));have hT8:IsPair g8 g5.objs.size x y:=s8.extBut _ _ (uw zlt) (s7.extBut _ _ (uw zlt) (Heap.get?_push_size _ rfl));have sz8:g8.objs.size=g5.objs.size+1:=by rw[s8.1,s7.1,Heap.size_push]
 rw[sz]at hz8 hT8 sz8;refine wpAny_pure ⟨_,rfl,?_⟩;show Q (.ref g5.objs.size) _;rw[sz];exact hQ g8 hz8 (up _ _ D.TOz hTO5) (h15.at λo e=>up _ o D.i1z e) (h25.at λo e=>up _ o D.i2z e) hT8 sz8 λc o c1 c2 c3 c4 e=>up c o c1 (keep c o c1 c2 c3 c4 e)
theorem zb8{z TI TO i1 i2 l1 l2:Addr}{k1:Nat}{xs:Array Value}{a b:Value}{Q:Fin->Shared->Prop}(hh:A.handled=none)(D:ZipApart z TI TO i1 i2 l1 l2)
  (hz:IsZip s.heap z TI TO .none)(hTI:IsPair s.heap TI (.ref i1) (.ref i2))(h1:s.heap.IsTupleIter i1 l1 k1)(hl1:s.heap.IsTuple l1 xs)(hend:xs[k1]?=none)
  (hE:∀h' e,(∀c o,c≠z->c≠i1->s.heap.get? c=some o->h'.get? c=some o)->(∃o,h'.get? e=some o/\o.cls=.type "StopIteration")->E (.ref e) {s with heap:=h'}):
  wpAny (model prog w) A (Builtin.«zip.__next__» ⟨[.ref z],[]⟩) Q E s:=by
 show wpAny _ _ (field (.ref z) 2 >>= _) _ _ _;refine wpAny_bind (wpAny_field hz rfl (x:=.bool false) rfl ?_);show wpAny _ _ (field (.ref z) 3 >>= _) _ _ _;refine wpAny_bind (wpAny_field hz rfl (x:=.ref TI) rfl ?_);refine wpAny_bind (wpAny_seqItems hTI rfl ?_);show wpAny _ _ (Builtin.SmallTypes.ownedTupleIsFree (.ref z) >>= _) _ _ _;refine wpAny_bind ?_;unfold Builtin.SmallTypes.ownedTupleIsFree;refine wpAny_bind (wpAny_field hz rfl (x:=.none) rfl (wpAny_pure ?_));simp only[if_true];refine wpAny_bind (wpAny_rule ?_);refine wpAny_bind (wpAny_field hz rfl (x:=.ref TO) rfl ?_);refine wpAny_bind (wpAny_setField_rec hz (by simp) λg1 hz1 s1=>?_)
 replace hz1:IsZip g1 z TI TO .ellipsis:=hz1
 refine wpAny_bind ?_;simp only[List.zipIdx_cons,List.zipIdx_nil,bJ,List.forIn_nil];refine wpAny_bind (wpAny_bind (wpAny_onRaise ?_));show wpAny _ _ (Builtin.SmallTypes.nextOf (.ref i1) >>= _) _ _ _;refine wpAny_bind (zaL hh (h1.extBut s1.extBut D.i1z) (hl1.extBut s1.extBut D.l1z) hend λg2 e s2 he=>?_);obtain⟨oe,hoe,hce⟩:=he;have hz2:IsZip g2 z TI TO .ellipsis:=s2 _ _ D.i1z.symm hz1;have hez:e≠z:=λx=>by subst x;rw[hz2]at hoe;cases hoe;simp at hce
 exact wpAny_setField_rec hz2 (by simp) λg3 _ s3=>hE g3 e (λc o c1 c3 x=>s3.extBut _ _ c1 (s2 _ _ c3 (s1.extBut _ _ c1 x))) ⟨oe,s3.extBut _ _ hez hoe,hce⟩
theorem Wt{z TI TO i1 i2 l1 l2:Addr}{k1 k2:Nat}{xs ys:Array Value}{x y a b:Value}{Q:Option Value->Shared->Prop}(D:ZipApart z TI TO i1 i2 l1 l2)
  (hz:IsZip s.heap z TI TO .none)(hTI:IsPair s.heap TI (.ref i1) (.ref i2))(hTO:IsPair s.heap TO a b)
  (h1:s.heap.IsTupleIter i1 l1 k1)(h2:s.heap.IsListIter i2 l2 k2)(hl1:s.heap.IsTuple l1 xs)(hl2:s.heap.IsList l2 ys)(hx:xs[k1]?=some x)(hy:ys[k2]?=some y)
  (hQ:∀h',IsZip h' z TI TO (rawInt s.heap.objs.size)->IsPair h' TO x y->h'.IsTupleIter i1 l1 (k1+1)->h'.IsListIter i2 l2 (k2+1)->IsPair h' s.heap.objs.size x y->h'.objs.size=s.heap.objs.size+1 ->
   (∀c o,c≠z->c≠TO->c≠i1->c≠i2->s.heap.get? c=some o->h'.get? c=some o)->Q (some (.ref s.heap.objs.size)) {s with heap:=h'}):wpAny (model prog w) A (pyNext (.ref z)) Q E s:=by
 have hT:s.TypeIs (.ref z) "zip" := ⟨_,hz,rfl⟩;unfold pyNext;exact wpAny_bind (wpAny_attempt (wpAny_callSpecial?_slot (name:=Str.ofString "__next__") hT F.slot_zip_next
  (wpAny_call_entry F.slot_zip_next hT F.entry_zip_next (zaM D hz hTI hTO h1 h2 hl1 hl2 hx hy λh' a1 a2 a3 a4 a5 a6 a7=>wpAny_pure (hQ h' a1 a2 a3 a4 a5 a6 a7)) (F.args_zip_next_1 _))))
theorem WU{z TI TO i1 i2 l1 l2:Addr}{k1:Nat}{xs:Array Value}{Q:Option Value->Shared->Prop}(hh:A.handled=none)(D:ZipApart z TI TO i1 i2 l1 l2)
  (hz:IsZip s.heap z TI TO .none)(hTI:IsPair s.heap TI (.ref i1) (.ref i2))(h1:s.heap.IsTupleIter i1 l1 k1)(hl1:s.heap.IsTuple l1 xs)(hend:xs[k1]?=none)
  (hQ:∀h',(∀c o,c≠z->c≠i1->s.heap.get? c=some o->h'.get? c=some o)->Q none {s with heap:=h'}):wpAny (model prog w) A (pyNext (.ref z)) Q E s:=by
 have hT:s.TypeIs (.ref z) "zip" := ⟨_,hz,rfl⟩;unfold pyNext;refine wpAny_bind (wpAny_attempt (wpAny_callSpecial?_slot (name:=Str.ofString "__next__") hT F.slot_zip_next
  (wpAny_call_entry F.slot_zip_next hT F.entry_zip_next (zb8 (a:=.none) (b:=.none) hh D hz hTI h1 hl1 hend λh' e hk he=>?_) (F.args_zip_next_1 _))))
 obtain⟨o,ho,hc⟩:=he;refine wpAny_bind (wpAny_isInstance (T := "StopIteration") (b:=true) ⟨o,ho,hc⟩ isSubtype_stop ?_);exact wpAny_pure (hQ _ hk)
end
def ItZT(K:PySem.W.Frag)(a b:Addr):It :=
 ⟨λi H=>∃xs ys x y,SqT K H a xs/\SqL K H b ys/\xs[i]?=some x/\ys[i]?=some y,
 λi H x H'=>∃p u v,H p=none/\x=.ref p/\H'=upd H p (.tup [u,v])/\(∀xs,SqT K H a xs->xs[i]?=some u)/\∀ys,SqL K H b ys->ys[i]?=some v,
 λi H=>∃xs ys,SqT K H a xs/\SqL K H b ys/\xs.length<=i⟩
theorem Yh{h:Heap}{a c:Addr}{its:Array Value}{o:Obj}(hl:h.IsTuple a its)(hc:h.get? c=some o)(hn:o.cls≠.type "tuple"):a≠c:=λz=>by
 obtain⟨o',g1,g2,_⟩:=hl;rw[z,hc]at g1;cases g1;exact hn g2
theorem ZF{h:Heap}{z TI TO i1 i2 a b:Addr}{xs ys:Array Value}{k1 k2:Nat}{f0 v u:Value}(D:Dst z TI TO i1 i2)(aTO:a≠TO)(hz:IsZip h z TI TO f0)(hTO:IsPair h TO v u)(h1:h.IsTupleIter i1 a k1)(h2:h.IsListIter i2 b k2)(l1:h.IsTuple a xs)(l2:h.IsList b ys):
  ZipApart z TI TO i1 i2 a b:=by
 obtain⟨o1,e1,c1,_⟩:=h1;obtain⟨o2,e2,c2,_⟩:=h2;exact⟨D.TIz,D.TOz,D.i1z,D.i2z,D.TITO,D.TIi1,D.TIi2,D.TOi1,D.TOi2,D.i12,Yh l1 hz (show Value.type "zip" ≠ .type "tuple" by decide),aTO,Yh l1 e1 (by rw[c1];decide),Yh l1 e2 (by rw[c2];decide),xk l2 hz (show Value.type "zip" ≠ .type "list" by decide),xk l2 hTO (show Value.type "tuple" ≠ .type "list" by decide),xk l2 e1 (by rw[c1];decide),xk l2 e2 (by rw[c2];decide)⟩
theorem zaN{P:Program}{w:World}{K:PySem.W.Frag}{elts:List Expr}{kx:Nat}{px:Pos}(a b z TI TO i1 i2:Addr)(D:Dst z TI TO i1 i2)(aTO:a≠TO):
  Turn P w K (.Tuple elts kx px) (ItZT K a b) [z,TI,TO,i1,i2] z (λi h=>IsZip h z TI TO .none/\IsPair h TI (.ref i1) (.ref i2)/\(∃v u,IsPair h TO v u)/\h.IsTupleIter i1 a i/\h.IsListIter i2 b i) where
 mem:=by simp
 obj:=λi h st c hc=>by
  obtain⟨hz,hTI,⟨v,u,hTO⟩,⟨o1,e1,c1,d1⟩,⟨o2,e2,c2,d2⟩⟩:=st;have hc:c=z\/c=TI\/c=TO\/c=i1\/c=i2:=by simpa using hc
  rcases hc with rfl|rfl|rfl|rfl|rfl
  .exact⟨_,hz,λv y=>by have y':Data.fields _=Data.cell v:=y;cases y'⟩
  .exact⟨_,hTI,λv y=>by have y':Data.seq _=Data.cell v:=y;cases y'⟩
  .exact⟨_,hTO,λv y=>by have y':Data.seq _=Data.cell v:=y;cases y'⟩
  .exact⟨o1,e1,λv y=>by rw[d1]at y;cases y⟩
  .exact⟨o2,e2,λv y=>by rw[d2]at y;cases y⟩
 keep:=λi h h' st k=>by
  obtain⟨hz,hTI,⟨v,u,hTO⟩,h1,h2⟩:=st;exact⟨k z (by simp) _ hz,k TI (by simp) _ hTI,⟨v,u,k TO (by simp) _ hTO⟩,h1.at λo q=>k i1 (by simp) o q,h2.at λo q=>k i2 (by simp) o q⟩
 item:=by
  intro X hP hw hK hc i pins s σ H E I hf st hg;subst hP hw hK;obtain⟨hz,hTI,⟨v0,u0,hTO⟩,h1,h2⟩:=st;obtain⟨xs,ys,x,y,hq1,hq2,hx,hy⟩:=hg;obtain⟨its,rv,tp0,hz1⟩:=I.tuple hq1;have tp:s.heap.IsTuple a its.toArray:=tp0;obtain⟨jts,rw',tq,hz2⟩:=I.list hq2;obtain⟨u,hu,ru⟩:=rv.get hx;obtain⟨v,hv,rv'⟩:=rw'.get hy;have Z:=ZF D aTO hz hTO h1 h2 tp tq.isList;refine Wt Z hz hTI hTO h1 h2 tp tq.isList (x:=u) (y:=v) (by simpa using hu) (by simpa using hv) λh' a1 a2 a3 a4 a5 a6 hk=>?_;refine⟨_,rfl,wpAny_letOwnedTupleGo_zip a1 λh'' hz'' hs=>?_⟩;have lt:∀{c o},s.heap.get? c=some o->s.heap.objs.size≠c:=λe=>uw (Heap.lt_size e);have ne1:=lt hz;have k2:∀c o,c∉[z,TO,i1,i2]->s.heap.get? c=some o->h''.get? c=some o:=λc o m q=>by
   have m:c≠z/\c≠TO/\c≠i1/\c≠i2:=by simpa using m
   exact(hs.2 c m.1).trans (hk c o m.1 m.2.1 m.2.2.1 m.2.2.2 q)
  have I1:Inv X pins σ H {s with heap:=h'',toks:=s.toks}:=I.turnedL (t':=s.toks) k2 λc m=>hf c (by
   have m:c=z\/c=TO\/c=i1\/c=i2:=by simpa using m
   rcases m with rfl|rfl|rfl|rfl<;>simp)
  have hn:H s.heap.objs.size=none:=I.hok.fresh (km _);have FP:=I.fpOk (b:=s.heap.objs.size) (km _) hn;have hT2:h''.get? s.heap.objs.size=some {cls:=.type "tuple",data:=.seq #[u,v]}:=(hs.2 _ ne1).trans a5;have I2:=I1.track (p:=s.heap.objs.size) (o:=.tup [x,y]) hn (Heap.get?_none_of_le I.sz) FP.2.1 FP.2.2.2.2.1 FP.2.2.2.2.2
   ⟨Zz2,[u,v],.cons ru (.cons rv' .nil),⟨_,hT2,rfl,_,rfl⟩⟩
  refine⟨.ref s.heap.objs.size,_,I2,rfl,⟨_,x,y,hn,rfl,rfl,λzs hy'=>?_,λzs hy'=>?_⟩,⟨hz'',(hs.2 _ D.TIz).trans (hk _ _ D.TIz D.TITO D.TIi1 D.TIi2 hTI),⟨_,_,(hs.2 _ D.TOz).trans a2⟩,a3.at λo q=>(hs.2 _ D.i1z).trans q,a4.at λo q=>(hs.2 _ D.i2z).trans q⟩,λc hc=>?_⟩
  .rw[I.tuple_inj hy' hq1];exact hx
  .rw[I.list_inj hy' hq2];exact hy
  .have hb2:c≠s.heap.objs.size:=by
    have m:c=z\/c=TI\/c=TO\/c=i1\/c=i2:=by simpa using hc
    rcases m with rfl|rfl|rfl|rfl|rfl
    .exact ne1.symm
    .exact(lt hTI).symm
    .exact(lt hTO).symm
    .obtain⟨o,g,_⟩:=h1;exact(lt g).symm
    .obtain⟨o,g,_⟩:=h2;exact(lt g).symm
   rw[zN hb2];exact(hf c hc).1
 done:=by
  intro X hP hw hK hc i pins s σ H E I hf st hg;subst hP hw hK;obtain⟨hz,hTI,⟨v0,u0,hTO⟩,h1,h2⟩:=st;obtain⟨xs,ys,hq1,hq2,hx⟩:=hg;obtain⟨its,rv,tp0,hz1⟩:=I.tuple hq1;have tp:s.heap.IsTuple a its.toArray:=tp0;obtain⟨jts,rw',tq,hz2⟩:=I.list hq2;have l1:=rv.length;have l2:=rw'.length;have Z:=ZF D aTO hz hTO h1 h2 tp tq.isList;refine WU (I.ok.hd hc) Z hz hTI h1 tp ?_ λh' hk=>⟨rfl,I.turnedL (t':=s.toks) (ch:=[z,i1]) (λc o m q=>?_) λc m=>hf c ?_⟩
  .simp
   lia
  .have m:c≠z/\c≠i1:=by simpa using m
   exact hk c o m.1 m.2 q
  .have m:c=z\/c=i1:=by simpa using m
   rcases m with rfl|rfl<;>simp
 self:=λ_ _ _ _ _ st h=>wpAny_pyIter_zip st.1 h
def wg(h:Heap)(l1 l2:Addr):Heap:=((((h.push {cls:=.type "tuple_iterator",data:=.fields #[.ref l1,.int 0 0]}).push {cls:=.type "list_iterator",data:=.fields #[.ref l2,.int 0 0]}).push {cls:=.type "tuple",data:=.seq #[.ref h.objs.size,.ref (h.objs.size+1)]}).push {cls:=.type "tuple",data:=.seq #[.none,.none]}).push {cls:=.type "zip",data:=.fields #[.none,.bool false,.bool false,.ref (h.objs.size+2),.ref (h.objs.size+3)]}
theorem Jo(l1 l2:Addr)(xs ys:Array Value):Meets (Builtin.«zip.__new__» ⟨[.type "zip",.ref l1,.ref l2],[]⟩) (λ_ R s=>s.heap.IsTuple l1 xs/\s.heap.IsList l2 ys/\R (.ok (.ret (.ref (s.heap.objs.size+4)))) {s with heap:=wg s.heap l1 l2}) :=
 .of_wp λprog w A R s h=>by
  obtain⟨hp,g,d,tk,os⟩:=s;obtain⟨hl1,hl2,h⟩:=h;have hsub:=sub_zip;have hL1:Heap.IsTuple (Shared.heap ⟨hp,g,d,tk,os⟩) l1 xs:=hl1;have hL2:Heap.IsList (Shared.heap ⟨hp.push {cls:=.type "tuple_iterator",data:=.fields #[.ref l1,.int 0 0]},g,d,tk,os⟩) l2 ys:=Heap.IsList.push hl2 _
  wp_walk using wpAny_pyIter_tuple hL1,wpAny_pyIter_list hL2
  refine⟨_,rfl,?_⟩;have z1:(hp.push {cls:=.type "tuple_iterator",data:=.fields #[.ref l1,.int 0 0]}).objs.size=hp.objs.size+1:=Heap.size_push ..;simp only[Heap.size_push];exact h
section
variable{prog:Program}{w:World}{A:Around}{E:Value->Shared->Prop}{s:Shared}
theorem zaO{l1 l2:Addr}{xs ys:Array Value}{Q:Value->Shared->Prop}(hl1:s.heap.IsTuple l1 xs)(hl2:s.heap.IsList l2 ys)
  (h:∀h',IsZip h' (s.heap.objs.size+4) (s.heap.objs.size+2) (s.heap.objs.size+3) .none->IsPair h' (s.heap.objs.size+2) (.ref s.heap.objs.size) (.ref (s.heap.objs.size+1)) ->
   IsPair h' (s.heap.objs.size+3) .none .none->h'.IsTupleIter s.heap.objs.size l1 0->h'.IsListIter (s.heap.objs.size+1) l2 0->(∀c o,s.heap.get? c=some o->h'.get? c=some o)->Q (.ref (s.heap.objs.size+4)) {s with heap:=h'}):
  wpAny (model prog w) A (call (.type "zip") [.ref l1,.ref l2]) Q E s:=by
 refine callType_new F.called_zip ⋯ (F.typeCall_zip_2 _ _) (F.newCall_zip_2 _ _) (λobj=>F.args_object_init_3 obj _ _) F.entry_zip_new (Jo l1 l2 xs ys) ⟨hl1,hl2,?_⟩;have up:∀{h:Heap}{o:Obj}{c:Addr}{o':Obj},h.get? c=some o'->(h.push o).get? c=some o':=λe=>Heap.get?_push_of_some _ e;have g5:(wg s.heap l1 l2).get? (s.heap.objs.size+4)=some {cls:=.type "zip",data:=.fields #[.none,.bool false,.bool false,.ref (s.heap.objs.size+2),.ref (s.heap.objs.size+3)]}:=by
  unfold wg;have:=Heap.get?_push_size ((((s.heap.push {cls:=.type "tuple_iterator",data:=.fields #[.ref l1,.int 0 0]}).push {cls:=.type "list_iterator",data:=.fields #[.ref l2,.int 0 0]}).push {cls:=.type "tuple",data:=.seq #[.ref s.heap.objs.size,.ref (s.heap.objs.size+1)]}).push {cls:=.type "tuple",data:=.seq #[.none,.none]}) (o:={cls:=.type "zip",data:=.fields #[.none,.bool false,.bool false,.ref (s.heap.objs.size+2),.ref (s.heap.objs.size+3)]}) rfl;simpa only[Heap.size_push]using this
 have g4:(wg s.heap l1 l2).get? (s.heap.objs.size+3)=some {cls:=.type "tuple",data:=.seq #[.none,.none]}:=by
  unfold wg;have:=Heap.get?_push_size (((s.heap.push {cls:=.type "tuple_iterator",data:=.fields #[.ref l1,.int 0 0]}).push {cls:=.type "list_iterator",data:=.fields #[.ref l2,.int 0 0]}).push {cls:=.type "tuple",data:=.seq #[.ref s.heap.objs.size,.ref (s.heap.objs.size+1)]}) (o:={cls:=.type "tuple",data:=.seq #[.none,.none]}) rfl;exact up (by simpa only[Heap.size_push]using this)
 have g3:(wg s.heap l1 l2).get? (s.heap.objs.size+2)=some {cls:=.type "tuple",data:=.seq #[.ref s.heap.objs.size,.ref (s.heap.objs.size+1)]}:=by
  unfold wg;have:=Heap.get?_push_size ((s.heap.push {cls:=.type "tuple_iterator",data:=.fields #[.ref l1,.int 0 0]}).push {cls:=.type "list_iterator",data:=.fields #[.ref l2,.int 0 0]}) (o:={cls:=.type "tuple",data:=.seq #[.ref s.heap.objs.size,.ref (s.heap.objs.size+1)]}) rfl;exact up (up (by simpa only[Heap.size_push]using this))
 have g2:(wg s.heap l1 l2).get? (s.heap.objs.size+1)=some {cls:=.type "list_iterator",data:=.fields #[.ref l2,.int 0 0]}:=by
  unfold wg;have:=Heap.get?_push_size (s.heap.push {cls:=.type "tuple_iterator",data:=.fields #[.ref l1,.int 0 0]}) (o:={cls:=.type "list_iterator",data:=.fields #[.ref l2,.int 0 0]}) rfl;exact up (up (up (by simpa only[Heap.size_push]using this)))
 have g1:(wg s.heap l1 l2).get? s.heap.objs.size=some {cls:=.type "tuple_iterator",data:=.fields #[.ref l1,.int 0 0]}:=up (up (up (up (Heap.get?_push_size _ rfl))));show _/\_;exact⟨⟨_,g5,rfl⟩,h _ g5 g3 g4 ⟨_,g1,rfl,rfl⟩ ⟨_,g2,rfl,rfl⟩ λc o x=>up (up (up (up (up x))))⟩
end
def zgd(K:PySem.W.Frag)(ta:TA):TI:=λσ H R=>ta σ H λvs H1=>∃a b,vs=[.ref a,.ref b]/\(∃xs,SqT K H1 a xs)/\(∃ys,SqL K H1 b ys)/\R (ItZT K a b) H1
theorem zdP{X:Cx}{l r:Expr}{ta:TA}{elts:List Expr}{kx:Nat}{px p pos:Pos}(hg:Gl X "zip")(hm:X.mg "zip"=none)(ha:PA X [l,r] ta)(hs:starEach [l,r] X.env=[(false,eval l X.env),(false,eval r X.env)]:=by rfl)(hs2:starEach [r] X.env=[(false,eval r X.env)]:=by rfl):
  PI X (.Tuple elts kx px) (.Call (.Name "zip" p) [l,r] [] pos) (zgd X.K ta):=by
 intro pins s σ H R I h;refine Call_ (yR I hg hm boot_zip (vB (thn (ha pos pins s σ H _ I h) λus s1 ⟨vs,H1,I1,r1,q1⟩=>?_) (by rw[hs,hs2]) (by rw[hs2];rfl)));obtain⟨a,b,e,⟨xs,hq1⟩,⟨ys,hq2⟩,q⟩:=q1;subst e;cases r1 with
 |cons r rr =>
  cases rr with
  |cons r' rr =>
   cases rr;cases r;cases r';obtain⟨its,rv,tp0,hz1⟩:=I1.tuple hq1;have tp:s1.heap.IsTuple a its.toArray:=tp0;obtain⟨jts,rw',tq,hz2⟩:=I1.list hq2;have alt:a<s1.heap.objs.size:=by
    obtain⟨o,e,_⟩:=tp;exact Heap.lt_size e
   refine zaO tp tq.isList λh' a1 a2 a3 a4 a5 hk=>?_;refine wpAny_pyIter_zip a1 ?_;refine⟨s1.heap.objs.size+4,[s1.heap.objs.size+4,s1.heap.objs.size+2,s1.heap.objs.size+3,s1.heap.objs.size,s1.heap.objs.size+1],_,_,H1,rfl,I1.kept (t':=s1.toks) hk,
    zaN a b _ _ _ _ _ (zal _) (λz=>absurd alt (by rw[z];exact uc.mpr (u5 _ _))),⟨a1,a2,⟨_,_,a3⟩,a4,a5⟩,λc hc=>?_,q⟩
   have m:c=s1.heap.objs.size+4\/c=s1.heap.objs.size+2\/c=s1.heap.objs.size+3\/c=s1.heap.objs.size\/c=s1.heap.objs.size+1:=by simpa using hc
   have le:s1.heap.objs.size<=c:=YI m;exact I1.fpOk le (I1.hok.fresh le)
theorem zb9{K:PySem.W.Frag}{a b:Addr}{xs ys:List V}{g:TG}{tb:TS}{D:Ends}{σ:St}{H:Hp}(Pv:Nat->St->Hp->Prop)(hl:xs.length=ys.length)(h0:Pv 0 σ H)(hq:∀i σ H,i<=xs.length->Pv i σ H->SqT K H a xs/\SqL K H b ys)
  (hs:∀i x y σ H p,xs[i]?=some x->ys[i]?=some y->Pv i σ H->H p=none->g (.ref p) σ (upd H p (.tup [x,y])) λσ2 H2=>tb {D with nx:=Pv (i+1),ct:=Pv (i+1),bk:=D.nx} σ2 H2)(hd:∀σ H,Pv xs.length σ H->D.nx σ H):
  ∃W:Nat->Nat->St->Hp->Prop,(∃m,W 0 m σ H)/\∀i m σ H,W i m σ H ->
   ((ItZT K a b).stop i H/\D.nx σ H)\/((ItZT K a b).go i H/\∃N:St->Hp->Prop,(∀σ' H',N σ' H'->∃m',m'<m/\W (i+1) m' σ' H')/\∀x H',(ItZT K a b).yld i H x H'->g x σ H' λσ2 H2=>tb {D with nx:=N,ct:=N,bk:=D.nx} σ2 H2):=by
 refine⟨λi m σ H=>m=xs.length-i/\i<=xs.length/\Pv i σ H,⟨xs.length,by simp,kN _,h0⟩,?_⟩;rintro i m σ H ⟨rfl,hi,p⟩;obtain⟨z1,z2⟩:=hq i σ H hi p;by_cases hlt:i<xs.length
 .refine .inr ⟨⟨xs,ys,xs[i],ys[i]'(),z1,z2,kc _,kc _⟩,Pv (i+1),λσ' H' p'=>⟨xs.length-(i+1),(),rfl,hlt,p'⟩,λx H' y=>?_⟩;obtain⟨q,u,v,hn,e,e2,y1,y2⟩:=y;subst e e2;exact hs i u v σ H q (y1 xs z1) (y2 ys z2) p hn
 .have e:i=xs.length:=()
  subst e;exact .inl ⟨⟨xs,ys,z1,z2,km _⟩,hd σ H p⟩
end _L2
namespace _JN
open PySem _L2 _Lin _Tre PySem.W
open _Sta (R Ok sbs exch reg OkS OkSs stN HasR zH Low tr Pc PcsA PcsD ya SetL plc)
def nV(m:Nat):V:=.int (m:Int)
def pq(p:Pc):List V:=[nV p.l,nV p.t,nV p.r,nV p.b]
def PcAt(H:Hp)(v:V)(p:Pc):Prop:=∃a,v=.ref a/\H a=some (.tup (pq p))
def yo(H:Hp):List V->List Pc->Prop:=Paired (PcAt H)
theorem PcAt.same{H H':Hp}(S:Same H H'){v:V}{p:Pc}(h:PcAt H v p):PcAt H' v p:=let ⟨a,e,z⟩:=h;⟨a,e,S _ _ z⟩
theorem yo.same{H H':Hp}(S:Same H H'):∀{vs:List V}{ps:List Pc},yo H vs ps->yo H' vs ps
 |_,_,.nil=>.nil
 |_,_,.cons h t=>.cons (h.same S) (yo.same S t)
theorem yo.len{H:Hp}{vs:List V}{ps:List Pc}(h:yo H vs ps):vs.length=ps.length:=Paired.length h
theorem yo.snoc{H:Hp}{vs:List V}{ps:List Pc}{v:V}{p:Pc}(h:yo H vs ps)(r:PcAt H v p):yo H (vs++[v]) (ps++[p]):=Paired.snoc h r
theorem yo.get{H:Hp}:∀{vs:List V}{ps:List Pc}{i:Nat}{v:V},yo H vs ps->vs[i]?=some v->∃p,ps[i]?=some p/\PcAt H v p
 |_,_,_,_,.nil,e=>by simp at e
 |_,_,0,_,.cons r _,e=>by simp at e;subst e;exact⟨_,rfl,r⟩
 |_,_,i+1,v,.cons _ t,e=>by
  obtain⟨p,h1,h2⟩:=yo.get (i:=i) (v:=v) t (by simpa using e);exact⟨p,by simpa using h1,h2⟩
def NpAt(H:Hp)(v:V)(q:Int×Pc):Prop:=∃a u,v=.ref a/\H a=some (.tup [.int q.1,u])/\PcAt H u q.2
def yr(H:Hp):List V->List (Int×Pc)->Prop:=Paired (NpAt H)
theorem NpAt.same{H H':Hp}(S:Same H H'){v:V}{q:Int×Pc}(h:NpAt H v q):NpAt H' v q:=let ⟨a,u,e,z,p⟩:=h;⟨a,u,e,S _ _ z,p.same S⟩
theorem yr.same{H H':Hp}(S:Same H H'):∀{vs:List V}{ps:List (Int×Pc)},yr H vs ps->yr H' vs ps
 |_,_,.nil=>.nil
 |_,_,.cons h t=>.cons (h.same S) (yr.same S t)
theorem yr.len{H:Hp}{vs:List V}{ps:List (Int×Pc)}(h:yr H vs ps):vs.length=ps.length:=Paired.length h
theorem yr.app{H:Hp}:∀{vs us:List V}{ps qs:List (Int×Pc)},yr H vs ps->yr H us qs->yr H (vs++us) (ps++qs)
 |_,_,_,_,.nil,s=>s
 |_,_,_,_,.cons r t,s=>.cons r (yr.app t s)
theorem yr.upd{H:Hp}{l:Addr}{xs:List V}{o':HO}(hl:H l=some (.lst xs)):∀{vs:List V}{ps:List (Int×Pc)},yr H vs ps->yr (upd H l o') vs ps
 |_,_,.nil=>.nil
 |_,_,.cons ⟨a,u,e,z,pa,e2,z2⟩ t=>.cons ⟨a,u,e,by rw[zN (qu z hl (by intro y;cases y))];exact z,pa,e2,by rw[zN (qu z2 hl (by intro y;cases y))];exact z2⟩ (yr.upd hl t)
theorem Wu{ws:List V}(h:1<=ws.length):cutV ws none (some (-1))=ws.dropLast:=by
 unfold cutV;rw[_HT.wK,uK,List.dropLast_eq_take];congr 1;show(if(-1:Int)<0 then(-1+(ws.length:Int)).toNat else min (-1:Int).toNat ws.length)-0=ws.length-1;rw[if_pos ⋯]
 lia
def Yi:Sp:=λvs H Q _=>∃(first last:Nat)(a:Addr)(ws:List Nat),vs=[.int first,.int last,.ref a]/\H a=some (.lst (ws.map nV))/\ws.length<=1000/\∀(l:Addr)(H':Hp),Same H H'->H' l=some (.lst ((plc first ws++[last]).map nV))->Q (.ref l) H'
structure Pts(H H0:Hp)(pa b:Addr)(ps:List T)(Ls:List R):Prop where
 parts:∃ws,H pa=some (.tup ws)/\AtL H ws ps
 xF:∃bvs As,H b=some (.lst bvs)/\yn H0 H bvs As/\OkSs As Ls/\∀A∈As,A.length<=600
 two:2<=ps.length
 good:∃nss,zL ps nss/\nss.flatten.length<=24
 small:∀p∈ps,sz p+3<=96
 sm:Same H0 H
def spPa:Sp:=λvs H Q _=>∃(pa b pp:Addr)(ps:List T)(Ls:List R)(p:Pc)(pcs:List Pc)(H0:Hp),vs=[.ref pa,.ref b,.ref pp]/\Pts H H0 pa b ps Ls/\H pp=some (.tup (pq p))/\p.t<=p.b/\PcsA Ls p.t p.b p.r ps p.l pcs/\∀(l:Addr)(us:List V)(H':Hp),Same H H'->H' l=some (.lst us)->yo H' us pcs->Q (.ref l) H'
def spPd:Sp:=λvs H Q _=>∃(pa b pp:Addr)(ps:List T)(Ls:List R)(p:Pc)(pcs:List Pc)(H0:Hp),vs=[.ref pa,.ref b,.ref pp]/\Pts H H0 pa b ps Ls/\H pp=some (.tup (pq p))/\p.l<=p.r/\PcsD Ls p.l p.r p.b ps p.t pcs/\∀(l:Addr)(us:List V)(H':Hp),Same H H'->H' l=some (.lst us)->yo H' us pcs->Q (.ref l) H'
section
variable{P:Program}{w:World}{K:PySem.W.Frag}{mg:Str->Option Value}{base:Heap}{kA:Addr}
theorem Yj:zu ["first","last","lengths","places","length"] ["first","last","lengths"] (zl X9):=by trivial
theorem zca{f:Addr}{fd:FuncData}(F:Fun K "edges" "edges" X9 f fd):FnOk P w K mg base CX0 1 f fd ["first","last","lengths"] Yi:=by
 refine F.ok Yj (λvs H Q E h=>?_) (λcdv A outer s H vs Q E hr h=>?_)
 .refine E_4 h λfirst last a ws n8=>A_2 n8 λe9 _=>?_;clear n8 h;subst e9
  rfl
 .refine E_4 h λfirst last a ws n8=>A_4 n8 λe9 ha hn q=>?_;clear n8 h;subst e9
  refine⟨_,(ze (zB (i:=3) Yj.nd rfl (Or.inl rfl) (yh (za (pv 0) zb)))
   (ze (yS PassesOwn.never rfl (zV (pv 2)) (zt (i:=4) Yj.nd rfl (Or.inl rfl))
   (zf (yw (xw vj vQ vR xr (pv 3) (za (zK yL (zm yc (pv 3) (wX wk zk) (λ_ _=>rfl)) (pv 4)) zb)))))
   (zf (zo (zK q8 (pv 3) (yh (za (pv 1) zb))))))),?_⟩
  refine⟨_,rfl,Zz1,λl nl=>?_⟩;have S1:=zd (o:=.lst [nV first]) nl;have hl1:(upd H l (.lst [nV first])) l=some (.lst ((plc first []).map nV)):=zc;change tSeq _ _ _ _ (upd H l (.lst [nV first]));generalize upd H l (.lst [nV first])=H1 at S1 hl1;refine run_seq ⟨_,rfl,a,rfl,⟨_,SqL.of (S1 _ _ ha)⟩,?_⟩;refine xp (K:=K) (a:=a) (xs:=ws.map nV) (λi σ H2=>∃o:Option V,σ=[some (.int first),some (.int last),some (.ref a),some (.ref l),o]/\Same H H2/\H2 l=some (.lst ((plc first (ws.take i)).map nV))) ⟨none,rfl,S1,hl1⟩ (λi σ H2 _ h9=>by obtain⟨_,_,S,_⟩:=h9;exact(SqL.of (S _ _ ha))) ?_ ?_
  .intro i v σ H2 hi h8;refine E_1 h8 λo n8=>A_3 n8 λe9 S2 hl2=>?_;clear n8 h8;subst e9;rw[kM]at hi;obtain⟨m,hm,rfl⟩:=kZ.mp hi;obtain⟨hil,ev⟩:=kf.mp hm;refine zJ ?_;obtain⟨xs,ex⟩:=_Sta.Ws (ws.take i) first
   have lp:=_Sta.jK first (ws.take i)
   rw[kQ]at lp;have hl3:H2 l=some (.lst (xs.map nV++[nV (first+(ws.take i).sum)])):=by rw[hl2,ex,kF];rfl
   refine⟨_,rfl,.inl ⟨rfl,_,SqL.of hl3⟩,_,rfl,1,rfl,l,_,_,_,rfl,rfl,SqL.of hl3,jY _ _,_,rfl,_,_,rfl,rfl,l,_,_,rfl,rfl,hl2,by rw[ke];exact vC (show _<=2000 by lia) ⋯,?_⟩;refine⟨_,rfl,yu S2 nl,?_⟩;rw[zc,<-kC hil,ev,_Sta.Wr,kF];show some (HO.lst (_++[V.int (((first+(ws.take i).sum:Nat):Int)+(m:Int))]))=some (HO.lst (_++[V.int (((first+(ws.take i).sum+m:Nat)):Int)]));rw[show(((first+(ws.take i).sum:Nat):Int)+(m:Int))=(((first+(ws.take i).sum+m:Nat)):Int)by lia]
  .intro σ H2 h8;refine E_1 h8 λo n8=>A_3 n8 λe9 S2 hl2=>?_;clear n8 h8;subst e9;rw[ke,kJ]at hl2;refine⟨_,rfl,_,rfl,Zz1,λp1 np1=>?_⟩;have S3:=zd (o:=.lst [nV last]) np1;have hp1:(upd H2 p1 (.lst [nV last])) p1=some (.lst [nV last]):=zc;change rCat _ _ (upd H2 p1 (.lst [nV last])) _;generalize upd H2 p1 (.lst [nV last])=H3 at S3 hp1;have lp:=_Sta.jK first ws
   refine I_4 l p1 _ _ ⟨rfl,rfl,S3 _ _ hl2,hp1,by rw[ke,lp];exact kw (show ws.length+1+[nV last].length<=2000 by simp;lia) ⋯,λp2 np2=>?_⟩;have e:(plc first ws).map nV++[nV last]=(plc first ws++[last]).map nV:=by rw[kF];rfl
   rw[e];exact q p2 _ (S2.trans (S3.trans (zd np2))) zc
theorem scPa:zu ["parts","stairs","piece","high","widths","places"] ["parts","stairs","piece"] (zl sPa):=by trivial
theorem zge{f fN fS fE:Addr}{fd dN dS dE:FuncData}(F:Fun K "pieces_across" "pieces_across" sPa f fd)(gLEFT:GI mg "LEFT" 0)(gTOP:GI mg "TOP" 1)(gRIGHT:GI mg "RIGHT" 2)(gBELOW:GI mg "BELOW" 3)(tzip:mg "zip"=none)(Na:Callee P w K mg base CX0 1 "narrowest" fN dN ["stairs","high"] Wm)
  (So:Callee P w K mg base CX0 27 "stairs_of" fS dS ["tree","boxes"] (spSo 24))(Ed:Callee P w K mg base CX0 1 "edges" fE dE ["first","last","lengths"] Yi):FnOk P w K mg base CX0 28 f fd ["parts","stairs","piece"] spPa:=by
 refine F.ok scPa (λvs H Q E h=>?_) (λcdv A outer s H vs Q E hr h=>?_)
 .refine E_8 h λpa b pp ps Ls p pcs H0 n8=>A_2 n8 λe9 _=>?_;clear n8 h;subst e9;rfl
 .refine E_8 h λpa b pp ps Ls p pcs H0 n8=>A_6 n8 λe9 hP hpp htb hA q=>?_;clear n8 h;subst e9;refine⟨_,(ze (zB (i:=3) scPa.nd rfl (Or.inr rfl) (zK xq (zm zw (pv 2) (zx rfl gBELOW) (λ_ _=>rfl)) (zm zw (pv 2) (zx rfl gTOP) (λ_ _=>rfl))))
   (ze (qh (i:=4) (Nc:=["part","high","stairs"]) (ix:=[none,some 3,some 1]) scPa.nd rfl (Or.inl rfl) rfl rfl (by exact(xT (yp J0 (pv 0) yJ (yx (wX wk zk))))) (λ_ _ _ _ _=>(zt (i:=0) (by show(["part","high","stairs"]:List Str).Nodup;decide +kernel) rfl (Or.inl rfl))) (λ_ _ _ _ _=>zP) (λ_ _ _ _ _=>(zg Na.ok (hr.mono ⋯) rfl Na.bound Na.kp Na.bd .nil zr (za (zg So.ok hr rfl So.bound So.kp So.bd .nil zr (za (pv 0) (za (pv 2) zb))) (za (pv 1) zb)))))
   (ze (zB (i:=5) scPa.nd rfl (Or.inl rfl) (zg Ed.ok (hr.mono ⋯) rfl Ed.bound Ed.kp Ed.bd .nil zr (za (zm zw (pv 2) (zx rfl gLEFT) (λ_ _=>rfl)) (za (zm zw (pv 2) (zx rfl gRIGHT) (λ_ _=>rfl)) (za (pv 4) zb)))))
   (zf (zo (zQ (Nc:=["left","right","piece"]) (ix:=[none,none,some 2]) rfl rfl (by exact(qk rfl tzip (za (pv 5) (za (yp yQ (pv 5) (yx zk) yJ) zb)))) (λ_ _ _ _ _=>(xO (K:=K) (n:=2) rfl rfl (zR (zt (i:=0) (by show(["left","right","piece"]:List Str).Nodup;decide +kernel) rfl (Or.inl rfl)) (zR (zt (i:=1) (by show(["left","right","piece"]:List Str).Nodup;decide +kernel) rfl (Or.inl rfl)) yB)))) (λ_ _ _ _ _=>zP) (λ_ _ _ _ _=>(ye (za (pv 0) (za (zm (z7 (K:=K) rfl) (pv 2) (zx rfl gTOP) (λ_ _=>rfl)) (za (pv 1) (za (zm (z7 (K:=K) rfl) (pv 2) (zx rfl gBELOW) (λ_ _=>rfl)) zb)))))))))))),?_⟩
  obtain⟨ws,hpa,hQ⟩:=hP.parts;obtain⟨bvs,As,hb,hB,hO,h600⟩:=hP.xF;obtain⟨nss,hG,n24⟩:=hP.good;have lq:=hQ.len;have two:=hP.two;have l24:ps.length<=24:=kw hG.le n24;obtain⟨wl,lw,hw,epc⟩:=hA.ws;refine xx (v:=.int ((p.b-p.t:Nat):Int)) (by
   rw[show((p.b-p.t:Nat):Int)=(p.b:Int)-(p.t:Int)by lia];exact zT (zE (zh rfl) zC (SqT.of hpp) rfl) (zE (zh rfl) zC (SqT.of hpp) rfl)) ?_
  refine⟨_,rfl,1,rfl,_,rfl,pa,ws,rfl,SqT.of hpa,?_,λpc nc=>?_⟩
  .rw[_HT.wK];show ¬(0=0/\(if(-1:Int)<0 then(-1+(ws.length:Int)).toNat else min (-1:Int).toNat ws.length)=ws.length);rw[if_pos ⋯]
   lia
  rw[Wu ()];have S1:=zd (o:=.tup ws.dropLast) nc;have hpc:(upd H pc (.tup ws.dropLast)) pc=some (.tup ws.dropLast):=zc;generalize upd H pc (.tup ws.dropLast)=H1 at S1 hpc;have ldl:ws.dropLast.length=wl.length:=by rw[uZ];lia
  refine⟨pc,rfl,⟨_,SqT.of hpc⟩,xN (K:=K) (a:=pc) (xs:=ws.dropLast) (λi ys σ H2=>ys=(wl.take i).map nV/\Same H1 H2/\∃o,σ=[o,some (.int ((p.b-p.t:Nat):Int)),some (.ref b)]) ⟨rfl,Same.refl _,none,rfl⟩
   (λi ys σ H2 hi h9=>by obtain⟨e,S,_⟩:=h9;exact(⟨by rw[e,ke,kQ];exact kw (show _<=1000 by lia) ⋯,SqT.of (S _ _ hpc)⟩)) ?_ ?_⟩
  case refine_2 =>
   rintro i y ys σ H2 hy ⟨rfl,S2,o,rfl⟩;have hi:=(kf.mp hy).1;have hy':ws[i]?=some y:=by
    rw[kc hi,List.getElem_dropLast]at hy;rw[kc ()];exact hy
   obtain⟨tp,ep,hAp⟩:=hQ.get hy';have pm:tp∈ps:=ky ep;obtain⟨np,enp,gp⟩:=hG.get ep;have hiw:i<wl.length:=()
   obtain⟨P1,hP1,low1⟩:=hw i tp _ ep (kc hiw);have ln:=x6 (ky enp);have S12:=S1.trans S2;dsimp only[zU,tYes];refine iteT ?_;refine⟨_,rfl,_,rfl,y,tp,np,b,bvs,As,Ls,P1,H0,rfl,hAp.same S12,gp,hP1,S12 _ _ hb,hB.same S12,hO,h600,(),by have:=hP.small tp pm;omega,⋯,hP.sm.trans S12,λl us A1 H3 S3 nl hl hs oA lA=>?_⟩;refine⟨_,rfl,l,us,A1,p.b-p.t,rfl,hl,hs,(),λo4 H4 S4 low4=>?_⟩;have e4:o4=some wl[i]:=Low.uniq (low4.of (P:=tr (reg A1)) (Q:=tr P1) λw k=>oA.2 k w) low1;subst e4;refine⟨?_,S2.trans (S3.trans S4),_,rfl⟩;rw[<-kC hiw,kF];rfl
  rintro ys σ H2 ⟨rfl,S2,_⟩ lw1 nlw;rw[ldl,kJ];have S3:=S1.trans (S2.trans (zd (o:=.lst (wl.map nV)) nlw));have hlw:(upd H2 lw1 (.lst (wl.map nV))) lw1=some (.lst (wl.map nV)):=zc;generalize upd H2 lw1 (.lst (wl.map nV))=H3 at S3 hlw
  try dsimp only
  have hpp3:=S3 _ _ hpp;refine⟨_,rfl,pp,_,_,_,rfl,rfl,SqT.of hpp3,rfl,_,rfl,pp,_,_,_,rfl,rfl,SqT.of hpp3,rfl,_,rfl,p.l,p.r,lw1,wl,rfl,hlw,(),λlp H4 S4 hlp=>?_⟩;have S34:=S3.trans S4;have hpp4:=S4 _ _ hpp3;refine⟨_,rfl,_,rfl,_,rfl,lp,_,rfl,SqL.of hlp,λl2 nl2=>?_⟩;have pl:=_Sta.jK p.l wl;have ec:cutV ((plc p.l wl++[p.r]).map nV) (some 1) none=((plc p.l wl++[p.r]).drop 1).map nV:=by
   have:=y8 ((plc p.l wl++[p.r]).map nV) 1 (by rw[ke,kt];simp);rw[bh];exact this
  rw[ec];have S5:=zd (o:=.lst (((plc p.l wl++[p.r]).drop 1).map nV)) nl2;have hl2:(upd H4 l2 (.lst (((plc p.l wl++[p.r]).drop 1).map nV))) l2=some (.lst (((plc p.l wl++[p.r]).drop 1).map nV)):=zc;have hlp5:=S5 _ _ hlp;have hpp5:=S5 _ _ hpp4;generalize upd H4 l2 (.lst (((plc p.l wl++[p.r]).drop 1).map nV))=H5 at S5 hl2 hlp5 hpp5;have lmin:min ((plc p.l wl++[p.r]).map nV).length (((plc p.l wl++[p.r]).drop 1).map nV).length=wl.length+1:=by
   rw[ke,ke,vk,kt,pl];simp
  have lz:((plc p.l wl).zip ((plc p.l wl++[p.r]).drop 1)).length=wl.length+1:=by
   rw[uC,vk,kt,pl];simp
  refine⟨lp,l2,rfl,⟨_,SqL.of hlp5⟩,⟨_,SqL.of hl2⟩,ql (K:=K) (a:=lp) (b:=l2) (xs:=(plc p.l wl++[p.r]).map nV) (ys:=((plc p.l wl++[p.r]).drop 1).map nV) (λi ys σ H6=>yo H6 ys ((((plc p.l wl).zip ((plc p.l wl++[p.r]).drop 1)).take i).map λq=>⟨q.1,p.t,q.2,p.b⟩)/\Same H5 H6/\∃o o2,σ=[o,o2,some (.ref pp)]) ⟨.nil,Same.refl _,none,none,rfl⟩
   (λi ys σ H6 hi h9=>by obtain⟨e,S,_⟩:=h9;exact(⟨by rw[e.len,ke,kQ];exact kw (show _<=1000 by lia) ⋯,SqL.of (S _ _ hlp5),SqL.of (S _ _ hl2)⟩)) ?_ ?_⟩
  case refine_2 =>
   intro i x y ys σ H6 tpa hx hy h8 ntp;refine A_3 h8 λhY S6 n8=>E_2 n8 λo o2 e9=>?_;clear n8 h8;subst e9;rw[kM]at hx hy;obtain⟨x1,hx1,rfl⟩:=kZ.mp hx;obtain⟨y1,hy1,rfl⟩:=kZ.mp hy;have hil:i<wl.length+1:=by
    have:=(kf.mp hy1).1;rw[vk,kt,pl]at this;simp at this;omega
   have hx2:(plc p.l wl)[i]?=some x1:=by
    rw[ui ()]at hx1;exact hx1
   have St:=zd (o:=.tup [nV x1,nV y1]) ntp;have hpp6:=S6 _ _ hpp5;refine⟨tpa,_,rfl,SqT.of zc,rfl,_,_,rfl,_,_,rfl,rfl,?_⟩;dsimp only[zU,tYes];refine iteT ?_;generalize upd H6 tpa (.tup [nV x1,nV y1])=H7 at St;have hpp7:=St _ _ hpp6;refine wN (v1:=nV x1) (v2:=nV p.t) (v3:=nV y1) (v4:=nV p.b) (zh rfl) (zE (zh rfl) zC (SqT.of hpp7) rfl) (zh rfl) (zE (zh rfl) zC (SqT.of hpp7) rfl) (λtq ntq=>?_);have Sq:=zd (o:=.tup [nV x1,nV p.t,nV y1,nV p.b]) ntq;refine⟨?_,S6.trans (St.trans Sq),_,_,rfl⟩;have ez:((plc p.l wl).zip ((plc p.l wl++[p.r]).drop 1))[i]?=some (x1,y1):=uj.mpr ⟨hx2,hy1⟩;obtain⟨hzl,evz⟩:=kf.mp ez;rw[<-kC hzl,evz,kF];exact(hY.same (St.trans Sq)).snoc ⟨tq,rfl,zc⟩
  rintro ys σ H6 ⟨hY,S6,_⟩ lr nlr;rw[lmin,<-lz,kJ,<-epc]at hY;exact q lr ys _ (S34.trans (S5.trans (S6.trans (zd nlr)))) zc (hY.same (zd nlr))
end
section
variable{P:Program}{w:World}{K:PySem.W.Frag}{mg:Str->Option Value}{base:Heap}{kA:Addr}
theorem scPd:zu ["parts","stairs","piece","wide","heights","places"] ["parts","stairs","piece"] (zl sPd):=by trivial
theorem zgf{f fN fS fE:Addr}{fd dN dS dE:FuncData}(F:Fun K "pieces_down" "pieces_down" sPd f fd)(gLEFT:GI mg "LEFT" 0)(gTOP:GI mg "TOP" 1)(gRIGHT:GI mg "RIGHT" 2)(gBELOW:GI mg "BELOW" 3)(tzip:mg "zip"=none)(Lo:Callee P w K mg base CX0 1 "lowest" fN dN ["stairs","wide"] Jm)
  (So:Callee P w K mg base CX0 27 "stairs_of" fS dS ["tree","boxes"] (spSo 24))(Ed:Callee P w K mg base CX0 1 "edges" fE dE ["first","last","lengths"] Yi):FnOk P w K mg base CX0 28 f fd ["parts","stairs","piece"] spPd:=by
 refine F.ok scPd (λvs H Q E h=>?_) (λcdv A outer s H vs Q E hr h=>?_)
 .refine E_8 h λpa b pp ps Ls p pcs H0 n8=>A_2 n8 λe9 _=>?_;clear n8 h;subst e9;rfl
 .refine E_8 h λpa b pp ps Ls p pcs H0 n8=>A_6 n8 λe9 hP hpp htb hA q=>?_;clear n8 h;subst e9;refine⟨_,(ze (zB (i:=3) scPd.nd rfl (Or.inr rfl) (zK xq (zm zw (pv 2) (zx rfl gRIGHT) (λ_ _=>rfl)) (zm zw (pv 2) (zx rfl gLEFT) (λ_ _=>rfl))))
   (ze (qh (i:=4) (Nc:=["part","wide","stairs"]) (ix:=[none,some 3,some 1]) scPd.nd rfl (Or.inl rfl) rfl rfl (by exact(xT (yp J0 (pv 0) yJ (yx (wX wk zk))))) (λ_ _ _ _ _=>(zt (i:=0) (by show(["part","wide","stairs"]:List Str).Nodup;decide +kernel) rfl (Or.inl rfl))) (λ_ _ _ _ _=>zP) (λ_ _ _ _ _=>(zg Lo.ok (hr.mono ⋯) rfl Lo.bound Lo.kp Lo.bd .nil zr (za (zg So.ok hr rfl So.bound So.kp So.bd .nil zr (za (pv 0) (za (pv 2) zb))) (za (pv 1) zb)))))
   (ze (zB (i:=5) scPd.nd rfl (Or.inl rfl) (zg Ed.ok (hr.mono ⋯) rfl Ed.bound Ed.kp Ed.bd .nil zr (za (zm zw (pv 2) (zx rfl gTOP) (λ_ _=>rfl)) (za (zm zw (pv 2) (zx rfl gBELOW) (λ_ _=>rfl)) (za (pv 4) zb)))))
   (zf (zo (zQ (Nc:=["top","below","piece"]) (ix:=[none,none,some 2]) rfl rfl (by exact(qk rfl tzip (za (pv 5) (za (yp yQ (pv 5) (yx zk) yJ) zb)))) (λ_ _ _ _ _=>(xO (K:=K) (n:=2) rfl rfl (zR (zt (i:=0) (by show(["top","below","piece"]:List Str).Nodup;decide +kernel) rfl (Or.inl rfl)) (zR (zt (i:=1) (by show(["top","below","piece"]:List Str).Nodup;decide +kernel) rfl (Or.inl rfl)) yB)))) (λ_ _ _ _ _=>zP) (λ_ _ _ _ _=>(ye (za (zm (z7 (K:=K) rfl) (pv 2) (zx rfl gLEFT) (λ_ _=>rfl)) (za (pv 0) (za (zm (z7 (K:=K) rfl) (pv 2) (zx rfl gRIGHT) (λ_ _=>rfl)) (za (pv 1) zb)))))))))))),?_⟩
  obtain⟨ws,hpa,hQ⟩:=hP.parts;obtain⟨bvs,As,hb,hB,hO,h600⟩:=hP.xF;obtain⟨nss,hG,n24⟩:=hP.good;have lq:=hQ.len;have two:=hP.two;have l24:ps.length<=24:=kw hG.le n24;obtain⟨wl,lw,hw,epc⟩:=hA.ws;refine xx (v:=.int ((p.r-p.l:Nat):Int)) (by
   rw[show((p.r-p.l:Nat):Int)=(p.r:Int)-(p.l:Int)by lia];exact zT (zE (zh rfl) zC (SqT.of hpp) rfl) (zE (zh rfl) zC (SqT.of hpp) rfl)) ?_
  refine⟨_,rfl,1,rfl,_,rfl,pa,ws,rfl,SqT.of hpa,?_,λpc nc=>?_⟩
  .rw[_HT.wK];show ¬(0=0/\(if(-1:Int)<0 then(-1+(ws.length:Int)).toNat else min (-1:Int).toNat ws.length)=ws.length);rw[if_pos ⋯]
   lia
  rw[Wu ()];have S1:=zd (o:=.tup ws.dropLast) nc;have hpc:(upd H pc (.tup ws.dropLast)) pc=some (.tup ws.dropLast):=zc;generalize upd H pc (.tup ws.dropLast)=H1 at S1 hpc;have ldl:ws.dropLast.length=wl.length:=by rw[uZ];lia
  refine⟨pc,rfl,⟨_,SqT.of hpc⟩,xN (K:=K) (a:=pc) (xs:=ws.dropLast) (λi ys σ H2=>ys=(wl.take i).map nV/\Same H1 H2/\∃o,σ=[o,some (.int ((p.r-p.l:Nat):Int)),some (.ref b)]) ⟨rfl,Same.refl _,none,rfl⟩
   (λi ys σ H2 hi h9=>by obtain⟨e,S,_⟩:=h9;exact(⟨by rw[e,ke,kQ];exact kw (show _<=1000 by lia) ⋯,SqT.of (S _ _ hpc)⟩)) ?_ ?_⟩
  case refine_2 =>
   rintro i y ys σ H2 hy ⟨rfl,S2,o,rfl⟩;have hi:=(kf.mp hy).1;have hy':ws[i]?=some y:=by
    rw[kc hi,List.getElem_dropLast]at hy;rw[kc ()];exact hy
   obtain⟨tp,ep,hAp⟩:=hQ.get hy';have pm:tp∈ps:=ky ep;obtain⟨np,enp,gp⟩:=hG.get ep;have hiw:i<wl.length:=()
   obtain⟨P1,hP1,low1⟩:=hw i tp _ ep (kc hiw);have ln:=x6 (ky enp);have S12:=S1.trans S2;dsimp only[zU,tYes];refine iteT ?_;refine⟨_,rfl,_,rfl,y,tp,np,b,bvs,As,Ls,P1,H0,rfl,hAp.same S12,gp,hP1,S12 _ _ hb,hB.same S12,hO,h600,(),by have:=hP.small tp pm;omega,⋯,hP.sm.trans S12,λl us A1 H3 S3 nl hl hs oA lA=>?_⟩;refine⟨_,rfl,l,us,A1,p.r-p.l,rfl,hl,hs,(),λo4 H4 S4 low4=>?_⟩;have e4:o4=some wl[i]:=Low.uniq (low4.of (P:=reg A1) (Q:=P1) λw k=>oA.2 w k) low1;subst e4;refine⟨?_,S2.trans (S3.trans S4),_,rfl⟩;rw[<-kC hiw,kF];rfl
  rintro ys σ H2 ⟨rfl,S2,_⟩ lw1 nlw;rw[ldl,kJ];have S3:=S1.trans (S2.trans (zd (o:=.lst (wl.map nV)) nlw));have hlw:(upd H2 lw1 (.lst (wl.map nV))) lw1=some (.lst (wl.map nV)):=zc;generalize upd H2 lw1 (.lst (wl.map nV))=H3 at S3 hlw
  try dsimp only
  have hpp3:=S3 _ _ hpp;refine⟨_,rfl,pp,_,_,_,rfl,rfl,SqT.of hpp3,rfl,_,rfl,pp,_,_,_,rfl,rfl,SqT.of hpp3,rfl,_,rfl,p.t,p.b,lw1,wl,rfl,hlw,(),λlp H4 S4 hlp=>?_⟩;have S34:=S3.trans S4;have hpp4:=S4 _ _ hpp3;refine⟨_,rfl,_,rfl,_,rfl,lp,_,rfl,SqL.of hlp,λl2 nl2=>?_⟩;have pl:=_Sta.jK p.t wl;have ec:cutV ((plc p.t wl++[p.b]).map nV) (some 1) none=((plc p.t wl++[p.b]).drop 1).map nV:=by
   have:=y8 ((plc p.t wl++[p.b]).map nV) 1 (by rw[ke,kt];simp);rw[bh];exact this
  rw[ec];have S5:=zd (o:=.lst (((plc p.t wl++[p.b]).drop 1).map nV)) nl2;have hl2:(upd H4 l2 (.lst (((plc p.t wl++[p.b]).drop 1).map nV))) l2=some (.lst (((plc p.t wl++[p.b]).drop 1).map nV)):=zc;have hlp5:=S5 _ _ hlp;have hpp5:=S5 _ _ hpp4;generalize upd H4 l2 (.lst (((plc p.t wl++[p.b]).drop 1).map nV))=H5 at S5 hl2 hlp5 hpp5;have lmin:min ((plc p.t wl++[p.b]).map nV).length (((plc p.t wl++[p.b]).drop 1).map nV).length=wl.length+1:=by
   rw[ke,ke,vk,kt,pl];simp
  have lz:((plc p.t wl).zip ((plc p.t wl++[p.b]).drop 1)).length=wl.length+1:=by
   rw[uC,vk,kt,pl];simp
  refine⟨lp,l2,rfl,⟨_,SqL.of hlp5⟩,⟨_,SqL.of hl2⟩,ql (K:=K) (a:=lp) (b:=l2) (xs:=(plc p.t wl++[p.b]).map nV) (ys:=((plc p.t wl++[p.b]).drop 1).map nV) (λi ys σ H6=>yo H6 ys ((((plc p.t wl).zip ((plc p.t wl++[p.b]).drop 1)).take i).map λq=>⟨p.l,q.1,p.r,q.2⟩)/\Same H5 H6/\∃o o2,σ=[o,o2,some (.ref pp)]) ⟨.nil,Same.refl _,none,none,rfl⟩
   (λi ys σ H6 hi h9=>by obtain⟨e,S,_⟩:=h9;exact(⟨by rw[e.len,ke,kQ];exact kw (show _<=1000 by lia) ⋯,SqL.of (S _ _ hlp5),SqL.of (S _ _ hl2)⟩)) ?_ ?_⟩
  case refine_2 =>
   intro i x y ys σ H6 tpa hx hy h8 ntp;refine A_3 h8 λhY S6 n8=>E_2 n8 λo o2 e9=>?_;clear n8 h8;subst e9;rw[kM]at hx hy;obtain⟨x1,hx1,rfl⟩:=kZ.mp hx;obtain⟨y1,hy1,rfl⟩:=kZ.mp hy;have hil:i<wl.length+1:=by
    have:=(kf.mp hy1).1;rw[vk,kt,pl]at this;simp at this;omega
   have hx2:(plc p.t wl)[i]?=some x1:=by
    rw[ui ()]at hx1;exact hx1
   have St:=zd (o:=.tup [nV x1,nV y1]) ntp;have hpp6:=S6 _ _ hpp5;refine⟨tpa,_,rfl,SqT.of zc,rfl,_,_,rfl,_,_,rfl,rfl,?_⟩;dsimp only[zU,tYes];refine iteT ?_;generalize upd H6 tpa (.tup [nV x1,nV y1])=H7 at St;have hpp7:=St _ _ hpp6;refine wN (v1:=nV p.l) (v2:=nV x1) (v3:=nV p.r) (v4:=nV y1) (zE (zh rfl) zC (SqT.of hpp7) rfl) (zh rfl) (zE (zh rfl) zC (SqT.of hpp7) rfl) (zh rfl) (λtq ntq=>?_);have Sq:=zd (o:=.tup [nV p.l,nV x1,nV p.r,nV y1]) ntq;refine⟨?_,S6.trans (St.trans Sq),_,_,rfl⟩;have ez:((plc p.t wl).zip ((plc p.t wl++[p.b]).drop 1))[i]?=some (x1,y1):=uj.mpr ⟨hx2,hy1⟩;obtain⟨hzl,evz⟩:=kf.mp ez;rw[<-kC hzl,evz,kF];exact(hY.same (St.trans Sq)).snoc ⟨tq,rfl,zc⟩
  rintro ys σ H6 ⟨hY,S6,_⟩ lr nlr;rw[lmin,<-lz,kJ,<-epc]at hY;exact q lr ys _ (S34.trans (S5.trans (S6.trans (zd nlr)))) zc (hY.same (zd nlr))
def spPo:Sp:=λvs H Q _=>∃(x:V)(k:Str)(b pp:Addr)(ps:List T)(nss:List (List Int))(bvs:List V)(As:List Stc)(Ls:List R)(p:Pc)(pcs:List Pc)(H0:Hp),vs=[x,.ref b,.ref pp]/\At H x (.tup [.str k,.tup ps])/\zL ps nss/\nss.flatten.length<=24/\2<=ps.length/\sz (.tup [.str k,.tup ps])<=96/\H b=some (.lst bvs)/\yn H0 H bvs As/\OkSs As Ls/\(∀A∈As,A.length<=600)/\Same H0 H/\H pp=some (.tup (pq p))/\p.l<=p.r/\p.t<=p.b /\
 ((k=bar/\PcsA Ls p.t p.b p.r ps p.l pcs)\/(k=dash/\PcsD Ls p.l p.r p.b ps p.t pcs))/\∀(l:Addr)(us:List V)(H':Hp),Same H H'->H' l=some (.lst us)->yo H' us pcs->Q (.ref l) H'
theorem scPo:zu ["tree","stairs","piece"] ["tree","stairs","piece"] (zl sPo):=by trivial
theorem zgg{f fA fD:Addr}{fd dA dD:FuncData}(F:Fun K "pieces_of" "pieces_of" sPo f fd)(gKIND:GI mg "KIND" 0)(gPARTS:GI mg "PARTS" 1)(Z:Ns K mg)(Pa:Callee P w K mg base CX0 28 "pieces_across" fA dA ["parts","stairs","piece"] spPa)
  (Pd:Callee P w K mg base CX0 28 "pieces_down" fD dD ["parts","stairs","piece"] spPd):FnOk P w K mg base CX0 29 f fd ["tree","stairs","piece"] spPo:=by
 obtain⟨gWIDE,gHIGH,gMOST_WORDS,gACROSS,tl,ti,tlist,tall,tmax,trev⟩:=Z;refine F.ok scPo (λvs H Q E h=>?_) (λcdv A outer s H vs Q E hr h=>?_)
 .refine E_12 h λx k b pp ps nss bvs As Ls p pcs H0 n8=>A_2 n8 λe9 _=>?_;clear n8 h;subst e9;rfl
 .refine E_12 h λx k b pp ps nss bvs As Ls p pcs H0 n8=>A_16 n8 λe9 hA hG n24 two hz hb hB hO h600 S0 hpp le1 le2 hk q=>?_;clear n8 h;subst e9;refine⟨_,(ze (zO (zI xH (zm zw (pv 0) (zx rfl gKIND) (λ_ _=>rfl)) (zcL rfl gACROSS) (zD _))
   (zf (zo (zg Pa.ok hr rfl Pa.bound Pa.kp Pa.bd .nil zr (za (zm zw (pv 0) (zx rfl gPARTS) (λ_ _=>rfl)) (za (pv 1) (za (pv 2) zb))))))
   zF)
   (zf (zo (zg Pd.ok hr rfl Pd.bound Pd.kp Pd.bd .nil zr (za (zm zw (pv 0) (zx rfl gPARTS) (λ_ _=>rfl)) (za (pv 1) (za (pv 2) zb))))))),?_⟩
  cases hA with
  |@tup a0 vs0 ss e hL =>
  obtain⟨b0,ws,rfl,e2,hQ⟩:=hL.knot;have hPts:Pts H H0 b0 b ps Ls:=⟨⟨ws,e2,hQ⟩,⟨bvs,As,hb,hB,hO,h600⟩,two,⟨nss,hG,n24⟩,λp hp=>by
   have:=xZ k ps;have:=ZA two hp
   lia,S0⟩
  refine⟨_,rfl,a0,_,_,_,rfl,rfl,SqT.of e,rfl,rfl,_,rfl,?_⟩;have ek:decide (V.str k=V.str "|")=decide (k=bar):=by
   rw[decide_eq_decide];exact⟨λz=>by injection z,λz=>by rw[z];rfl⟩
  rw[ek];rcases hk with⟨rfl,hA⟩|⟨rfl,hD⟩
  .rw[decide_eq_true rfl];refine iteT ?_;refine⟨_,rfl,a0,_,_,_,rfl,rfl,SqT.of e,rfl,_,rfl,_,rfl,b0,b,pp,ps,Ls,p,pcs,H0,rfl,hPts,hpp,le2,hA,q⟩
  .rw[decide_eq_false x8];refine iteF ?_;refine z6 ?_;dsimp only;refine⟨_,rfl,a0,_,_,_,rfl,rfl,SqT.of e,rfl,_,rfl,_,rfl,b0,b,pp,ps,Ls,p,pcs,H0,rfl,hPts,hpp,le1,hD,q⟩
end
end _JN
namespace _Sta
open _Tre _Lin
theorem SetL.get{Ls:List R}:∀{ts:List T}{pcs:List Pc}{res:List (List (Int×Pc))}{i:Nat}{t:T},SetL Ls ts pcs res->ts[i]?=some t->∃p a,pcs[i]?=some p/\res[i]?=some a/\ya Ls t p a
 |_,_,_,_,_,.nil,e=>by simp at e
 |_,_,_,0,_,.cons h _,e=>by simp at e;subst e;exact⟨_,_,rfl,rfl,h⟩
 |_,_,_,i+1,t,.cons _ r,e=>by
  obtain⟨p,a,h1,h2,h3⟩:=SetL.get (i:=i) (t:=t) r (by simpa using e);exact⟨p,a,by simpa using h1,by simpa using h2,h3⟩
theorem SetL.len{Ls:List R}:∀{ts:List T}{pcs:List Pc}{res:List (List (Int×Pc))},SetL Ls ts pcs res->res.length=ts.length/\pcs.length=ts.length
 |_,_,_,.nil=>⟨rfl,rfl⟩
 |_,_,_,.cons _ r=>by simp only[kG];exact⟨by rw[r.len.1],by rw[r.len.2]⟩
theorem zaP{α:Type}(L:List (List α))(i:Nat):(L.take i).flatten.length<=L.flatten.length:=by
 have:=congrArg (λz=>(List.flatten z).length) (vK i L);simp only[vL,kt]at this
 lia
theorem SetL.sizes{Ls:List R}{ts:List T}{pcs:List Pc}{res:List (List (Int×Pc))}{nss:List (List Int)}(g:zL ts nss)(h:SetL Ls ts pcs res):res.flatten.length=nss.flatten.length:=by
 rw[<-SetL.keys g h,<-List.map_flatten,ke]
def PcOk(p:Pc):Prop:=p.l<=p.r/\p.t<=p.b
theorem zcQ{Ls:List R}(hL:∀L∈Ls,Up L){t:T}{P:R}{p:Pc}(h:HasR Ls t P)(m:Rm P p):PcOk p:=by
 have:=(HasR.up hL h).pos m;exact⟨by omega,()⟩
end _Sta
namespace _JN
open PySem _L2 _Lin _Tre PySem.W
open _Sta (R Ok sbs exch reg OkS OkSs stN HasR zH Low tr Pc PcsA PcsD ya SetL plc PcOk)
theorem yo.upd{H:Hp}{l:Addr}{xs:List V}{o':HO}(hl:H l=some (.lst xs)):∀{vs:List V}{ps:List Pc},yo H vs ps->yo (upd H l o') vs ps
 |_,_,.nil=>.nil
 |_,_,.cons ⟨a,e,z⟩ t=>.cons ⟨a,e,by rw[zN (qu z hl (by intro y;cases y))];exact z⟩ (yo.upd hl t)
def ZG(d:Nat):Sp:=λvs H Q _=>∃(x:V)(t:T)(n:List Int)(b pp:Addr)(bvs:List V)(As:List Stc)(Ls:List R)(p:Pc)(res:List (Int×Pc))(H0:Hp),vs=[x,.ref b,.ref pp]/\At H x t/\Good t n/\n.length<=24/\sz t+3<=4*d/\d<=24/\H b=some (.lst bvs)/\yn H0 H bvs As/\OkSs As Ls/\(∀A∈As,A.length<=600)/\(∀L∈Ls,_Sta.Up L)/\Same H0 H/\H pp=some (.tup (pq p))/\PcOk p /\
 ya Ls t p res/\∀(l:Addr)(us:List V)(H':Hp),Same H H'->H' l=some (.lst us)->yr H' us res->Q (.ref l) H'
section
variable{P:Program}{w:World}{K:PySem.W.Frag}{mg:Str->Option Value}{base:Heap}{kA:Addr}
theorem qr:zu ["tree","stairs","piece","found","part","own"] ["tree","stairs","piece"] (zl jo):=by trivial
theorem zdQ{f:Addr}{fd:FuncData}(F:Fun K "set_in" "set_in" jo f fd):FnOk P w K mg base CX0 30 f fd ["tree","stairs","piece"] (ZG 0):=by
 refine F.ok qr (λvs H Q E h=>?_) (λcdv A outer s H vs Q E hr h=>?_)
 .refine E_11 h λx t n b pp bvs As Ls p res H0 n8=>A_2 n8 λe9 _=>?_;clear n8 h;subst e9;rfl
 .refine E_11 h λx t n b pp bvs As Ls p res H0 n8=>A_6 n8 λe9 _ _ _ hz _=>?_;clear n8 h;subst e9
  lia
theorem zdR{f fW fP:Addr}{fd dW dP:FuncData}{d:Nat}(F:Fun K "set_in" "set_in" jo f fd)(gPARTS:GI mg "PARTS" 1)(tzip:mg "zip"=none)(Wo:Callee P w K mg base CX0 1 "is_whole" fW dW ["thing"] x5)
  (Po:Callee P w K mg base CX0 29 "pieces_of" fP dP ["tree","stairs","piece"] spPo)(Se:Callee P w K mg base CX0 (d+30) "set_in" f fd ["tree","stairs","piece"] (ZG d)):FnOk P w K mg base CX0 (d+31) f fd ["tree","stairs","piece"] (ZG (d+1)):=by
 refine F.ok qr (λvs H Q E h=>?_) (λcdv A outer s H vs Q E hr h=>?_)
 .refine E_11 h λx t n b pp bvs As Ls p res H0 n8=>A_2 n8 λe9 _=>?_;clear n8 h;subst e9;rfl
 .refine E_11 h λx t n b pp bvs As Ls p res H0 n8=>A_16 n8 λe9 hA g n24 hz hd hb hB hO h600 hU S0 hpp pok hSI q=>?_;clear n8 h;subst e9;refine⟨_,(ze (zO (zX (zg Wo.ok (hr.mono ()) rfl Wo.bound Wo.kp Wo.bd .nil zr (za (pv 0) zb)))
   (zf (zo (yh (za (ye (za (pv 0) (za (pv 2) zb))) zb))))
   zF)
   (ze (zB (i:=3) qr.nd rfl (Or.inl rfl) (yh zb))
   (ze (yS PassesOwn.never rfl (zdP rfl tzip (za (zm zw (pv 0) (zx rfl gPARTS) (λ_ _=>rfl)) (za (zg Po.ok (hr.mono ()) rfl Po.bound Po.kp Po.bd .nil zr (za (pv 0) (za (pv 1) (za (pv 2) zb)))) zb))) (wI rfl (zR (zt (i:=4) qr.nd rfl (Or.inl rfl)) (zR (zt (i:=5) qr.nd rfl (Or.inl rfl)) yB)))
   (zf (yw (xw vj uF uG Yz (pv 3) (za (zg Se.ok hr rfl Se.bound Se.kp Se.bd .nil zr (za (pv 4) (za (pv 1) (za (pv 5) zb)))) zb)))))
   (zf (zo (pv 3)))))),?_⟩
  refine⟨_,rfl,x,t,rfl,hA,_,rfl,?_⟩;cases g with
  |leaf i =>
   cases hA;cases hSI;refine iteT ?_;refine⟨_,rfl,_,rfl,Zz2,λpt npt=>?_⟩;have St:=zd (o:=.tup [.int i,.ref pp]) npt;have hpt:(upd H pt (.tup [.int i,.ref pp])) pt=some (.tup [.int i,.ref pp]):=zc;generalize upd H pt (.tup [.int i,.ref pp])=H1 at St hpt;refine⟨Zz1,λl nl=>?_⟩;have Sl:=zd (o:=.lst [.ref pt]) nl;exact q l _ _ (St.trans Sl) zc (.cons ⟨pt,.ref pp,rfl,Sl _ _ hpt,pp,rfl,(St.trans Sl) _ _ hpp⟩ .nil)
  |@node k ps nss hk h2 hn hG =>
   obtain⟨pcs,ress,hcut,hSL,rfl⟩:∃pcs ress,((k=bar/\PcsA Ls p.t p.b p.r ps p.l pcs)\/(k=dash/\PcsD Ls p.l p.r p.b ps p.t pcs))/\SetL Ls ps pcs ress/\res=ress.flatten:=by
    cases hSI with
    |bar h r=>exact⟨_,_,.inl ⟨rfl,h⟩,r,rfl⟩
    |dash h r=>exact⟨_,_,.inr ⟨rfl,h⟩,r,rfl⟩
   have hpc:∀(i:Nat)(t:T)(q:Pc),ps[i]?=some t->pcs[i]?=some q->PcOk q:=λi t q e1 e2=>by
    rcases hcut with⟨_,h⟩|⟨_,h⟩
    .obtain⟨_,_,P1,h1,h2⟩:=h.rm e1 e2;exact _Sta.zcQ hU h1 h2
    .obtain⟨_,_,P1,h1,h2⟩:=h.rm e1 e2;exact _Sta.zcQ hU h1 h2
   have hA0:=hA;cases hA with
   |@tup a0 vs0 ss e hL =>
   obtain⟨b0,ws,rfl,e2,hQ⟩:=hL.knot;have lq:=hQ.len;have nsz:=xZ k ps;have lps:=qq ps;have hlen:=hSL.len;have hsize:=hSL.sizes hG;refine iteF ?_;refine z6 ?_;dsimp only;refine⟨⋯,λl nl=>?_⟩;have S1:=zd (o:=.lst []) nl;have hl1:(upd H l (.lst [])) l=some (.lst []):=zc;change tSeq _ _ _ _ (upd H l (.lst []));generalize upd H l (.lst [])=H1 at S1 hl1;refine run_seq ?_;refine⟨_,rfl,a0,_,_,_,rfl,rfl,SqT.of (S1 _ _ e),rfl,_,rfl,_,rfl,_,rfl,.ref a0,k,b,pp,ps,nss,bvs,As,Ls,p,pcs,H0,rfl,hA0.same S1,hG,n24,h2,(),S1 _ _ hb,hB.same S1,hO,h600,S0.trans S1,S1 _ _ hpp,pok.1,pok.2,hcut,λlpc us H2 S2 hlpc hPc=>?_⟩;have S12:=S1.trans S2;have lus:us.length=ps.length:=by rw[hPc.len,hlen.2]
   have hll:lpc≠l:=λz=>by
    rw[z,S2 _ _ hl1]at hlpc;injection hlpc with z2;injection z2 with z3;rw[<-z3]at lus;simp at lus
    lia
   refine⟨b0,lpc,rfl,⟨_,SqT.of (S12 _ _ e2)⟩,⟨_,SqL.of hlpc⟩,?_⟩;refine zb9 (K:=K) (a:=b0) (b:=lpc) (xs:=ws) (ys:=us) (λi σ H3=>∃(o1 o2:Option V)(vs:List V),σ=[some (.ref a0),some (.ref b),some (.ref pp),some (.ref l),o1,o2]/\Same H H3/\H3 l=some (.lst vs)/\yr H3 vs (ress.take i).flatten/\H3 lpc=some (.lst us)/\yo H3 us pcs) () ⟨none,none,[],rfl,S12,S2 _ _ hl1,.nil,hlpc,hPc⟩
    (λi σ H3 hi h9=>by obtain⟨_,_,_,_,S3,_,_,z,_⟩:=h9;exact(⟨SqT.of (S3 _ _ e2),SqL.of z⟩)) ?_ ?_
   .intro i x1 y1 σ H3 tp hx hy h8 ntp;refine E_3 h8 λo1 o2 vs n8=>A_6 n8 λe9 S3 hl3 hN hlp3 hPc3=>?_;clear n8 h8;subst e9;obtain⟨t1,et,hAt⟩:=hQ.get hx;obtain⟨p1,r1,ep,er,hS1⟩:=hSL.get et;obtain⟨p1',ep',pa1,rfl,hpa1⟩:=hPc3.get hy;have e1:p1'=p1:=by rw[ep]at ep';injection ep' with z;exact z.symm
    subst e1;obtain⟨n1,en,gn⟩:=hG.get et;have pm:t1∈ps:=ky et;have two:=ZA h2 pm;have ln:=x6 (ky en);have St:=zd (o:=.tup [x1,.ref pa1]) ntp;refine⟨tp,_,rfl,SqT.of zc,rfl,_,_,rfl,_,_,rfl,rfl,?_⟩;generalize upd H3 tp (.tup [x1,.ref pa1])=H4 at St;have S4:=S3.trans St;refine⟨_,rfl,.inl ⟨rfl,_,SqL.of (St _ _ hl3)⟩,_,rfl,_,rfl,_,rfl,x1,t1,n1,b,pa1,bvs,As,Ls,p1',r1,H0,rfl,hAt.same S4,gn,(),(),(),S4 _ _ hb,hB.same S4,hO,h600,hU,S0.trans S4,St _ _ hpa1,hpc i t1 p1' et ep,hS1,λl5 us5 H5 S5 hl5 hN5=>?_⟩;have hl5':=S5 _ _ (St _ _ hl3);have lr:us5.length=n1.length:=by rw[hN5.len,<-ya.keys gn hS1,ke]
    have lv:vs.length<=24:=by
     rw[hN.len];have:=_Sta.zaP ress i
     lia
    refine I_4 l l5 vs us5 ⟨rfl,rfl,hl5',hl5,kw (show _<=48 by lia) ⋯,?_⟩;obtain⟨hir,evr⟩:=kf.mp er;refine⟨_,_,_,rfl,yu (S4.trans S5) nl,zc,?_,?_,?_⟩
    .rw[<-kC hir,evr,vL,List.flatten_singleton];exact(((hN.same St).same S5).upd hl5').app (hN5.upd hl5')
    .rw[zN hll];exact S5 _ _ (St _ _ hlp3)
    .exact((hPc3.same St).same S5).upd hl5'
   .intro σ H3 h8;refine E_3 h8 λo1 o2 vs n8=>A_6 n8 λe9 S3 hl3 hN _ _=>?_;clear n8 h8;subst e9;rw[lq,<-hlen.1,kJ]at hN;exact⟨_,rfl,q l vs H3 S3 hl3 hN⟩
theorem zaQ{f fW fP:Addr}{fd dW dP:FuncData}(F:Fun K "set_in" "set_in" jo f fd)(gPARTS:GI mg "PARTS" 1)(tzip:mg "zip"=none)(Wo:Callee P w K mg base CX0 1 "is_whole" fW dW ["thing"] x5)
  (Po:Callee P w K mg base CX0 29 "pieces_of" fP dP ["tree","stairs","piece"] spPo)(bo:mg "set_in"=some (.ref f))(kp:um K (.ref f)=true)(bd:Binds K fd ["tree","stairs","piece"] []):∀d,FnOk P w K mg base CX0 (d+30) f fd ["tree","stairs","piece"] (ZG d)
 |0=>zdQ F
 |d+1=>zdR F gPARTS tzip Wo Po ⟨zaQ F gPARTS tzip Wo Po bo kp bd d,bo,kp,bd⟩
end
theorem zcb{m n:Nat}{p:Array Nat}{ks:List Int}(o:_Srt.Ord m p)(hl:ks.length=m)(pm:ks.Perm (up n))(u:_Srt.Up (λi=>ks.getD i 0) p m):p.toList.map (λi=>ks.getD i 0)=up n:=by
 have lz:p.size=m:=o.sz;have p1:(p.toList.map (λi=>ks.getD i 0)).Perm ks:=by
  have q1:p.toList.Perm (kR m):=by
   have:=o.pm;rw[Array.perm_iff_toList_perm]at this;exact this
  have q2:=q1.map (λi=>ks.getD i 0);have e:(kR m).map (λi=>ks.getD i 0)=ks:=by
   apply u8
   .rw[ke,vq,hl]
   .intro i h1 h2;rw[ba,bu,_L2.getD_at h2]
  rw[e]at q2;exact q2
 have s1:(p.toList.map (λi=>ks.getD i 0)).Pairwise (· <= ·):=by
  rw[vE];intro i j hi hj hij;rw[ke,Array.length_toList,lz]at hi hj;have key:∀k,k<m->∀h,(p.toList.map (λi=>ks.getD i 0))[k]'h=_Srt.kv (λi=>ks.getD i 0) p k:=by
   intro k hk h;have e:p.toList[k]'(by rw[Array.length_toList,lz];exact hk)=p.getD k 0:=by simp[Array.getD,lz,hk]
   rw[ba,e];rfl
  rw[key i hi,key j hj];exact u.le () hj
 exact List.Perm.eq_of_pairwise (λ_ _ _ _ a b=>ut a b) s1 (YN n) (p1.trans pm)
def pc0:Pc:=⟨0,0,0,0⟩
theorem yr.get{H:Hp}:∀{vs:List V}{ps:List (Int×Pc)}{i:Nat}{v:V},yr H vs ps->vs[i]?=some v->∃p,ps[i]?=some p/\NpAt H v p
 |_,_,_,_,.nil,e=>by simp at e
 |_,_,0,_,.cons r _,e=>by simp at e;subst e;exact⟨_,rfl,r⟩
 |_,_,i+1,v,.cons _ t,e=>by
  obtain⟨p,h1,h2⟩:=yr.get (i:=i) (v:=v) t (by simpa using e);exact⟨p,by simpa using h1,h2⟩
theorem Wv{H:Hp}{vs:List V}{res:List (Int×Pc)}(h:yr H vs res):∀(l:List Nat),(∀i∈l,i<res.length)->yr H (l.map λi=>vs.getD i .non) (l.map λi=>res.getD i (0,pc0))
 |[],_=>.nil
 |i::ls,hl=>by
  have hi:=hl i kg;have hv:i<vs.length:=by rw[h.len];exact hi
  obtain⟨q,e,r⟩:=h.get (kc hv);refine .cons ?_ (Wv h ls λj hj=>hl j (kn _ hj));have e1:res.getD i (0,pc0)=q:=by rw[kP,e];rfl
  show NpAt H (vs.getD i .non) (res.getD i (0,pc0));rw[e1,_L2.getD_at hv];exact r
theorem Ww{H:Hp}:∀{vs:List V}{res:List (Int×Pc)},yr H vs res->∃rest:List (List V),rest.length=vs.length/\∀(i:Nat)(x:V)(n:Int)(r:List V),vs[i]?=some x->(res.map (·.1))[i]?=some n->rest[i]?=some r->∃p,x=.ref p/\H p=some (.tup (.int n::r))/\r.length=1
 |_,_,.nil=>⟨[],rfl,λi x n r e=>by simp at e⟩
 |_,_,.cons ⟨a,u,e,z,p⟩ t=>by
  obtain⟨rest,l,h⟩:=Ww t;refine⟨[u]::rest,by simp only[kG,l],λi x n r e1 e2 e3=>?_⟩
  match i,e1,e2,e3 with
  |0,e1,e2,e3 =>
   cases e1;cases e2;cases e3;exact⟨a,e,z,rfl⟩
  |i+1,e1,e2,e3=>exact h i x n r (by simpa using e1) (by simpa using e2) (by simpa using e3)
def zcR:Sp:=λvs H Q _=>∃(x:V)(a:Addr)(t:T)(n:List Int)(wss:List (List W))(wide high:Nat)(P:R),vs=[x,.ref a,.int wide]/\Gd H x a t n wss/\HasR (Lvs wss) t P/\P wide high/\∀(k:Nat)(H':Hp),Same H H'->Low P wide (some k)->Q (.int k) H'
def zaR:Sp:=λvs H Q _=>∃(x:V)(a:Addr)(t:T)(n:List Int)(wss:List (List W))(wide high:Nat)(P:R)(res:List (Int×Pc)),vs=[x,.ref a,.int wide,.int high]/\Gd H x a t n wss/\HasR (Lvs wss) t P /\
 P wide high/\ya (Lvs wss) t ⟨0,0,wide,high⟩ res/\∀(l:Addr)(us:List V)(pcs:List Pc)(H':Hp),Same H H'->H l=none->H' l=some (.lst us)->yo H' us pcs->pcs.length=n.length->(∀(i:Nat)(p:Pc),pcs[i]?=some p->((i:Int),p)∈res)->Q (.ref l) H'
section
variable{P:Program}{w:World}{K:PySem.W.Frag}{mg:Str->Option Value}{base:Heap}{kA:Addr}
theorem zcS:zu ["tree","texts","wide","least"] ["tree","texts","wide"] (zl sHin):=by trivial
theorem zff{f fL:Addr}{fd dL:FuncData}(F:Fun K "height_in" "height_in" sHin f fd)(Lh:Callee P w K mg base CX0 29 "least_high" fL dL ["tree","texts","wide"] spLh):FnOk P w K mg base CX0 30 f fd ["tree","texts","wide"] zcR:=by
 refine F.ok zcS (λvs H Q E h=>?_) (λcdv A outer s H vs Q E hr h=>?_)
 .refine E_8 h λx a t n wss wide high P n8=>A_2 n8 λe9 _=>?_;clear n8 h;subst e9;rfl
 .refine E_8 h λx a t n wss wide high P n8=>A_5 n8 λe9 gd hP rm q=>?_;clear n8 h;subst e9;refine⟨_,(ze (zB (i:=3) zcS.nd rfl (Or.inl rfl) (zg Lh.ok hr rfl Lh.bound Lh.kp Lh.bd .nil zr (za (pv 0) (za (pv 1) (za (pv 2) zb)))))
   (ze (zO (zI JV (pv 3) xR rfl)
   yP
   zF)
   (zf (zo (pv 3))))),_,rfl,_,rfl,_,rfl,x,a,t,n,wss,wide,rfl,gd,λP1 o H1 hR S1 low=>?_⟩
  cases _Sta.wo hR hP;cases o with
  |none=>exact(low high rm).elim
  |some k=>exact⟨_,rfl,rfl,_,rfl,iteF ⟨_,rfl,q k H1 S1 low⟩⟩
theorem YT:zu ["tree","texts","wide","high","found"] ["tree","texts","wide","high"] (zl j3):=by trivial
theorem zdS{f fH fS fB:Addr}{fd dH dS dB:FuncData}(F:Fun K "setting" "setting" j3 f fd)(ts:mg "sorted"=none)(Hi:Callee P w K mg base CX0 30 "height_in" fH dH ["tree","texts","wide"] zcR)
  (Se:Callee P w K mg base CX0 54 "set_in" fS dS ["tree","stairs","piece"] (ZG 24))(Bs:Callee P w K mg base CX0 6 "box_stairs" fB dB ["texts"] Jl):FnOk P w K mg base CX0 55 f fd ["tree","texts","wide","high"] zaR:=by
 refine F.ok YT (λvs H Q E h=>?_) (λcdv A outer s H vs Q E hr h=>?_)
 .refine E_9 h λx a t n wss wide high P1 res n8=>A_2 n8 λe9 _=>?_;clear n8 h;subst e9;rfl
 .refine E_9 h λx a t n wss wide high P1 res n8=>A_6 n8 λe9 gd hP rm hSI q=>?_;clear n8 h;subst e9;refine⟨_,(ze (zO (zI yO (pv 3) (zg Hi.ok (hr.mono ⋯) rfl Hi.bound Hi.kp Hi.bd .nil zr (za (pv 0) (za (pv 1) (za (pv 2) zb)))) (zD _))
   yP
   zF)
   (ze (zB (i:=4) YT.nd rfl (Or.inl rfl) (zg Se.ok hr rfl Se.bound Se.kp Se.bd .nil zr (za (pv 0) (za (zg Bs.ok (hr.mono ⋯) rfl Bs.bound Bs.kp Bs.bd .nil zr (za (pv 1) zb)) (za (ye (za zk (za zk (za (pv 2) (za (pv 3) zb))))) zb)))))
   (zf (zo (zQ (Nc:=["number","box"]) (ix:=[none,none]) rfl rfl (by refine' zV ?zz;case zz=>exact(zbO rfl ts (pv 4))) (λ_ _ _ _ _=>(xO (K:=K) (n:=2) rfl rfl (zR (zt (i:=0) (by show(["number","box"]:List Str).Nodup;decide +kernel) rfl (Or.inl rfl)) (zR (zt (i:=1) (by show(["number","box"]:List Str).Nodup;decide +kernel) rfl (Or.inl rfl)) yB)))) (λ_ _ _ _ _=>zP) (λ_ _ _ _ _=>(pv 1))))))),?_⟩
  .refine⟨_,rfl,_,rfl,_,rfl,_,rfl,x,a,t,n,wss,wide,high,P1,rfl,gd,hP,rm,λk H1 S1 low=>?_⟩
   .refine⟨_,_,rfl,rfl,_,rfl,?_⟩
    .have hk:¬((high:Int)<(k:Int)):=by
      have:=low.2 high rm
      lia
     rw[decide_eq_false hk];refine iteF ?_;refine z6 ?_;dsimp only;obtain⟨xs,ha,hT⟩:=id gd.txs;have hl:=gd.nlen;have iT:=gd.tree;have g:=gd.good;have hA:=gd.at_;have n24:=(iT.okN g).2;have okw:=hT.okw;have ok40:=hT.ok40;have hsz:=g.szN;have lw:=hT.len;refine⟨_,rfl,_,rfl,a,xs,wss,rfl,S1 _ _ ha,hT.same S1,(),λlb rs H2 S2 nlb hlb hBs=>?_⟩;refine⟨_,rfl,_,rfl,Zz4,λpp npp=>?_⟩;have S3:=zd (o:=.tup [.int 0,.int 0,.int wide,.int high]) npp;have hpp:(upd H2 pp (.tup [.int 0,.int 0,.int wide,.int high])) pp=some (.tup (pq ⟨0,0,wide,high⟩)):=zc;generalize upd H2 pp (.tup [.int 0,.int 0,.int wide,.int high])=H3 at S3 hpp;refine I_11 x t n lb pp rs (wss.map stN) (Lvs wss) ⟨0,0,wide,high⟩ res H1 ⟨rfl,hA.same (S1.trans (S2.trans S3)),g,n24,(),⋯,S3 _ _ hlb,hBs.same S3,YR okw,λA hA=>?_,wn wss,S2.trans S3,hpp,⟨kN _,kN _⟩,hSI,λlf us H4 S4 hlf hN=>?_⟩
     .obtain⟨ws,hw,rfl⟩:=kU.mp hA;exact Qg (okw ws hw) (ok40 ws hw)
     have S14:=S1.trans (S2.trans (S3.trans S4));have hks:=ya.keys g hSI;obtain⟨yy,gy,l24,py⟩:=iT;have e:=Good.uniq g gy;subst e;have lres:res.length=n.length:=by rw[<-hks,ke]
     have lus:us.length=n.length:=by rw[hN.len,lres]
     have nd:n.Nodup:=py.nodup_iff.mpr (zbW _);obtain⟨rest,lrest,hrest⟩:=Ww hN;rw[hks]at hrest;refine⟨_,rfl,lf,us,n,rest,rfl,SqL.of hlf,(),(),lrest,nd,hrest,λD p nD o u=>?_⟩;rw[lus]at o u;have eup:=zcb o rfl py u;have hps:yr H4 (p.toList.map λi=>us.getD i .non) (p.toList.map λi=>res.getD i (0,pc0)):=Wv hN p.toList λi hi=>by
      have m:i∈p:=by simpa using hi
      have m2:i∈(uD (kR n.length)):=(Array.Perm.mem_iff o.pm).mp m;rw[lres];simpa using m2
     have efst:(p.toList.map λi=>res.getD i (0,pc0)).map (·.1)=up n.length:=by
      rw[<-eup,vm];apply uv;intro i _;show(res.getD i (0,pc0)).1=n.getD i 0;rw[<-hks,kP,kP,kM];cases res[i]?<;>rfl
     have hmem:∀q∈(p.toList.map λi=>res.getD i (0,pc0)),q∈res:=λq hq=>by
      obtain⟨i,hi,rfl⟩:=kU.mp hq;have m:i∈p:=by simpa using hi
      have m2:i∈(uD (kR n.length)):=(Array.Perm.mem_iff o.pm).mp m;have hil:i<res.length:=by rw[lres];simpa using m2
      rw[_L2.getD_at hil];exact vv hil
     generalize (p.toList.map λi=>us.getD i .non)=ss at hps;generalize (p.toList.map λi=>res.getD i (0,pc0))=pk at hps efst hmem;have S5:=zd (o:=.lst ss) nD;have hD:(upd H4 D (.lst ss)) D=some (.lst ss):=zc;have hps5:=hps.same S5;generalize upd H4 D (.lst ss)=H5 at S5 hD hps5;have lpk:pk.length=n.length:=by
      have:=congrArg List.length efst
      rwa [ke,qp]at this
     have lss:=hps.len;refine⟨D,rfl,⟨_,SqL.of hD⟩,zZ (K:=K) (a:=D) (xs:=ss) (λi ys σ H'=>yo H' ys ((pk.take i).map (·.2))/\Same H5 H'/\∃o o2,σ=[o,o2]) ⟨.nil,Same.refl _,none,none,rfl⟩
      (λi ys σ H' hi h9=>by obtain⟨h1,S3,_⟩:=h9;exact(⟨by rw[h1.len,ke,kQ];exact kw (show _<=1000000 by lia) ⋯,SqL.of (S3 _ _ hD)⟩)) ?_ ?_⟩
     case refine_2 =>
      intro i y ys σ H6 hy h8;refine A_3 h8 λhY S6 n8=>E_2 n8 λo1 o2 e9=>?_;clear n8 h8;subst e9;obtain⟨q1,eq1,⟨aq,uq,rfl,zq,hq⟩⟩:=hps5.get hy;obtain⟨hil,ev⟩:=kf.mp eq1;refine⟨aq,_,rfl,SqT.of (S6 _ _ zq),rfl,_,_,rfl,_,_,rfl,rfl,?_⟩;dsimp only[zU,tYes];refine iteT ⟨_,rfl,?_,S6,_,_,rfl⟩;rw[<-kC hil,ev,kF];exact hY.snoc (hq.same S6)
     rintro ys σ H6 ⟨hY,S6,_⟩ lr nlr;rw[lss,kJ]at hY;have S7:=zd (o:=.lst ys) nlr;refine q lr ys _ _ (S14.trans (S5.trans (S6.trans S7))) ((S14.trans (S5.trans S6)).free nlr) zc (hY.same S7) (by rw[ke,lpk]) λi p1 e1=>?_;rw[kM]at e1;obtain⟨q1,eq1,rfl⟩:=kZ.mp e1;have e2:(pk.map (·.1))[i]?=some q1.1:=by rw[kM,eq1];rfl
     rw[efst]at e2;have e3:q1.1=(i:Int):=by
      unfold up at e2;rw[kM]at e2;obtain⟨j,ej,e4⟩:=kZ.mp e2;have:=(kf.mp ej).2;rw[bu]at this;rw[<-e4,this]
     rw[<-e3];exact hmem q1 (ky eq1)
end
end _JN
namespace _JN
open PySem _L2 _Lin _Tre PySem.W
open _Sta (R Ok sbs exch reg OkS OkSs stN HasR zH Low tr)
section
variable{P:Program}{w:World}{K:PySem.W.Frag}{mg:Str->Option Value}{base:Heap}{kA:Addr}
theorem zdT:zu ["tree","texts","high"] ["tree","texts","high"] (zl X8):=by trivial
theorem zcc{f fT fL:Addr}{fd dT dL:FuncData}(F:Fun K "least_wide" "least_wide" X8 f fd)(Ts:Callee P w K mg base CX0 28 "tree_stairs" fT dT ["tree","texts"] Xu)(Na:Callee P w K mg base CX0 1 "narrowest" fL dL ["stairs","high"] Wm):
  FnOk P w K mg base CX0 29 f fd ["tree","texts","high"] Qi:=by
 refine F.ok zdT (λvs H Q E h=>?_) (λcdv A outer s H vs Q E hr h=>?_)
 .refine E_6 h λx a t n wss wide n8=>A_2 n8 λe9 _=>?_;clear n8 h;subst e9;rfl
 .refine E_6 h λx a t n wss wide n8=>A_3 n8 λe9 gd q=>?_;clear n8 h;subst e9;refine⟨_,(zf (zo (zg Na.ok (hr.mono ⋯) rfl Na.bound Na.kp Na.bd .nil zr (za (zg Ts.ok hr rfl Ts.bound Ts.kp Ts.bd .nil zr (za (pv 0) (za (pv 1) zb))) (za (pv 2) zb))))),_,rfl,_,rfl,x,a,t,n,wss,rfl,gd,λP1 l us A1 H1 hR S1 nl hl1 hs oA lA=>?_⟩;refine⟨_,rfl,l,us,A1,wide,rfl,hl1,hs,(),λo H2 S2 low=>?_⟩;exact q P1 o H2 hR (S1.trans S2) (low.of (P:=tr (reg A1)) (Q:=tr P1) λw k=>oA.2 k w)
end
end _JN
namespace _L2
open PySem PySem.Spec PyProof.Rows PySem.W
section
variable{X:Cx}
theorem zaS{K:PySem.W.Frag}{o e:Expr}{es:List Expr}{to:TE}{t:TA}{name:Str}{apos cpos:Pos}{T id:String}{r:V->List V->Hp->VK->Prop}(hK:X.K=K)(pa:PlainAttrs T)(slot:Slot T name id)(hty:typeOf (.builtin id)=pure (.type "method_descriptor"))(hm:MtR X id r)(ho:PE X o to)(ha:PA X (e::es) t)
  (hbase:attributeBase o name X.env (eval o X.env)=eval o X.env:=by rfl)
  (hfew:((backTo cpos (starEach (e::es) X.env)).all (λx=>!x.1)&&(backToKw cpos (keywordEach [] X.env)).all (λx=>x.1.isSome)
   && decide ((e::es).length+([]:List Keyword).length+(if([]:List Keyword).isEmpty then 0 else 1)<30))=true:=by rfl)
  (hline:(apos.endLine==cpos.line)=true:=by rfl)(hs:starEach (e::es) X.env=(false,eval e X.env)::starEach es X.env:=by rfl)(hplain:(backTo cpos (starEach es X.env)).any (·.1)=false:=by rfl):
  PE X (.Call (.Attribute o name apos) (e::es) [] cpos) (tBM K T r to t):=by
 subst hK;exact xw pa slot hty hm ho ha hbase hfew hline hs hplain
end
end _L2
namespace _Til
structure Bx where
 l:Int
 t:Int
 r:Int
 b:Int
deriving DecidableEq
def inB(b:Bx)(x y:Int):Bool:=decide (b.l<=x)&&decide (x<b.r)&&decide (b.t<=y)&&decide (y<b.b)
theorem z8{b:Bx}{x y:Int}:inB b x y=true↔b.l<=x/\x<b.r/\b.t<=y/\y<b.b:=by
 simp[inB,and_assoc]
def cnt(bs:List Bx)(x y:Int):Nat:=bs.countP (inB · x y)
theorem cnt_nil(x y:Int):cnt [] x y=0:=rfl
theorem cnt_cons(b:Bx)(bs:List Bx)(x y:Int):cnt (b::bs) x y=cnt bs x y+(inB b x y).toNat:=by
 unfold cnt;rw[v7];cases inB b x y<;>rfl
theorem cnt_append(as bs:List Bx)(x y:Int):cnt (as++bs) x y=cnt as x y+cnt bs x y:=by
 unfold cnt;rw[List.countP_append]
structure Ok(n m:Int)(b:Bx):Prop where
 h0:0<=b.l
 h1:b.l<b.r
 h2:b.r<=n
 v0:0<=b.t
 v1:b.t<b.b
 v2:b.b<=m
structure zS(bs:List Bx)(n m:Int):Prop where
 wf:∀b∈bs,Ok n m b
 one:∀x y,0<=x->x<n->0<=y->y<m->cnt bs x y=1
theorem zaT(p:Prop)[Decidable p]:(decide p).toNat=if p then 1 else 0:=by
 by_cases h:p<;>simp[h]
theorem Qj(b:Bx)(x y:Int):(inB b x y).toNat=if b.l<=x/\x<b.r/\b.t<=y/\y<b.b then 1 else 0:=by
 rw[<-zaT];congr 1;by_cases h:inB b x y=true
 .rw[h];exact(decide_eq_true (z8.mp h)).symm
 .rw[decide_eq_false λz=>h (z8.mpr z)];simpa using h
def cntI(p:Nat->Bool):Nat->Nat
 |0=>0
 |i+1=>cntI p i+(p i).toNat
theorem jP(m i:Nat):(if m<i+1 then 1 else 0)=(if m<i then 1 else 0)+(if m=i then 1 else 0):=by
 by_cases a:m<i
 .rw[if_pos a,if_pos (vG a),if_neg (vc a)]
 .by_cases c:m=i
  .rw[if_neg a,if_pos c,if_pos (by rw[c];exact vH i)]
  .rw[if_neg a,if_neg c,if_neg (λz=>(br (ua z)).elim a c)]
theorem Za{p:Nat->Bool}{j k:Nat}(hj:p j=true)(hk:p k=true)(h:j≠k):∀i,(if j<i then 1 else 0)+(if k<i then 1 else 0)<=cntI p i
 |0=>km 0
 |i+1=>by
  have ih:=Za hj hk h i;have this:(if j=i then 1 else 0)+(if k=i then 1 else 0)<=(p i).toNat:=by
   by_cases a:j=i
   .subst a;rw[hj,if_pos rfl,if_neg (Ne.symm h)];exact km 1
   .by_cases c:k=i
    .subst c;rw[hk,if_neg a,if_pos rfl];exact km 1
    .rw[if_neg a,if_neg c];exact kN _
  show _<=cntI p i+(p i).toNat;rw[jP j,jP k,Nat.add_add_add_comm];exact Nat.add_le_add ih this
def atB(bs:List Bx)(x y:Int)(k:Nat):Bool:=match bs[k]? with
 |some b=>inB b x y
 |none=>false
theorem Wx(bs:List Bx)(x y:Int):∀i,i<=bs.length->cnt (bs.take i) x y=cntI (atB bs x y) i
 |0,_=>rfl
 |i+1,h=>by
  have hi:i<bs.length:=h;rw[<-kC hi,cnt_append,Wx bs x y i (vF hi),cnt_cons,cnt_nil];show _=cntI _ i+(atB bs x y i).toNat;have e:atB bs x y i=inB bs[i] x y:=by unfold atB;rw[kc hi]
  rw[e]
  lia
theorem Qk(bs:List Bx)(x y:Int):cnt bs x y=cntI (atB bs x y) bs.length:=by
 have h:=Wx bs x y bs.length (km _)
 rwa [kJ]at h
theorem qL{bs:List Bx}{x y:Int}{k:Nat}{b:Bx}(h:bs[k]?=some b):atB bs x y k=inB b x y:=by unfold atB;rw[h]
theorem zS.apart{bs:List Bx}{n m:Int}(T:zS bs n m){i j:Nat}{b c:Bx}(hi:bs[i]?=some b)(hj:bs[j]?=some c)(hne:i≠j):
  b.r<=c.l\/c.r<=b.l\/b.b<=c.t\/c.b<=b.t:=by
 have ob:=T.wf b (ky hi);have oc:=T.wf c (ky hj);obtain⟨a1,a2,a3,a4,a5,a6⟩:=ob;obtain⟨c1,c2,c3,c4,c5,c6⟩:=oc;have li:i<bs.length:=(kf.mp hi).1;have lj:j<bs.length:=(kf.mp hj).1;by_cases h1:b.r<=c.l
 .exact .inl h1
 by_cases h2:c.r<=b.l
 .exact .inr (.inl h2)
 by_cases h3:b.b<=c.t
 .exact .inr (.inr (.inl h3))
 by_cases h4:c.b<=b.t
 .exact .inr (.inr (.inr h4))
 exfalso;have main:∀x y:Int,b.l<=x->c.l<=x->x<b.r->x<c.r->b.t<=y->c.t<=y->y<b.b->y<c.b->False:=by
  intro x y x1 x2 x3 x4 y1 y2 y3 y4;have q:=T.one x y () () () ();rw[Qk]at q;have z:=Za (p:=atB bs x y) (j:=i) (k:=j) (by rw[qL hi];exact z8.mpr ⟨x1,x3,y1,y3⟩) (by rw[qL hj];exact z8.mpr ⟨x2,x4,y2,y4⟩) hne bs.length;rw[if_pos li,if_pos lj]at z
  lia
 by_cases p:b.l<=c.l<;>by_cases q:b.t<=c.t
 .exact main c.l c.t (by omega) () () (by omega) (by omega) () () (by omega)
 .exact main c.l b.t (by omega) () () (by omega) () () (by omega) ()
 .exact main b.l c.t () () (by omega) () (by omega) () () (by omega)
 .exact main b.l b.t () () (by omega) () () () (by omega) ()
theorem Jp{bs:List Bx}{n m:Int}(T:zS bs n m){x y:Int}(h1:0<=x)(h2:x<n)(h3:0<=y)(h4:y<m):
  ∃(k:Nat)(b:Bx),bs[k]?=some b/\inB b x y=true/\∀(j:Nat)(c:Bx),bs[j]?=some c->inB c x y=true->j=k:=by
 have q:=T.one x y h1 h2 h3 h4;have p:0<bs.countP (inB · x y):=by unfold cnt at q;lia
 obtain⟨b,hb,hin⟩:=List.countP_pos_iff.mp p;obtain⟨k,hk⟩:=bD.mp hb;refine⟨k,b,hk,hin,λj c hj hc=>?_⟩;refine Classical.byContradiction λne=>?_;rw[Qk]at q;have z:=Za (p:=atB bs x y) (j:=j) (k:=k) (by rw[qL hj];exact hc) (by rw[qL hk];exact hin) ne bs.length;rw[if_pos (kf.mp hj).1,if_pos (kf.mp hk).1]at z
 lia
def sumN(f:Nat->Int):Nat->Int
 |0=>0
 |n+1=>sumN f n+f n
theorem yv{f g:Nat->Int}:∀n,(∀i,i<n->f i=g i)->sumN f n=sumN g n
 |0,_=>rfl
 |n+1,h=>by
  show sumN f n+f n=sumN g n+g n;rw[yv n λi hi=>h i (vG hi),h n (vH n)]
theorem Zb(f g:Nat->Int):∀n,sumN (λi=>f i+g i) n=sumN f n+sumN g n
 |0=>rfl
 |n+1=>by
  show sumN _ n+(f n+g n)=(sumN f n+f n)+(sumN g n+g n);rw[Zb f g n]
  lia
theorem xB(c:Int):∀n:Nat,sumN (λ_=>c) n=n*c
 |0=>by show(0:Int)=(0:Nat)*c;simp
 |n+1=>by
  show sumN _ n+c=_;rw[xB c n,bL,bP];simp
theorem ju(a b:Int):∀n:Nat,0<=a->a<=b->sumN (λi=>if a<=(i:Int)/\(i:Int)<b then 1 else 0) n=min b n-min a n
 |0,h1,h2=>by show(0:Int)=_;simp;lia
 |n+1,h1,h2=>by
  show sumN _ n+(if a<=(n:Int)/\(n:Int)<b then 1 else 0)=_;rw[ju a b n h1 h2];split<;>lia
theorem YU(f:Nat->Int)(c:Int):∀n,sumN (λi=>f i*c) n=sumN f n*c
 |0=>by show(0:Int)=0*c;simp
 |n+1=>by
  show sumN _ n+f n*c=(sumN f n+f n)*c;rw[YU f c n,bP]
def area(b:Bx):Int:=(b.r-b.l)*(b.b-b.t)
def dbl(f:Int->Int->Int)(W G:Nat):Int:=sumN (λy=>sumN (λx=>f x y) W) G
theorem zdU{W G:Nat}{b:Bx}(o:Ok W G b):dbl (λx y=>((inB b x y).toNat:Int)) W G=area b:=by
 obtain⟨a1,a2,a3,a4,a5,a6⟩:=o;have row:∀y:Nat,sumN (λx=>(((inB b x y).toNat:Nat):Int)) W=(if b.t<=(y:Int)/\(y:Int)<b.b then 1 else 0)*(b.r-b.l):=by
  intro y;by_cases hy:b.t<=(y:Int)/\(y:Int)<b.b
  .rw[if_pos hy,Int.one_mul];have:=ju b.l b.r W a1 ();rw[<-yv (f:=λx=>(((inB b x y).toNat:Nat):Int)) W λi hi=>?_]at this
   .rw[this];lia
   .show _=_;rw[Qj];by_cases hx:b.l<=(i:Int)/\(i:Int)<b.r
    .rw[if_pos ⟨hx.1,hx.2,hy.1,hy.2⟩,if_pos hx];rfl
    .rw[if_neg (λz=>hx ⟨z.1,z.2.1⟩),if_neg hx];rfl
  .rw[if_neg hy,Int.zero_mul];have:=xB 0 W;rw[Int.mul_zero]at this;rw[<-this];refine yv W λi hi=>?_;rw[Qj,if_neg (λz=>hy ⟨z.2.2.1,z.2.2.2⟩)];rfl
 unfold dbl;rw[yv G λy _=>row y,YU,ju b.t b.b G a4 ()];unfold area;rw[Int.mul_comm];congr 1
 lia
theorem zdV(f g:Int->Int->Int)(W G:Nat):dbl (λx y=>f x y+g x y) W G=dbl f W G+dbl g W G:=by
 unfold dbl;rw[<-Zb];exact yv G λy _=>Zb _ _ W
theorem YV{W G:Nat}:∀{bs:List Bx},(∀b∈bs,Ok W G b)->(bs.map area).sum=dbl (λx y=>(cnt bs x y:Int)) W G
 |[],_=>by
  show(0:Int)=_;unfold dbl;have e:∀y:Nat,sumN (λx=>((cnt [] x y:Nat):Int)) W=0:=λy=>by
   have:=xB 0 W;rw[Int.mul_zero]at this;exact this
  rw[yv G λy _=>e y,xB,Int.mul_zero]
 |b::bs,h=>by
  rw[kY,va,YV λc hc=>h c (kn _ hc),<-zdU (h b kg),<-zdV];unfold dbl;refine yv G λy _=>yv W λx _=>?_;show((inB b x y).toNat:Int)+(cnt bs x y:Int)=((cnt (b::bs) x y:Nat):Int);rw[cnt_cons]
  lia
theorem dbl_one(W G:Nat):dbl (λ_ _=>1) W G=W*G:=by
 unfold dbl;rw[yv G λy _=>xB 1 W,xB,Int.mul_one,Int.mul_comm]
theorem Xm{bs:List Bx}{W G:Nat}(T:zS bs W G):(bs.map area).sum=W*G:=by
 rw[YV T.wf,<-dbl_one];unfold dbl;refine yv G λy hy=>yv W λx hx=>?_;show((cnt bs x y:Nat):Int)=1;rw[T.one x y () () () ()];rfl
def lap(b c:Bx):Bool:=(decide (b.l<c.r)&&decide (c.l<b.r))&&(decide (b.t<c.b)&&decide (c.t<b.b))
theorem zfg{b c:Bx}{x y:Int}(h1:inB b x y=true)(h2:inB c x y=true):lap b c=true:=by
 have h1:=z8.mp h1;have h2:=z8.mp h2;unfold lap;simp only[vi,decide_eq_true_eq];omega
theorem jQ{bs:List Bx}{n m:Int}(T:zS bs n m):bs.Pairwise (λb c=>lap b c=false):=by
 rw[vE];intro i j hi hj hij;have ap:=T.apart (kc hi) (kc hj) ();rw[Bool.eq_false_iff];intro z;unfold lap at z;simp only[vi,decide_eq_true_eq]at z;omega
structure Page(W G:Int)(bs:List Bx):Prop where
 w:1<=W
 g:1<=G
 n1:1<=bs.length
 n24:bs.length<=24
 wf:∀b∈bs,b.l<b.r/\b.t<b.b
 within:∀b∈bs,0<=b.l/\b.r<=W/\0<=b.t/\b.b<=G
 apart:bs.Pairwise (λb c=>lap b c=false)
 full:(bs.map area).sum=W*G
theorem Xn{W G:Int}{bs:List Bx}(T:zS bs W G)(hw:1<=W)(hg:1<=G)(hl:bs.length<=24):Page W G bs:=by
 have pos:1<=bs.length:=by
  cases bs with
  |nil=>have q:=T.one 0 0 ⋯ (by assumption) ⋯ (by assumption);cases q
  |cons b bs=>exact ux _
 refine⟨hw,hg,pos,hl,λb hb=>⟨(T.wf b hb).h1,(T.wf b hb).v1⟩,λb hb=>⟨(T.wf b hb).h0,(T.wf b hb).h2,(T.wf b hb).v0,(T.wf b hb).v2⟩,jQ T,?_⟩;obtain⟨w,hw'⟩:=vO (show 0<=W by lia);obtain⟨g,hg'⟩:=vO (show 0<=G by lia);subst hw' hg';exact Xm T
def flp(b:Bx):Bx:=⟨b.t,b.l,b.b,b.r⟩
theorem Ql(b:Bx)(x y:Int):inB (flp b) y x=inB b x y:=by
 rw[vn,z8,z8];show b.t<=y/\y<b.b/\b.l<=x/\x<b.r↔_;constructor
 .rintro⟨a,b,c,d⟩;exact⟨c,d,a,b⟩
 .rintro⟨a,b,c,d⟩;exact⟨c,d,a,b⟩
theorem Qm:∀(bs:List Bx)(x y:Int),cnt (bs.map flp) y x=cnt bs x y
 |[],_,_=>rfl
 |b::bs,x,y=>by rw[kY,cnt_cons,cnt_cons,Qm bs x y,Ql]
theorem qa{bs:List Bx}{n m:Int}(T:zS bs n m):zS (bs.map flp) m n:=by
 refine⟨λc hc=>?_,λx y h1 h2 h3 h4=>?_⟩
 .obtain⟨b,hb,rfl⟩:=kU.mp hc;obtain⟨o1,o2,o3,o4,o5,o6⟩:=T.wf b hb;exact⟨o4,o5,o6,o1,o2,o3⟩
 .rw[Qm];exact T.one y x h3 h4 h1 h2
section
variable{cs:List Bx}{ws us:List Tr}{W G:Int}(T:zS cs W G)
theorem Qn(T:zS cs W G){b c:Bx}{x y:Int}(hb:b∈cs)(hc:c∈cs)(ib:inB b x y=true)(ic:inB c x y=true):b=c:=by
 have o:=T.wf b hb;have i:=z8.mp ib;obtain⟨k,d,_,_,uni⟩:=Jp T (x:=x) (y:=y) (by have:=o.h0;lia) (by have:=o.h2;omega) (by have:=o.v0;lia) (by have:=o.v2;lia);obtain⟨p,hp⟩:=bD.mp hb;obtain⟨q,hq⟩:=bD.mp hc;have e1:=uni p b hp ib;have e2:=uni q c hq ic;rw[e1]at hp;rw[e2,hp]at hq;exact Option.some.inj hq
end
def wthn(p b:Bx):Bool:=(decide (p.l<=b.l)&&decide (b.r<=p.r))&&(decide (p.t<=b.t)&&decide (b.b<=p.b))
theorem zG{p b:Bx}:wthn p b=true↔p.l<=b.l/\b.r<=p.r/\p.t<=b.t/\b.b<=p.b:=by
 unfold wthn;simp[and_assoc]
theorem zdW{bs:List Bx}{x y:Int}(h:cnt bs x y=1):∃b∈bs,inB b x y=true:=by
 unfold cnt at h;have:0<bs.countP (inB · x y):=()
 exact List.countP_pos_iff.mp this
structure Piece(cs:List Bx)(p:Bx):Prop where
 wide:p.l<p.r
 high:p.t<p.b
 fill:∀x y,p.l<=x->x<p.r->p.t<=y->y<p.b->∃b∈cs,wthn p b=true/\inB b x y=true
section
variable{cs:List Bx}{W G:Int}{p:Bx}
theorem YW(T:zS cs W G):Piece cs p↔(0<=p.l/\p.l<p.r/\p.r<=W)/\(0<=p.t/\p.t<p.b/\p.b<=G)/\∀b∈cs,lap b p=true->wthn p b=true:=by
 constructor
 .intro P;have w:=P.wide;have h:=P.high;obtain⟨b,hb,_,hi⟩:=P.fill p.l p.t () (by omega) () (by omega);obtain⟨c,hc,_,hj⟩:=P.fill (p.r-1) (p.b-1) () () () ();have o:=T.wf b hb;have o2:=T.wf c hc;have i:=z8.mp hi;have j:=z8.mp hj;have:=o.h0;have:=o.v0;have:=o2.h2;have:=o2.v2;refine⟨⟨(),w,by omega⟩,⟨(),h,()⟩,λd hd hl=>?_⟩;unfold lap at hl;simp only[vi,decide_eq_true_eq]at hl;have od:=T.wf d hd;have:=od.h1;have:=od.v1;obtain⟨x,hx⟩:∃x,x=max d.l p.l:=⟨_,rfl⟩;obtain⟨y,hy⟩:∃y,y=max d.t p.t:=⟨_,rfl⟩;obtain⟨c,hc,hw,hj⟩:=P.fill x y () () () ();have:inB d x y=true:=z8.mpr ⟨(),(),(),()⟩;rw[Qn T hd hc this hj];exact hw
 .rintro⟨⟨h1,h2,h3⟩,⟨h4,h5,h6⟩,all⟩;refine⟨h2,h5,λx y x1 x2 y1 y2=>?_⟩;obtain⟨b,hb,hi⟩:=zdW (T.one x y () () () ());exact⟨b,hb,all b hb (zfg hi (z8.mpr ⟨x1,x2,y1,y2⟩)),hi⟩
def CutX(cs:List Bx)(p:Bx)(e:Int):Prop:=p.l<e/\e<p.r/\∀b∈cs,wthn p b=true->¬(b.l<e/\e<b.r)
theorem zcd(P:Piece cs p){e:Int}(c:CutX cs p e):∃b∈cs,wthn p b=true/\b.l=e:=by
 obtain⟨b,hb,hw,hi⟩:=P.fill e p.t (by have:=c.1;lia) c.2.1 (kX _) P.high;have i:=z8.mp hi;have:=c.2.2 b hb hw;exact⟨b,hb,hw,by omega⟩
theorem jv(P:Piece cs p):∃b∈cs,wthn p b=true/\b.l=p.l:=by
 obtain⟨b,hb,hw,hi⟩:=P.fill p.l p.t (kX _) P.wide (kX _) P.high;have i:=z8.mp hi;have j:=zG.mp hw;exact⟨b,hb,hw,()⟩
theorem ends_right(P:Piece cs p):∃b∈cs,wthn p b=true/\b.r=p.r:=by
 obtain⟨b,hb,hw,hi⟩:=P.fill (p.r-1) p.t (by have:=P.wide;lia) () (kX _) P.high;have i:=z8.mp hi;have j:=zG.mp hw;exact⟨b,hb,hw,by omega⟩
theorem YX(T:zS cs W G)(P:Piece cs p):p∈cs↔∀b∈cs,∀c∈cs,wthn p b=true->wthn p c=true->b=c:=by
 constructor
 .intro hp;have all:∀b∈cs,wthn p b=true->b=p:=λb hb hw=>by
   have o:=T.wf b hb;have i:=zG.mp hw;have:=o.h1;have:=o.v1;exact Qn T hb hp (x:=b.l) (y:=b.t) (z8.mpr ⟨(),by omega,(),by omega⟩) (z8.mpr ⟨(),(),(),()⟩)
  intro b hb c hc h1 h2;rw[all b hb h1,all c hc h2]
 .intro h;have w:=P.wide;have g:=P.high;obtain⟨b,hb,hw,hi⟩:=P.fill p.l p.t () (by omega) () (by omega);obtain⟨c,hc,hw2,hj⟩:=P.fill (p.r-1) (p.b-1) () () () ();have e:=h b hb c hc hw hw2;subst e;have i:=z8.mp hi;have j:=z8.mp hj;have k:=zG.mp hw;have:b=p:=by
   obtain⟨l,t,r,d⟩:=b;obtain⟨l2,t2,r2,d2⟩:=p;dsimp only at *;congr<;>lia
  rw[<-this];exact hb
end
def acr(bs:List Bx)(e:Int):Bool:=bs.any λb=>decide (b.l<e)&&decide (e<b.r)
theorem zdX{bs:List Bx}{e:Int}:acr bs e=true↔∃b∈bs,b.l<e/\e<b.r:=by
 unfold acr;simp
section
variable{cs:List Bx}{W G:Int}{p:Bx}{ms:List Int}
theorem xP(P:Piece cs p)(mem:∀z,z∈ms↔z∈(cs.filter (wthn p)).map (·.l)++(cs.filter (wthn p)).map (·.r))(wf:∀b∈cs,b.l<b.r){e:Int}:e∈ms.filter (λe=>!acr (cs.filter (wthn p)) e)↔e=p.l\/e=p.r\/CutX cs p e:=by
 have inside:∀b∈cs.filter (wthn p),b∈cs/\wthn p b=true/\p.l<=b.l/\b.l<b.r/\b.r<=p.r:=λb hb=>by
  obtain⟨h1,h2⟩:=vD.mp hb;have i:=zG.mp h2;exact⟨h1,h2,i.1,wf b h1,i.2.1⟩
 have un:∀e:Int,(!acr (cs.filter (wthn p)) e)=true↔∀b∈cs,wthn p b=true->¬(b.l<e/\e<b.r):=λe=>by
  rw[bA,<-Bool.not_eq_true,zdX];constructor
  .intro h b hb hw z;exact h ⟨b,vD.mpr ⟨hb,hw⟩,z⟩
  .rintro h ⟨b,hb,z⟩;exact h b (inside b hb).1 (inside b hb).2.1 z
 rw[vD,mem,k7,un];constructor
 .rintro⟨h,u⟩;by_cases e1:e=p.l
  .exact .inl e1
  by_cases e2:e=p.r
  .exact .inr (.inl e2)
  refine .inr (.inr ?_);rcases h with h|h<;>obtain⟨b,hb,rfl⟩:=kU.mp h<;>have:=inside b hb
  .exact⟨(),by omega,u⟩
  .exact⟨by omega,(),u⟩
 .rintro(rfl|rfl|c)
  .obtain⟨b,hb,hw,e⟩:=jv P;refine⟨.inl (kU.mpr ⟨b,vD.mpr ⟨hb,hw⟩,e⟩),λc hc hw z=>?_⟩;have:=(zG.mp hw).1
   lia
  .obtain⟨b,hb,hw,e⟩:=ends_right P;refine⟨.inr (kU.mpr ⟨b,vD.mpr ⟨hb,hw⟩,e⟩),λc hc hw z=>?_⟩;have:=(zG.mp hw).2.1
   lia
  .obtain⟨b,hb,hw,e⟩:=zcd P c;exact⟨.inl (kU.mpr ⟨b,vD.mpr ⟨hb,hw⟩,e⟩),c.2.2⟩
theorem three{us:List Int}(up:us.Pairwise (· < ·)){a b:Int}(hab:a<b)(ha:a∈us)(hb:b∈us):3<=us.length↔∃e∈us,e≠a/\e≠b:=by
 match us,up with
 |[],_=>cases ha
 |[x],_ =>
  rw[kq]at ha hb
  lia
 |[x,y],up =>
  have xy:x<y:=(vf.mp up).1 y (by simp);have ea:a=x:=by
   rcases kK.mp ha with h|h
   .exact h
   .rw[kq]at h;rcases kK.mp hb with h2|h2
    .lia
    .rw[kq]at h2;lia
  have eb:b=y:=by
   rcases kK.mp hb with h2|h2
   .lia
   .exact kq.mp h2
  refine⟨λh=>absurd h (by simp),λh9=>?_⟩;obtain⟨e,he,n1,n2⟩:=h9;rcases kK.mp he with h|h
  .lia
  .rw[kq]at h;lia
 |x::y::z::l,up =>
  refine⟨λ_=>?_,λ_=>by simp⟩;obtain⟨u1,u2⟩:=vf.mp up;have xy:=u1 y (by simp);have xz:=u1 z (by simp);have yz:y<z:=(vf.mp u2).1 z (by simp);by_cases h1:x≠a/\x≠b
  .exact⟨x,by simp,h1⟩
  by_cases h2:y≠a/\y≠b
  .exact⟨y,by simp,h2⟩
  .exact⟨z,by simp,(),()⟩
theorem jw{us:List Int}(up:us.Pairwise (· < ·))(q:Int->Bool):(us.filter q).Pairwise (· < ·):=List.Pairwise.sublist List.filter_sublist up
theorem YY(P:Piece cs p)(wf:∀b∈cs,b.l<b.r)(up:ms.Pairwise (· < ·))(mem:∀z,z∈ms↔z∈(cs.filter (wthn p)).map (·.l)++(cs.filter (wthn p)).map (·.r)):3<=(ms.filter λe=>!acr (cs.filter (wthn p)) e).length↔∃e,CutX cs p e:=by
 rw[three (jw up _) P.wide ((xP P mem wf).mpr (.inl rfl)) ((xP P mem wf).mpr (.inr (.inl rfl)))];constructor
 .rintro⟨e,he,n1,n2⟩;rcases(xP P mem wf).mp he with h|h|h
  .exact absurd h n1
  .exact absurd h n2
  .exact⟨e,h⟩
 .rintro⟨e,c⟩;exact⟨e,(xP P mem wf).mpr (.inr (.inr c)),by have:=c.1;lia,by have:=c.2.1;lia⟩
end
end _Til
namespace _Stb
open PySem
def Rise(xs:Array Nat):Prop:=xs.toList.Pairwise (· < ·)
theorem Rise.lt{xs:Array Nat}(r:Rise xs){i j a b:Nat}(h:i<j)(ha:xs[i]?=some a)(hb:xs[j]?=some b):a<b:=by
 rw[<-Array.getElem?_toList]at ha hb;obtain⟨hi,ea⟩:=kf.mp ha;obtain⟨hj,eb⟩:=kf.mp hb;have:=vE.mp r i j hi hj h;rw[ea,eb]at this;exact this
theorem zdY{xs:Array Nat}{j:Nat}(r:Rise xs):∀(f lo hi:Nat),hi-lo<=f->lo<=hi->hi<=xs.size->(∀i a,i<lo->xs[i]?=some a->a<j)->(∀i a,hi<=i->xs[i]?=some a->j<=a) ->
  SetTable.below.go xs j f lo hi<=xs.size/\(∀i a,i<SetTable.below.go xs j f lo hi->xs[i]?=some a->a<j)/\(∀i a,SetTable.below.go xs j f lo hi<=i->xs[i]?=some a->j<=a):=by
 intro f
 induction f with
 |zero =>
  intro lo hi h1 h2 h3 hl hh;rw[SetTable.below.go];have:lo=hi:=()
  subst this;exact⟨h3,hl,hh⟩
 |succ f ih =>
  intro lo hi h1 h2 h3 hl hh;rw[SetTable.below.go];by_cases h:lo<hi
  .rw[if_pos h];have hm:(lo+hi) / 2<xs.size:=()
   have e:xs[(lo+hi) / 2]?=some (xs.getD ((lo+hi) / 2) j):=by
    rw[Array.getElem?_eq_getElem hm,Array.getD,dif_pos hm];rfl
   dsimp only;by_cases hc:xs.getD ((lo+hi) / 2) j<j
   .rw[if_pos hc];refine ih _ _ (by omega) () h3 (λi a hi' ea=>?_) hh;by_cases e2:i=(lo+hi) / 2
    .subst e2;rw[e]at ea;injection ea with ea
     lia
    .have:=r.lt (show i<(lo+hi) / 2 by lia) ea e
     lia
   .rw[if_neg hc];refine ih _ _ (by omega) () () hl (λi a hi' ea=>?_);by_cases e2:i=(lo+hi) / 2
    .subst e2;rw[e]at ea;injection ea with ea
     lia
    .have:=r.lt (show(lo+hi) / 2<i by lia) e ea
     lia
  .rw[if_neg h];have:lo=hi:=()
   subst this;exact⟨h3,hl,hh⟩
theorem qM{xs:Array Nat}(j:Nat)(r:Rise xs):SetTable.below xs j<=xs.size/\(∀i a,i<SetTable.below xs j->xs[i]?=some a->a<j)/\(∀i a,SetTable.below xs j<=i->xs[i]?=some a->j<=a) :=
 zdY r _ _ _ () (kN _) (km _) (λi _ h _=>absurd h (bj _)) (λi a h e=>by
  rw[Array.getElem?_eq_none h]at e;cases e)
theorem below_at{xs:Array Nat}(r:Rise xs){i a:Nat}(h:xs[i]?=some a):SetTable.below xs (a+1)=i+1:=by
 obtain⟨h1,h2,h3⟩:=qM (a+1) r;have hi:i<xs.size:=(Array.getElem?_eq_some_iff.mp h).1;refine uU (uc.mp λz=>?_) (uc.mp λz=>?_)
 .have hz:i+1<xs.size:=()
  have e:=Array.getElem?_eq_getElem hz;have a1:=h2 _ _ z e;have a2:=r.lt (vH i) h e
  lia
 .have:=h3 _ _ (show SetTable.below xs (a+1)<=i by lia) h
  lia
theorem Jq{xs:Array Nat}(r:Rise xs):SetTable.below xs 0=0:=by
 obtain⟨h1,h2,h3⟩:=qM 0 r;refine uU (uc.mp λz=>?_) (kN _);have hz:0<xs.size:=()
 exact absurd (h2 _ _ z (Array.getElem?_eq_getElem hz)) (bj _)
theorem WV{xs:Array Nat}{j:Nat}(r:Rise xs)(n:xs[SetTable.below xs j]?≠some j):Rise (SetTable.insertAt xs (SetTable.below xs j) j):=by
 obtain⟨h1,h2,h3⟩:=qM j r;generalize SetTable.below xs j=p at n h1 h2 h3;unfold Rise SetTable.insertAt;have e:((xs.extract 0 p).push j++xs.extract p xs.size).toList=xs.toList.take p++j::xs.toList.drop p:=by
  simp only[Array.toList_append,Array.toList_push,Array.toList_extract,List.extract_eq_drop_take,uK,Nat.sub_zero,ud,List.singleton_append];rw[uy (l:=xs.toList.drop p) (by rw[vk,Array.length_toList];exact km _)]
 rw[e];rw[bH,vf];refine⟨List.Pairwise.sublist (List.take_sublist _ _) r,⟨λb hb=>?_,List.Pairwise.sublist (List.drop_sublist _ _) r⟩,λa ha b hb=>?_⟩
 .obtain⟨i,hi,rfl⟩:=vg.mp hb;rw[List.getElem_drop];rw[vk,Array.length_toList]at hi;have eb:xs[p+i]?=some (xs.toList[p+i]'(by rw[Array.length_toList];lia)):=by
   rw[<-Array.getElem?_toList,kc (by rw[Array.length_toList];lia)]
  have le:=h3 _ _ (u5 p i) eb;refine uQ le λz=>?_;by_cases e0:i=0
  .subst e0;exact n (eb.trans (congrArg some z.symm))
  .have hp:p<xs.size:=()
   have ep:=Array.getElem?_eq_getElem hp;have a1:=h3 _ _ (km p) ep;have a2:=r.lt (show p<p+i by lia) ep eb
   lia
 .have ha':a<j:=by
   obtain⟨i,hi,rfl⟩:=vg.mp ha;rw[List.getElem_take];rw[kQ,Array.length_toList]at hi;refine h2 i _ () ?_;rw[<-Array.getElem?_toList,kc]
  rcases kK.mp hb with rfl|hb
  .exact ha'
  .refine vd ha' ?_;obtain⟨i,hi,rfl⟩:=vg.mp hb;rw[List.getElem_drop];rw[vk,Array.length_toList]at hi;refine h3 (p+i) _ (u5 _ _) ?_;rw[<-Array.getElem?_toList,kc]
theorem Jr{t:SetTable}{at_:Nat->Int}{h:Int}:∀(f:Nat)(p:SetTable.Probe)(j:Nat)(d:Option Nat),(∀d,p.dummy=some d->∀i,t.slot d≠.live i)->SetTable.probe.go t at_ h f p=some (.empty j d)->∀i,t.slot (d.getD j)≠.live i:=by
 intro f
 induction f with
 |zero =>
  intro p j d _ e;rw[SetTable.probe.go]at e;cases e
 |succ f ih =>
  intro p j d hd e;rw[SetTable.probe.go]at e;have adv:∀q:SetTable.Probe,(t.advance q).dummy=q.dummy:=by
   intro q;unfold SetTable.advance;split<;>rfl
  cases hs:t.slot p.j with
  |empty =>
   rw[hs]at e;injection e with e;injection e with e1 e2;subst e1;subst e2;intro i;cases hp:p.dummy with
   |none=>rw[Option.getD_none,hs];intro z;cases z
   |some d=>exact hd d hp i
  |dummy =>
   rw[hs]at e;refine ih _ _ _ (λd' hd' i=>?_) e;rw[adv]at hd';injection hd' with hd';subst hd';rw[hs];intro z;cases z
  |live i0 =>
   rw[hs]at e;dsimp only at e;split at e
   .injection e with e;cases e
   .refine ih _ _ _ (λd' hd'=>?_) e;rw[adv]at hd';exact hd d' hd'
theorem zaU{t:SetTable}{h:Int}{s:Nat}{b:Bool}(e:t.freeSlot h=some (s,b)):∀i,t.slot s≠.live i:=by
 unfold SetTable.freeSlot SetTable.probe at e;split at e
 .next j d hp =>
  injection e with e;injection e with e1 _;subst e1;exact Jr _ _ _ _ (λd hd=>by cases hd) hp
 .cases e
structure Tg(b:Bool)(t:SetTable):Prop where
 led:t.led=b
 rise:t.plain=true->Rise t.place
theorem zce{b:Bool}:Tg b (.fresh 0 0 b):=⟨rfl,λ_=>List.Pairwise.nil⟩
theorem wA{b:Bool}{t:SetTable}{n:Nat}(g:Tg b t):Tg b (t.standIn n):=⟨g.led,λz=>by cases z⟩
theorem zfh{b:Bool}{t:SetTable}(g:Tg b t):Tg b {t with plain:=false}:=⟨g.led,λz=>by cases z⟩
theorem zaV{b:Bool}{t:SetTable}(es:Array (Int×Value))(h:Int)(x:Value)(g:Tg b t):Tg b (layNew t es h x).2.1:=by
 unfold layNew;split
 .next s wd e =>
  have nl:=zaU e;have gp:Tg b (t.put s).1:=by
   refine⟨g.led,λhp=>WV (g.rise hp) λz=>?_⟩;refine nl (SetTable.below t.place s) ?_;unfold SetTable.slot;rw[if_pos (by rw[z];exact beq_self_eq_true _)]
  dsimp only;unfold SetTable.orStandIn;split
  .exact gp
  .exact wA gp
 .exact wA g
theorem zaW(f:Nat->Option Nat):∀(l:List Nat),l.Pairwise (· < ·)->((l.filterMap λj=>(f j).map (j,·)).map (·.1)).Pairwise (· < ·)/\∀a∈(l.filterMap λj=>(f j).map (j,·)).map (·.1),a∈l:=by
 intro l
 induction l with
 |nil=>intro _;exact⟨List.Pairwise.nil,λa h=>h⟩
 |cons k l ih =>
  intro h;obtain⟨h1,h2⟩:=vf.mp h;obtain⟨i1,i2⟩:=ih h2;rw[uu];cases f k with
  |none=>exact⟨i1,λa ha=>kn _ (i2 a ha)⟩
  |some v =>
   refine⟨vf.mpr ⟨λb hb=>h1 b (i2 b hb),i1⟩,λa ha=>?_⟩;rcases kK.mp ha with rfl|ha
   .exact kg
   .exact kn _ (i2 a ha)
theorem zcf{b:Bool}{t:SetTable}(es:Array (Int×Value))(n:Nat)(g:Tg b t):Tg b (relayAll t es n).2.1:=by
 unfold relayAll;split
 .next t' o e =>
  dsimp only;split
  .unfold SetTable.relaid SetTable.laid at e;cases hl:SetTable.layClean (SetTable.sizeAbove n-1) (es.map (·.1))with
   |none=>rw[hl]at e;cases e
   |some w =>
    rw[hl]at e;injection e with e;injection e with e1 _;subst e1;exact⟨g.led,λ_=>(zaW _ _ List.pairwise_lt_range).1⟩
  .exact wA g
 .exact wA g
end _Stb
namespace _L2
open PySem PySem.Spec PyProof.Rows PySem.W
def IvAt(H:Hp)(v:V)(z:List Int):Prop:=∃p,v=.ref p/\H p=some (.tup (z.map V.int))
def wB(H:Hp):List V->List (List Int)->Prop:=Paired (IvAt H)
theorem IvAt.same{H H':Hp}(S:Same H H'){v:V}{z:List Int}(h:IvAt H v z):IvAt H' v z:=let ⟨p,e,q⟩:=h;⟨p,e,S _ _ q⟩
theorem wB.same{H H':Hp}(S:Same H H'){vs:List V}{zs:List (List Int)}(h:wB H vs zs):wB H' vs zs:=Paired.imp' (λ_ _=>IvAt.same S) h
theorem wB.len{H:Hp}{vs:List V}{zs:List (List Int)}(h:wB H vs zs):vs.length=zs.length:=Paired.length h
theorem xG{α β:Type}{F:α->β->Prop}:∀{xs:List α}{ys:List β}{i:Nat}{x:α},Paired F xs ys->xs[i]?=some x->∃y,ys[i]?=some y/\F x y
 |_,_,_,_,.nil,e=>by simp at e
 |_,_,0,_,.cons r _,e=>by simp at e;subst e;exact⟨_,rfl,r⟩
 |_,_,i+1,x,.cons _ t,e=>by
  obtain⟨v,h1,h2⟩:=xG (i:=i) (x:=x) t (by simpa using e);exact⟨v,by simpa using h1,h2⟩
section
variable{prog:Program}{w:World}{K:Type}[DecidableEq K](knd:PySem.KeyKind prog w K)
def SetG(h:Heap)(a:Addr)(S:K->Bool)(n:Nat):Prop :=
 ∃(o:Obj)(es:Array (Int×Value))(ep:Nat)(t:SetTable),h.get? a=some o/\o.ExactSet/\o.data=.set es ep t/\ElemsOf knd es.toList/\(∀k,S k=true↔∃e∈es.toList,knd.is k e.2=true)/\es.size<scanBound/\t.fits es.size=true/\es.size=n/\_Stb.Tg (!w.params.followText "set-order") t
variable{knd}{A:Around}{E:Value->Shared->Prop}{s:Shared}
theorem SetG.congr{h:Heap}{a:Addr}{S S':K->Bool}{n n':Nat}(g:SetG knd h a S n)(e:∀k,S k=S' k)(en:n=n'):SetG knd h a S' n':=by
 have:S=S':=funext e;subst this;subst en;exact g
theorem SetG.keep{h h':Heap}{a:Addr}{S:K->Bool}{n:Nat}(g:SetG knd h a S n)(k:∀o,h.get? a=some o->h'.get? a=some o):SetG knd h' a S n :=
 let ⟨o,es,ep,t,ho,r⟩:=g
 ⟨o,es,ep,t,k o ho,r⟩
theorem ZH{h:Heap}{a:Addr}{o:Obj}{es es1:Array (Int×Value)}{ep:Nat}{t t1:SetTable}{S1:K->Bool}(p:h.get? a=some o)(x:o.ExactSet)(d:o.data=.set es ep t)(el:ElemsOf knd es1.toList)
  (me:∀k,S1 k=true↔∃e∈es1.toList,knd.is k e.2=true)(bd:es1.size<scanBound)(ft:t1.fits es1.size=true)(g:_Stb.Tg (!w.params.followText "set-order") t1):
  (h.update a (Obj.putSet es1 t1)).get? a=some {o with data:=.set es1 (ep+1) t1}/\SetG knd (h.update a (Obj.putSet es1 t1)) a S1 es1.size:=by
 have z:=(SetOf_store (knd:=knd) p x d el me bd ft).1;exact⟨z,_,_,_,_,z,x,rfl,el,me,bd,ft,rfl,g⟩
theorem YZ{gv:Bool->Sem Unit}(hgv:∀(b:Bool)(s1:Shared)(Q1:Unit->Shared->Prop),Q1 Unit.unit s1->wpAny (model prog w) A (gv b) Q1 E s1)
  {a:Addr}{o:Obj}{es es1:Array (Int×Value)}{ep:Nat}{t t2:SetTable}{S1:K->Bool}(p:s.heap.get? a=some o)(x:o.ExactSet)(d:o.data=.set es ep t)(el:ElemsOf knd es1.toList)
  (me:∀k,S1 k=true↔∃e∈es1.toList,knd.is k e.2=true)(bd:es1.size<scanBound)(ft:t2.fits es1.size=true)(g:_Stb.Tg (!w.params.followText "set-order") t2){was:Bool}{R:Option Bool->Shared->Prop}
  (q:∀h',Heap.SameBut a s.heap h'->SetG knd h' a S1 es1.size->R (some true) {s with heap:=h'}):
  wpAny (model prog w) A (do
    storeSet a es1 t2
    if(!was&&t2.tooFull)=true then do
       gv (relayAll t2 es1 (SetTable.grown es1.size)).2.2
       storeSet a (relayAll t2 es1 (SetTable.grown es1.size)).1 (relayAll t2 es1 (SetTable.grown es1.size)).2.1
       pure (some true)
     else pure (some true)) R E s:=by
 refine wpAny_bind (wpAny_storeSet_of p d ?_ (fits_of_scanBound bd));obtain⟨p1,g1⟩:=ZH (knd:=knd) p x d el me bd ft g;have sb:=Heap.SameBut.update s.heap a (Obj.putSet es1 t2);split
 .have hp:=relayAll_perm t2 es1 (SetTable.grown es1.size);have hf:=relayAll_fits t2 es1 (SetTable.grown es1.size);have hg:=_Stb.zcf es1 (SetTable.grown es1.size) g;generalize relayAll t2 es1 (SetTable.grown es1.size)=Z at hp hf hg ⊢;obtain⟨es2,t3,gave⟩:=Z;dsimp only at hp hf hg ⊢;have el2:ElemsOf knd es2.toList:=el.perm hp;have me2:∀k',S1 k'=true↔∃e∈es2.toList,knd.is k' e.2=true:=λk'=>by
   rw[me k'];exact⟨λ⟨e,a1,a2⟩=>⟨e,hp.mem_iff.mpr a1,a2⟩,λ⟨e,a1,a2⟩=>⟨e,hp.mem_iff.mp a1,a2⟩⟩
  have sz:es2.size=es1.size:=by
   have:=hp.length_eq
   rwa [Array.length_toList,Array.length_toList]at this
  refine wpAny_bind (hgv _ _ _ (wpAny_bind (wpAny_storeSet_of p1 rfl ?_ (fits_of_scanBound ()))));have g2:=(ZH (knd:=knd) p1 x rfl el2 me2 () hf hg).2;rw[sz]at g2;exact wpAny_pure (q _ (sb.trans (Heap.SameBut.update _ a _)) g2)
 .exact wpAny_pure (q _ sb g1)
theorem zcg{a:Addr}{S:K->Bool}{n:Nat}{k:K}{v:Value}{Q:Bool->Shared->Prop}(hk:knd.is k v=true)(sc:v.scannable=true)(G:SetG knd s.heap a S n)(rm:n+1<scanBound)
  (q:∀h',Heap.SameBut a s.heap h'->SetG knd h' a (λk'=>S k'||decide (k'=k)) (if S k then n else n+1)->Q (!S k) {s with heap:=h'}):
  wpAny (model prog w) A (setAddHashed a v (knd.hash k)) Q E s:=by
 obtain⟨o,es,ep,t,p,x,d,el,me,bd,ft,en,g⟩:=id G;unfold setAddHashed setAddHashedIn;refine wpAny_holding (wpAny_bind (wpAny_setState_of p d ft ?_));dsimp only;rw[byScan_of sc bd el,if_pos rfl];unfold setAddByScan;refine wpAny_bind (wpAny_bind (wpAny_rule (wpAny_bind (wpAny_setScan_of hk p d ft el ?_))));cases hr:List.findIdx? (λe=>knd.is k e.2) es.toList with
 |some j =>
  obtain⟨hj,pj,_⟩:=List.findIdx?_eq_some_iff_getElem.mp hr;have Sk:S k=true:=(me k).mpr ⟨_,vv hj,pj⟩;refine wpAny_pure (wpAny_pure ?_);have z:=q s.heap (Heap.SameBut.refl a s.heap) (G.congr (λk'=>by
   by_cases e:k'=k
   .rw[e,Sk];rfl
   .rw[decide_eq_false e,bE]) (by rw[if_pos Sk]))
  rw[Sk]at z;exact z
 |none =>
  dsimp only;have Sk:S k=false:=by
   cases z:S k with
   |false=>rfl
   |true =>
    obtain⟨e,he,hp⟩:=(me k).mp z;have:=List.findIdx?_eq_none_iff.mp hr e he;rw[hp]at this;cases this
  have gw:∀(b:Bool)(s1:Shared)(Q1:Unit->Shared->Prop),Q1 Unit.unit s1->wpAny (model prog w) A (match b with|true=>rule "set.scan.the-table-gave-way" | false=>pure Unit.unit) Q1 E s1:=λb s1 Q1 z=>by
   cases b
   .exact wpAny_pure z
   .exact wpAny_rule z
  have hp:=layNew_perm t es (knd.hash k) v;have hf:=layNew_fits t es (knd.hash k) v;have hg:=_Stb.zaV es (knd.hash k) v g;generalize layNew t es (knd.hash k) v=L at hp hf hg ⊢;obtain⟨es1,t1,was,gave⟩:=L;dsimp only at hp hf hg ⊢;rw[Array.toList_push]at hp;have el1:ElemsOf knd es1.toList:=(el.push hk sc).perm hp;have me1:=mem_push_iff hk me hp;have sz:es1.size=n+1:=by
   have:=hp.length_eq;rw[kt,Array.length_toList,Array.length_toList,en]at this;exact this
  have bd1:es1.size<scanBound:=()
  refine wpAny_bind (gw _ _ _ ?_);have fin:∀h',Heap.SameBut a s.heap h'->SetG knd h' a (λk'=>S k'||decide (k'=k)) es1.size->Q true {s with heap:=h'}:=λh' sb g'=>by
   have z:=q h' sb;rw[Sk]at z;exact z (g'.congr (λ_=>rfl) sz)
  split
  .refine wpAny_bind ?_;rw[hashByValue_scannable 8 sc];refine wpAny_pure (YZ gw p x d el1 me1 bd1 ?_ ?_ λh' sb g'=>wpAny_pure (fin h' sb g'))
   .split
    .exact hf
    .exact SetTable.fits_plain_off hf
   .split
    .exact hg
    .exact _Stb.zfh hg
  .refine wpAny_bind (wpAny_pure ?_);rw[if_pos rfl];exact YZ gw p x d el1 me1 bd1 hf hg λh' sb g'=>wpAny_pure (fin h' sb g')
end
section
variable{K:Type}[DecidableEq K]
def dd(l:List K):List K:=l.foldl (λσ k=>if k∈σ then σ else σ++[k]) []
theorem Yk(l:List K)(k:K):dd (l++[k])=if k∈dd l then dd l else dd l++[k]:=by
 unfold dd;rw[uo];rfl
theorem snoc_ind{P:List K->Prop}(h0:P [])(h1:∀l k,P l->P (l++[k]))(l:List K):P l:=by
 have:∀m:List K,P m.reverse:=by
  intro m
  induction m with
  |nil=>exact h0
  |cons a m ih=>rw[List.reverse_cons];exact h1 _ _ ih
 have z:=this l.reverse
 rwa [List.reverse_reverse]at z
theorem Qo(l:List K):(dd l).Nodup/\(∀k,k∈dd l↔k∈l)/\(dd l).length<=l.length:=by
 refine snoc_ind (P:=λl=>(dd l).Nodup/\(∀k,k∈dd l↔k∈l)/\(dd l).length<=l.length) ⟨List.nodup_nil,λk=>Iff.rfl,km _⟩ (λl k ih=>?_) l;obtain⟨h1,h2,h3⟩:=ih;rw[Yk,kt,vo];by_cases h:k∈dd l
 .rw[if_pos h];refine⟨h1,λk'=>?_,()⟩;rw[k7,kq,h2];exact⟨.inl,λz=>z.elim id λe=>e ▸ (h2 k).mp h⟩
 .rw[if_neg h,kt,vo];refine⟨List.nodup_append.mpr ⟨h1,by simp,λa ha b hb=>?_⟩,λk'=>?_,()⟩
  .rw[kq]at hb;subst hb;exact λe=>h (e ▸ ha)
  .rw[k7,kq,k7,kq,h2]
theorem jR:∀(σ ks:List K),σ.Nodup->(∀k∈σ,k∈ks)->ks.length=σ.length->ks.Perm σ
 |[],ks,_,_,h=>by
  rw[vN.mp h]
 |k::σ,ks,nd,sub,h=>by
  obtain⟨n1,n2⟩:=ug.mp nd;have hk:=sub k kg;refine(List.perm_cons_erase hk).trans (List.Perm.cons k (jR σ _ n2 (λk' hk'=>?_) ?_))
  .exact(bI (λe:k'=k=>n1 (e ▸ hk'))).mpr (sub k' (kn _ hk'))
  .rw[bi hk,h];rfl
end
section
variable{prog:Program}{w:World}{K:Type}[DecidableEq K]{knd:PySem.KeyKind prog w K}{A:Around}{R:Result->Shared->Prop}{I:Addr}{fp wr:List Addr}{G:Array GenState->Array GenState->Prop}{n:Nat}{P:Nat->Value->Prop}{St:Nat->Shared->Prop}
theorem zaX{h:Heap}{a:Addr}{val:Nat->K}{i:Nat}(g:SetG knd h a (λk'=>decide (k'∈dd ((kR i).map val))||decide (k'=val i)) (if decide (val i∈dd ((kR i).map val))=true then(dd ((kR i).map val)).length else (dd ((kR i).map val)).length+1)):
  SetG knd h a (λk'=>decide (k'∈dd ((kR (i+1)).map val))) (dd ((kR (i+1)).map val)).length:=by
 have e:(kR (i+1)).map val=(kR i).map val++[val i]:=by rw[List.range_succ,kF];rfl
 refine g.congr (λk=>?_) ?_
 .rw[e,Yk];by_cases h:val i∈dd ((kR i).map val)
  .rw[if_pos h];by_cases e:k=val i
   .rw[e,decide_eq_true h];rfl
   .rw[decide_eq_false e,bE]
  .rw[if_neg h,<-Bool.decide_or];exact decide_eq_decide.mpr (by rw[k7,kq])
 .rw[e,Yk];by_cases h:val i∈dd ((kR i).map val)
  .rw[if_pos h,if_pos (decide_eq_true h)]
  .rw[if_neg h,if_neg (by rw[decide_eq_false h];exact kH),kt];rfl
theorem zaY(W:WalksS prog w A.in1 I fp wr G n P St)(a:Addr)(na:a∉fp)(val:Nat->K)(hval:∀i v,P i v->knd.is (val i) v=true/\v.scannable=true)(hb:n+1<scanBound):
  ∀(k i:Nat)(s:Shared),n-i=k->i<=n->St i s->SetG knd s.heap a (λk'=>decide (k'∈dd ((kR i).map val))) (dd ((kR i).map val)).length ->
   (∀s',Moved (a::wr) G s s'->SetG knd s'.heap a (λk'=>decide (k'∈dd ((kR n).map val))) (dd ((kR n).map val)).length->R (.ok (.ret .none)) s') ->
   codeAny (model prog w) A (.builtin "set.update.loop" ⟨[.ref a,.ref I],[]⟩) R s:=by
 have nw:a∉wr:=λh=>na (W.sub _ h);have sub:∀b∈wr,b∈a::wr:=λb h=>kn _ h;intro k
 induction k with
 |zero =>
  intro i s e le st g fin;obtain rfl:i=n:=()
  refine codeAny_builtin F.entry_set_update_loop ?_;rw[Around.under_plainId F.plain_set_update_loop _];show wpAny _ A.in1 (pyNext (.ref I) >>= _) _ _ s;refine wpAny_bind (W.done s _ _ st λs' mv=>?_);exact wpAny_pure (fin s' (mv.mono sub) (g.keep λo e=>mv.heap a o nw e))
 |succ k ih =>
  intro i s e le st g fin;have lt:i<n:=by omega
  refine codeAny_builtin F.entry_set_update_loop ?_;rw[Around.under_plainId F.plain_set_update_loop _];show wpAny _ A.in1 (pyNext (.ref I) >>= _) _ _ s;refine wpAny_bind (W.item i s _ _ lt st λv s1 pv st1 mv=>?_);obtain⟨hk,sc⟩:=hval i v pv;have g1:=g.keep (h':=s1.heap) λo e=>mv.heap a o nw e;show wpAny _ A.in1 (holding [v] (setAdd a v) >>= _) _ _ s1;refine wpAny_bind (wpAny_holding ?_);unfold setAdd;refine wpAny_holding (wpAny_bind (knd.pyHash hk ?_));have len:=(Qo ((kR i).map val)).2.2;rw[ke,vq]at len;refine zcg (s:={s1 with toks:=s1.toks+1}) hk sc g1 () λh' sb g2=>?_;refine wpAny_pure ⟨plainId_quiet F.plain_set_update_loop _,ih (i+1) _ () lt (W.frame _ s1 _ _ st1 (vV _) λb hb o e=>?_) (zaX g2) λs2 mv2 g3=>?_⟩
  .rw[sb.2 b λz:b=a=>na (z ▸ hb)];exact e
  .refine fin s2 (Moved.trans W.gtrans ((mv.mono sub).then_heap (vV _) λb o hb e=>?_) mv2) g3;rw[sb.2 b λz:b=a=>hb (z ▸ kg)];exact e
end
section
variable{prog:Program}{w:World}{K:Type}[DecidableEq K]{knd:PySem.KeyKind prog w K}{A:Around}{E:Value->Shared->Prop}{s:Shared}
abbrev setO(b:Bool):Obj:={cls:=.type "set",dict:=none,data:=.set #[] 0 (.fresh 0 0 b)}
theorem Js{h:Heap}{a:Addr}(e:h.get? a=some (setO (!w.params.followText "set-order"))):SetG knd h a (λ_=>false) 0 :=
 ⟨_,#[],0,_,e,⟨rfl,rfl,rfl⟩,rfl,λe he=>by simp at he,λk=>by simp,⋯,by rfl,rfl,_Stb.zce⟩
theorem zch(v:Value){Q1:Value->Shared->Prop}(q:Q1 (.ref s.heap.objs.size) {s with heap:=s.heap.push (setO (!w.params.followText "set-order"))}):
  codeAny (model prog w) A (.call (.builtin "set.__new__") ⟨[.type "set",v],[]⟩) (wants Q1 E) s:=by
 refine codeAny_of_tree ?_;show wpAny _ A.in1 (do checkBuiltinCall "set.__new__" ⟨[.type "set",v],[]⟩;again (.builtin "set.__new__" ⟨[.type "set",v],[]⟩)) _ _ s;refine wpAny_bind (wpAny_of_eq (F.newCall_set_1 v) (wpAny_pure ⟨plainId_quiet F.plain_set_new _,codeAny_builtin F.entry_set_new ?_⟩));rw[Around.under_plainId F.plain_set_new _];unfold Builtin.«set.__new__» Builtin.Frozenset.newClass;have hsub:=sub_set_self;obtain⟨hp,g,d,tk,os⟩:=s;dsimp only at q ⊢;wp_walk;refine wpAny_askSetting (wpAny_pure ?_);dsimp only;simp only[newObj];refine wpAny_bind (wpAny_alloc (wpAny_pure ?_));exact wpAny_pure q
set_option maxHeartbeats 3200000 in
theorem zaZ{l:Addr}{items:Array Value}{val:Nat->K}{Q:Value->Shared->Prop}(hh:A.handled=none)(hl:s.heap.IsList l items)(hi:∀i v,items[i]?=some v->knd.is (val i) v=true/\v.scannable=true)(hb:items.size+1<scanBound)
  (q:∀(h':Heap)(tk:Nat),SetG knd h' s.heap.objs.size (λk=>decide (k∈dd ((kR items.size).map val))) (dd ((kR items.size).map val)).length->(∀b o,s.heap.get? b=some o->h'.get? b=some o)->Q (.ref s.heap.objs.size) {s with heap:=h',toks:=tk}):
  wpAny (model prog w) A (call (.type "set") [.ref l]) Q E s:=by
 obtain⟨c,tl,hmro⟩:=F.called_set.mro;have hmade:=F.called_set.made;have hsub:=F.called_set.sub;refine wpAny_call (codeAny_of_tree ?_);show wpAny _ _ (callAny (.type "set") _) _ _ _;refine wpAny_pure ⟨Code.quiet_builtin _ (by decide +kernel),codeAny_builtin F.entry_type_call ?_⟩;rw[Around.under_plain (weight_type_call_type "set" [.ref l] []) rfl];have h1:=F.called_set.notType;have h2:=F.called_set.canCreate;have hct:=F.typeCall_set_1 (.ref l);repeat (any_goals (first|assumption|wp_step))
 refine codeAny_mono (zch (.ref l) (E:=E) (Q1:=λobj s1=>obj=.ref s.heap.objs.size/\s1={s with heap:=s.heap.push (setO (!w.params.followText "set-order"))}) ⟨rfl,rfl⟩) λr s1 hr=>?_;generalize hob:(!w.params.followText "set-order")=led at hr
 match r,hr with
 |.error e,hr=>exact hr
 |.ok (.ret obj),hr =>
  obtain⟨rfl,rfl⟩:=hr;have hS:(s.heap.push {cls:=.type "set",dict:=none,data:=.set #[] 0 (.fresh 0 0 led)}).get? s.heap.objs.size  = some {cls:=.type "set",dict:=none,data:=.set #[] 0 (.fresh 0 0 led)}:=Heap.get?_push_size _ rfl;have hT:Shared.TypeIs {s with heap:=s.heap.push {cls:=.type "set",dict:=none,data:=.set #[] 0 (.fresh 0 0 led)}} (.ref s.heap.objs.size) "set" := ⟨_,hS,rfl⟩;have hli:=F.called_set.init.lookup;have hbi:=F.called_set.init.bind (.ref s.heap.objs.size);repeat (any_goals (first|assumption|wp_step))
  refine codeAny_mono (codeAny_call_builtin (R:=wants (λr s2=>r=.none/\∃h' tk,s2={s with heap:=h',toks:=tk}/\SetG knd h' s.heap.objs.size (λk=>decide (k∈dd ((kR items.size).map val))) (dd ((kR items.size).map val)).length /\
    (∀b o,s.heap.get? b=some o->h'.get? b=some o)) E) F.called_set.init.plain F.entry_set_init (check_set_init_1 hT ?_)) λr2 s2 hr2=>?_
  .obtain⟨ol,hol,hcl,nl,hdl⟩:=hl;obtain⟨ocls,odict,odata,oslots⟩:=ol;dsimp only at hcl hdl;subst hcl;subst hdl;have hol':(s.heap.push {cls:=.type "set",dict:=none,data:=.set #[] 0 (.fresh 0 0 led)}).get? l=some {cls:=.type "list",dict:=odict,data:=.seq items nl,slots:=oslots}:=Heap.get?_push_of_some _ hol;have e1:=F.sub_list_set;have e2:=F.sub_list_frozenset;have e3:(Value.type "list" == Value.type "dict")=false:=⋯
   have hl1:(s.heap.push {cls:=.type "set",dict:=none,data:=.set #[] 0 (.fresh 0 0 led)}).IsList l items:=⟨_,hol',rfl,nl,rfl⟩;unfold Builtin.«set.__init__» noKeywords Builtin.Frozenset.updateFrom;generalize hPI:pyIter=PI;wp_walk;subst hPI;refine wpAny_pyIter_list hl1 ?_;refine wpAny_bind (wpAny_runValue ?_);have hlt:l<s.heap.objs.size:=Heap.lt_size hol;have hh3:A.in1.in1.in1.handled=none:=by simp[hh]
   have ne:l≠(s.heap.push {cls:=.type "set",dict:=none,data:=.set #[] 0 (.fresh 0 0 led)}).objs.size:=by rw[Heap.size_push];exact vc (vG hlt)
   have nf:s.heap.objs.size∉[(s.heap.push {cls:=.type "set",dict:=none,data:=.set #[] 0 (.fresh 0 0 led)}).objs.size,l]:=by
    rw[Heap.size_push];intro z;rcases kK.mp z with z|z
    .exact absurd z (vc (vH _))
    .exact absurd (kq.mp z) (uw hlt)
   refine zaY ((Walks.list hh3 _ l ne items).toS) s.heap.objs.size nf val hi hb (items.size-0) 0 _ () (kN _) ⟨⟨_,Heap.get?_push_size _ rfl,rfl,rfl⟩,(hl1.push _)⟩ ?hS0 ?hR
   case hS0 =>
    refine(Js (knd:=knd) (a:=s.heap.objs.size) ?_).congr (λ_=>rfl) rfl;rw[hob];exact Heap.get?_push_of_some _ hS
   case hR =>
    intro s' mv g;obtain⟨h',g',d',tk',os'⟩:=s';obtain rfl:g'=s.gens:=mv.gens;obtain rfl:d'=s.drawn:=mv.drawn;obtain rfl:os'=s.os:=mv.os;refine wpAny_pure (wpAny_pure ⟨rfl,h',tk',rfl,g,λb o e=>?_⟩);have hb:b<s.heap.objs.size:=Heap.lt_size e;refine mv.heap b o (λz=>?_) (Heap.get?_push_of_some _ (Heap.get?_push_of_some _ e));rcases kK.mp z with z|z
    .exact absurd z (vc hb)
    .exact absurd (kq.mp z) (by rw[Heap.size_push];exact vc (vG hb))
  .cases r2 with
   |error e=>exact hr2
   |ok fl =>
   cases fl with
   |ret r =>
    obtain⟨rfl,h',tk,rfl,g,kp⟩:=hr2;dsimp only
    (repeat (any_goals (first|assumption|wp_step)));exact q _ _ g kp
   |_=>exact hr2.elim
end
namespace _SI
theorem Jt:entryFor table "set.__iter__"=some Builtin.«frozenset.__iter__»:=entryFor_alias (id' := "frozenset.__iter__") (by kernel_rfl) rfl (by decide +kernel) (by kernel_rfl)
theorem slot_next:Slot "set_iterator" "__next__" "set_iterator.__next__" := .of (owner := "set_iterator") (n := "__next__") (by rw[typeLookup_type,builtinLookup_eq_fast];kernel_rfl) (by decide +kernel) (by decide +kernel) (by decide +kernel) (by first|exact .inl (by decide +kernel)|exact .inr (by decide +kernel)) (by rw[isSubtype_type];kernel_rfl)
theorem Xa:Slot "set_iterator" "__iter__" "set_iterator.__iter__" := .of (owner := "set_iterator") (n := "__iter__") (by rw[typeLookup_type,builtinLookup_eq_fast];kernel_rfl) (by decide +kernel) (by decide +kernel) (by decide +kernel) (by first|exact .inl (by decide +kernel)|exact .inr (by decide +kernel)) (by rw[isSubtype_type];kernel_rfl)
theorem entry_next:entryFor table "set_iterator.__next__"=some Builtin.«set_iterator.__next__»:=entryFor_of_tree (by kernel_rfl)
theorem entry_self:entryFor table "set_iterator.__iter__"=some Builtin.«dict_keyiterator.__iter__»:=entryFor_alias (id' := "dict_keyiterator.__iter__") (by kernel_rfl) rfl (by decide +kernel) (by kernel_rfl)
theorem args_next(a:Value):argsOk "set_iterator.__next__" ⟨[a],[]⟩:=by unfold argsOk;kernel_rfl
theorem args_self(a:Value):argsOk "set_iterator.__iter__" ⟨[a],[]⟩:=by unfold argsOk;kernel_rfl
theorem zdZ:typeLookup (.type "set") "__len__" = pure (some (.builtin "set.__len__")):=by rw[typeLookup_type,builtinLookup_eq_fast];kernel_rfl
end _SI
def xb(h:Heap)(it:Addr)(first:Value)(i:Nat)(a:Addr)(n ep:Nat):Prop:=∃o,h.get? it=some o/\o.cls=.type "set_iterator" /\ o.data=.fields #[first,.int i 0,.ref a,.int n 0,.int ep 0]
theorem xb.type{s:Shared}{it a:Addr}{first:Value}{i n ep:Nat}(h:xb s.heap it first i a n ep):s.TypeIs (.ref it) "set_iterator" := let ⟨o,e,c,_⟩:=h;⟨o,e,c⟩
theorem xb.at_{h h':Heap}{it a:Addr}{first:Value}{i n ep:Nat}(x:xb h it first i a n ep)(k:∀o,h.get? it=some o->h'.get? it=some o):xb h' it first i a n ep:=let ⟨o,e,r⟩:=x;⟨o,k o e,r⟩
def SAt(a:Addr)(es:Array (Int×Value))(ep:Nat)(t:SetTable)(h:Heap):Prop:=∃o,h.get? a=some o/\o.ExactSet/\o.data=.set es ep t/\t.fits es.size=true
theorem SAt.keep{a:Addr}{es:Array (Int×Value)}{ep:Nat}{t:SetTable}{h h':Heap}(x:SAt a es ep t h)(k:∀o,h.get? a=some o->h'.get? a=some o):SAt a es ep t h':=let ⟨o,e,r⟩:=x;⟨o,k o e,r⟩
section
variable{prog:Program}{w:World}{A:Around}{E:Value->Shared->Prop}{s:Shared}{it a:Addr}{i n ep sl:Nat}{es:Array (Int×Value)}{t:SetTable}
theorem zci{Q:Option Value->Shared->Prop}{x:Value}{j:Nat}(hit:xb s.heap it (.int sl 0) i a es.size ep)(hs:SAt a es ep t s.heap)(nx:∀{A:Around}{E:Value->Shared->Prop}{Q:Option (Value×Nat)->Shared->Prop},Q (some (x,j)) s->wpAny (model prog w) A (setNext a sl i ep) Q E s)
  (q:∀h',xb h' it (.int j 0) (i+1) a es.size ep->Heap.SameBut it s.heap h'->Q (some x) {s with heap:=h'}):wpAny (model prog w) A (pyNext (.ref it)) Q E s:=by
 obtain⟨oI,hoI,hcI,hfI⟩:=id hit;obtain⟨o,ho,hx,hd,hf⟩:=id hs;unfold pyNext;refine wpAny_bind (wpAny_attempt (wpAny_callSpecial?_slot (name:=Str.ofString "__next__") hit.type _SI.slot_next (wpAny_call_entry _SI.slot_next hit.type _SI.entry_next ?_ (_SI.args_next _))));unfold Builtin.«set_iterator.__next__»;refine wpAny_bind (wpAny_pure (wpAny_bind (wpAny_fieldsOf hoI hfI ?_)));dsimp only;refine wpAny_bind (wpAny_setEntries_of ho hd hf ?_);refine wpAny_ite_split (λz=>absurd z (by simp)) (λ_=>?_);refine wpAny_bind (nx ?_);dsimp only;refine wpAny_bind (wpAny_setField hoI hfI (by simp) ?_);have e1:=Heap.get?_update_self (Obj.mapFields (·.setIfInBounds 0 (rawInt j))) hoI (Obj.isFreed_of_fields (Obj.data_mapFields hfI _));have f1:=Obj.data_mapFields hfI (·.setIfInBounds 0 (rawInt j));refine wpAny_bind (wpAny_setField e1 f1 (by simp) ?_);refine wpAny_pure ⟨_,rfl,wpAny_pure (q _ ⟨_,Heap.get?_update_self _ e1 (Obj.isFreed_of_fields (Obj.data_mapFields f1 _)),?_,?_⟩ ((Heap.SameBut.update ..).trans (Heap.SameBut.update ..)))⟩
 .rw[Obj.cls_mapFields,Obj.cls_mapFields];exact hcI
 .rw[Obj.data_mapFields f1];simp[rawInt]
theorem zd0{Q:Option Value->Shared->Prop}(hh:A.handled=none)(hit:xb s.heap it (.int sl 0) i a es.size ep)(hs:SAt a es ep t s.heap)(nx:∀{A:Around}{E:Value->Shared->Prop}{Q:Option (Value×Nat)->Shared->Prop},Q none s->wpAny (model prog w) A (setNext a sl i ep) Q E s)
  (q:∀h',Heap.ExtBut it s.heap h'->Q none {s with heap:=h'}):wpAny (model prog w) A (pyNext (.ref it)) Q E s:=by
 obtain⟨oI,hoI,hcI,hfI⟩:=id hit;obtain⟨o,ho,hx,hd,hf⟩:=id hs;unfold pyNext;refine wpAny_bind (wpAny_attempt (wpAny_callSpecial?_slot (name:=Str.ofString "__next__") hit.type _SI.slot_next (wpAny_call_entry _SI.slot_next hit.type _SI.entry_next ?_ (_SI.args_next _))));unfold Builtin.«set_iterator.__next__»;refine wpAny_bind (wpAny_pure (wpAny_bind (wpAny_fieldsOf hoI hfI ?_)));dsimp only;refine wpAny_bind (wpAny_setEntries_of ho hd hf ?_);refine wpAny_ite_split (λz=>absurd z (by simp)) (λ_=>?_);refine wpAny_bind (nx ?_);dsimp only;refine wpAny_bind (wpAny_setField hoI hfI (by simp) (wpAny_bind ?_));simp only[newExc,newTuple];refine wpAny_bind (wpAny_newObj_type (wpAny_bind (m:=firstArgMember _ _) (wpAny_of_eq (a:=Value.none) (by first|rfl|(simp only[firstArgMember];rfl)) (wpAny_newObj_type ?_ (by size_fits)))) (by size_fits));simp only[raiseNew];refine wpAny_bind (wpAny_handled ?_);rw[show A.in1.handled=none from hh];refine wpAny_bind (wpAny_pure (wpAny_throw ?_));refine wpAny_bind (wpAny_isInstance (T := "StopIteration") (b:=true) ⟨_,Heap.get?_push_size _ rfl,rfl⟩ isSubtype_stop (wpAny_pure (q _ (((Heap.SameBut.update ..).extBut.push _).push _))))
theorem za0{Q:Option Value->Shared->Prop}{x:Value}{tp:Addr}{otp:Obj}{pl:Array Value}{c hx':Nat}{hsh:Int}{tk:Tok}(hit:xb s.heap it (.ref tp) i a es.size ep)(hs:SAt a es ep t s.heap)(htp:s.heap.get? tp=some otp)(hpl:otp.data=.seq pl c)(hp:pl[i]?=some (.int (hx':Nat) tk))(he:es[hx']?=some (hsh,x))
  (q:∀h',xb h' it (.ref tp) (i+1) a es.size ep->Heap.SameBut it s.heap h'->Q (some x) {s with heap:=h'}):wpAny (model prog w) A (pyNext (.ref it)) Q E s:=by
 obtain⟨oI,hoI,hcI,hfI⟩:=id hit;obtain⟨o,ho,hx,hd,hf⟩:=id hs;unfold pyNext;refine wpAny_bind (wpAny_attempt (wpAny_callSpecial?_slot (name:=Str.ofString "__next__") hit.type _SI.slot_next (wpAny_call_entry _SI.slot_next hit.type _SI.entry_next ?_ (_SI.args_next _))));unfold Builtin.«set_iterator.__next__»;refine wpAny_bind (wpAny_pure (wpAny_bind (wpAny_fieldsOf hoI hfI ?_)));dsimp only;refine wpAny_bind (wpAny_setEntries_of ho hd hf ?_);refine wpAny_ite_split (λz=>absurd z (by simp)) (λ_=>?_);unfold seqItems?;refine wpAny_bind (wpAny_bind (wpAny_load htp ?_));rw[hpl];refine wpAny_pure ?_;dsimp only;rw[v9,hp];dsimp only;unfold setNextDrawn;refine wpAny_bind (wpAny_bind (wpAny_setState_of ho hd hf ?_));dsimp only;refine wpAny_ite_split (λz=>absurd z (by simp)) (λ_=>?_);rw[v9,he];refine wpAny_pure ?_;refine wpAny_bind (wpAny_setField hoI hfI (by simp) ?_);refine wpAny_pure ⟨_,rfl,wpAny_pure (q _ ⟨_,Heap.get?_update_self _ hoI (Obj.isFreed_of_fields (Obj.data_mapFields hfI _)),(Obj.cls_mapFields ..).trans hcI,?_⟩ (Heap.SameBut.update ..))⟩;rw[Obj.data_mapFields hfI];simp[rawInt]
theorem zcj{Q:Option Value->Shared->Prop}{tp:Addr}{otp:Obj}{pl:Array Value}{c:Nat}(hh:A.handled=none)(hit:xb s.heap it (.ref tp) i a es.size ep)(hs:SAt a es ep t s.heap)(htp:s.heap.get? tp=some otp)(hpl:otp.data=.seq pl c)(hp:pl[i]?=none)
  (q:∀h',Heap.ExtBut it s.heap h'->Q none {s with heap:=h'}):wpAny (model prog w) A (pyNext (.ref it)) Q E s:=by
 obtain⟨oI,hoI,hcI,hfI⟩:=id hit;obtain⟨o,ho,hx,hd,hf⟩:=id hs;unfold pyNext;refine wpAny_bind (wpAny_attempt (wpAny_callSpecial?_slot (name:=Str.ofString "__next__") hit.type _SI.slot_next (wpAny_call_entry _SI.slot_next hit.type _SI.entry_next ?_ (_SI.args_next _))));unfold Builtin.«set_iterator.__next__»;refine wpAny_bind (wpAny_pure (wpAny_bind (wpAny_fieldsOf hoI hfI ?_)));dsimp only;refine wpAny_bind (wpAny_setEntries_of ho hd hf ?_);refine wpAny_ite_split (λz=>absurd z (by simp)) (λ_=>?_);unfold seqItems?;refine wpAny_bind (wpAny_bind (wpAny_load htp ?_));rw[hpl];refine wpAny_pure ?_;dsimp only;rw[v9,hp];dsimp only;refine wpAny_bind (wpAny_setField hoI hfI (by simp) ?_);have e1:=Heap.get?_update_self (Obj.mapFields (·.setIfInBounds 0 (rawInt 0))) hoI (Obj.isFreed_of_fields (Obj.data_mapFields hfI _));have f1:=Obj.data_mapFields hfI (·.setIfInBounds 0 (rawInt 0));refine wpAny_bind (wpAny_setField e1 f1 (by simp) (wpAny_bind ?_));simp only[newExc,newTuple];refine wpAny_bind (wpAny_newObj_type (wpAny_bind (m:=firstArgMember _ _) (wpAny_of_eq (a:=Value.none) (by first|rfl|(simp only[firstArgMember];rfl)) (wpAny_newObj_type ?_ (by size_fits)))) (by size_fits));simp only[raiseNew];refine wpAny_bind (wpAny_handled ?_);rw[show A.in1.handled=none from hh];refine wpAny_bind (wpAny_pure (wpAny_throw ?_));refine wpAny_bind (wpAny_isInstance (T := "StopIteration") (b:=true) ⟨_,Heap.get?_push_size _ rfl,rfl⟩ isSubtype_stop (wpAny_pure (q _ ((((Heap.SameBut.update ..).trans (Heap.SameBut.update ..)).extBut.push _).push _))))
theorem Wy{Q:Value->Shared->Prop}{first:Value}(hit:xb s.heap it first i a n ep)(q:Q (.ref it) s):wpAny (model prog w) A (pyIter (.ref it)) Q E s:=by
 refine wpAny_pyIter_slot hit.type _SI.Xa (wpAny_call_entry _SI.Xa hit.type _SI.entry_self ?_ (_SI.args_self _));exact wpAny_pure ⟨_,rfl, "set_iterator",_,hit.type,_SI.slot_next.lookup,q⟩
end
theorem ZI{α:Type}{l:List α}{i:Nat}{x:α}(h:l[i]?=some x):(x::l.eraseIdx i).Perm l:=by
 obtain⟨hi,e⟩:=kf.mp h;subst e;have z:l=l.take i++l[i]::l.drop (i+1):=by
  rw[uS,vK]
 rw[List.eraseIdx_eq_take_drop_succ];exact(List.perm_middle.symm).trans (List.Perm.of_eq z.symm)
theorem zd1{α:Type}(next:Nat->Nat):∀(f k:Nat)(l:List α)(out:Array α),l.length<=f->(pickOrder.go next f k l out).toList.Perm (out.toList++l):=by
 intro f
 induction f with
 |zero =>
  intro k l out h;rw[vN.mp (uN.mp h),vh,pickOrder.go]
 |succ f ih =>
  intro k l out h;rw[pickOrder.go];cases e:l[next k % l.length]? with
  |none =>
   have:l=[]:=by
    cases l with
    |nil=>rfl
    |cons b l =>
     have:=List.getElem?_eq_none_iff.mp e;have z:=Nat.mod_lt (next k) (show 0<(b::l).length by simp)
     lia
   rw[this,vh]
  |some x =>
   dsimp only;have p:=ZI e;have pl:=p.length_eq;rw[kG]at pl;refine(ih _ _ _ ()).trans ?_;rw[Array.toList_push,ud];exact List.Perm.append_left _ p
theorem za1{α:Type}(next:Nat->Nat)(xs:Array α):(pickOrder next xs).toList.Perm xs.toList:=by
 have:=zd1 next xs.size 0 xs.toList #[] (by rw[Array.length_toList];exact km _);exact this
section
variable{prog:Program}{w:World}{A:Around}{E:Value->Shared->Prop}{s:Shared}{a:Addr}{ep:Nat}{es:Array (Int×Value)}{t:SetTable}
theorem wp_choose{Q:Nat->Shared->Prop}{src:Source}{n:Nat}(hn:n≠0)(q:∀k d',k<n->Q k {s with drawn:=d'}):wpAny (model prog w) A (choose src n) Q E s:=λΓ p _ =>
 ⟨hn,q _ _ (Nat.mod_lt _ (Nat.pos_of_ne_zero hn))⟩
theorem zd2{α:Type}:∀(n:Nat)(xs:List α)(s:Shared)(Q:List α->Shared->Prop),xs.length<=n->(∀l d',l.Perm xs->Q l {s with drawn:=d'})->wpAny (model prog w) A (drawOrder n xs) Q E s:=by
 intro n
 induction n with
 |zero =>
  intro xs s Q h q;rw[vN.mp (uN.mp h)]at q ⊢;exact wpAny_pure (q [] s.drawn (List.Perm.refl _))
 |succ n ih =>
  intro xs s Q h q;cases xs with
  |nil=>exact wpAny_pure (q [] s.drawn (List.Perm.refl _))
  |cons x xs =>
   refine wpAny_bind (wp_choose (by simp) λk d' hk=>?_);have e:=kc hk;rw[e];dsimp only;have p:=ZI e;have pl:=p.length_eq;rw[kG]at pl;refine wpAny_bind (ih _ _ _ () λl d2 hl=>wpAny_pure ?_);exact q _ _ ((List.Perm.cons _ hl).trans p)
def Nx(prog:Program)(w:World)(a:Addr)(es:Array (Int×Value))(ep:Nat)(t:SetTable)(ord:List Value)(sl:Nat->Nat):Prop :=
 ∀(i:Nat)(s:Shared)(A:Around)(E:Value->Shared->Prop)(Q:Option (Value×Nat)->Shared->Prop),SAt a es ep t s.heap->i<=es.size->Q (ord[i]?.map λx=>(x,sl (i+1))) s->wpAny (model prog w) A (setNext a (sl i) i ep) Q E s
theorem zd3(b:w.params.followText "set-order" = true):Nx prog w a es ep t ((pickOrder (w.params.setOrder a ep) es).toList.map (·.2)) (λ_=>0):=by
 intro i s A E Q hs hi q;obtain⟨o,ho,hx,hd,hf⟩:=id hs;unfold setNext setsByText;refine wpAny_bind (wpAny_setState_of ho hd hf ?_);dsimp only;refine wpAny_bind (wpAny_bind (wpAny_askSetting (wpAny_pure ?_)));refine wpAny_ite_split (λ_=>?_) (λz=>absurd b z);refine wpAny_ite_split (λz=>absurd z (by simp)) (λ_=>?_);unfold setWalk setsByText;refine wpAny_bind (wpAny_bind (wpAny_setState_of ho hd hf ?_));dsimp only;refine wpAny_bind (wpAny_bind (wpAny_askSetting (wpAny_pure ?_)));refine wpAny_ite_split (λ_=>?_) (λz=>absurd b z);refine wpAny_bind (wpAny_askSetting (wpAny_pure (wpAny_pure ?_)));rw[kM,Array.getElem?_toList,Option.map_map]at q;exact q
theorem zd4(b:w.params.followText "set-order" = false)(l:t.led=true)(r:_Stb.Rise t.place)(pl:t.plain=true\/es.size<=1):Nx prog w a es ep t (es.toList.map (·.2)) (λi=>if i=0 then 0 else t.place.getD (i-1) 0+1):=by
 intro i s A E Q hs hi q;obtain⟨o,ho,hx,hd,hf⟩:=id hs;have sz:t.place.size=es.size:=by
  unfold SetTable.fits at hf;rw[vi,beq_iff_eq]at hf;exact hf.1
 have bl:SetTable.below t.place (if i=0 then 0 else t.place.getD (i-1) 0+1)=i:=by
  by_cases e:i=0
  .subst e;rw[if_pos rfl];exact _Stb.Jq r
  .rw[if_neg e];have h1:i-1<t.place.size:=()
   have e1:t.place[i-1]?=some (t.place.getD (i-1) 0):=by
    rw[Array.getElem?_eq_getElem h1,Array.getD,dif_pos h1];rfl
   have:=_Stb.below_at r e1;omega
 unfold setNext setsByText;refine wpAny_bind (wpAny_setState_of ho hd hf ?_);dsimp only;refine wpAny_bind (wpAny_bind (wpAny_askSetting (wpAny_pure ?_)));refine wpAny_ite_split (λz=>absurd (b.symm.trans z) ⋯) (λ_=>?_);refine wpAny_ite_split (λz=>?_) (λ_=>?_)
 .have z':(!t.plain&&decide (es.size>1))=true:=z;rw[vi,decide_eq_true_eq,bA]at z';rcases pl with h|h
  .rw[h]at z';cases z'.1
  .exact absurd z'.2 ()
 refine wpAny_bind ?_;show wpAny _ _ (if(!t.led&&!es.isEmpty)=true then unsupported "set:maker-not-led" else pure Unit.unit) _ _ s;rw[l];refine wpAny_ite_split (λz=>absurd z (by simp)) (λ_=>wpAny_pure ?_);rw[bl];refine wpAny_pure ?_;rw[kM,Array.getElem?_toList]at q;by_cases h:i<es.size
 .have hp:i<t.place.size:=()
  rw[Array.getElem?_eq_getElem h]at q ⊢;rw[Array.getElem?_eq_getElem hp];dsimp only at q;rw[if_neg (Nat.succ_ne_zero i)]at q;have e2:t.place.getD (i+1-1) 0=t.place[i]:=by
   rw[Nat.add_sub_cancel,Array.getD,dif_pos hp];rfl
  dsimp only[Option.map]at q;rw[e2]at q;exact q
 .rw[Array.getElem?_eq_none ()]at q ⊢;exact q
theorem WW(hh:A.handled=none)(I:Addr)(hne:a≠I){ord:List Value}{sl:Nat->Nat}(hn:ord.length=es.size)(nx:Nx prog w a es ep t ord sl):
  Walks prog w A I [I,a] [I] es.size (λi v=>ord[i]?=some v) (λi h=>xb h I (.int (sl i) 0) i a es.size ep/\SAt a es ep t h) where
 sub:=λc hc'=>by simp at hc';simp[hc']
 frame:=λ_ _ _ st hk=>⟨st.1.at_ λo e=>hk I (by simp) o e,st.2.keep λo e=>hk a (by simp) o e⟩
 item:=λi s1 Q E hi st hQ=>by
  have e:ord[i]?=some (ord[i]'()):=kc ();refine zci (x:=ord[i]'()) (j:=sl (i+1)) st.1 st.2 (λ{A E Q} q=>nx i s1 A E Q st.2 (vF hi) (by rw[e];exact q)) λh' hit' hs'=>?_;exact hQ _ h' s1.toks e ⟨hit',st.2.keep λo e=>(hs'.2 a hne).trans e⟩ λb o hb e=>hs'.extBut b o (λz=>hb (by simp[z])) e
 done:=λs1 Q E st hQ=>by
  refine zd0 hh st.1 st.2 (λ{A E Q} q=>nx es.size s1 A E Q st.2 (km _) (by rw[vY ()];exact q)) λh' he=>?_;exact hQ h' s1.toks λb o hb e=>he b o (λz=>hb (by simp[z])) e
 self:=λ_ _ _ _ sn hQ=>Wy sn.1 hQ
def TAt(tp:Addr)(od:List Nat)(h:Heap):Prop:=∃o c,h.get? tp=some o/\o.data=.seq (od.map λ(i:Nat)=>rawInt i).toArray c
theorem WX(hh:A.handled=none)(I tp:Addr)(hne:a≠I)(hnt:tp≠I){od:List Nat}(hp:od.Perm (kR es.size)):
  Walks prog w A I [I,a,tp] [I] es.size (λi v=>(od.filterMap λj=>es[j]?.map (·.2))[i]?=some v) (λi h=>xb h I (.ref tp) i a es.size ep/\SAt a es ep t h/\TAt tp od h) where
 sub:=λc hc'=>by simp at hc';simp[hc']
 frame:=λ_ _ _ st hk=>⟨st.1.at_ λo e=>hk I (by simp) o e,st.2.1.keep λo e=>hk a (by simp) o e,let ⟨o,c,e,d⟩:=st.2.2;⟨o,c,hk tp (by simp) o e,d⟩⟩
 item:=λi s1 Q E hi st hQ=>by
  obtain⟨otp,c,e1,e2⟩:=st.2.2;have len:od.length=es.size:=by rw[hp.length_eq,vq]
  have hj:od[i]'()<es.size:=vp.mp (hp.mem_iff.mp (vv ()));have e3:(od.map λ(i:Nat)=>rawInt i).toArray[i]?=some (.int (od[i]'():Nat) 0):=by
   rw[uA,kM,kc (show i<od.length by lia)];rfl
  have e5:(od.filterMap λj=>es[j]?.map (·.2))=od.map λj=>(es[j]?.map (·.2)).getD .none:=by
   have:∀l:List Nat,(∀j∈l,j<es.size)->(l.filterMap λj=>es[j]?.map (·.2))=l.map λj=>(es[j]?.map (·.2)).getD .none:=by
    intro l
    induction l with
    |nil=>intro _;rfl
    |cons b l ih =>
     intro h;have hb:=h b kg;rw[uu,kY,Array.getElem?_eq_getElem hb,ih λj hj=>h j (kn _ hj)];rfl
   exact this od λj hj=>vp.mp (hp.mem_iff.mp hj)
  refine za0 (hsh:=(es[od[i]'()]'hj).1) (x:=(es[od[i]'()]'hj).2) st.1 st.2.1 e1 e2 e3 (Array.getElem?_eq_getElem hj) λh' hit' hs'=>?_;refine hQ _ h' s1.toks ?_ ⟨hit',st.2.1.keep λo e=>(hs'.2 a hne).trans e,otp,c,(hs'.2 tp hnt).trans e1,e2⟩ λb o hb e=>hs'.extBut b o (λz=>hb (by simp[z])) e;rw[e5,kM,kc (show i<od.length by lia),Option.map_some,Array.getElem?_eq_getElem hj];rfl
 done:=λs1 Q E st hQ=>by
  obtain⟨otp,c,e1,e2⟩:=st.2.2;have len:od.length=es.size:=by rw[hp.length_eq,vq]
  refine zcj hh st.1 st.2.1 e1 e2 (by rw[uA,vY (by rw[ke];lia)]) λh' he=>?_;exact hQ h' s1.toks λb o hb e=>he b o (λz=>hb (by simp[z])) e
 self:=λ_ _ _ _ sn hQ=>Wy sn.1 hQ
end
section
variable{prog:Program}{w:World}{A:Around}{E:Value->Shared->Prop}{s:Shared}{a:Addr}{ep:Nat}{es:Array (Int×Value)}{t:SetTable}
theorem SAt.type(h:SAt a es ep t s.heap):s.TypeIs (.ref a) "set" := let ⟨o,e,x,_⟩:=h;⟨o,e,x.1⟩
theorem zd5{od:List Nat}(hp:od.Perm (kR es.size)):(od.filterMap λj=>es[j]?.map (·.2)).Perm (es.toList.map (·.2)):=by
 refine(hp.filterMap _).trans (List.Perm.of_eq ?_);refine List.ext_getElem? λi=>?_;have:((kR es.size).filterMap λj=>es[j]?.map (·.2))=(kR es.size).map λj=>(es[j]?.map (·.2)).getD .none:=by
  have:∀l:List Nat,(∀j∈l,j<es.size)->(l.filterMap λj=>es[j]?.map (·.2))=l.map λj=>(es[j]?.map (·.2)).getD .none:=by
   intro l
   induction l with
   |nil=>intro _;rfl
   |cons b l ih =>
    intro h;rw[uu,kY,Array.getElem?_eq_getElem (h b kg),ih λj hj=>h j (kn _ hj)];rfl
  exact this _ λj hj=>vp.mp hj
 rw[this,kM,kM];have e:=Array.getElem?_toList (xs:=es) (i:=i);rw[e];by_cases h:i<es.size
 .rw[List.getElem?_range h,Option.map_some,Array.getElem?_eq_getElem h];rfl
 .rw[vY (l:=kR es.size) (by rw[vq];lia),Array.getElem?_eq_none ()];rfl
theorem zck:∀(xs:Array Nat),xs.size<=1->_Stb.Rise xs
 |⟨[]⟩,_=>List.Pairwise.nil
 |⟨[x]⟩,_=>uL _ _
 |⟨_::_::l⟩,h=>absurd h (by simp)
set_option maxHeartbeats 1000000 in
theorem zcl{Q:Value->Shared->Prop}(hs:SAt a es ep t s.heap)(bd:es.size<scanBound)(tg:_Stb.Tg (!w.params.followText "set-order") t)
  (q:∀(h1:Heap) d' (I:Addr) (fp:List Addr) (ord:List Value) (St:Nat->Heap->Prop),(∀A:Around,A.handled=none->Walks prog w A I fp [I] es.size (λi v=>ord[i]?=some v) St)->St 0 h1->(∀b o,s.heap.get? b=some o->h1.get? b=some o)->s.heap.objs.size<=I ->
   (∀b∈fp,b=a\/s.heap.objs.size<=b)->ord.Perm (es.toList.map (·.2))->Q (.ref I) {s with heap:=h1,drawn:=d'}):wpAny (model prog w) A (pyIter (.ref a)) Q E s:=by
 obtain⟨o,ho,hx,hd,hf⟩:=id hs;have ha:a<s.heap.objs.size:=Heap.lt_size ho;have sz:t.place.size=es.size:=by
  unfold SetTable.fits at hf;rw[vi,beq_iff_eq]at hf;exact hf.1
 refine wpAny_pyIter_slot hs.type F.slot_set_iter (wpAny_call_entry F.slot_set_iter hs.type _SI.Jt ?_ (F.args_set_iter_1 _));unfold Builtin.«frozenset.__iter__» Builtin.Frozenset.slot0 Builtin.Frozenset.sizeOf setDrawn setsByText;refine wpAny_bind (wpAny_bind (wpAny_pure (wpAny_pure ?_)));refine wpAny_bind (wpAny_bind (wpAny_setEntries_of ho hd hf (wpAny_pure ?_)));refine wpAny_bind (wpAny_bind (wpAny_setState_of ho hd hf ?_));dsimp only;refine wpAny_bind (wpAny_bind (wpAny_askSetting (wpAny_pure (wpAny_pure ?_))));have slots:∀(ord:List Value)(sl:Nat->Nat),sl 0=0->ord.Perm (es.toList.map (·.2))->Nx prog w a es ep t ord sl ->
   wpAny (model prog w) A.in1 (do let n <-setEpoch a;ret (<-newFields "set_iterator" [rawInt 0,rawInt 0,.ref a,rawInt es.size,rawInt n])) (λfin s'=>∃v,fin=.done (.ret v)/\∃T' r,s'.TypeIs v T'/\typeLookup (.type T') "__next__" = pure (some r)/\Q v s') E s:=by
  intro ord sl h0 hp nx;refine wpAny_bind (wpAny_setEpoch_of ho hd hf (wpAny_bind (wpAny_newObj_type (wpAny_pure ⟨_,rfl, "set_iterator",_,⟨_,Heap.get?_push_size _ rfl,rfl⟩,_SI.slot_next.lookup,?_⟩))));refine q _ s.drawn s.heap.objs.size [s.heap.objs.size,a] ord (λi h=>xb h s.heap.objs.size (.int (sl i) 0) i a es.size ep/\SAt a es ep t h) (λA' hA=>WW hA _ (vc ha) (by rw[hp.length_eq,ke,Array.length_toList]) nx) ⟨⟨_,Heap.get?_push_size _ rfl,rfl,?_⟩,hs.keep λo e=>Heap.get?_push_of_some _ e⟩ (λb o e=>Heap.get?_push_of_some _ e) (km _) (λb hb=>?_) hp
  .rw[h0];rfl
  .rcases kK.mp hb with rfl|hb
   .exact .inr (km _)
   .exact .inl (kq.mp hb)
 cases hb:w.params.followText "set-order" with
 |true =>
  refine wpAny_ite_split (λz=>?_) (λ_=>?_)
  .have z':(!w.params.followText "set-order" && _)=true:=z;rw[hb]at z';cases z'
  .exact wpAny_bind (wpAny_pure (slots _ (λ_=>0) rfl ((za1 _ _).map _) (zd3 hb)))
 |false =>
  have led:t.led=true:=by rw[tg.led,hb];rfl
  refine wpAny_ite_split (λz=>?_) (λz=>?_)
  .refine wpAny_bind (zd2 es.size (kR es.size) s _ (by rw[vq];exact km _) λod d' hp=>?_);have hl:od.length=es.size:=by rw[hp.length_eq,vq]
   refine wpAny_bind (wpAny_newTuple ?_ ?sz1)
   case sz1=>rw[ke,hl];exact fits_of_scanBound bd
   have hs1:SAt a es ep t (s.heap.push {cls:=.type "tuple",data:=.seq (od.map λ(i:Nat)=>rawInt i).toArray}):=hs.keep λo e=>Heap.get?_push_of_some _ e;obtain⟨o1,ho1,_,hd1,hf1⟩:=id hs1;refine wpAny_bind (wpAny_setEpoch_of ho1 hd1 hf1 (wpAny_bind (wpAny_newObj_type (wpAny_pure ⟨_,rfl, "set_iterator",_,⟨_,Heap.get?_push_size _ rfl,rfl⟩,_SI.slot_next.lookup,?_⟩))));generalize hT:({cls:=.type "tuple",data:=.seq (od.map λ(i:Nat)=>rawInt i).toArray}:Obj)=T0;have hJ:(s.heap.push T0).objs.size=s.heap.objs.size+1:=Heap.size_push ..;have eT:(s.heap.push T0).get? s.heap.objs.size=some T0:=Heap.get?_push_size _ (by rw[<-hT];rfl);have hs2:SAt a es ep t (s.heap.push T0):=hs.keep λo e=>Heap.get?_push_of_some _ e;refine q _ d' (s.heap.push T0).objs.size [(s.heap.push T0).objs.size,a,s.heap.objs.size] _ (λi h=>xb h (s.heap.push T0).objs.size (.ref s.heap.objs.size) i a es.size ep/\SAt a es ep t h/\TAt s.heap.objs.size od h)
    (λA' hA=>WX hA _ _ (by rw[hJ];exact vc (vG ha)) (by rw[hJ];exact vc (vH _)) hp) ⟨⟨_,Heap.get?_push_size _ rfl,rfl,rfl⟩,hs2.keep λo e=>Heap.get?_push_of_some _ e,T0,0,Heap.get?_push_of_some _ eT,by rw[<-hT]⟩ (λb o e=>Heap.get?_push_of_some _ (Heap.get?_push_of_some _ e)) (by rw[hJ];exact vV _) (λb hb=>?_) (zd5 hp)
   rcases kK.mp hb with rfl|hb
   .exact .inr (by rw[hJ];exact vV _)
   .rcases kK.mp hb with rfl|hb
    .exact .inl rfl
    .exact .inr (by rw[kq.mp hb];exact km _)
  .have z':¬(!w.params.followText "set-order" && (!t.plain&&decide (es.size>1)))=true:=z;rw[hb,Bool.not_false,Bool.true_and,vi,decide_eq_true_eq,bA]at z';have pl:t.plain=true\/es.size<=1:=by
    cases h:t.plain with
    |true=>exact .inl rfl
    |false=>exact .inr (uc.mp λh2=>z' ⟨h,h2⟩)
   have r:_Stb.Rise t.place:=by
    rcases pl with h|h
    .exact tg.rise h
    .rw[<-sz]at h;exact zck _ h
   exact wpAny_bind (wpAny_pure (slots _ (λi=>if i=0 then 0 else t.place.getD (i-1) 0+1) rfl (List.Perm.refl _) (zd4 hb led r pl)))
theorem zcm{Q:Bool->Shared->Prop}(hT:s.TypeIs (.ref a) "set")(h:Q false s):wpAny (model prog w) A (Builtin.List.listLengthHint (.ref a)) Q E s:=by
 unfold Builtin.List.listLengthHint;refine wpAny_bind (wpAny_specialOf hT _SI.zdZ ?_);generalize hid:("set.__len__" : String)=id0;wp_delta;rw[show splitId id0=some ("set","__len__")from by subst hid;decide +kernel];subst hid;refine wpAny_bind (wpAny_isInstance (T := "set") (b:=true) hT (by rw[isSubtype_type];kernel_rfl) ?_);refine wpAny_ite_split (λz=>absurd z ⋯) (λ_=>wpAny_ite_split (λ_=>?_) (λz=>absurd (by decide +kernel) z));exact wpAny_bind (wpAny_typeOf hT (wpAny_pure h))
theorem Ju{R:Result->Shared->Prop}(hh:A.handled=none)(hs:SAt a es ep t s.heap)(bd:es.size<scanBound)(tg:_Stb.Tg (!w.params.followText "set-order") t)(S:Addr)(hSa:S≠a)(res:Value)(c0:Nat)(hS:s.heap.get? S=some {cls:=.type "list",data:=.seq #[] c0})
  (hR:∀(h':Heap)(tk:Nat) d' (vs:Array Value) (c':Nat),(∀b o,b≠S->s.heap.get? b=some o->h'.get? b=some o)->h'.get? S=some {cls:=.type "list",dict:=none,data:=.seq vs c',slots:=#[]}->vs.toList.Perm (es.toList.map (·.2))->R (.ok (.ret res)) {s with heap:=h',toks:=tk,drawn:=d'}):
  wpAny (model prog w) A.in1 (Builtin.List.listExtendWith (.ref S) (.ref a) res)
   (λfin s'=>match fin with | .done f=>R (.ok f) s' | .again c'=>c'.quiet=true/\codeAny (model prog w) A c' R s') (λe s'=>R (.error e) s') s:=by
 unfold Builtin.List.listExtendWith;refine wpAny_bind (wpAny_typeOf (T := "set") hs.type ?_);have h1:Builtin.List.listSameRef (.ref S) (.ref a)=false:=by simp[Builtin.List.listSameRef,hSa]
 have h2:(Value.type "set" == Value.type "list")=false:=⋯
 have h3:(Value.type "set" == Value.type "tuple")=false:=⋯
 simp only[h1,h2,h3,bE,uR,if_false];refine wpAny_bind (zcl hs bd tg λh1 d' I fp ord St W st kp hI hfp pm=>?_);have hS1:=kp _ _ hS;have hSl:S<s.heap.objs.size:=Heap.lt_size hS;have hSf:S∉fp:=λz=>(hfp S z).elim hSa λz=>absurd hSl (uc.mpr z);have key:∀(h:Heap)(c1 tk:Nat),St 0 h->(∀b o,b≠S->s.heap.get? b=some o->h.get? b=some o)->h.get? S=some {cls:=.type "list",data:=.seq #[] c1} ->
   codeAny (model prog w) A (.builtin "list.extend.loop" ⟨[.ref S,.ref I,res],[]⟩) R {s with heap:=h,toks:=tk,drawn:=d'}:=by
  intro h c1 tk hst hk hS2;refine codeAny_extend_loopS (W A.in1 hh).toS (fits_of_scanBound bd) S hSf res es.size 0 _ #[] c1 rfl (kN _) hst hS2 (ItemsOf.nil _) λs' acc c' mv hS' hacc=>?_;obtain⟨h',g',d2,tk',os'⟩:=s';obtain rfl:g'=s.gens:=mv.gens;obtain rfl:d2=d':=mv.drawn;obtain rfl:os'=s.os:=mv.os;refine hR h' tk' _ acc c' (λb o hb e=>mv.heap b o (λz=>?_) (hk b o hb e)) hS' ?_
  .rcases kK.mp z with z|z
   .exact hb z
   .rw[kq.mp z]at e;exact absurd (Heap.lt_size e) (uc.mpr hI)
  .refine(List.Perm.of_eq (List.ext_getElem? λi=>?_)).trans pm;have ol:ord.length=es.size:=by rw[pm.length_eq,ke,Array.length_toList]
   rw[Array.getElem?_toList];cases e:acc[i]? with
   |none =>
    have:=Array.getElem?_eq_none_iff.mp e;have:=hacc.1;rw[vY ()]
   |some v=>exact(hacc.2 i v e).symm
 refine wpAny_bind (wpAny_holding (zcm (hs.keep λo e=>kp _ _ e).type ?_));refine wpAny_ite_split (λ_=>?_) (λ_=>wpAny_pure ⟨plainId_quiet PySem.F.plain_extend_loop _,key _ c0 _ st (λb o _ e=>kp _ _ e) hS1⟩);refine wpAny_bind (wpAny_rule (wpAny_bind ?_));show wpAny _ _ (updateSeq S (·.push .none) >>= λ_=>updateSeq S (·.pop)) _ _ _;refine wpAny_bind (wpAny_updateSeq hS1 rfl ?_);have hS2:=Heap.get?_update_self (Obj.mapSeq (·.push Value.none)) hS1 rfl;refine wpAny_updateSeq (hz:=by seq_fits) hS2 rfl ?_;have hS3:=Heap.get?_update_self (Obj.mapSeq (·.pop)) hS2 rfl;refine wpAny_pure ⟨plainId_quiet PySem.F.plain_extend_loop _,key _ _ _ ?_ (λb o hb e=>?_) hS3⟩
 .refine(W A.in1 hh).frame 0 _ _ st λb hb o e=>?_;have ne:b≠S:=λh=>hSf (h ▸ hb);exact(Heap.get?_update_other _ _ ne.symm).trans ((Heap.get?_update_other _ _ ne.symm).trans e)
 .exact(Heap.get?_update_other _ _ hb.symm).trans ((Heap.get?_update_other _ _ hb.symm).trans (kp _ _ e))
theorem WY{R:List Value->Shared->Prop}(hh:A.handled=none)(hs:SAt a es ep t s.heap)(bd:es.size<scanBound)(tg:_Stb.Tg (!w.params.followText "set-order") t)
  (q:∀(h':Heap)(tk:Nat) d' (vs:List Value),(∀b o,s.heap.get? b=some o->h'.get? b=some o)->vs.Perm (es.toList.map (·.2))->R vs {s with heap:=h',toks:=tk,drawn:=d'}):wpAny (model prog w) A (collect (.ref a)) R E s:=by
 have ha:a<s.heap.objs.size:=let ⟨_,e,_⟩:=hs;Heap.lt_size e;unfold collect;refine wpAny_bind (wpAny_runValue (codeAny_builtin entry_proto_collect' ?_));rw[Around.under_plainId PySem.F.plain_proto_collect _];show wpAny _ A.in1 (newList [] >>= λl=>again (.builtin "list.__iadd__" ⟨[l,.ref a],[]⟩)) _ _ s;refine wpAny_bind (wpAny_newObj_type ?_);refine wpAny_pure ⟨plainId_quiet PySem.F.plain_list_iadd _,codeAny_builtin entry_list_iadd' ?_⟩;rw[Around.under_plainId PySem.F.plain_list_iadd _];have hS1:(s.heap.push {cls:=.type "list",data:=.seq ([]:List Value).toArray}).get? s.heap.objs.size=some {cls:=.type "list",data:=.seq #[] 0}:=Heap.get?_push_size _ rfl;show wpAny _ A.in1 (Builtin.List.listExtendWith (.ref s.heap.objs.size) (.ref a) (.ref s.heap.objs.size)) _ _ _;have key:=Ju (prog:=prog) (A:=A) (s:={s with heap:=s.heap.push {cls:=.type "list",data:=.seq ([]:List Value).toArray}})
  (R:=λ(x:Result)(s':Shared)=>∃(h':Heap)(tk:Nat)(d':Drawn)(vs:Array Value)(c':Nat),x=.ok (.ret (.ref s.heap.objs.size))/\s'={s with heap:=h',toks:=tk,drawn:=d'}/\(∀b o,s.heap.get? b=some o->h'.get? b=some o)/\h'.get? s.heap.objs.size=some {cls:=.type "list",dict:=none,data:=.seq vs c',slots:=#[]}/\vs.toList.Perm (es.toList.map (·.2)))
  hh (hs.keep λo e=>Heap.get?_push_of_some _ e) bd tg s.heap.objs.size (uw ha) (.ref s.heap.objs.size) 0 hS1 (λh' tk d' vs c' hk hS' pm=>⟨h',tk,d',vs,c',rfl,rfl,λb o e=>hk b o (vc (Heap.lt_size e)) (Heap.get?_push_of_some _ e),hS',pm⟩)
 refine wpAny_mono key (λfin s' x=>?_) λe s' x=>?_
 .cases fin with
  |done f =>
   obtain⟨h',tk,d',vs,c',e,rfl,hk,hS',pm⟩:=x;cases e;exact wpAny_bind (wpAny_load hS' (wpAny_pure (q h' tk d' _ hk pm)))
  |again c1 =>
   refine⟨x.1,codeAny_mono x.2 λq1 s2 y=>?_⟩;refine E_5 y λh' tk d' vs c' n8=>A_5 n8 λe9 n90 hk hS' pm=>?_;clear n8 y;subst e9;subst n90;exact wpAny_bind (wpAny_load hS' (wpAny_pure (q h' tk d' _ hk pm)))
 .obtain⟨_,_,_,_,_,e',_⟩:=x;cases e'
end
theorem Inv.drew{X:Cx}{pins:List (Addr×Obj)}{σ:St}{H:Hp}{s:Shared}{d':Drawn}(I:Inv X pins σ H s):Inv X pins σ H {s with drawn:=d'}:=⟨I.ok,I.os,I.bare,I.base,I.loc,I.cell,I.free,I.freeC,I.pin,I.hok,I.len⟩
theorem keys_perm{prog:Program}{w:World}{es:Array (Int×Value)}{σ:List Int}(nd:σ.Nodup)(el:ElemsOf (intKind prog w) es.toList)(me:∀k,decide (k∈σ)=true↔∃e∈es.toList,(intKind prog w).is k e.2=true)(en:es.size=σ.length):
  ∃ks:List Int,IntsAre (es.toList.map (·.2)) ks/\ks.Perm σ:=by
 have all:∀l:List (Int×Value),ElemsOf (intKind prog w) l->∃ks:List Int,IntsAre (l.map (·.2)) ks/\∀k,(∃e∈l,(intKind prog w).is k e.2=true)->k∈ks:=by
  intro l
  induction l with
  |nil=>intro _;exact⟨[],.nil,λk ⟨e,he,_⟩=>nomatch he⟩
  |cons e l ih =>
   intro h;obtain⟨ks,i1,i2⟩:=ih h.tail;obtain⟨⟨k,hk,_⟩,_⟩:=h.head;have hv:∃t,e.2=.int k t:=by
    simp only[intKind]at hk;generalize e.2=v at hk;cases v<;>simp[Value.isInt]at hk
    next a b=>exact⟨b,by rw[hk]⟩
   obtain⟨t,hv⟩:=hv;refine⟨k::ks,by rw[kY,hv];exact .cons k t i1,λk' h9=>?_⟩;obtain⟨e',he',hk'⟩:=h9;rcases kK.mp he' with rfl|he'
   .rw[(intKind prog w).inj e'.2 k' k hk' hk];exact kg
   .exact kn _ (i2 k' ⟨e',he',hk'⟩)
 obtain⟨ks,i1,i2⟩:=all _ el;refine⟨ks,i1,jR σ ks nd (λk hk=>i2 k ((me k).mp (decide_eq_true hk))) ?_⟩;have:=IntsAre.length i1;rw[ke,Array.length_toList]at this
 lia
theorem za2{vs us:List Value}(p:vs.Perm us):∀{ks:List Int},IntsAre us ks->∃ks',IntsAre vs ks'/\ks'.Perm ks:=by
 induction p with
 |nil=>intro ks h;exact⟨ks,h,List.Perm.refl _⟩
 |cons x p ih =>
  intro ks h;cases h with
  |cons n t r =>
   obtain⟨ks',a,b⟩:=ih r;exact⟨n::ks',.cons n t a,b.cons n⟩
 |swap x y l =>
  intro ks h;cases h with
  |cons n t r =>
   cases r with
   |cons n2 t2 r2=>exact⟨n2::n::_,.cons n2 t2 (.cons n t r2),List.Perm.swap _ _ _⟩
 |trans p1 p2 i1 i2 =>
  intro ks h;obtain⟨k1,a1,b1⟩:=i2 h;obtain⟨k2,a2,b2⟩:=i1 a1;exact⟨k2,a2,b2.trans b1⟩
theorem zgh{ms σ:List Int}(le:ms.Pairwise (· <= ·))(p:ms.Perm σ)(nd:σ.Nodup):ms.Pairwise (· < ·):=by
 have nd':ms.Nodup:=p.symm.nodup nd;clear p nd
 induction ms with
 |nil=>exact List.Pairwise.nil
 |cons a l ih =>
  obtain⟨h1,h2⟩:=vf.mp le;obtain⟨n1,n2⟩:=ug.mp nd';refine vf.mpr ⟨λb hb=>?_,ih h2 n2⟩;have:=h1 b hb;have:a≠b:=λe=>n1 (e ▸ hb)
  lia
def zcn(K:Frag)(tl:TE):TE:=λσ H Q=>tl σ H λx H1=>∃(l:Addr)(ns:List Int),x=.ref l/\SqL K H1 l (ns.map V.int)/\ns.length<64 /\
 ∀(D:Addr)(ms:List Int),H1 D=none->ms.Pairwise (· < ·)->(∀z,z∈ms↔z∈ns)->Q (.ref D) (upd H1 D (.lst (ms.map V.int)))
theorem Jv{X:Cx}{l:Expr}{tl:TE}{p pos p2 pos2:Pos}(hg:Gl X "sorted")(hm:X.mg "sorted"=none)(hg2:Gl X "set")(hm2:X.mg "set"=none)(hc:X.calm=true)(hl:PE X l tl)(hs:starEach [l] X.env=[(false,eval l X.env)]:=by rfl):
  PE X (.Call (.Name "sorted" p) [.Call (.Name "set" p2) [l] [] pos2] [] pos) (zcn X.K tl):=by
 intro pins s σ H Q I h;refine wpAny_Call_Name_kw (yR I hg hm boot_sorted ?_ ⋯ ⋯);refine uI (Calls.spliced_cons ?_) rfl rfl;refine wpAny_Call_Name_kw (yR I hg2 hm2 PyProof.Rows.boot_set ?_ ⋯ ⋯);refine vB (thn ((za hl zb hs) pos2 pins s σ H (λvs H1=>match vs with
  |[x]=>∃(l:Addr)(ns:List Int),x=.ref l/\SqL X.K H1 l (ns.map V.int)/\ns.length<64/\∀(D:Addr)(ms:List Int),H1 D=none->ms.Pairwise (· < ·)->(∀z,z∈ms↔z∈ns)->Q (.ref D) (upd H1 D (.lst (ms.map V.int)))
  |_=>False) I h) λus s1 ⟨vs,H1,I1,r1,q1⟩=>?_) (by rw[hs];rfl) (by rfl)
 match vs,q1 with
 |[x],q1 =>
 obtain⟨u,rfl,ru⟩:=vals1 r1;refine E_2 q1 λla ns n8=>A_4 n8 λe9 hq h64 q=>?_;clear n8 q1;subst e9;cases (show u=Value.ref la from ru);have hh:X.A.handled=none:=I1.ok.hd hc;obtain⟨its,rv,tp,hz⟩:=I1.list hq;have hI:=js rv;have hlen:its.length=ns.length:=IntsAre.length hI;have esz:its.toArray.size=ns.length:=by rw[ku];exact hlen
 have emap:(kR its.toArray.size).map (λi=>ns.getD i 0)=ns:=by
  rw[esz];refine List.ext_getElem? λi=>?_;rw[kM];by_cases hi:i<ns.length
  .rw[List.getElem?_range hi,kc hi,Option.map_some,kP,kc hi];rfl
  .rw[vY (l:=kR ns.length) (by rw[vq];lia),vY ()];rfl
 have b64:(64:Nat)+1<scanBound:=⋯
 refine zaZ (knd:=intKind X.prog X.w) (val:=λi=>ns.getD i 0) hh tp.isList (λi v hv=>?_) (by rw[esz];lia) λh' tk g kp=>Calls.spliced_nil ?_
 .obtain⟨t,rfl⟩:=IntsAre.int_at hI i v (by simpa using hv);exact⟨intKind_is _ _ _ _,rfl⟩
 rw[emap]at g;obtain⟨o,es,ep,t,ho,hx,hd,el,me,bd,ft,en,tg⟩:=g;obtain⟨dnd,dmem,dlen⟩:=Qo ns;obtain⟨ks,hks,pks⟩:=keys_perm dnd el me en;have I2:Inv X pins σ H1 {s1 with heap:=h',toks:=tk}:=I1.kept kp;refine Calls.call_function_entry kind_sorted plain_sorted entry_sorted (args_sorted1 _) ?_;unfold Builtin.«sorted»;refine wpAny_bind (m:=checkCount "sorted" 1 1 _) (wpAny_pure (wpAny_bind (WY (by simp[hh]) ⟨o,ho,hx,hd,ft⟩ bd tg λh2 tk2 d2 vs2 kp2 pm=>?_)));have I3:Inv X pins σ H1 {s1 with heap:=h2,toks:=tk2,drawn:=d2}:=(I2.kept (h':=h2) (t':=tk2) kp2).drew;obtain⟨k2,hk2,pk2⟩:=za2 pm hks;have l2:vs2.length=(dd ns).length:=by rw[IntsAre.length hk2,pk2.length_eq,pks.length_eq]
 have hsm:vs2.length<=sizeLine:=kw (show vs2.length<=64 by lia) ⋯;refine wpAny_bind (wpAny_newList ?_ hsm);have hoL:(h2.push (seqObj "list" vs2.toArray 0)).get? h2.objs.size=some (seqObj "list" vs2.toArray 0):=Heap.get?_push_size _ rfl;show wpAny _ _ _ _ _ {s1 with heap:=h2.push (seqObj "list" vs2.toArray 0),toks:=tk2,drawn:=d2};refine wpAny_bind (wpAny_holding (wpAny_call_entry slot_list_sort ⟨_,hoL,rfl⟩ entry_list_sort (list_sort_tree hoL hk2 () λout ms a1 a2 a3=>⟨_,rfl,?_⟩) (args_list_sort _)));refine wpAny_pure ⟨_,rfl,?_⟩;obtain⟨e,he⟩:=sortedHeap_at (out:=out) hoL;have pms:ms.Perm (dd ns):=a2.trans (pk2.trans pks);have nD:H1 h2.objs.size=none:=I3.hok.fresh (km _);have ln:(ms.map V.int).length<=sizeLine:=by rw[ke,pms.length_eq,<-l2];exact hsm
 refine⟨.ref h2.objs.size,_,I3.laid (t':=tk2) (o:=.lst (ms.map V.int)) (h':=sortedHeap (h2.push (seqObj "list" vs2.toArray 0)) h2.objs.size vs2 out) (λb u eb=>?_) (km _) ⟨ln,out.toList,e,qG a1,?_⟩,rfl,q _ ms nD (zgh a3 pms dnd) λz=>(pms.mem_iff).trans (dmem z)⟩
 .have lt:b<h2.objs.size:=Heap.lt_size eb;rw[sortedHeap_old (vc lt) (by rw[Heap.size_push];exact vG lt)];exact Heap.get?_push_of_some _ eb
 .rw[he]
section
variable{X:Cx}
theorem wC:∀{bs:List Addr}{us:List Value},Vals (bs.map V.ref) us->us=bs.map Value.ref
 |[],_,.nil=>rfl
 |b::bs,_,.cons e r=>by
  cases e;rw[wC r];rfl
theorem za3(hu:X.A.units+64<cLine):MtR X "list.index" (λx vs H Q=>∃(a:Addr)(bs:List Addr)(y:V)(e:Addr->Bool)(n j:Nat),x=.ref a/\vs=[y]/\SqL X.K H a (bs.map V.ref)/\n<=16/\(∀b∈bs,EqR X.K H n (.ref b) y (e b))/\bs[j]?.map e=some true/\(∀m,m<j->bs[m]?.map e=some false)/\Q (.int (j:Int)) H):=by
 intro pins s σ H x xs v us Q I rx rxs h;refine E_6 h λa bs y e k j n8=>A_8 n8 λe9 n90 hq hk he hj hno q=>?_;clear n8 h;subst e9;subst n90;cases rx;obtain⟨u,rfl,ru⟩:=vals1 rxs;obtain⟨its,rv,tp,hz⟩:=I.list hq;have ei:=wC rv;subst ei;obtain⟨⟨cls,dd,data,sl⟩,ho,hc,n,hd⟩:=id tp.isList;simp only at hc hd;subst hc hd;obtain⟨b0,hb0,eb0⟩:=kZ.mp hj;obtain⟨hjl,ej⟩:=kf.mp hb0;have sz:(bs.map Value.ref).toArray.size=bs.length:=by simp
 rw[ke]at hz;have hsm:(j:Int)<2^63-1:=by
  rw[sizeLine_eq]at hz
  lia
 refine call_meets PySem.F.slot_list_index ⟨_,ho,rfl⟩ PySem.F.entry_list_index (PySem.F.args_list_index_2 _ _)
  (SeqAt.list_indexAt a (bs.map Value.ref).toArray n dd sl u (λy=>match y with | .ref b=>e b|_=>false) j (by rw[sz];exact hjl) hsm (by simp[ej,eb0]) (λm hm hlt=>?_)) ⟨ho,λz hy=>?_,⟨.int (j:Int),H,I.tok _,⟨_,rfl⟩,q⟩⟩
 .obtain⟨b1,hb1,eb1⟩:=kZ.mp (hno m hlt);obtain⟨hm',em⟩:=kf.mp hb1;simp[em,eb1]
 .obtain⟨b,hb,rfl⟩:=kU.mp (show z∈bs.map Value.ref by simpa using hy);exact(he b hb).at I (A:=X.A.in1) (u:=.ref b) (v:=u) rfl ru (by show X.A.units+1+k<cLine;lia)
end
open AutoSeq1 (wpAny_loadPart')
open SeqAt (EqAt)
theorem jx{M:Model}{A:Around}{E:Value->Shared->Prop}{s:Shared}{β:Type}(f:Nat->β->Sem (ForInStep β))(I:List Nat->β->Shared->Prop)(Q:β->Shared->Prop)
  (turn:∀x rest b s,I (x::rest) b s->wpAny M A (f x b) (λr s'=>match r with | .yield b'=>I rest b' s' | .done b'=>Q b' s') E s)
  (fin:∀b s,I [] b s->Q b s)(n:Nat)(b:β)(h:I (List.range' 0 n) b s):wpAny M A (forIn [0:n] b f) Q E s:=by
 rw[Std.Legacy.Range.forIn_eq_forIn_range'];refine wpAny_forIn_list f I Q turn fin _ b ?_;simpa[Std.Legacy.Range.size]using h
theorem Xo(l:Addr)(items:Array Value)(n:Nat)(dd:Option Addr)(sl:Array (Option Value))(x:Value)(e:Value->Bool)(j:Nat)(hj:j<items.size)(hit:e items[j]=true)(hno:∀m (hm:m<items.size),m<j->e items[m]=false):
  Meets (Builtin.«tuple.index» ⟨[.ref l,x],[]⟩)
   (λA R s=>s.heap.get? l=some {cls:=.type "tuple",dict:=dd,data:=.seq items n,slots:=sl}/\(∀y,y∈items->EqAt A.in1 s y x (e y))/\R (.ok (.ret (.int j s.toks))) {s with toks:=s.toks+1}) :=
 .of_wp λprog w A R s h=>by
  obtain⟨hp,g,d,tk,os⟩:=s;obtain⟨hl,he,h⟩:=h
  wp_walk using wpAny_loadPart' hl,jx _ (λrest b s'=>b.1=none/\s'=⟨hp,g,d,tk,os⟩/\∃i,i<=j/\rest=List.range' i (items.size-i)) _
  case turn =>
   intro i rest b s' h8;obtain⟨hb,rfl,i0,hi0,er⟩:=h8;have hsz:0<items.size-i0:=()
   obtain⟨m,em⟩:∃m,items.size-i0=m+1:=⟨items.size-i0-1,()⟩;rw[em,List.range'_succ]at er;injection er with e1 e2;subst e1;have hil:i<items.size:=()
   rw[Array.getElem?_eq_getElem hil];refine wpAny_bind (he _ (Array.getElem_mem hil) prog w _ _ ?_);by_cases c:i=j
   .subst c;rw[hit]
    wp_walk
    exact⟨_,rfl,h⟩
   .rw[hno i hil ()]
    wp_walk
    exact⟨rfl,rfl,i+1,(),by rw[e2];congr 1;lia⟩
  case fin =>
   rintro⟨b1,b2⟩ s' ⟨hb,rfl,i0,hi0,er⟩;exfalso;have:=congrArg List.length er;rw[List.length_range']at this;simp at this
   lia
  case h =>
   exact⟨rfl,rfl,0,kN _,by simp⟩
section
variable{X:Cx}
theorem za4{K:PySem.W.Frag}(hK:X.K=K)(hu:X.A.units+64<cLine):MtR X "tuple.index" (λx vs H Q=>∃(a:Addr)(bs:List Addr)(y:V)(e:Addr->Bool)(n j:Nat),x=.ref a/\vs=[y]/\SqT K H a (bs.map V.ref)/\n<=16/\(∀b∈bs,EqR K H n (.ref b) y (e b))/\bs[j]?.map e=some true/\(∀m,m<j->bs[m]?.map e=some false)/\Q (.int (j:Int)) H):=by
 subst hK;intro pins s σ H x xs v us Q I rx rxs h;refine E_6 h λa bs y e k j n8=>A_8 n8 λe9 n90 hq hk he hj hno q=>?_;clear n8 h;subst e9;subst n90;cases rx;obtain⟨u,rfl,ru⟩:=vals1 rxs;obtain⟨its,rv,tp,hz⟩:=I.tuple hq;have ei:=wC rv;subst ei;obtain⟨⟨cls,dd,data,sl⟩,ho,hc,n,hd⟩:=id tp;simp only at hc hd;subst hc hd;obtain⟨b0,hb0,eb0⟩:=kZ.mp hj;obtain⟨hjl,ej⟩:=kf.mp hb0;have sz:(bs.map Value.ref).toArray.size=bs.length:=by simp
 refine call_meets PySem.F.slot_tuple_index ⟨_,ho,rfl⟩ PySem.F.entry_tuple_index (PySem.F.args_tuple_index_2 _ _)
  (Xo a (bs.map Value.ref).toArray n dd sl u (λy=>match y with | .ref b=>e b|_=>false) j (by rw[sz];exact hjl) (by simp[ej,eb0]) (λm hm hlt=>?_)) ⟨ho,λz hy=>?_,⟨.int (j:Int),H,I.tok _,⟨_,rfl⟩,q⟩⟩
 .obtain⟨b1,hb1,eb1⟩:=kZ.mp (hno m hlt);obtain⟨hm',em⟩:=kf.mp hb1;simp[em,eb1]
 .obtain⟨b,hb,rfl⟩:=kU.mp (show z∈bs.map Value.ref by simpa using hy);exact(he b hb).at I (A:=X.A.in1) (u:=.ref b) (v:=u) rfl ru (by show X.A.units+1+k<cLine;lia)
end
end _L2
namespace _L2
open PySem PySem.Spec PyProof.Rows PySem.W
def TpF(H:Hp)(a:Addr)(xs:List V):Prop:=∃o:Obj,H a=some (.frz o (.tup xs))/\o.cls=.type "tuple" /\ o.dict=none
theorem TpF.same{H H':Hp}(S:Same H H'){a:Addr}{xs:List V}(h:TpF H a xs):TpF H' a xs:=let ⟨o,e,r⟩:=h;⟨o,S _ _ e,r⟩
theorem TpF.sq{K:PySem.W.Frag}{H:Hp}{a:Addr}{xs:List V}(h:TpF H a xs):SqT K H a xs:=let ⟨o,e,_⟩:=h;.inl (.inr ⟨o,e⟩)
theorem TpF.new{H:Hp}{a:Addr}{o:Obj}{xs:List V}(c:o.cls=.type "tuple")(d:o.dict=none):TpF (upd H a (.frz o (.tup xs))) a xs:=⟨o,zc,c,d⟩
section
variable{X:Cx}
theorem Xp:yI X (.type "tuple") (λxs H Q=>∃p ys,xs=[.ref p]/\SqL X.K H p ys/\∀(l:Addr)(o:Obj),H l=none->o.cls=.type "tuple" -> o.dict=none->Q (.ref l) (upd H l (.frz o (.tup ys)))):=by
 intro pins s σ H xs us Q I r h;refine E_2 h λp ys n8=>A_3 n8 λe9 hq q=>?_;clear n8 h;subst e9;obtain⟨u,rfl,rx⟩:=vals1 r;cases rx;obtain⟨its,r',pl,hz⟩:=I.list hq;have hlen:=r'.length;refine call_tuple_list pl.isList (λh' kp=>?_) (by simp only[ku]<;>lia);have I1:Inv X pins σ H {s with heap:=h'}:=I.kept (t':=s.toks) kp;have I2:Inv X pins σ (upd H h'.objs.size (.frz {cls:=.type "tuple",data:=.seq its.toArray} (.tup ys))) {s with heap:=h'.push {cls:=.type "tuple",data:=.seq its.toArray}} :=
  I1.laid (t':=s.toks) (λb o e=>Heap.get?_push_of_some _ e) (km _) (show yq X.prog X.w _ _ _ (.frz _ (.tup ys))from⟨Heap.get?_push_size _ rfl,hz,its,r',IsTup.new _ _⟩)
 exact⟨.ref h'.objs.size,_,I2,rfl,q _ _ (I1.hok.fresh (km _)) rfl rfl⟩
def tBMT(r:V->List V->Hp->VK->Prop)(to:TE)(t:TA):TE:=λσ H Q=>to σ H λx H1=>(∃p xs,x=.ref p/\TpF H1 p xs)/\t σ H1 λxs H2=>r x xs H2 Q
variable{o e:Expr}{es:List Expr}{to:TE}{t:TA}{name:Str}{apos cpos:Pos}{id:String}{r:V->List V->Hp->VK->Prop}
theorem zfi(slot:Slot "tuple" name id)(hty:typeOf (.builtin id)=pure (.type "method_descriptor"))(hm:MtR X id r)(ho:PE X o to)(ha:PA X (e::es) t)
  (hbase:attributeBase o name X.env (eval o X.env)=eval o X.env:=by rfl)
  (hfew:((backTo cpos (starEach (e::es) X.env)).all (λx=>!x.1)&&(backToKw cpos (keywordEach [] X.env)).all (λx=>x.1.isSome)
   && decide ((e::es).length+([]:List Keyword).length+(if([]:List Keyword).isEmpty then 0 else 1)<30))=true:=by rfl)
  (hline:(apos.endLine==cpos.line)=true:=by rfl)(hs:starEach (e::es) X.env=(false,eval e X.env)::starEach es X.env:=by rfl)(hplain:(backTo cpos (starEach es X.env)).any (·.1)=false:=by rfl):
  PE X (.Call (.Attribute o name apos) (e::es) [] cpos) (tBMT r to t):=by
 intro pins s σ H Q I h;refine wpAny_Call_method_late hbase hfew hline rfl (thn (ho pins s σ H _ I h) λv s1 h9=>?_);obtain⟨x,H1,I1,r1,ty,q1⟩:=h9;obtain⟨p,ys,rfl,ob,hp,hc,hd⟩:=ty;cases r1;have e:s1.heap.get? p=some ob:=(show yq X.prog X.w H1 s1.heap p (.frz ob (.tup ys))from I1.hok p _ hp).1;refine⟨"tuple",id,PySem.F.plainAttrs_tuple,slot,hty,⟨ob,e,hc⟩,(λa z=>by cases z;exact⟨ob,e,hd⟩),?_⟩;have hA:=ha cpos pins s1 σ H1 _ I1 q1;rw[hs]at hA ⊢;refine Calls.callWith_builtin (by show(false||(backTo cpos (starEach es X.env)).any (·.1))=false;rw[hplain]<;>rfl) (Calls.evalArgs_plain ?_);exact thn hA λus s2 ⟨vs,H2,I2,r2,q2⟩=>hm pins s2 σ H2 (.ref p) vs (.ref p) us Q I2 rfl r2 q2
end
end _L2
namespace _JN
open PySem _L2 _Til
def bxV(b:Bx):List V:=[.int b.l,.int b.t,.int b.r,.int b.b]
def yt(H:Hp)(v:V)(b:Bx):Prop:=∃p,v=.ref p/\H p=some (.tup (bxV b))
def zM(H:Hp):List V->List Bx->Prop:=Paired (yt H)
theorem yt.same{H H':Hp}(S:Same H H'){v:V}{b:Bx}(h:yt H v b):yt H' v b:=let ⟨p,e,z⟩:=h;⟨p,e,S _ _ z⟩
theorem zM.same{H H':Hp}(S:Same H H'):∀{vs:List V}{bs:List Bx},zM H vs bs->zM H' vs bs
 |_,_,.nil=>.nil
 |_,_,.cons h t=>.cons (h.same S) (zM.same S t)
theorem zM.len{H:Hp}{vs:List V}{bs:List Bx}(h:zM H vs bs):vs.length=bs.length:=Paired.length h
theorem zM.get{H:Hp}:∀{vs:List V}{bs:List Bx}{i:Nat}{b:Bx},zM H vs bs->bs[i]?=some b->∃v,vs[i]?=some v/\yt H v b
 |_,_,_,_,.nil,e=>by simp at e
 |_,_,0,_,.cons r _,e=>by simp at e;subst e;exact⟨_,rfl,r⟩
 |_,_,i+1,b,.cons _ t,e=>by
  obtain⟨v,h1,h2⟩:=zM.get (i:=i) (b:=b) t (by simpa using e);exact⟨v,by simpa using h1,h2⟩
theorem zM.drop{H:Hp}:∀{vs:List V}{bs:List Bx}(n:Nat),zM H vs bs->zM H (vs.drop n) (bs.drop n)
 |_,_,0,r=>r
 |_,_,_+1,.nil=>.nil
 |_,_,n+1,.cons _ t=>zM.drop n t
section
variable{σ:St}{H:Hp}{D:Ends}
theorem zJ{i:Nat}{v:V}{Q:St->Hp->Prop}(h:Q (σ.set i (some v)) H):zU i v σ H Q:=h
end
theorem yl{H:Hp}{p:Addr}{b:Bx}(h:H p=some (.tup (bxV b)))(K:PySem.W.Frag):SqT K H p [.int b.l,.int b.t,.int b.r,.int b.b]:=SqT.of h
open PySem.W
def xf(H:Hp)(pg:Addr)(wd hg:Int)(bs:List Bx):Prop:=∃tb us,H pg=some (.tup [.int wd,.int hg,.ref tb])/\TpF H tb us/\zM H us bs/\bs.length<=24
theorem xf.same{H H':Hp}(S:Same H H'){pg:Addr}{wd hg:Int}{bs:List Bx}(h:xf H pg wd hg bs):xf H' pg wd hg bs :=
 let ⟨tb,us,a,b,c,d⟩:=h;⟨tb,us,S _ _ a,TpF.same S b,c.same S,d⟩
def j2(s:Int×Int):List Int:=[s.1,s.2]
def acrS(sp:List (Int×Int))(e:Int):Bool:=sp.any λs=>decide (s.1<e)&&decide (e<s.2)
def zcT:Sp:=λvs H Q _=>∃(v u:V)(b p:Bx),vs=[v,u]/\yt H v b/\yt H u p/\Q (.bl (wthn p b)) H
def Jw:Sp:=λvs H Q _=>∃(pg:Addr)(u:V)(W G:Int)(cs:List Bx)(p:Bx),vs=[.ref pg,u]/\xf H pg W G cs/\yt H u p /\
 ∀(l:Addr)(us:List V)(H':Hp),Same H H'->H l=none->H' l=some (.lst us)->zM H' us (cs.filter (wthn p))->Q (.ref l) H'
def zcU:Sp:=λvs H Q _=>∃(l:Addr)(us:List V)(sp:List (Int×Int))(e:Int),vs=[.int e,.ref l]/\H l=some (.lst us)/\wB H us (sp.map j2)/\sp.length<=24/\∀H',Same H H'->Q (.bl (acrS sp e)) H'
theorem ZJ{H H':Hp}{l:Addr}(S:Same H H')(h:H' l=none):H l=none:=by
 cases z:H l with
 |none=>rfl
 |some o=>rw[S _ _ z]at h;cases h
section
variable{P:Program}{w:World}{K:PySem.W.Frag}{mg:Str->Option Value}{base:Heap}
theorem Zc{ta tb:TE}{σ:St}{H:Hp}{p q:Bool}(a:Evl ta σ H (.bl p))(b:Evl tb σ H (.bl q)):Evl (QJ ta tb) σ H (.bl (p&&q)):=λQ z=>a _ ⟨p,rfl,by
 cases p with
 |true=>exact iteT (b _ z)
 |false=>exact iteF z⟩
theorem Jx:zu ["box","piece","across","down"] ["box","piece"] (zl sLiw):=by trivial
theorem zfj{f:Addr}{fd:FuncData}(F:Fun K "lies_within" "lies_within" sLiw f fd)(gLEFT:GI mg "LEFT" 0)(gTOP:GI mg "TOP" 1)(gRIGHT:GI mg "RIGHT" 2)(gBELOW:GI mg "BELOW" 3):FnOk P w K mg base CX0 1 f fd ["box","piece"] zcT:=by
 refine F.ok Jx (λvs H Q E h=>?_) (λcdv A outer s H vs Q E hr h=>?_)
 .refine E_4 h λv u b p n8=>A_2 n8 λe9 _=>?_;clear n8 h;subst e9;rfl
 .refine E_4 h λv u b p n8=>A_4 n8 λe9 n90 n91 q=>?_;clear n8 h;subst e9;obtain⟨x,rfl,hx⟩:=n90;obtain⟨y,rfl,hy⟩:=n91;refine⟨_,(ze (zB (i:=2) Jx.nd rfl (Or.inl rfl) (yg (z5 y7 (zm zw (pv 1) (zx rfl gLEFT) (λ_ _=>rfl)) (zm zw (pv 0) (zx rfl gLEFT) (λ_ _=>rfl)) (zD _)) (yG (z5 y7 (zm zw (pv 0) (zx rfl gRIGHT) (λ_ _=>rfl)) (zm zw (pv 1) (zx rfl gRIGHT) (λ_ _=>rfl)) (zD _)))))
   (ze (zB (i:=3) Jx.nd rfl (Or.inl rfl) (yg (z5 y7 (zm zw (pv 1) (zx rfl gTOP) (λ_ _=>rfl)) (zm zw (pv 0) (zx rfl gTOP) (λ_ _=>rfl)) (zD _)) (yG (z5 y7 (zm zw (pv 0) (zx rfl gBELOW) (λ_ _=>rfl)) (zm zw (pv 1) (zx rfl gBELOW) (λ_ _=>rfl)) (zD _)))))
   (zf (zo (yg (pv 2) (yG (pv 3))))))),?_⟩
  have t:=yl hx K;have t':=yl hy K;refine xx (v:=.bl (decide (p.l<=b.l)&&decide (b.r<=p.r))) (Zc (zT (zE (zh rfl) zC t' rfl) (zE (zh rfl) zC t rfl)) (zT (zE (zh rfl) zC t rfl) (zE (zh rfl) zC t' rfl))) ?_;refine xx (v:=.bl (decide (p.t<=b.t)&&decide (b.b<=p.b))) (Zc (zT (zE (zh rfl) zC t' rfl) (zE (zh rfl) zC t rfl)) (zT (zE (zh rfl) zC t rfl) (zE (zh rfl) zC t' rfl))) ?_;exact wE (v:=.bl (wthn p b)) (Zc (zh rfl) (zh rfl)) q
theorem zgi:zu ["page","piece"] ["page","piece"] (zl sBin):=by trivial
theorem qO{α:Type}(q:α->Bool){bs:List α}{i:Nat}{b:α}(h:bs[i]?=some b):(bs.take (i+1)).filter q=(bs.take i).filter q++if q b=true then [b]else []:=by
 rw[ur,h,List.filter_append];congr 1;show List.filter q [b]=_;rw[u9];rfl
theorem zfk{f fL:Addr}{fd dL:FuncData}(F:Fun K "boxes_in" "boxes_in" sBin f fd)(gBOXES:GI mg "BOXES" 2)(Li:Callee P w K mg base CX0 1 "lies_within" fL dL ["box","piece"] zcT):FnOk P w K mg base CX0 2 f fd ["page","piece"] Jw:=by
 refine F.ok zgi (λvs H Q E h=>?_) (λcdv A outer s H vs Q E hr h=>?_)
 .refine E_6 h λpg u W G cs p n8=>A_2 n8 λe9 _=>?_;clear n8 h;subst e9;rfl
 .refine E_6 h λpg u W G cs p n8=>A_4 n8 λe9 n90 hu q=>?_;clear n8 h;subst e9;obtain⟨tb,us,hpg,htb,hB,h24⟩:=n90;refine⟨_,(zf (zo (zQ (Nc:=["box","piece"]) (ix:=[none,some 1]) rfl rfl (by exact(xT (zm zw (pv 0) (zx rfl gBOXES) (λ_ _=>rfl)))) (λ_ _ _ _ _=>(zt (i:=0) (by show(["box","piece"]:List Str).Nodup;decide +kernel) rfl (Or.inl rfl))) (λ_ _ _ _ _=>(jF (zX (zg Li.ok hr rfl Li.bound Li.kp Li.bd .nil zr (za (pv 0) (za (pv 1) zb)))))) (λ_ _ _ _ _=>(pv 0))))),?_⟩;have lu:=hB.len;refine⟨_,rfl,pg,_,_,_,rfl,rfl,SqT.of hpg,rfl,tb,rfl,⟨_,htb.sq⟩,xN (K:=K) (a:=tb) (xs:=us) (λi ys σ H'=>∃o,σ=[o,some u]/\zM H ys ((cs.take i).filter (wthn p))/\Same H H')
   ⟨none,rfl,.nil,Same.refl _⟩ (λi ys σ H' hi ⟨_,_,e,S⟩=>⟨?_,(TpF.same S htb).sq⟩) ?_ ?_⟩
  .have:=e.len;have:=vA (wthn p) (cs.take i);rw[kQ]at this;exact kw (show _<=1000 by lia) ⋯
  .rintro ys σ H' ⟨_,_,e,S⟩ l nl;rw[lu,kJ]at e;have S2:=S.trans (zd (o:=.lst ys) nl);exact q l ys _ S2 (ZJ S nl) zc (e.same S2)
  .intro i x ys σ H' hx h8;refine E_1 h8 λo n8=>A_3 n8 λe9 e S=>?_;clear n8 h8;subst e9;have hi:i<cs.length:=by rw[<-lu];exact(kf.mp hx).1
   have eb:cs[i]?=some cs[i]:=kc hi;generalize cs[i]=b at eb;obtain⟨v,hv,hb⟩:=hB.get eb;rw[hx]at hv;cases hv;dsimp only[zU];refine⟨_,rfl,_,rfl,x,u,b,p,rfl,hb.same S,hu.same S,_,rfl,?_⟩;refine ite2 (λc1=>?_) (λc1=>?_)
   .exact⟨_,rfl,_,rfl,by rw[qO _ eb,if_pos c1];exact Paired.snoc e hb,S⟩
   .exact⟨_,rfl,by rw[qO _ eb,if_neg c1,vh];exact e,S⟩
theorem zgj:zu ["place","spans"] ["place","spans"] (zl sLii):=by trivial
theorem zfl{f:Addr}{fd:FuncData}(F:Fun K "lies_inside" "lies_inside" sLii f fd)(tany:mg "any"=none):FnOk P w K mg base CX0 1 f fd ["place","spans"] zcU:=by
 refine F.ok zgj (λvs H Q E h=>?_) (λcdv A outer s H vs Q E hr h=>?_)
 .refine E_4 h λl us sp e n8=>A_2 n8 λe9 _=>?_;clear n8 h;subst e9;rfl
 .refine E_4 h λl us sp e n8=>A_5 n8 λe9 hl hI h24 q=>?_;clear n8 h;subst e9;refine⟨_,(zf (zo (zp (je rfl) (by rfl) tany bC (za (zQ (Nc:=["first","last","place"]) (ix:=[none,none,some 0]) rfl rfl (by refine' zV ?zz;case zz=>exact(pv 1)) (λ_ _ _ _ _=>(xO (K:=K) (n:=2) rfl rfl (zR (zt (i:=0) (by show(["first","last","place"]:List Str).Nodup;decide +kernel) rfl (Or.inl rfl)) (zR (zt (i:=1) (by show(["first","last","place"]:List Str).Nodup;decide +kernel) rfl (Or.inl rfl)) yB)))) (λ_ _ _ _ _=>zP) (λ_ _ _ _ _=>(XC yO yO (pv 0) (pv 2) (pv 1)))) zb)))),?_⟩;have lu:=hI.len;rw[ke]at lu;refine⟨_,rfl,l,rfl,⟨_,SqL.of hl⟩,zZ (K:=K) (a:=l) (xs:=us) (λi ys σ H'=>(∃o1 o2,σ=[o1,o2,some (.int e)])/\ys=(sp.take i).map (λs=>V.bl (decide (s.1<e)&&decide (e<s.2)))/\Same H H')
   ⟨⟨none,none,rfl⟩,rfl,Same.refl _⟩ (λi ys σ H' hi h9=>by obtain⟨_,e1,S⟩:=h9;exact(⟨by rw[e1,ke,kQ];exact kw (show _<=1000 by lia) ⋯,SqL.of (S _ _ hl)⟩)) ?_ ?_⟩
  .rintro ys σ H' ⟨_,e1,S⟩ la nl;rw[lu,kJ]at e1;subst e1;refine⟨la,sp.map (λs=>decide (s.1<e)&&decide (e<s.2)),rfl,SqL.of (by rw[zc,vm];rfl),?_⟩;have S2:=S.trans (zd (o:=.lst (sp.map λs=>V.bl (decide (s.1<e)&&decide (e<s.2)))) nl);have z:=q _ S2;unfold acrS at z;rw[List.any_map];exact z
  .rintro i x ys σ H' hx ⟨⟨o1,o2,rfl⟩,e1,S⟩;subst e1;have hi:i<sp.length:=by rw[<-lu];exact(kf.mp hx).1
   have eb:sp[i]?=some sp[i]:=kc hi;generalize sp[i]=b at eb;obtain⟨z,hz,p,rfl,hp⟩:=xG hI hx;rw[kM,eb]at hz;cases hz;refine⟨p,_,rfl,SqT.of (S _ _ hp),rfl,_,_,rfl,_,_,rfl,rfl,?_⟩;dsimp only[tYes];refine iteT ?_;refine(jd (i:=b.1) (j:=e) (k:=b.2) (zh rfl) (zh rfl) (zh rfl)) _ ?_;refine⟨⟨_,_,rfl⟩,?_,S⟩;rw[ur,eb,kF];rfl
end
def Jy:Sp:=λvs H Q _=>∃(l:Addr)(us:List V)(sp:List (Int×Int)),vs=[.ref l]/\H l=some (.lst us)/\wB H us (sp.map j2)/\sp.length<=24 /\
 ∀(D:Addr)(ms:List Int)(H':Hp),Same H H'->H D=none->ms.Pairwise (· < ·)->(∀z,z∈ms↔z∈sp.map (·.1)++sp.map (·.2))->H' D=some (.lst ((ms.filter λe=>!acrS sp e).map V.int))->Q (.ref D) H'
theorem sub_len{ms ns:List Int}(up:ms.Pairwise (· < ·))(mem:∀z,z∈ms↔z∈ns):ms.length<=ns.length:=by
 have key:∀(ms ns:List Int),ms.Pairwise (· < ·)->(∀z∈ms,z∈ns)->ms.length<=ns.length:=by
  intro ms
  induction ms with
  |nil=>intro ns _ _;exact kN _
  |cons a l ih =>
   intro ns up sub;obtain⟨h1,h2⟩:=vf.mp up;have ha:=sub a kg;have:=ih (ns.erase a) h2 λz hz=>(bI (by have:=h1 z hz;lia)).mpr (sub z (kn _ hz));rw[bi ha]at this;have:0<ns.length:=bB ha;rw[kG]
   lia
 exact key ms ns up λz h=>(mem z).mp h
section
variable{P:Program}{w:World}{K:PySem.W.Frag}{mg:Str->Option Value}{base:Heap}
theorem zcV:zu ["spans","ends"] ["spans"] (zl sUnc):=by trivial
theorem zfm{f fL:Addr}{fd dL:FuncData}(F:Fun K "uncut_ends" "uncut_ends" sUnc f fd)(ts:mg "sorted"=none)(tset:mg "set"=none)(Li:Callee P w K mg base CX0 1 "lies_inside" fL dL ["place","spans"] zcU):FnOk P w K mg base CX0 2 f fd ["spans"] Jy:=by
 refine F.ok zcV (λvs H Q E h=>?_) (λcdv A outer s H vs Q E hr h=>?_)
 .refine E_3 h λl us sp n8=>A_2 n8 λe9 _=>?_;clear n8 h;subst e9;rfl
 .refine E_3 h λl us sp n8=>A_5 n8 λe9 hl hI h24 q=>?_;clear n8 h;subst e9;refine⟨_,(ze (zB (i:=1) zcV.nd rfl (Or.inl rfl) (zK q8 (zQ (Nc:=["span"]) (ix:=[none]) rfl rfl (by refine' zV ?zz;case zz=>exact(pv 0)) (λ_ _ _ _ _=>(zt (i:=0) (by show(["span"]:List Str).Nodup;decide +kernel) rfl (Or.inl rfl))) (λ_ _ _ _ _=>zP) (λ_ _ _ _ _=>(zm (z7 (K:=K) rfl) (pv 0) zk (λ_ _=>rfl)))) (zQ (Nc:=["span"]) (ix:=[none]) rfl rfl (by refine' zV ?zz;case zz=>exact(pv 0)) (λ_ _ _ _ _=>(zt (i:=0) (by show(["span"]:List Str).Nodup;decide +kernel) rfl (Or.inl rfl))) (λ_ _ _ _ _=>zP) (λ_ _ _ _ _=>(zm (z7 (K:=K) rfl) (pv 0) zk (λ_ _=>rfl))))))
   (zf (zo (zQ (Nc:=["place","spans"]) (ix:=[none,some 0]) rfl rfl (by refine' zV ?zz;case zz=>exact(Jv rfl ts rfl tset rfl (pv 1))) (λ_ _ _ _ _=>(zt (i:=0) (by show(["place","spans"]:List Str).Nodup;decide +kernel) rfl (Or.inl rfl))) (λ_ _ _ _ _=>(jF (z9 (zX (zg Li.ok hr rfl Li.bound Li.kp Li.bd .nil zr (za (pv 0) (za (pv 1) zb))))))) (λ_ _ _ _ _=>(pv 0)))))),?_⟩
  have lu:=hI.len;rw[ke]at lu;have at_:∀{H':Hp},Same H H'->∀{i:Nat}{x:V},us[i]?=some x->∃(p:Addr)(b:Int×Int),x=.ref p/\sp[i]?=some b/\SqT K H' p [.int b.1,.int b.2]:=by
   intro H' S i x hx;have hi:i<sp.length:=by rw[<-lu];exact(kf.mp hx).1
   have eb:sp[i]?=some sp[i]:=kc hi;obtain⟨z,hz,p,rfl,hp⟩:=xG hI hx;rw[kM,eb]at hz;cases hz;exact⟨p,_,rfl,eb,SqT.of (S _ _ hp)⟩
  have small:∀(g:Int×Int->V)(i:Nat)(ys:List V),ys=(sp.take i).map g->ys.length<=sizeLine:=λg i ys e=>by
   rw[e,ke,kQ];exact kw (show _<=1000 by lia) ⋯
  have push:∀(g:Int×Int->V)(i:Nat)(b:Int×Int),sp[i]?=some b->(sp.take i).map g++[g b]=(sp.take (i+1)).map g:=λg i b eb=>by
   rw[ur,eb,kF];rfl
  refine⟨_,rfl,l,rfl,⟨_,SqL.of hl⟩,zZ (K:=K) (a:=l) (xs:=us) (λi ys σ H'=>(∃o,σ=[o])/\ys=(sp.take i).map (λs=>V.int s.1)/\Same H H')
   ⟨⟨none,rfl⟩,rfl,Same.refl _⟩ (λi ys σ H' hi h9=>by obtain⟨_,e1,S⟩:=h9;exact(⟨small _ i ys e1,SqL.of (S _ _ hl)⟩)) ?_ ?_⟩
  .rintro ys σ H1 ⟨_,e1,S1⟩ la nla;rw[lu,kJ]at e1;have hla:upd H1 la (.lst ys) la=some (.lst ys):=zc;have S2:=S1.trans (zd (o:=.lst ys) nla);generalize upd H1 la (.lst ys)=H2 at hla S2;refine⟨_,rfl,l,rfl,⟨_,SqL.of (S2 _ _ hl)⟩,zZ (K:=K) (a:=l) (xs:=us) (λi zs σ H'=>(∃o,σ=[o])/\zs=(sp.take i).map (λs=>V.int s.2)/\Same H2 H')
    ⟨⟨none,rfl⟩,rfl,Same.refl _⟩ (λi zs σ H' hi h9=>by obtain⟨_,e2,S⟩:=h9;exact(⟨small _ i zs e2,SqL.of (S _ _ (S2 _ _ hl))⟩)) ?_ ?_⟩
   .rintro zs σ H3 ⟨_,e2,S3⟩ lb nlb;rw[lu,kJ]at e2;have hlb:upd H3 lb (.lst zs) lb=some (.lst zs):=zc;have S4:=S3.trans (zd (o:=.lst zs) nlb);generalize upd H3 lb (.lst zs)=H4 at hlb S4;refine I_4 la lb ys zs ⟨rfl,rfl,S4 _ _ hla,hlb,by rw[e1,e2,ke,ke];exact kw (show _<=1000 by lia) ⋯,λlc nlc=>?_⟩;have hlc:upd H4 lc (.lst (ys++zs)) lc=some (.lst (ys++zs)):=zc;have S5:=(S2.trans S4).trans (zd (o:=.lst (ys++zs)) nlc);generalize upd H4 lc (.lst (ys++zs))=H5 at hlc S5;refine zJ ?_;dsimp only;have eN:ys++zs=(sp.map (·.1)++sp.map (·.2)).map V.int:=by
     rw[e1,e2,kF,vm,vm];rfl
    rw[eN]at hlc;refine⟨_,rfl,lc,_,rfl,SqL.of hlc,by rw[kt,ke,ke];lia,λD ms nD up mem=>?_⟩;have hD:upd H5 D (.lst (ms.map V.int)) D=some (.lst (ms.map V.int)):=zc;have S6:=S5.trans (zd (o:=.lst (ms.map V.int)) nD);generalize upd H5 D (.lst (ms.map V.int))=H6 at hD S6;have m64:ms.length<=48:=by
     have:=sub_len up mem;rw[kt,ke,ke]at this
     lia
    refine⟨D,rfl,⟨_,SqL.of hD⟩,zZ (K:=K) (a:=D) (xs:=ms.map V.int) (λi rs σ H'=>(∃o,σ=[o,some (.ref l)])/\rs=((ms.take i).filter λe=>!acrS sp e).map V.int/\Same H6 H')
     ⟨⟨none,rfl⟩,rfl,Same.refl _⟩ (λi rs σ H' hi ⟨_,e3,S⟩=>⟨?_,SqL.of (S _ _ hD)⟩) ?_ ?_⟩
    .have:=vA (λe=>!acrS sp e) (ms.take i);rw[kQ]at this;rw[e3,ke];exact kw (show _<=1000 by lia) ⋯
    .rintro rs σ H7 ⟨_,e3,S7⟩ le nle;rw[ke,kJ]at e3;have S8:=(S6.trans S7).trans (zd (o:=.lst rs) nle);exact q le ms _ S8 (ZJ (S6.trans S7) nle) up mem (by rw[zc,e3])
    .rintro i x rs σ H7 hx ⟨⟨o,rfl⟩,e3,S7⟩;have hi:i<ms.length:=by
      have:=(kf.mp hx).1
      rwa [ke]at this
     have eb:ms[i]?=some ms[i]:=kc hi;generalize ms[i]=b at eb;rw[kM,eb]at hx;cases hx;dsimp only[zU];have S67:=S6.trans S7;refine⟨_,rfl,_,rfl,l,us,sp,b,rfl,S67 _ _ hl,hI.same S67,h24,λH8 S8=>?_⟩;refine⟨_,rfl,?_⟩;refine ite2 (λc1=>?_) (λc1=>?_)
     .exact⟨_,rfl,⟨_,rfl⟩,by rw[e3,qO _ eb,if_pos c1,kF];rfl,S7.trans S8⟩
     .exact⟨⟨_,rfl⟩,by rw[e3,qO _ eb,if_neg c1,vh],S7.trans S8⟩
   .rintro i x zs σ H' hx ⟨⟨o,rfl⟩,e2,S⟩;obtain⟨p,b,rfl,eb,t⟩:=at_ (S2.trans S) hx;subst e2;dsimp only[zU,tYes];refine iteT ?_;exact(zE (zh rfl) zC t rfl) _ ⟨⟨_,rfl⟩,push _ i b eb,S⟩
  .rintro i x ys σ H' hx ⟨⟨o,rfl⟩,e1,S⟩;obtain⟨p,b,rfl,eb,t⟩:=at_ S hx;subst e1;dsimp only[zU,tYes];refine iteT ?_;exact(zE (zh rfl) zC t rfl) _ ⟨⟨_,rfl⟩,push _ i b eb,S⟩
end
def pcs(p:Bx)(us:List Int):List Bx:=(us.zip (us.drop 1)).map λq=>⟨q.1,p.t,q.2,p.b⟩
def Xv(fl:Bx->Bx):Sp:=λvs H Q _=>∃(pg:Addr)(u:V)(W G:Int)(cs:List Bx)(p:Bx),vs=[.ref pg,u]/\xf H pg W G cs/\yt H u p /\
 ∀(l:Addr)(vl:List V)(ms:List Int)(H':Hp),Same H H'->H l=none->ms.Pairwise (· < ·)->(∀z,z∈ms↔z∈((cs.filter (wthn p)).map fl).map (·.l)++((cs.filter (wthn p)).map fl).map (·.r))->ms.length<=48 ->
  H' l=some (.lst vl)->zM H' vl ((pcs (fl p) (ms.filter λe=>!acr ((cs.filter (wthn p)).map fl) e)).map fl)->Q (.ref l) H'
section
variable{P:Program}{w:World}{K:PySem.W.Frag}{mg:Str->Option Value}{base:Heap}
theorem Qp(fl:Bx->Bx)(bs:List Bx)(e:Int):acrS ((bs.map fl).map λb=>(b.l,b.r)) e=acr (bs.map fl) e:=by
 unfold acrS acr;rw[List.any_map];rfl
theorem zcW:zu ["page","piece","places"] ["page","piece"] (zl sPac):=by trivial
theorem zfn{f fB fU:Addr}{fd dB dU:FuncData}(F:Fun K "parted_across" "parted_across" sPac f fd)(gLEFT:GI mg "LEFT" 0)(gTOP:GI mg "TOP" 1)(gRIGHT:GI mg "RIGHT" 2)(gBELOW:GI mg "BELOW" 3)(tzip:mg "zip"=none)
  (Bi:Callee P w K mg base CX0 2 "boxes_in" fB dB ["page","piece"] Jw)(Un:Callee P w K mg base CX0 2 "uncut_ends" fU dU ["spans"] Jy):FnOk P w K mg base CX0 3 f fd ["page","piece"] (Xv id):=by
 refine F.ok zcW (λvs H Q E h=>?_) (λcdv A outer s H vs Q E hr h=>?_)
 .refine E_6 h λpg u W G cs p n8=>A_2 n8 λe9 _=>?_;clear n8 h;subst e9;rfl
 .refine E_6 h λpg u W G cs p n8=>A_4 n8 λe9 hPG hu q=>?_;clear n8 h;subst e9;refine⟨_,(ze (zB (i:=2) zcW.nd rfl (Or.inl rfl) (zg Un.ok hr rfl Un.bound Un.kp Un.bd .nil zr (za (zQ (Nc:=["box"]) (ix:=[none]) rfl rfl (by refine' zV ?zz;case zz=>exact(zg Bi.ok hr rfl Bi.bound Bi.kp Bi.bd .nil zr (za (pv 0) (za (pv 1) zb)))) (λ_ _ _ _ _=>(zt (i:=0) (by show(["box"]:List Str).Nodup;decide +kernel) rfl (Or.inl rfl))) (λ_ _ _ _ _=>zP) (λ_ _ _ _ _=>(ye (za (zm (z7 (K:=K) rfl) (pv 0) (zx rfl gLEFT) (λ_ _=>rfl)) (za (zm (z7 (K:=K) rfl) (pv 0) (zx rfl gRIGHT) (λ_ _=>rfl)) zb))))) zb)))
   (zf (zo (zQ (Nc:=["left","right","piece"]) (ix:=[none,none,some 1]) rfl rfl (by exact(qk rfl tzip (za (pv 2) (za (yp yQ (pv 2) (yx zk) yJ) zb)))) (λ_ _ _ _ _=>(xO (K:=K) (n:=2) rfl rfl (zR (zt (i:=0) (by show(["left","right","piece"]:List Str).Nodup;decide +kernel) rfl (Or.inl rfl)) (zR (zt (i:=1) (by show(["left","right","piece"]:List Str).Nodup;decide +kernel) rfl (Or.inl rfl)) yB)))) (λ_ _ _ _ _=>zP) (λ_ _ _ _ _=>(ye (za (pv 0) (za (zm (z7 (K:=K) rfl) (pv 2) (zx rfl gTOP) (λ_ _=>rfl)) (za (pv 1) (za (zm (z7 (K:=K) rfl) (pv 2) (zx rfl gBELOW) (λ_ _=>rfl)) zb)))))))))),?_⟩
  have h24:(cs.filter (wthn p)).length<=24:=kw (vA _ _) (let ⟨_,_,_,_,_,h⟩:=hPG;h);refine⟨_,rfl,_,rfl,pg,u,W,G,cs,p,rfl,hPG,hu,λlb ub H1 S1 nlb hlb hB=>?_⟩;rw[bv]at q;generalize cs.filter (wthn p)=bs at h24 hB q;have lu:=hB.len;refine⟨lb,rfl,⟨_,SqL.of hlb⟩,zZ (K:=K) (a:=lb) (xs:=ub) (λi ys σ H'=>(∃o,σ=[o])/\wB H' ys (((bs.take i).map λb=>(b.l,b.r)).map j2)/\Same H1 H')
   ⟨⟨none,rfl⟩,.nil,Same.refl _⟩ (λi ys σ H' hi ⟨_,e,S⟩=>⟨?_,SqL.of (S _ _ hlb)⟩) ?_ ?_⟩
  .have:=e.len;rw[ke,ke,kQ]at this;exact kw (show _<=1000 by lia) ⋯
  .rintro ys σ H2 ⟨_,e,S2⟩ ls nls;rw[lu,kJ]at e;have hls:upd H2 ls (.lst ys) ls=some (.lst ys):=zc;have S3:=zd (o:=.lst ys) nls;have e3:=e.same S3;generalize upd H2 ls (.lst ys)=H3 at hls S3 e3;refine⟨ls,ys,_,rfl,hls,e3,by rw[ke];exact h24,λD ms H4 S4 nD up mem hD=>?_⟩;refine zJ ?_;dsimp only;have m48:ms.length<=48:=by
    have:=sub_len up mem;simp only[kt,ke]at this
    lia
   have eA:(λe=>!acrS (bs.map λb=>(b.l,b.r)) e)=λe=>!acr bs e:=funext λe=>by
    have:=Qp id bs e;rw[bv]at this;rw[this]
   rw[eA]at hD;generalize hus:(ms.filter λe=>!acr bs e)=us at hD q;have l48:us.length<=48:=by rw[<-hus];exact kw (vA _ _) m48
   have S14:Same H H4:=S1.trans (S2.trans (S3.trans S4));refine⟨_,rfl,_,rfl,_,rfl,D,_,rfl,SqL.of hD,λl2 nl2=>?_⟩;have ec:cutV (us.map V.int) (some 1) none=(us.drop 1).map V.int:=by
    cases us with
    |nil=>rfl
    |cons a us =>
     have:=y8 ((a::us).map V.int) 1 (by rw[ke];simp);rw[bh];exact this
   rw[ec];have S5:=zd (o:=.lst ((us.drop 1).map V.int)) nl2;have hl2:(upd H4 l2 (.lst ((us.drop 1).map V.int))) l2=some (.lst ((us.drop 1).map V.int)):=zc;have hD5:=S5 _ _ hD;generalize upd H4 l2 (.lst ((us.drop 1).map V.int))=H5 at S5 hl2 hD5;obtain⟨pu,rfl,hpu⟩:=hu.same (S14.trans S5);have lz:min (us.map V.int).length ((us.drop 1).map V.int).length=(us.zip (us.drop 1)).length:=by
    rw[ke,ke,uC]
   refine⟨D,l2,rfl,⟨_,SqL.of hD5⟩,⟨_,SqL.of hl2⟩,ql (K:=K) (a:=D) (b:=l2) (xs:=us.map V.int) (ys:=(us.drop 1).map V.int) (λi zs σ H6=>zM H6 zs (((us.zip (us.drop 1)).take i).map λq=>⟨q.1,p.t,q.2,p.b⟩)/\Same H5 H6/\∃o o2,σ=[o,o2,some (.ref pu)]) ⟨.nil,Same.refl _,none,none,rfl⟩
    (λi zs σ H6 hi h9=>by obtain⟨e,S,_⟩:=h9;exact(⟨by rw[e.len,ke,kQ,uC];exact kw (show _<=1000 by omega) ⋯,SqL.of (S _ _ hD5),SqL.of (S _ _ hl2)⟩)) ?_ ?_⟩
   .rintro zs σ H6 ⟨hY,S6,_⟩ lr nlr;rw[lz,kJ]at hY;have S16:=S14.trans (S5.trans S6);refine q lr zs ms _ (S16.trans (zd nlr)) (ZJ S16 nlr) up (λz=>(mem z).trans ?_) m48 zc ?_
    .rw[vm,vm];exact Iff.rfl
    .rw[hus,bv];exact hY.same (zd nlr)
   .intro i x y zs σ H6 tpa hx hy h8 ntp;refine A_3 h8 λhY S6 n8=>E_2 n8 λo o2 e9=>?_;clear n8 h8;subst e9;rw[kM]at hx hy;obtain⟨x1,hx1,rfl⟩:=kZ.mp hx;obtain⟨y1,hy1,rfl⟩:=kZ.mp hy;have St:=zd (o:=.tup [.int x1,.int y1]) ntp;refine⟨tpa,_,rfl,SqT.of zc,rfl,_,_,rfl,_,_,rfl,rfl,?_⟩;dsimp only[zU,tYes];refine iteT ?_;generalize upd H6 tpa (.tup [.int x1,.int y1])=H7 at St;have hpu7:=yl (St _ _ (S6 _ _ hpu)) K;refine wN (v1:=.int x1) (v2:=.int p.t) (v3:=.int y1) (v4:=.int p.b) (zh rfl) (zE (zh rfl) zC hpu7 rfl) (zh rfl) (zE (zh rfl) zC hpu7 rfl) (λtq ntq=>?_);have Sq:=zd (o:=.tup [.int x1,.int p.t,.int y1,.int p.b]) ntq;refine⟨?_,S6.trans (St.trans Sq),_,_,rfl⟩;have ez:(us.zip (us.drop 1))[i]?=some (x1,y1):=uj.mpr ⟨hx1,hy1⟩;obtain⟨hzl,evz⟩:=kf.mp ez;rw[<-kC hzl,evz,kF];exact Paired.snoc (hY.same (St.trans Sq)) ⟨tq,rfl,zc⟩
  .rintro i x ys σ H' hx ⟨⟨o,rfl⟩,e,S⟩;have hi:i<bs.length:=by rw[<-lu];exact(kf.mp hx).1
   have eb:bs[i]?=some bs[i]:=kc hi;generalize bs[i]=b at eb;obtain⟨v,hv,p1,rfl,hb⟩:=hB.get eb;rw[hx]at hv;cases hv;have t:=yl (S _ _ hb) K;dsimp only[zU,tYes];refine iteT ?_;refine(zE (v:=.int b.l) (zh rfl) zC t rfl) _ ((zE (v:=.int b.r) (zh rfl) zC t rfl) _ ⟨Zz2,λtq ntq=>?_⟩);have Sq:=zd (o:=.tup [.int b.l,.int b.r]) ntq;refine⟨⟨_,rfl⟩,?_,S.trans Sq⟩;rw[ur,eb,kF,kF];exact Paired.snoc (e.same Sq) ⟨tq,rfl,zc⟩
theorem zcX:zu ["page","piece","places"] ["page","piece"] (zl sPdn):=by trivial
theorem zfo{f fB fU:Addr}{fd dB dU:FuncData}(F:Fun K "parted_down" "parted_down" sPdn f fd)(gLEFT:GI mg "LEFT" 0)(gTOP:GI mg "TOP" 1)(gRIGHT:GI mg "RIGHT" 2)(gBELOW:GI mg "BELOW" 3)(tzip:mg "zip"=none)
  (Bi:Callee P w K mg base CX0 2 "boxes_in" fB dB ["page","piece"] Jw)(Un:Callee P w K mg base CX0 2 "uncut_ends" fU dU ["spans"] Jy):FnOk P w K mg base CX0 3 f fd ["page","piece"] (Xv flp):=by
 refine F.ok zcX (λvs H Q E h=>?_) (λcdv A outer s H vs Q E hr h=>?_)
 .refine E_6 h λpg u W G cs p n8=>A_2 n8 λe9 _=>?_;clear n8 h;subst e9;rfl
 .refine E_6 h λpg u W G cs p n8=>A_4 n8 λe9 hPG hu q=>?_;clear n8 h;subst e9;refine⟨_,(ze (zB (i:=2) zcX.nd rfl (Or.inl rfl) (zg Un.ok hr rfl Un.bound Un.kp Un.bd .nil zr (za (zQ (Nc:=["box"]) (ix:=[none]) rfl rfl (by refine' zV ?zz;case zz=>exact(zg Bi.ok hr rfl Bi.bound Bi.kp Bi.bd .nil zr (za (pv 0) (za (pv 1) zb)))) (λ_ _ _ _ _=>(zt (i:=0) (by show(["box"]:List Str).Nodup;decide +kernel) rfl (Or.inl rfl))) (λ_ _ _ _ _=>zP) (λ_ _ _ _ _=>(ye (za (zm (z7 (K:=K) rfl) (pv 0) (zx rfl gTOP) (λ_ _=>rfl)) (za (zm (z7 (K:=K) rfl) (pv 0) (zx rfl gBELOW) (λ_ _=>rfl)) zb))))) zb)))
   (zf (zo (zQ (Nc:=["top","below","piece"]) (ix:=[none,none,some 1]) rfl rfl (by exact(qk rfl tzip (za (pv 2) (za (yp yQ (pv 2) (yx zk) yJ) zb)))) (λ_ _ _ _ _=>(xO (K:=K) (n:=2) rfl rfl (zR (zt (i:=0) (by show(["top","below","piece"]:List Str).Nodup;decide +kernel) rfl (Or.inl rfl)) (zR (zt (i:=1) (by show(["top","below","piece"]:List Str).Nodup;decide +kernel) rfl (Or.inl rfl)) yB)))) (λ_ _ _ _ _=>zP) (λ_ _ _ _ _=>(ye (za (zm (z7 (K:=K) rfl) (pv 2) (zx rfl gLEFT) (λ_ _=>rfl)) (za (pv 0) (za (zm (z7 (K:=K) rfl) (pv 2) (zx rfl gRIGHT) (λ_ _=>rfl)) (za (pv 1) zb)))))))))),?_⟩
  have h24:(cs.filter (wthn p)).length<=24:=kw (vA _ _) (let ⟨_,_,_,_,_,h⟩:=hPG;h);refine⟨_,rfl,_,rfl,pg,u,W,G,cs,p,rfl,hPG,hu,λlb ub H1 S1 nlb hlb hB=>?_⟩;generalize cs.filter (wthn p)=bs at h24 hB q;have lu:=hB.len;refine⟨lb,rfl,⟨_,SqL.of hlb⟩,zZ (K:=K) (a:=lb) (xs:=ub) (λi ys σ H'=>(∃o,σ=[o])/\wB H' ys (((bs.take i).map λb=>(b.t,b.b)).map j2)/\Same H1 H')
   ⟨⟨none,rfl⟩,.nil,Same.refl _⟩ (λi ys σ H' hi ⟨_,e,S⟩=>⟨?_,SqL.of (S _ _ hlb)⟩) ?_ ?_⟩
  .have:=e.len;rw[ke,ke,kQ]at this;exact kw (show _<=1000 by lia) ⋯
  .rintro ys σ H2 ⟨_,e,S2⟩ ls nls;rw[lu,kJ]at e;have hls:upd H2 ls (.lst ys) ls=some (.lst ys):=zc;have S3:=zd (o:=.lst ys) nls;have e3:=e.same S3;generalize upd H2 ls (.lst ys)=H3 at hls S3 e3;refine⟨ls,ys,_,rfl,hls,e3,by rw[ke];exact h24,λD ms H4 S4 nD up mem hD=>?_⟩;refine zJ ?_;dsimp only;have m48:ms.length<=48:=by
    have:=sub_len up mem;simp only[kt,ke]at this
    lia
   have eA:(λe=>!acrS (bs.map λb=>(b.t,b.b)) e)=λe=>!acr (bs.map flp) e:=funext λe=>by
    have:=Qp flp bs e;rw[vm]at this;show(!acrS (bs.map ((λb=>(b.l,b.r))∘flp)) e)=_;rw[this]
   rw[eA]at hD;generalize hus:(ms.filter λe=>!acr (bs.map flp) e)=us at hD q;have l48:us.length<=48:=by rw[<-hus];exact kw (vA _ _) m48
   have S14:Same H H4:=S1.trans (S2.trans (S3.trans S4));refine⟨_,rfl,_,rfl,_,rfl,D,_,rfl,SqL.of hD,λl2 nl2=>?_⟩;have ec:cutV (us.map V.int) (some 1) none=(us.drop 1).map V.int:=by
    cases us with
    |nil=>rfl
    |cons a us =>
     have:=y8 ((a::us).map V.int) 1 (by rw[ke];simp);rw[bh];exact this
   rw[ec];have S5:=zd (o:=.lst ((us.drop 1).map V.int)) nl2;have hl2:(upd H4 l2 (.lst ((us.drop 1).map V.int))) l2=some (.lst ((us.drop 1).map V.int)):=zc;have hD5:=S5 _ _ hD;generalize upd H4 l2 (.lst ((us.drop 1).map V.int))=H5 at S5 hl2 hD5;obtain⟨pu,rfl,hpu⟩:=hu.same (S14.trans S5);have lz:min (us.map V.int).length ((us.drop 1).map V.int).length=(us.zip (us.drop 1)).length:=by
    rw[ke,ke,uC]
   refine⟨D,l2,rfl,⟨_,SqL.of hD5⟩,⟨_,SqL.of hl2⟩,ql (K:=K) (a:=D) (b:=l2) (xs:=us.map V.int) (ys:=(us.drop 1).map V.int) (λi zs σ H6=>zM H6 zs (((us.zip (us.drop 1)).take i).map λq=>⟨p.l,q.1,p.r,q.2⟩)/\Same H5 H6/\∃o o2,σ=[o,o2,some (.ref pu)]) ⟨.nil,Same.refl _,none,none,rfl⟩
    (λi zs σ H6 hi h9=>by obtain⟨e,S,_⟩:=h9;exact(⟨by rw[e.len,ke,kQ,uC];exact kw (show _<=1000 by omega) ⋯,SqL.of (S _ _ hD5),SqL.of (S _ _ hl2)⟩)) ?_ ?_⟩
   .rintro zs σ H6 ⟨hY,S6,_⟩ lr nlr;rw[lz,kJ]at hY;have S16:=S14.trans (S5.trans S6);refine q lr zs ms _ (S16.trans (zd nlr)) (ZJ S16 nlr) up (λz=>(mem z).trans ?_) m48 zc ?_
    .rw[vm,vm,vm,vm];exact Iff.rfl
    .rw[hus];unfold pcs;rw[vm];exact hY.same (zd nlr)
   .intro i x y zs σ H6 tpa hx hy h8 ntp;refine A_3 h8 λhY S6 n8=>E_2 n8 λo o2 e9=>?_;clear n8 h8;subst e9;rw[kM]at hx hy;obtain⟨x1,hx1,rfl⟩:=kZ.mp hx;obtain⟨y1,hy1,rfl⟩:=kZ.mp hy;have St:=zd (o:=.tup [.int x1,.int y1]) ntp;refine⟨tpa,_,rfl,SqT.of zc,rfl,_,_,rfl,_,_,rfl,rfl,?_⟩;dsimp only[zU,tYes];refine iteT ?_;generalize upd H6 tpa (.tup [.int x1,.int y1])=H7 at St;have hpu7:=yl (St _ _ (S6 _ _ hpu)) K;refine wN (v1:=.int p.l) (v2:=.int x1) (v3:=.int p.r) (v4:=.int y1) (zE (zh rfl) zC hpu7 rfl) (zh rfl) (zE (zh rfl) zC hpu7 rfl) (zh rfl) (λtq ntq=>?_);have Sq:=zd (o:=.tup [.int p.l,.int x1,.int p.r,.int y1]) ntq;refine⟨?_,S6.trans (St.trans Sq),_,_,rfl⟩;have ez:(us.zip (us.drop 1))[i]?=some (x1,y1):=uj.mpr ⟨hx1,hy1⟩;obtain⟨hzl,evz⟩:=kf.mp ez;rw[<-kC hzl,evz,kF];exact Paired.snoc (hY.same (St.trans Sq)) ⟨tq,rfl,zc⟩
  .rintro i x ys σ H' hx ⟨⟨o,rfl⟩,e,S⟩;have hi:i<bs.length:=by rw[<-lu];exact(kf.mp hx).1
   have eb:bs[i]?=some bs[i]:=kc hi;generalize bs[i]=b at eb;obtain⟨v,hv,p1,rfl,hb⟩:=hB.get eb;rw[hx]at hv;cases hv;have t:=yl (S _ _ hb) K;dsimp only[zU,tYes];refine iteT ?_;refine(zE (v:=.int b.t) (zh rfl) zC t rfl) _ ((zE (v:=.int b.b) (zh rfl) zC t rfl) _ ⟨Zz2,λtq ntq=>?_⟩);have Sq:=zd (o:=.tup [.int b.t,.int b.b]) ntq;refine⟨⟨_,rfl⟩,?_,S.trans Sq⟩;rw[ur,eb,kF,kF];exact Paired.snoc (e.same Sq) ⟨tq,rfl,zc⟩
end
end _JN
namespace _Til
theorem WZ{bs:List Bx}{n m:Int}(T:zS bs n m):bs.Nodup:=by
 have h:=jQ T;refine List.Pairwise.imp_of_mem (λ{a b} ha hb hl e=>?_) h;subst e;have o:=T.wf a ha;have:lap a a=true:=by
  unfold lap;simp only[vi,decide_eq_true_eq];exact⟨⟨o.h1,o.h1⟩,o.v1,o.v1⟩
 rw[this]at hl;cases hl
theorem x9(p b:Bx):wthn (flp p) (flp b)=wthn p b:=by
 rw[vn,zG,zG];show p.t<=b.t/\b.b<=p.b/\p.l<=b.l/\b.r<=p.r↔_;exact⟨λ⟨a,b,c,d⟩=>⟨c,d,a,b⟩,λ⟨a,b,c,d⟩=>⟨c,d,a,b⟩⟩
theorem Zd(cs:List Bx)(p:Bx):(cs.filter (wthn p)).map flp=(cs.map flp).filter (wthn (flp p)):=by
 rw[List.filter_map];congr 1;refine uW λb _=>?_;exact(x9 p b).symm
theorem Piece.flp{cs:List Bx}{p:Bx}(P:Piece cs p):Piece (cs.map flp) (flp p):=by
 refine⟨P.high,P.wide,λx y h1 h2 h3 h4=>?_⟩;obtain⟨b,hb,hw,hi⟩:=P.fill y x h3 h4 h1 h2;exact⟨_Til.flp b,kU.mpr ⟨b,hb,rfl⟩,by rw[x9];exact hw,by rw[Ql];exact hi⟩
def xU(cs:List Bx)(p:Bx):Prop:=(∃e,CutX cs p e)\/∃e,CutX (cs.map flp) (flp p) e
def IsS(cs:List Bx)(p:Bx):Prop:=Piece cs p/\p∉cs/\¬xU cs p
end _Til
namespace _L2
open PySem PySem.Spec PyProof.Rows PySem.W
def GS(mg:Str->Option Value)(x:Str)(n:Str):Prop:=∃t,mg x=some (.str n t)
theorem Jz{X:Cx}{x:Str}{n:Str}{pos:Pos}(hg:Gl X x)(h:GS X.mg x n)(hd:(x==("__debug__" : Str))=false:=by decide):PE X (.Name x pos) (tC (.str n)):=by
 obtain⟨t,h⟩:=h;exact qe hg h ⟨t,rfl⟩ hd
section
variable{X:Cx}
def rInT(K:PySem.W.Frag)(neg:Bool):R2:=λx y H Q=>∃(p:Addr)(bs:List Addr)(e:Addr->Bool)(n:Nat),y=.ref p/\SqT K H p (bs.map V.ref)/\n<=16/\(∀b∈bs,EqR K H n (.ref b) x (e b))/\Q (.bl (if neg then !bs.any e else bs.any e)) H
theorem za5{K:PySem.W.Frag}(hK:X.K=K)(hu:X.A.units+64<cLine):OpR X (compareOp .In) (rInT K false):=by
 subst hK;intro pins s σ H x y v u Q I rx ry h;refine E_4 h λp bs e n n8=>A_5 n8 λe9 hq hn he q=>?_;clear n8 h;subst e9;cases ry;obtain⟨its,r,pl,hz⟩:=I.tuple hq;have ei:=wC r;subst ei;refine SeqAt.in_tupleAt (λy=>match y with | .ref b=>e b|_=>false) pl (λz hy=>?_) ⟨.bl _,H,I,rfl,?_⟩
 .obtain⟨b,hb,rfl⟩:=kU.mp (show z∈bs.map Value.ref by simpa using hy);exact(he b hb).at I (A:=X.A.in1) (u:=.ref b) (v:=v) rfl rx (by show X.A.units+1+n<cLine;lia)
 .have e1:(bs.map Value.ref).toArray.any (λy=>match y with | .ref b=>e b|_=>false)=bs.any e:=by
   simp[List.any_map];rfl
  rw[e1];exact q
end
end _L2
namespace _JN
open PySem _L2 _Til PySem.W
def Ends(fl:Bx->Bx)(cs:List Bx)(p:Bx)(ms:List Int):Prop:=ms.Pairwise (· < ·)/\(∀z,z∈ms↔z∈((cs.filter (wthn p)).map fl).map (·.l)++((cs.filter (wthn p)).map fl).map (·.r))/\ms.length<=48
def unc(fl:Bx->Bx)(cs:List Bx)(p:Bx)(ms:List Int):List Int:=ms.filter λe=>!acr ((cs.filter (wthn p)).map fl) e
def yE(cs:List Bx)(p:Bx)(k:Str)(ps:List Bx):Prop:=∃ms,Ends id cs p ms /\
 ((k = "|" /\ ps=pcs p (unc id cs p ms)/\1<ps.length)\/(k = "-" /\ (pcs p (unc id cs p ms)).length<=1/\∃ns,Ends flp cs p ns/\ps=(pcs (flp p) (unc flp cs p ns)).map flp))
theorem xC(p:Bx)(us:List Int):(pcs p us).length=us.length-1:=by
 unfold pcs;rw[ke,uC,vk]
 lia
theorem Wz{cs:List Bx}{p:Bx}{ms:List Int}{W G:Int}(T:zS cs W G)(P:Piece cs p)(E:Ends id cs p ms):1<(pcs p (unc id cs p ms)).length↔∃e,CutX cs p e:=by
 obtain⟨up,mem,_⟩:=E;unfold unc;rw[bv]at mem ⊢;rw[<-YY P (λb hb=>(T.wf b hb).h1) up mem,xC];omega
theorem Qq{cs:List Bx}{p:Bx}{ms:List Int}{W G:Int}(T:zS cs W G)(P:Piece cs p)(E:Ends flp cs p ms):1<(pcs (flp p) (unc flp cs p ms)).length↔∃e,CutX (cs.map flp) (flp p) e:=by
 obtain⟨up,mem,_⟩:=E;unfold unc;rw[Zd]at mem ⊢;rw[<-YY P.flp (λb hb=>((qa T).wf b hb).h1) up mem,xC];omega
theorem qP{cs:List Bx}{p:Bx}{k:Str}{ps:List Bx}{W G:Int}(T:zS cs W G)(P:Piece cs p)(h:yE cs p k ps):1<ps.length↔xU cs p:=by
 obtain⟨ms,E,h⟩:=h;rcases h with⟨_,rfl,l1⟩|⟨_,l1,ns,E2,rfl⟩
 .exact⟨λ_=>.inl ((Wz T P E).mp l1),λ_=>l1⟩
 .rw[ke,Qq T P E2];refine⟨.inr,λz=>z.elim (λz=>?_) id⟩;have:=(Wz T P E).mpr z
  lia
theorem yE.len{cs:List Bx}{p:Bx}{k:Str}{ps:List Bx}(h:yE cs p k ps):ps.length<=48:=by
 obtain⟨ms,E,h⟩:=h;rcases h with⟨_,rfl,l1⟩|⟨_,l1,ns,E2,rfl⟩
 .rw[xC];have:=vA (λe=>!acr ((cs.filter (wthn p)).map id) e) ms;have:=E.2.2;unfold unc;omega
 .rw[ke,xC];have:=vA (λe=>!acr ((cs.filter (wthn p)).map flp) e) ns;have:=E2.2.2;unfold unc;omega
def jL:Sp:=λvs H Q _=>∃(pg:Addr)(u:V)(W G:Int)(cs:List Bx)(p:Bx),vs=[.ref pg,u]/\xf H pg W G cs/\yt H u p /\
 ∀(tp l:Addr)(k:Str)(vl:List V)(ps:List Bx)(H':Hp),Same H H'->H' tp=some (.tup [.str k,.ref l])->H' l=some (.lst vl)->zM H' vl ps->yE cs p k ps->Q (.ref tp) H'
def WA:Sp:=λvs H Q _=>∃(pg:Addr)(u:V)(W G:Int)(cs:List Bx)(p:Bx),vs=[.ref pg,u]/\xf H pg W G cs/\yt H u p/\zS cs W G/\Piece cs p /\
 ∀(c:Bool)(H':Hp),Same H H'->(c=true↔xU cs p)->Q (.bl c) H'
def boxB(b:Bx):Bool:=decide (b.l<b.r)&&decide (b.t<b.b)
def Ze:Sp:=λvs H Q _=>∃i:Int,vs=[.int i]/\Q (.bl true) H
def zcY:Sp:=λvs H Q _=>∃(v:V)(b:Bx),vs=[v]/\yt H v b/\∀H',Same H H'->Q (.bl (boxB b)) H'
def za6(i:Int):Prop := -(2^64)<i/\i<2^64
def za7:Sp:=λvs H Q _=>∃(v:V)(b:Bx),vs=[v]/\yt H v b/\(za6 (b.r-b.l)\/za6 (b.b-b.t))/\Q (.int (area b)) H
theorem eqD{K:PySem.W.Frag}{H:Hp}(n:Nat)(i j:Int):EqR K H n (.int i) (.int j) (decide (i=j)):=by
 have:=EqR.flat (K:=K) (H:=H) (n:=n) (x:=.int i) (y:=.int j) rfl rfl;have e:eqV (.int i) (.int j)=decide (i=j):=by show(i==j)=_;rw[vn,beq_iff_eq,decide_eq_true_eq]
 rw[e]at this;exact this
theorem zcZ{K:PySem.W.Frag}{H:Hp}{a p:Addr}{b c:Bx}(ha:H a=some (.tup (bxV b)))(hp:H p=some (.tup (bxV c))):EqR K H 1 (.ref a) (.ref p) (decide (b=c)):=by
 have:=EqR.tups (K:=K) (n:=0) (e:=λj=>match j with|0=>decide (b.l=c.l)|1=>decide (b.t=c.t)|2=>decide (b.r=c.r)|_=>decide (b.b=c.b)) (yl ha K) (yl hp K) (λj h1 h2=>by
  match j,h1 with
  |0,_=>exact eqD 0 _ _
  |1,_=>exact eqD 0 _ _
  |2,_=>exact eqD 0 _ _
  |3,_=>exact eqD 0 _ _)
 have e:decide (b=c)=(decide (b.l=c.l)&&(decide (b.t=c.t)&&(decide (b.r=c.r)&&(decide (b.b=c.b)&&true)))&&true):=by
  cases b;cases c;simp[vn,and_assoc]
 rw[e];exact this
theorem qQ{H:Hp}:∀{us:List V}{bs:List Bx},zM H us bs->∃as:List Addr,us=as.map V.ref/\as.length=bs.length/\∀(i:Nat)(a:Addr)(b:_Til.Bx),as[i]?=some a->bs[i]?=some b->H a=some (.tup (bxV b))
 |_,_,.nil=>⟨[],rfl,rfl,λi a b h=>by simp at h⟩
 |_,_,.cons (a:=_) (b:=b) ⟨p,e,hp⟩ t=>by
  obtain⟨as,rfl,l,h⟩:=qQ t;refine⟨p::as,by rw[e];rfl,by rw[kG,kG,l],λi a b' h1 h2=>?_⟩;cases i with
  |zero =>
   rw[List.getElem?_cons_zero]at h1 h2;cases h1;cases h2;exact hp
  |succ i =>
   rw[bz]at h1 h2;exact h i a b' h1 h2
theorem WB{K:PySem.W.Frag}{H:Hp}{us:List V}{cs:List Bx}{a:Addr}{p:Bx}(hB:zM H us cs)(ha:H a=some (.tup (bxV p))):∃(as:List Addr)(e:Addr->Bool),us=as.map V.ref/\(∀b∈as,EqR K H 1 (.ref b) (.ref a) (e b))/\(as.any e=decide (p∈cs)):=by
 classical
 obtain⟨as,rfl,l,h⟩:=qQ hB;have at_:∀b∈as,∃c∈cs,H b=some (.tup (bxV c)):=λb hb=>by
  obtain⟨i,hi,e⟩:=vg.mp hb;exact⟨cs[i]'(),vv _,h i b _ (by rw[kc hi,e]) (kc ())⟩
 refine⟨as,λb=>decide (H b=some (.tup (bxV p))),rfl,λb hb=>?_,?_⟩
 .obtain⟨c,_,hc⟩:=at_ b hb;have z:=zcZ (K:=K) hc ha;have e:decide (c=p)=decide (H b=some (.tup (bxV p))):=by
   rw[vn,decide_eq_true_eq,decide_eq_true_eq,hc];constructor
   .rintro rfl;rfl
   .intro z;injection z with z;injection z with z;unfold bxV at z;simp only[List.cons.injEq,V.int.injEq,and_true]at z;obtain⟨z1,z2,z3,z4⟩:=z;cases c;cases p;simp only[Bx.mk.injEq];exact⟨z1,z2,z3,z4⟩
  show EqR K H 1 (.ref b) (.ref a) (decide (H b=some (.tup (bxV p))));rw[<-e];exact z
 .rw[vn,uJ,decide_eq_true_eq];constructor
  .rintro⟨b,hb,e⟩;obtain⟨c,hc,e2⟩:=at_ b hb;rw[decide_eq_true_eq,e2]at e;injection e with e;injection e with e;unfold bxV at e;simp only[List.cons.injEq,V.int.injEq,and_true]at e;obtain⟨z1,z2,z3,z4⟩:=e;have:c=p:=by
    cases c;cases p;simp only[Bx.mk.injEq];exact⟨z1,z2,z3,z4⟩
   rw[<-this];exact hc
  .intro hp;obtain⟨i,hi,e⟩:=vg.mp hp;refine⟨as[i]'(),vv _,?_⟩;rw[decide_eq_true_eq];exact h i _ _ (kc ()) (by rw[kc hi,e])
section
variable{P:Program}{w:World}{K:PySem.W.Frag}{mg:Str->Option Value}{base:Heap}
theorem zc0:zu ["page","piece","across"] ["page","piece"] (zl sPar):=by trivial
theorem zfp{f fA fD:Addr}{fd dA dD:FuncData}(F:Fun K "parted" "parted" sPar f fd)(gACROSS:GS mg "ACROSS" "|")(gDOWN:GS mg "DOWN" "-")(tl:mg "len"=none)
  (Ac:Callee P w K mg base CX0 3 "parted_across" fA dA ["page","piece"] (Xv id))(Dn:Callee P w K mg base CX0 3 "parted_down" fD dD ["page","piece"] (Xv flp)):FnOk P w K mg base CX0 4 f fd ["page","piece"] jL:=by
 refine F.ok zc0 (λvs H Q E h=>?_) (λcdv A outer s H vs Q E hr h=>?_)
 .refine E_6 h λpg u W G cs p n8=>A_2 n8 λe9 _=>?_;clear n8 h;subst e9;rfl
 .refine E_6 h λpg u W G cs p n8=>A_4 n8 λe9 hPG hu q=>?_;clear n8 h;subst e9;refine⟨_,(ze (zB (i:=2) zc0.nd rfl (Or.inl rfl) (zg Ac.ok hr rfl Ac.bound Ac.kp Ac.bd .nil zr (za (pv 0) (za (pv 1) zb))))
   (ze (zO (zI wY (zp zA (by rfl) tl kW (za (pv 2) zb)) zk (zD _))
   (zf (zo (ye (za (Jz rfl gACROSS) (za (pv 2) zb)))))
   zF)
   (zf (zo (ye (za (Jz rfl gDOWN) (za (zg Dn.ok hr rfl Dn.bound Dn.kp Dn.bd .nil zr (za (pv 0) (za (pv 1) zb))) zb))))))),?_⟩
  refine⟨_,rfl,_,rfl,pg,u,W,G,cs,p,rfl,hPG,hu,λl vl ms H1 S1 nl up mem m48 hl hB=>?_⟩;have EN:Ends id cs p ms:=⟨up,mem,m48⟩;have eP:(pcs (id p) (ms.filter λe=>!acr ((cs.filter (wthn p)).map id) e)).map id=pcs p (unc id cs p ms):=by rw[bv];rfl
  rw[eP]at hB;have lu:=hB.len;refine zJ ?_;dsimp only;refine⟨_,rfl,_,_,rfl,.inl (SqL.of hl),_,_,rfl,rfl,_,rfl,?_⟩;refine ite2 (λc1=>?_) (λc1=>?_)
  .have c1:=of_decide_eq_true c1;refine⟨_,rfl,Zz2,λtp ntp=>?_⟩;have S2:=zd (o:=.tup [.str "|",.ref l]) ntp;exact q tp l "|" vl _ _ (S1.trans S2) zc (S2 _ _ hl) (hB.same S2) ⟨ms,EN,.inl ⟨rfl,rfl,()⟩⟩
  .have c1:¬(((vl.length:Nat):Int)>1):=λz=>c1 (decide_eq_true z);refine z6 ?_;dsimp only;refine⟨_,rfl,_,rfl,pg,u,W,G,cs,p,rfl,hPG.same S1,hu.same S1,λl2 vl2 ns H2 S2 nl2 up2 mem2 m482 hl2 hB2=>⟨Zz2,λtp ntp=>?_⟩⟩;have S3:=zd (o:=.tup [.str "-",.ref l2]) ntp;exact q tp l2 "-" vl2 _ _ ((S1.trans S2).trans S3) zc (S3 _ _ hl2) (hB2.same S3) ⟨ms,EN,.inr ⟨rfl,(),ns,⟨up2,mem2,m482⟩,rfl⟩⟩
theorem zfq:zu ["page","piece"] ["page","piece"] (zl Je):=by trivial
theorem zd6{f fA:Addr}{fd dA:FuncData}(F:Fun K "has_cut" "has_cut" Je f fd)(gPARTS:GI mg "PARTS" 1)(tl:mg "len"=none)(Pa:Callee P w K mg base CX0 4 "parted" fA dA ["page","piece"] jL):FnOk P w K mg base CX0 5 f fd ["page","piece"] WA:=by
 refine F.ok zfq (λvs H Q E h=>?_) (λcdv A outer s H vs Q E hr h=>?_)
 .refine E_6 h λpg u W G cs p n8=>A_2 n8 λe9 _=>?_;clear n8 h;subst e9;rfl
 .refine E_6 h λpg u W G cs p n8=>A_6 n8 λe9 hPG hu T PC q=>?_;clear n8 h;subst e9;refine⟨_,(zf (zo (z5 wY (zp zA (by rfl) tl kW (za (zm zw (zg Pa.ok hr rfl Pa.bound Pa.kp Pa.bd .nil zr (za (pv 0) (za (pv 1) zb))) (zx rfl gPARTS) (λ_ _=>rfl)) zb)) zk (zD _)))),?_⟩;refine⟨_,rfl,_,rfl,pg,u,W,G,cs,p,rfl,hPG,hu,λtp l k vl ps H1 S1 htp hl hB hP=>?_⟩;have lu:=hB.len;refine I_4 _ _ _ _ ⟨rfl,rfl,SqT.of htp,rfl,_,_,rfl,.inl (SqL.of hl),_,_,rfl,rfl,q _ H1 S1 ?_⟩;rw[<-qP T PC hP,decide_eq_true_eq,lu]
  lia
theorem zgk:zu ["thing"] ["thing"] (zl sBox):=by trivial
theorem zfr{f fW:Addr}{fd fdW:FuncData}(F:Fun K "is_box" "is_box" sBox f fd)(gLEFT:GI mg "LEFT" 0)(gTOP:GI mg "TOP" 1)(gRIGHT:GI mg "RIGHT" 2)(gBELOW:GI mg "BELOW" 3)(ti:mg "isinstance"=none)(ttup:mg "tuple"=none)(tl:mg "len"=none)(tall:mg "all"=none)(Wo:Callee P w K mg base CX0 1 "is_whole" fW fdW ["thing"] Ze):FnOk P w K mg base CX0 2 f fd ["thing"] zcY:=by
 refine F.ok zgk (λvs H Q E h=>?_) (λcdv A outer s H vs Q E hr h=>?_)
 .refine E_2 h λv b n8=>A_2 n8 λe9 _=>?_;clear n8 h;subst e9;rfl
 .refine E_2 h λv b n8=>A_3 n8 λe9 n90 q=>?_;clear n8 h;subst e9;obtain⟨p,rfl,hp⟩:=n90;refine⟨_,(ze (zO (PW.pt (xi (z9 (zX (zp yj (by rfl) ti k8 (za (pv 0) (za (yM rfl ttup vx) zb))))) (yZ (zI ww (zp zA (by rfl) tl kW (za (pv 0) zb)) zk (zD _)))))
   (zf (zo yN))
   zF)
   (ze (zO (z9 (zX (zp (xg rfl) (by rfl) tall vS (za (zQ (Nc:=["part"]) (ix:=[none]) rfl rfl (by exact(xT (pv 0))) (λ_ _ _ _ _=>(zt (i:=0) (by show(["part"]:List Str).Nodup;decide +kernel) rfl (Or.inl rfl))) (λ_ _ _ _ _=>zP) (λ_ _ _ _ _=>(zg Wo.ok hr rfl Wo.bound Wo.kp Wo.bd .nil zr (za (pv 0) zb)))) zb))))
   (zf (zo yN))
   zF)
   (zf (zo (yg (z5 yO (zm zw (pv 0) (zx rfl gLEFT) (λ_ _=>rfl)) (zm zw (pv 0) (zx rfl gRIGHT) (λ_ _=>rfl)) (zD _)) (yG (z5 yO (zm zw (pv 0) (zx rfl gTOP) (λ_ _=>rfl)) (zm zw (pv 0) (zx rfl gBELOW) (λ_ _=>rfl)) (zD _)))))))),?_⟩
  have t:=yl hp K;refine⟨_,rfl,_,_,_,_,rfl,rfl,.of (.tup hp),rfl,_,rfl,iteF ?_⟩;refine⟨_,rfl,_,_,rfl,.inr t,rfl,_,rfl,iteF ?_⟩;refine⟨_,rfl,p,rfl,⟨_,t⟩,xN (K:=K) (a:=p) (xs:=[.int b.l,.int b.t,.int b.r,.int b.b]) (λi ys σ H'=>ys=ve i (V.bl true)/\Same H H'/\∃o,σ=[o])
   ⟨rfl,Same.refl _,none,rfl⟩ (λi ys σ H' hi h9=>by obtain⟨e,S,_⟩:=h9;exact(⟨by rw[e,vz];exact kw hi (Zz4),yl (S _ _ hp) K⟩)) ?_ ?_⟩
  .rintro ys σ H' ⟨e,S,_⟩ l nl;subst e;refine⟨l,ve 4 true,rfl,SqL.of (by rw[zc];rfl),_,rfl,iteF ?_⟩;have S2:=S.trans (zd (o:=.lst (ve [V.int b.l,.int b.t,.int b.r,.int b.b].length (V.bl true))) nl);have t2:=yl (S2 _ _ hp) K;have ev:=q _ S2;refine z6 ?_;dsimp only;refine wE (v:=.bl (boxB b)) ?_ ev;unfold boxB;refine xK ?_ ?_<;>exact zT (zE (zh rfl) zC t2 rfl) (zE (zh rfl) zC t2 rfl)
  .intro i x ys σ H' hx h8;refine A_3 h8 λe S n8=>E_1 n8 λo e9=>?_;clear n8 h8;subst e9;subst e;obtain⟨n,rfl⟩:∃n,x=V.int n:=by
    match i,hx with
    |0,hx=>exact⟨_,(Option.some.inj hx).symm⟩
    |1,hx=>exact⟨_,(Option.some.inj hx).symm⟩
    |2,hx=>exact⟨_,(Option.some.inj hx).symm⟩
    |3,hx=>exact⟨_,(Option.some.inj hx).symm⟩
    |i+4,hx=>cases hx
   dsimp only[zU,tYes];refine iteT ?_;exact⟨_,rfl,n,rfl,by rw[v6],S,_,rfl⟩
theorem zfs:zu ["box"] ["box"] (zl Jb):=by trivial
theorem zd7{f:Addr}{fd:FuncData}(F:Fun K "area" "area" Jb f fd)(gLEFT:GI mg "LEFT" 0)(gTOP:GI mg "TOP" 1)(gRIGHT:GI mg "RIGHT" 2)(gBELOW:GI mg "BELOW" 3):FnOk P w K mg base CX0 1 f fd ["box"] za7:=by
 refine F.ok zfs (λvs H Q E h=>?_) (λcdv A outer s H vs Q E hr h=>?_)
 .refine E_2 h λv b n8=>A_2 n8 λe9 _=>?_;clear n8 h;subst e9;rfl
 .refine E_2 h λv b n8=>A_4 n8 λe9 n90 bd q=>?_;clear n8 h;subst e9;obtain⟨p,rfl,hp⟩:=n90;refine⟨_,(zf (zo (zK qg (zK xq (zm zw (pv 0) (zx rfl gRIGHT) (λ_ _=>rfl)) (zm zw (pv 0) (zx rfl gLEFT) (λ_ _=>rfl))) (zK xq (zm zw (pv 0) (zx rfl gBELOW) (λ_ _=>rfl)) (zm zw (pv 0) (zx rfl gTOP) (λ_ _=>rfl)))))),?_⟩;have t:=yl hp K;refine wE (v:=.int (area b)) ?_ q;unfold area;refine wz ?_ ?_ bd
  .exact zT (zE (zh rfl) zC t rfl) (zE (zh rfl) zC t rfl)
  .exact zT (zE (zh rfl) zC t rfl) (zE (zh rfl) zC t rfl)
end
end _JN
namespace _JN
open PySem _L2 _Til
def TL(a b:Bx):Prop:=a.t<b.t\/(a.t=b.t/\a.l<=b.l)
def picked{α:Type}(d:α)(p:Array Nat)(xs:List α):List α:=p.toList.map λi=>xs.getD i d
theorem JA{α:Type}(d:α)(xs:List α):(kR xs.length).map (λi=>xs.getD i d)=xs:=by
 refine u8 (by simp) λi h1 h2=>?_;rw[ba,bu,_L2.getD_at h2]
theorem jS{α:Type}{d:α}{p:Array Nat}{xs:List α}(o:_Srt.Ord xs.length p):(picked d p xs).Perm xs:=by
 have h:p.toList.Perm (kR xs.length):=by
  have:=Array.perm_iff_toList_perm.mp o.pm;simpa using this
 have h2:=h.map λi=>xs.getD i d;rw[JA]at h2;exact h2
theorem ZK{α:Type}{d:α}{p:Array Nat}{xs:List α}(o:_Srt.Ord xs.length p):(picked d p xs).length=xs.length:=(jS o).length_eq
def bxZ:Bx:=⟨0,0,0,0⟩
theorem ZL{H:Hp}{us:List V}{bs:List Bx}(h:zM H us bs):∀(ls:List Nat),(∀i∈ls,i<bs.length)->zM H (ls.map λi=>us.getD i .non) (ls.map λi=>bs.getD i bxZ)
 |[],_=>.nil
 |i::ls,hl=>by
  have hi:=hl i kg;obtain⟨v,e,r⟩:=h.get (kc hi);refine .cons ?_ (ZL h ls λj hj=>hl j (kn _ hj));have e1:us.getD i .non=v:=by rw[kP,e];rfl
  show yt H (us.getD i .non) (bs.getD i bxZ);rw[e1,_L2.getD_at hi];exact r
theorem WC{H:Hp}{us:List V}{bs:List Bx}{p:Array Nat}(h:zM H us bs)(o:_Srt.Ord bs.length p):zM H (picked .non p us) (picked bxZ p bs) :=
 ZL h _ λi hi=>by
  have m:i∈p:=by simpa using hi
  have m2:i∈(uD (kR bs.length)):=(Array.Perm.mem_iff o.pm).mp m;simpa using m2
theorem Xq{bs:List Bx}{p:Array Nat}{B:Int}(o:_Srt.Ord bs.length p)(hB:∀b∈bs,0<=b.l/\b.l<B)(u:_Srt.Up (xu B (bs.map λb=>(b.t,b.l))) p bs.length):(picked bxZ p bs).Pairwise TL:=by
 rw[vE];intro i j hi hj hij;have lp:(picked bxZ p bs).length=bs.length:=ZK o;have lz:p.size=bs.length:=o.sz;have key:∀k,k<bs.length->∃b,b∈bs/\(∀h,(picked bxZ p bs)[k]'h=b)/\_Srt.kv (xu B (bs.map λb=>(b.t,b.l))) p k=b.t*B+b.l:=by
  intro k hk;have hk':p.getD k 0<bs.length:=o.lt hk;refine⟨bs[p.getD k 0],vv _,λh=>?_,?_⟩
  .have e:p.toList[k]'(by rw[Array.length_toList,lz];exact hk)=p.getD k 0:=by simp[Array.getD,lz,hk]
   have:∀h',(List.map (λi=>bs.getD i bxZ) p.toList)[k]'h'=bs[p.getD k 0]:=λh'=>by rw[ba,e,_L2.getD_at hk']
   exact this h
  .unfold _Srt.kv xu;rw[kP,kM,kc hk'];rfl
 obtain⟨a,ma,ea,ka⟩:=key i ();obtain⟨b,mb,eb,kb⟩:=key j ();rw[ea,eb];have le:=u.le (i:=i) (j:=j) () ();rw[ka,kb]at le;have h1:=hB a ma;have h2:=hB b mb;have z:=lex_lt (a:=b.t) (c:=a.t) h2 h1;have nz:¬(b.t<a.t\/(b.t=a.t/\b.l<a.l)):=λw=>by have:=z.mpr w;omega
 unfold TL;omega
structure Np(K:PySem.W.Frag)(mg:Str->Option Value):Prop where
 gLEFT:GI mg "LEFT" 0
 gTOP:GI mg "TOP" 1
 gRIGHT:GI mg "RIGHT" 2
 gBELOW:GI mg "BELOW" 3
 gMOST:GI mg "MOST_BOXES" 24
 ti:mg "isinstance"=none
 tint:mg "int"=none
 tbool:mg "bool"=none
 ttup:mg "tuple"=none
 tlist:mg "list"=none
 tl:mg "len"=none
 tall:mg "all"=none
 tany:mg "any"=none
 tsum:mg "sum"=none
 ts:mg "sorted"=none
 te:mg "enumerate"=none
 ib:ue K (.type "int") (.type "bool")=some false
def Zf:Sp:=λvs H Q _=>∃i:Int,vs=[.int i]/\Q (.bl (decide (1<=i))) H
def za8:Sp:=λvs H Q _=>∃(l:Addr)(us:List V)(bs:List Bx),vs=[.ref l]/\H l=some (.lst us)/\zM H us bs/\bs.length<=1000 /\
 ∀H',Same H H'->Q (.bl (decide (1<=bs.length)&&decide (bs.length<=24)&&bs.all boxB)) H'
def yY(b:Bx)(W G:Int):Bool:=decide (0<=b.l)&&(decide (b.r<=W)&&(decide (0<=b.t)&&decide (b.b<=G)))
def WD:Sp:=λvs H Q _=>∃(v:V)(b:Bx)(W G:Int),vs=[v,.int W,.int G]/\yt H v b/\Q (.bl (yY b W G)) H
def Xb:Sp:=λvs H Q _=>∃(v u:V)(b c:Bx),vs=[v,u]/\yt H v b/\yt H u c/\Q (.bl (lap b c)) H
def za9:Sp:=λvs H Q _=>∃(l:Addr)(us:List V)(bs:List Bx),vs=[.ref l]/\H l=some (.lst us)/\zM H us bs/\bs.length<=1000 /\
 (bs.Pairwise (λb c=>lap b c=false)->∀H',Same H H'->Q (.bl false) H')/\(¬bs.Pairwise (λb c=>lap b c=false)->∀H',Same H H'->Q (.bl true) H')
def zc1(bs:List Bx)(W G:Int):Prop:=(∀b∈bs,0<=b.l/\b.r<=W/\0<=b.t/\b.b<=G)/\bs.Pairwise (λb c=>lap b c=false)/\(bs.map area).sum=W*G
def zba:Sp:=λvs H Q _=>∃(l:Addr)(us:List V)(bs:List Bx)(W G:Int),vs=[.ref l,.int W,.int G]/\H l=some (.lst us)/\zM H us bs/\bs.length<=24/\(∀b∈bs,b.l<b.r/\b.t<b.b)/\1<=W/\W<=2^28/\1<=G/\G<=2^28 /\
 (zc1 bs W G->∀H',Same H H'->Q (.bl true) H')/\(¬zc1 bs W G->∀H',Same H H'->Q (.bl false) H')
def zc2:Sp:=λvs H Q _=>∃(v:V)(b:Bx),vs=[v]/\yt H v b/\∀p H',Same H H'->H' p=some (.tup [.int b.t,.int b.l])->Q (.ref p) H'
def zbb:Sp:=λvs H Q _=>∃(l:Addr)(us:List V)(bs:List Bx)(W G:Int),vs=[.int W,.int G,.ref l]/\H l=some (.lst us)/\zM H us bs/\W<=2^28/\G<=2^28/\Page W G bs /\
 ∀(pg:Addr)(cs:List Bx)(H':Hp),Same H H'->xf H' pg W G cs->cs.Perm bs->cs.Pairwise TL->Q (.ref pg) H'
theorem qR{α:Type}(f:α->Bool){bs:List α}{i:Nat}{b:α}(h:bs[i]?=some b):(bs.take i).map (λb=>V.bl (f b))++[.bl (f b)]=(bs.take (i+1)).map (λb=>V.bl (f b)):=by
 obtain⟨hi,e⟩:=kf.mp h;rw[<-kC hi,kF,e];rfl
theorem zbc{α:Type}(f:α->Int){bs:List α}{i:Nat}{b:α}(h:bs[i]?=some b):(bs.take i).map (λb=>V.int (f b))++[.int (f b)]=(bs.take (i+1)).map (λb=>V.int (f b)):=by
 obtain⟨hi,e⟩:=kf.mp h;rw[<-kC hi,kF,e];rfl
section
variable{P:Program}{w:World}{K:PySem.W.Frag}{mg:Str->Option Value}{base:Heap}
theorem zco:zu ["thing"] ["thing"] (zl Z7):=by trivial
theorem zbd{f fW:Addr}{fd fdW:FuncData}(F:Fun K "is_length" "is_length" Z7 f fd)(Wo:Callee P w K mg base CX0 1 "is_whole" fW fdW ["thing"] Ze):FnOk P w K mg base CX0 2 f fd ["thing"] Zf:=by
 refine F.ok zco (λvs H Q E h=>?_) (λcdv A outer s H vs Q E hr h=>?_)
 .obtain⟨i,rfl,_⟩:=h;rfl
 .obtain⟨i,rfl,q⟩:=h;refine⟨_,(zf (zo (yg (zg Wo.ok hr rfl Wo.bound Wo.kp Wo.bd .nil zr (za (pv 0) zb)) (yG (z5 zcF (pv 0) zk (zD _)))))),?_⟩;exact⟨_,rfl,i,rfl,_,rfl,iteT ⟨_,rfl,_,_,rfl,rfl,q⟩⟩
theorem zft:zu ["things"] ["things"] (zl Ja):=by trivial
theorem zd8{f fB:Addr}{fd fdB:FuncData}(F:Fun K "are_boxes" "are_boxes" Ja f fd)(Z:Np K mg)(Bo:Callee P w K mg base CX0 2 "is_box" fB fdB ["thing"] zcY):FnOk P w K mg base CX0 3 f fd ["things"] za8:=by
 obtain⟨gLEFT,gTOP,gRIGHT,gBELOW,gMOST_BOXES,ti,tint,tbool,ttup,tlist,tl,tall,tany,tsum,ts,te,ib⟩:=Z;refine F.ok zft (λvs H Q E h=>?_) (λcdv A outer s H vs Q E hr h=>?_)
 .refine E_3 h λl us bs n8=>A_2 n8 λe9 _=>?_;clear n8 h;subst e9;rfl
 .refine E_3 h λl us bs n8=>A_5 n8 λe9 hl hB hlen q=>?_;clear n8 h;subst e9;refine⟨_,(ze (zO (PW.pt (xi (z9 (zX (zp yj (by rfl) ti k8 (za (pv 0) (za (yM rfl tlist vX) zb))))) (yZ (z9 (jV y7 y7 zk (zp zA (by rfl) tl kW (za (pv 0) zb)) (zx rfl gMOST_BOXES))))))
   (zf (zo yN))
   zF)
   (zf (zo (zp (xg rfl) (by rfl) tall vS (za (zQ (Nc:=["thing"]) (ix:=[none]) rfl rfl (by refine' zV ?zz;case zz=>exact(pv 0)) (λ_ _ _ _ _=>(zt (i:=0) (by show(["thing"]:List Str).Nodup;decide +kernel) rfl (Or.inl rfl))) (λ_ _ _ _ _=>zP) (λ_ _ _ _ _=>(zg Bo.ok hr rfl Bo.bound Bo.kp Bo.bd .nil zr (za (pv 0) zb)))) zb))))),?_⟩
  have lu:=hB.len;refine⟨_,rfl,_,_,_,_,rfl,rfl,.of (.lst hl),rfl,_,rfl,iteF ?_⟩;refine(zdj (yV (p:=1<=(us.length:Int)/\(us.length:Int)<=24) ?_)) _ ?_
  .have e:decide (1<=(us.length:Int)/\(us.length:Int)<=24)=(decide (1<=(us.length:Int))&&decide ((us.length:Int)<=24)):=Bool.decide_and _ _;rw[e];exact jd zC (yU (zh rfl) (SqL.of hl)) zC
  refine ite2 (λc1=>?_) (λc1=>?_)
  .have c1:=of_decide_eq_true c1;have e:(decide (1<=bs.length)&&decide (bs.length<=24)&&bs.all boxB)=false:=by
    rw[Bool.and_eq_false_iff];refine .inl ?_;rw[Bool.and_eq_false_iff];by_cases h1:1<=bs.length
    .exact .inr (decide_eq_false ())
    .exact .inl (decide_eq_false h1)
   have z:=q H (Same.refl _);rw[e]at z;exact z
  .have c1:¬ ¬(1<=(us.length:Int)/\(us.length:Int)<=24):=λz=>c1 (decide_eq_true z);refine⟨_,rfl,l,rfl,⟨_,SqL.of hl⟩,zZ (K:=K) (a:=l) (xs:=us) (λi ys σ H'=>ys=(bs.take i).map (λb=>V.bl (boxB b))/\Same H H'/\∃o,σ=[o])
    ⟨rfl,Same.refl _,none,rfl⟩ (λi ys σ H' hi h9=>by obtain⟨e,S,_⟩:=h9;exact(⟨by rw[e,ke,kQ];exact kw (show _<=1000 by lia) ⋯,SqL.of (S _ _ hl)⟩)) ?_ ?_⟩
   .rintro ys σ H' ⟨e,S,_⟩ la nl;rw[lu,kJ]at e;subst e;refine⟨la,bs.map boxB,rfl,SqL.of (by rw[zc,vm];rfl),?_⟩;have z:=q _ (S.trans (zd (o:=.lst (bs.map λb=>V.bl (boxB b))) nl));have e:(decide (1<=bs.length)&&decide (bs.length<=24)&&bs.all boxB)=(bs.map boxB).all id:=by
     rw[decide_eq_true (),decide_eq_true (),List.all_map];rfl
    rw[e]at z;exact z
   .intro i x ys σ H' hx h8;refine A_3 h8 λe S n8=>E_1 n8 λo e9=>?_;clear n8 h8;subst e9;subst e;have hil:i<bs.length:=by rw[<-lu];exact(kf.mp hx).1
    have eb:bs[i]?=some bs[i]:=kc hil;generalize bs[i]=b at eb;obtain⟨v,hv,hb⟩:=hB.get eb;rw[hx]at hv;cases hv;dsimp only[zU,tYes];refine iteT ?_;exact⟨_,rfl,x,b,rfl,hb.same S,λH2 S2=>⟨qR boxB eb,S.trans S2,_,rfl⟩⟩
theorem zcp:zu ["box","wide","high"] ["box","wide","high"] (zl Z8):=by trivial
theorem zbe{f:Addr}{fd:FuncData}(F:Fun K "is_within" "is_within" Z8 f fd)(Z:Np K mg):FnOk P w K mg base CX0 1 f fd ["box","wide","high"] WD:=by
 obtain⟨gLEFT,gTOP,gRIGHT,gBELOW,gMOST_BOXES,ti,tint,tbool,ttup,tlist,tl,tall,tany,tsum,ts,te,ib⟩:=Z;refine F.ok zcp (λvs H Q E h=>?_) (λcdv A outer s H vs Q E hr h=>?_)
 .refine E_4 h λv b W G n8=>A_2 n8 λe9 _=>?_;clear n8 h;subst e9;rfl
 .refine E_4 h λv b W G n8=>A_3 n8 λe9 n90 q=>?_;clear n8 h;subst e9;obtain⟨p,rfl,hp⟩:=n90;refine⟨_,(zf (zo (yg (z5 y7 zk (zm zw (pv 0) (zx rfl gLEFT) (λ_ _=>rfl)) (zD _)) (yg (z5 y7 (zm zw (pv 0) (zx rfl gRIGHT) (λ_ _=>rfl)) (pv 1) (zD _)) (yg (z5 y7 zk (zm zw (pv 0) (zx rfl gTOP) (λ_ _=>rfl)) (zD _)) (yG (z5 y7 (zm zw (pv 0) (zx rfl gBELOW) (λ_ _=>rfl)) (pv 2) (zD _)))))))),?_⟩;have t:=yl hp K;refine wE (v:=.bl (yY b W G)) ?_ q;unfold yY;refine xK ?_ (xK ?_ (xK ?_ ?_))
  .exact zT zC (zE (zh rfl) zC t rfl)
  .exact zT (zE (zh rfl) zC t rfl) (zh rfl)
  .exact zT zC (zE (zh rfl) zC t rfl)
  .exact zT (zE (zh rfl) zC t rfl) (zh rfl)
theorem jy:zu ["one","other","across","down"] ["one","other"] (zl j4):=by trivial
theorem JB{f:Addr}{fd:FuncData}(F:Fun K "overlap" "overlap" j4 f fd)(Z:Np K mg):FnOk P w K mg base CX0 1 f fd ["one","other"] Xb:=by
 obtain⟨gLEFT,gTOP,gRIGHT,gBELOW,gMOST_BOXES,ti,tint,tbool,ttup,tlist,tl,tall,tany,tsum,ts,te,ib⟩:=Z;refine F.ok jy (λvs H Q E h=>?_) (λcdv A outer s H vs Q E hr h=>?_)
 .refine E_4 h λv u b c n8=>A_2 n8 λe9 _=>?_;clear n8 h;subst e9;rfl
 .refine E_4 h λv u b c n8=>A_4 n8 λe9 n90 n91 q=>?_;clear n8 h;subst e9;obtain⟨p,rfl,hp⟩:=n90;obtain⟨r,rfl,hr'⟩:=n91;refine⟨_,(ze (zB (i:=2) jy.nd rfl (Or.inl rfl) (yg (z5 yO (zm zw (pv 0) (zx rfl gLEFT) (λ_ _=>rfl)) (zm zw (pv 1) (zx rfl gRIGHT) (λ_ _=>rfl)) (zD _)) (yG (z5 yO (zm zw (pv 1) (zx rfl gLEFT) (λ_ _=>rfl)) (zm zw (pv 0) (zx rfl gRIGHT) (λ_ _=>rfl)) (zD _)))))
   (ze (zB (i:=3) jy.nd rfl (Or.inl rfl) (yg (z5 yO (zm zw (pv 0) (zx rfl gTOP) (λ_ _=>rfl)) (zm zw (pv 1) (zx rfl gBELOW) (λ_ _=>rfl)) (zD _)) (yG (z5 yO (zm zw (pv 1) (zx rfl gTOP) (λ_ _=>rfl)) (zm zw (pv 0) (zx rfl gBELOW) (λ_ _=>rfl)) (zD _)))))
   (zf (zo (yg (pv 2) (yG (pv 3))))))),?_⟩
  have t:=yl hp K;have t':=yl hr' K;refine xx (v:=.bl (decide (b.l<c.r)&&decide (c.l<b.r))) ?_ ?_
  .refine xK ?_ ?_
   .exact zT (zE (zh rfl) zC t rfl) (zE (zh rfl) zC t' rfl)
   .exact zT (zE (zh rfl) zC t' rfl) (zE (zh rfl) zC t rfl)
  refine xx (v:=.bl (decide (b.t<c.b)&&decide (c.t<b.b))) ?_ ?_
  .refine xK ?_ ?_
   .exact zT (zE (zh rfl) zC t rfl) (zE (zh rfl) zC t' rfl)
   .exact zT (zE (zh rfl) zC t' rfl) (zE (zh rfl) zC t rfl)
  exact wE (v:=.bl (lap b c)) (xK (zh rfl) (zh rfl)) q
theorem zgl:zu ["box"] ["box"] (zl sTtl):=by trivial
theorem zfu{f:Addr}{fd:FuncData}(F:Fun K "top_then_left" "top_then_left" sTtl f fd)(Z:Np K mg):FnOk P w K mg base CX0 1 f fd ["box"] zc2:=by
 obtain⟨gLEFT,gTOP,gRIGHT,gBELOW,gMOST_BOXES,ti,tint,tbool,ttup,tlist,tl,tall,tany,tsum,ts,te,ib⟩:=Z;refine F.ok zgl (λvs H Q E h=>?_) (λcdv A outer s H vs Q E hr h=>?_)
 .refine E_2 h λv b n8=>A_2 n8 λe9 _=>?_;clear n8 h;subst e9;rfl
 .refine E_2 h λv b n8=>A_3 n8 λe9 n90 q=>?_;clear n8 h;subst e9;obtain⟨p,rfl,hp⟩:=n90;refine⟨_,(zf (zo (ye (za (zm zw (pv 0) (zx rfl gTOP) (λ_ _=>rfl)) (za (zm zw (pv 0) (zx rfl gLEFT) (λ_ _=>rfl)) zb))))),?_⟩;have t:=yl hp K;exact⟨_,rfl,_,_,_,_,rfl,rfl,t,rfl,_,rfl,_,_,_,_,rfl,rfl,t,rfl,Zz2,λp' n'=>q p' _ (zd n') zc⟩
theorem WE:zu ["boxes","number","box"] ["boxes"] (zl sAny):=by trivial
theorem zd9{f fO:Addr}{fd fdO:FuncData}(F:Fun K "any_overlap" "any_overlap" sAny f fd)(Z:Np K mg)(Ov:Callee P w K mg base CX0 1 "overlap" fO fdO ["one","other"] Xb):FnOk P w K mg base CX0 2 f fd ["boxes"] za9:=by
 obtain⟨gLEFT,gTOP,gRIGHT,gBELOW,gMOST_BOXES,ti,tint,tbool,ttup,tlist,tl,tall,tany,tsum,ts,te,ib⟩:=Z;refine F.ok WE (λvs H Q E h=>?_) (λcdv A outer s H vs Q E hr h=>?_)
 .refine E_3 h λl us bs n8=>A_2 n8 λe9 _=>?_;clear n8 h;subst e9;rfl
 .refine E_3 h λl us bs n8=>A_6 n8 λe9 hl hB hlen qF qT=>?_;clear n8 h;subst e9;refine⟨_,(ze (yS PassesOwn.never rfl (XM rfl te (za (pv 0) zb)) (wI rfl (zR (zt (i:=1) WE.nd rfl (Or.inl rfl)) (zR (zt (i:=2) WE.nd rfl (Or.inr rfl)) yB)))
   (zf (zO (zX (zp (je rfl) (by rfl) tany bC (za (zQ (Nc:=["other","box"]) (ix:=[none,some 2]) rfl rfl (by refine' zV ?zz;case zz=>exact(yp yQ (pv 0) (yx (zK yL (pv 1) zk)) yJ)) (λ_ _ _ _ _=>(zt (i:=0) (by show(["other","box"]:List Str).Nodup;decide +kernel) rfl (Or.inl rfl))) (λ_ _ _ _ _=>zP) (λ_ _ _ _ _=>(zg Ov.ok hr rfl Ov.bound Ov.kp Ov.bd .nil zr (za (pv 1) (za (pv 0) zb))))) zb)))
    (zf (zo yN))
    zF)))
   (zf (zo yN))),?_⟩
  have lu:=hB.len;refine⟨_,rfl,l,rfl,⟨_,SqL.of hl⟩,?_⟩;refine YC (K:=K) (a:=l) (xs:=us) (λi σ H2=>∃(o1 o2:Option V),σ=[some (.ref l),o1,o2]/\Same H H2/\∀(j:Nat)(b:Bx),j<i->bs[j]?=some b->∀c∈bs.drop (j+1),lap b c=false)
   ⟨none,none,rfl,Same.refl _,λj b hj=>absurd hj (bj _)⟩ (λi σ H2 _ h9=>by obtain⟨_,_,_,s2,_⟩:=h9;exact(SqL.of (s2 _ _ hl))) ?_ ?_
  .intro i u σ H2 p hi h8 hn;refine E_2 h8 λo1 o2 n8=>A_3 n8 λe9 S2 no=>?_;clear n8 h8;subst e9;have hil:i<bs.length:=by rw[<-lu];exact(kf.mp hi).1
   have eb:bs[i]?=some bs[i]:=kc hil;generalize bs[i]=b at eb;obtain⟨v,hv,hbx⟩:=hB.get eb;rw[hi]at hv;cases hv;have S3:=zd (o:=.tup [.int i,u]) hn;refine⟨p,_,rfl,SqT.of zc,rfl,_,_,rfl,_,_,rfl,rfl,?_⟩;generalize upd H2 p (.tup [.int i,u])=H3 at S3;have S23:=S2.trans S3;refine⟨_,rfl,_,rfl,_,_,rfl,rfl,_,rfl,l,us,rfl,SqL.of (S23 _ _ hl),λpc nc=>?_⟩;have e2:cutV us (some ((i:Int)+1)) none=us.drop (i+1):=y8 us (i+1) ();rw[e2];have S4:=S23.trans (zd (o:=.lst (us.drop (i+1))) nc);have hpc:(upd H3 pc (.lst (us.drop (i+1)))) pc=some (.lst (us.drop (i+1))):=zc;generalize upd H3 pc (.lst (us.drop (i+1)))=H4 at S4 hpc;have hD:=(hB.same S4).drop (i+1);have lD:=hD.len;refine⟨pc,rfl,⟨_,SqL.of hpc⟩,zZ (K:=K) (a:=pc) (xs:=us.drop (i+1)) (λk ys σ H'=>ys=((bs.drop (i+1)).take k).map (λc=>V.bl (lap b c))/\Same H4 H'/\∃o,σ=[o,some u])
    ⟨rfl,Same.refl _,none,rfl⟩ (λk ys σ H' hk h9=>by obtain⟨e,S,_⟩:=h9;exact(⟨by rw[e,ke,kQ,vk];exact kw (show _<=1000 by omega) ⋯,SqL.of (S _ _ hpc)⟩)) ?_ ?_⟩
   .rintro ys σ H' ⟨e,S,_⟩ la nl;rw[lD,kJ]at e;subst e;refine⟨la,(bs.drop (i+1)).map (lap b),rfl,SqL.of (by rw[zc,vm];rfl),_,rfl,?_⟩;have S5:=(S4.trans S).trans (zd (o:=.lst ((bs.drop (i+1)).map λc=>V.bl (lap b c))) nl);rw[List.any_map];refine ite2 (λc1=>?_) (λc1=>?_)
    .refine qT (λpw=>?_) _ S5;obtain⟨c,hc,hl'⟩:=uJ.mp c1;have z:lap b c=false:=by
      have e:bs=bs.take i++b::bs.drop (i+1):=by
       obtain⟨h,e⟩:=kf.mp eb;rw[<-e,uS,vK]
      rw[e,bH,vf]at pw;exact pw.2.1.1 c hc
     rw[show(id∘lap b) c=lap b c from rfl,z]at hl';cases hl'
    .refine⟨_,_,rfl,S5,λj b' hj e c hc=>?_⟩;by_cases hji:j=i
     .subst hji;rw[eb]at e;cases e;rw[Bool.eq_false_iff];intro z;exact c1 (uJ.mpr ⟨c,hc,z⟩)
     .exact no j b' () e c hc
   .intro k x ys σ H' hx h8;refine A_3 h8 λe S n8=>E_1 n8 λo e9=>?_;clear n8 h8;subst e9;subst e;have hkl:k<(bs.drop (i+1)).length:=by rw[<-lD];exact(kf.mp hx).1
    have ec:(bs.drop (i+1))[k]?=some (bs.drop (i+1))[k]:=kc hkl;generalize (bs.drop (i+1))[k]=c at ec;obtain⟨v,hv,hc⟩:=hD.get ec;rw[hx]at hv;cases hv;dsimp only[zU,tYes];refine iteT ?_;exact⟨_,rfl,_,rfl,u,x,b,c,rfl,hbx.same (S4.trans S),hc.same S,qR (lap b) ec,S,_,rfl⟩
  .intro σ H2 h8;refine E_2 h8 λo1 o2 n8=>A_3 n8 λe9 S2 no=>?_;clear n8 h8;subst e9;refine qF ?_ _ S2;rw[vE];intro i j hi hj hij;refine no i bs[i] (by rw[lu];exact hi) (kc hi) _ ?_;rw[vg];exact⟨j-(i+1),by rw[vk];omega,by rw[List.getElem_drop];congr 1;omega⟩
end
theorem zbf{bs:List Bx}{M:Int}(h:∀b∈bs,0<=area b/\area b<=M):∀k,0<=((bs.map area).take k).sum/\((bs.map area).take k).sum<=bs.length*M:=by
 induction bs with
 |nil=>intro k;simp
 |cons b bs ih =>
  intro k;have hb:=h b kg;have ih:=ih λc hc=>h c (kn _ hc);have e:(((b::bs).length:Nat):Int)*M=bs.length*M+M:=by
   rw[kG,bL,bP];simp
  rw[e];cases k with
  |zero =>
   have:=(ih 0).2;simp only[List.take_zero,List.sum_nil]at this ⊢
   lia
  |succ k =>
   have:=ih k;rw[kY,uf,va]
   lia
theorem JC{b:Bx}{W G:Int}(h1:b.l<b.r/\b.t<b.b)(h2:0<=b.l/\b.r<=W/\0<=b.t/\b.b<=G)(hW:W<=2^28)(hG:G<=2^28):0<=area b/\area b<=2^56:=by
 have a1:0<=b.r-b.l:=()
 have a2:b.r-b.l<=2^28:=()
 have a3:0<=b.b-b.t:=()
 have a4:b.b-b.t<=2^28:=()
 unfold area;refine⟨Int.mul_nonneg a1 a3,?_⟩;have:=Int.mul_le_mul a2 a4 a3 ⋯;exact this
section
variable{P:Program}{w:World}{K:PySem.W.Frag}{mg:Str->Option Value}{base:Heap}
theorem zfv:zu ["boxes","wide","high"] ["boxes","wide","high"] (zl Jc):=by trivial
theorem zea{f fW fA fR:Addr}{fd fdW fdA fdR:FuncData}(F:Fun K "fill" "fill" Jc f fd)(Z:Np K mg)(Wi:Callee P w K mg base CX0 1 "is_within" fW fdW ["box","wide","high"] WD)(An:Callee P w K mg base CX0 2 "any_overlap" fA fdA ["boxes"] za9)
  (Ar:Callee P w K mg base CX0 1 "area" fR fdR ["box"] za7):FnOk P w K mg base CX0 3 f fd ["boxes","wide","high"] zba:=by
 obtain⟨gLEFT,gTOP,gRIGHT,gBELOW,gMOST_BOXES,ti,tint,tbool,ttup,tlist,tl,tall,tany,tsum,ts,te,ib⟩:=Z;refine F.ok zfv (λvs H Q E h=>?_) (λcdv A outer s H vs Q E hr h=>?_)
 .refine E_5 h λl us bs W G n8=>A_2 n8 λe9 _=>?_;clear n8 h;subst e9;rfl
 .refine E_5 h λl us bs W G n8=>A_11 n8 λe9 hl hB hlen wf hW1 hW hG1 hG qT qF=>?_;clear n8 h;subst e9;refine⟨_,(ze (zO (PW.pt (xi (z9 (zX (zp (xg rfl) (by rfl) tall vS (za (zQ (Nc:=["box","wide","high"]) (ix:=[none,some 1,some 2]) rfl rfl (by refine' zV ?zz;case zz=>exact(pv 0)) (λ_ _ _ _ _=>(zt (i:=0) (by show(["box","wide","high"]:List Str).Nodup;decide +kernel) rfl (Or.inl rfl))) (λ_ _ _ _ _=>zP) (λ_ _ _ _ _=>(zg Wi.ok (hr.mono ⋯) rfl Wi.bound Wi.kp Wi.bd .nil zr (za (pv 0) (za (pv 1) (za (pv 2) zb)))))) zb)))) (yZ (zX (zg An.ok hr rfl An.bound An.kp An.bd .nil zr (za (pv 0) zb))))))
   (zf (zo yN))
   zF)
   (zf (zo (z5 xH (zp (zaf rfl) (by rfl) tsum PyProof.Rows.boot_sum (za (zQ (Nc:=["box"]) (ix:=[none]) rfl rfl (by refine' zV ?zz;case zz=>exact(pv 0)) (λ_ _ _ _ _=>(zt (i:=0) (by show(["box"]:List Str).Nodup;decide +kernel) rfl (Or.inl rfl))) (λ_ _ _ _ _=>zP) (λ_ _ _ _ _=>(zg Ar.ok (hr.mono ⋯) rfl Ar.bound Ar.kp Ar.bd .nil zr (za (pv 0) zb)))) zb)) (zK qg (pv 1) (pv 2)) (zD _))))),?_⟩
  have lu:=hB.len;refine⟨_,rfl,l,rfl,⟨_,SqL.of hl⟩,zZ (K:=K) (a:=l) (xs:=us) (λi ys σ H'=>ys=(bs.take i).map (λb=>V.bl (yY b W G))/\Same H H'/\∃o,σ=[o,some (.int W),some (.int G)])
   ⟨rfl,Same.refl _,none,rfl⟩ (λi ys σ H' hi h9=>by obtain⟨e,S,_⟩:=h9;exact(⟨by rw[e,ke,kQ];exact kw (show _<=1000 by lia) ⋯,SqL.of (S _ _ hl)⟩)) ?_ ?_⟩
  .rintro ys σ H' ⟨e,S,_⟩ la nl;rw[lu,kJ]at e;subst e;have S2:=S.trans (zd (o:=.lst (bs.map λb=>V.bl (yY b W G))) nl);refine⟨la,bs.map (λb=>yY b W G),rfl,SqL.of (by rw[zc,vm];rfl),?_⟩;rw[List.all_map];generalize upd H' la (.lst (bs.map λb=>V.bl (yY b W G)))=H2 at S2;have wi:∀{b:Bx},yY b W G=true↔0<=b.l/\b.r<=W/\0<=b.t/\b.b<=G:=λ{b}=>by
    unfold yY;simp only[vi,decide_eq_true_eq]
   refine⟨_,rfl,?_⟩;cases hall:bs.all (id∘λb=>yY b W G)with
   |false =>
    refine iteT ?_;refine qF (λz=>?_) _ S2;have:bs.all (id∘λb=>yY b W G)=true:=vM.mpr λb hb=>wi.mpr (z.1 b hb);rw[hall]at this;cases this
   |true =>
    have hin:∀b∈bs,0<=b.l/\b.r<=W/\0<=b.t/\b.b<=G:=λb hb=>wi.mp (vM.mp hall b hb);refine iteF ?_;refine⟨_,rfl,l,us,bs,rfl,S2 _ _ hl,hB.same S2,(),λpw H3 S3=>⟨_,rfl,iteF ?_⟩,λpw H3 S3=>⟨_,rfl,iteT (qF (λz=>pw z.2.1) _ (S2.trans S3))⟩⟩;have S23:=S2.trans S3;have ab:∀b∈bs,0<=area b/\area b<=2^56:=λb hb=>JC (wf b hb) (hin b hb) hW hG;refine⟨_,rfl,l,rfl,⟨_,SqL.of (S23 _ _ hl)⟩,zZ (K:=K) (a:=l) (xs:=us) (λi ys σ H'=>ys=(bs.take i).map (λb=>V.int (area b))/\Same H3 H'/\∃o,σ=[o])
     ⟨rfl,Same.refl _,none,rfl⟩ (λi ys σ H' hi h9=>by obtain⟨e,S,_⟩:=h9;exact(⟨by rw[e,ke,kQ];exact kw (show _<=1000 by lia) ⋯,SqL.of (S _ _ (S23 _ _ hl))⟩)) ?_ ?_⟩
    .rintro ys σ H' ⟨e,S,_⟩ lb nb;rw[lu,kJ]at e;subst e;have S5:=(S23.trans S).trans (zd (o:=.lst (bs.map λb=>V.int (area b))) nb);have sl:=zbf ab;refine⟨lb,bs.map area,rfl,SqL.of (by rw[zc,vm];rfl),λz hz=>?_,λk hk=>?_,?_⟩
     .obtain⟨b,hb,rfl⟩:=kU.mp hz;have:=ab b hb
      lia
     .have:=sl k
      lia
     .refine⟨_,rfl,_,rfl,_,_,rfl,rfl,.inl ⟨(),()⟩,rfl,?_⟩;have e:decide (V.int (bs.map area).sum=V.int (W*G))=decide ((bs.map area).sum=W*G):=by
       rw[decide_eq_decide];exact⟨λz=>V.int.inj z,λz=>by rw[z]⟩
      rw[e];by_cases hs:(bs.map area).sum=W*G
      .rw[decide_eq_true hs];exact qT ⟨hin,pw,hs⟩ _ S5
      .rw[decide_eq_false hs];exact qF (λz=>hs z.2.2) _ S5
    .intro i x ys σ H' hx h8;refine A_3 h8 λe S n8=>E_1 n8 λo e9=>?_;clear n8 h8;subst e9;subst e;have hil:i<bs.length:=by rw[<-lu];exact(kf.mp hx).1
     have eb:bs[i]?=some bs[i]:=kc hil;have mb:bs[i]∈bs:=vv hil;generalize bs[i]=b at eb mb;obtain⟨v,hv,hb⟩:=hB.get eb;rw[hx]at hv;cases hv;dsimp only[zU,tYes];refine iteT ?_;have a1:=wf b mb;have a2:=hin b mb;exact⟨_,rfl,x,b,rfl,hb.same (S23.trans S),.inl ⟨(),()⟩,zbc area eb,S,_,rfl⟩
  .intro i x ys σ H' hx h8;refine A_3 h8 λe S n8=>E_1 n8 λo e9=>?_;clear n8 h8;subst e9;subst e;have hil:i<bs.length:=by rw[<-lu];exact(kf.mp hx).1
   have eb:bs[i]?=some bs[i]:=kc hil;generalize bs[i]=b at eb;obtain⟨v,hv,hb⟩:=hB.get eb;rw[hx]at hv;cases hv;dsimp only[zU,tYes];refine iteT ?_;exact⟨_,rfl,_,rfl,_,rfl,x,b,W,G,rfl,hb.same S,qR (λb=>yY b W G) eb,S,_,rfl⟩
theorem zfw:zu ["wide","high","boxes"] ["wide","high","boxes"] (zl Jd):=by trivial
theorem zeb{f fL fB fF fT:Addr}{fd fdL fdB fdF fdT:FuncData}(F:Fun K "make_page" "make_page" Jd f fd)(Z:Np K mg)(Le:Callee P w K mg base CX0 2 "is_length" fL fdL ["thing"] Zf)
  (Be:Callee P w K mg base CX0 3 "are_boxes" fB fdB ["things"] za8)(Fi:Callee P w K mg base CX0 3 "fill" fF fdF ["boxes","wide","high"] zba)(Tt:Callee P w K mg base CX0 1 "top_then_left" fT fdT ["box"] zc2):
  FnOk P w K mg base CX0 4 f fd ["wide","high","boxes"] zbb:=by
 obtain⟨gLEFT,gTOP,gRIGHT,gBELOW,gMOST_BOXES,ti,tint,tbool,ttup,tlist,tl,tall,tany,tsum,ts,te,ib⟩:=Z;refine F.ok zfw (λvs H Q E h=>?_) (λcdv A outer s H vs Q E hr h=>?_)
 .refine E_5 h λl us bs W G n8=>A_2 n8 λe9 _=>?_;clear n8 h;subst e9;rfl
 .refine E_5 h λl us bs W G n8=>A_7 n8 λe9 hl hB hW hG pg q=>?_;clear n8 h;subst e9;refine⟨_,(ze (zO (PW.pt (xi (z9 (zX (zg Le.ok (hr.mono ⋯) rfl Le.bound Le.kp Le.bd .nil zr (za (pv 0) zb)))) (yZ (z9 (zX (zg Le.ok (hr.mono ⋯) rfl Le.bound Le.kp Le.bd .nil zr (za (pv 1) zb)))))))
   yP
   zF)
   (ze (zO (z9 (zX (zg Be.ok (hr.mono ⋯) rfl Be.bound Be.kp Be.bd .nil zr (za (pv 2) zb))))
   yP
   zF)
   (ze (zO (z9 (zX (zg Fi.ok hr rfl Fi.bound Fi.kp Fi.bd .nil zr (za (pv 2) (za (pv 0) (za (pv 1) zb))))))
   yP
   zF)
   (zf (zo (ye (za (pv 0) (za (pv 1) (za (xM Xp rfl ttup vx (za (zbN Tt.ok Tt.bd (hr.mono ⋯) rfl ts rfl Tt.bound (pv 2)) zb)) zb))))))))),?_⟩
  have lu:=hB.len;have wf:=pg.wf;have n24:=pg.n24;have n1:=pg.n1;have c1:=pg.w;have c2:=pg.g;refine⟨_,rfl,W,rfl,_,rfl,?_⟩;rw[decide_eq_true pg.w];refine iteF ⟨_,rfl,G,rfl,_,rfl,?_⟩;rw[decide_eq_true pg.g];refine iteF ⟨_,rfl,l,us,bs,rfl,hl,hB,(),λH1 S1=>⟨_,rfl,?_⟩⟩;have c3:(decide (1<=bs.length)&&decide (bs.length<=24)&&bs.all boxB)=true:=by
   rw[decide_eq_true pg.n1,decide_eq_true pg.n24,vM.mpr λb hb=>by unfold boxB;rw[decide_eq_true (pg.wf b hb).1,decide_eq_true (pg.wf b hb).2];rfl];rfl
  rw[c3];refine iteF ⟨_,rfl,_,rfl,_,rfl,l,us,bs,W,G,rfl,S1 _ _ hl,hB.same S1,n24,wf,c1,hW,c2,hG,λfl H2 S2=>⟨_,rfl,iteF ?_⟩,λnf=>absurd ⟨pg.within,pg.apart,pg.full⟩ nf⟩;have S12:=S1.trans S2;have hB2:=hB.same S12;refine⟨_,rfl,_,rfl,_,rfl,l,us,bs.map (λb=>(b.t,b.l)),W+1,rfl,SqL.of (S12 _ _ hl),(),(),by rw[ke];lia,λz hz=>?_,λi x z H' R hx hz S' k=>?_,λD p H' S' hD po pu=>?_⟩
  .obtain⟨b,hb,rfl⟩:=kU.mp hz;have:=fl.1 b hb;have:=wf b hb;exact⟨by simp only;lia,by simp only;lia⟩
  .rw[kM]at hz;cases e:bs[i]? with
   |none=>rw[e]at hz;cases hz
   |some b =>
    rw[e]at hz;cases hz;obtain⟨v,hv,hb⟩:=hB2.get e;rw[hx]at hv;cases hv;exact⟨x,b,rfl,hb.same S',λp H'' S'' h''=>k p H'' S'' h''⟩
  .rw[lu]at po pu;have SD:=zd (o:=.lst (p.toList.map λi=>us.getD i .non)) hD;refine⟨D,_,rfl,SqL.of zc,λtb ob ntb oc od=>⟨Zz3,λpa npa=>?_⟩⟩;have ST:=zd (o:=.frz ob (.tup (p.toList.map λi=>us.getD i .non))) ntb;have SP:=zd (o:=.tup [.int W,.int G,.ref tb]) npa;have SA:=SD.trans (ST.trans SP);refine q pa (picked bxZ p bs) _ (S12.trans (S'.trans SA)) ⟨tb,_,zc,(TpF.new oc od).same SP,WC ((hB2.same S').same SA) po,by rw[ZK po];exact pg.n24⟩ (jS po) (Xq po (λb hb=>?_) pu);have:=fl.1 b hb;have:=wf b hb;omega
end
end _JN
namespace _Til
section
variable{cs:List Bx}{p:Bx}{us:List Int}
def NoX(cs:List Bx)(p:Bx)(e:Int):Prop:=∀b∈cs,wthn p b=true->¬(b.l<e/\e<b.r)
theorem Yl(mem:∀e,e∈us↔e=p.l\/e=p.r\/CutX cs p e){e:Int}(h:e∈us):NoX cs p e:=by
 intro b hb hw z;have i:=zG.mp hw;rcases(mem e).mp h with y|y|y
 .omega
 .lia
 .exact y.2.2 b hb hw z
theorem xv(P:Piece cs p)(mem:∀e,e∈us↔e=p.l\/e=p.r\/CutX cs p e){e:Int}(h:e∈us):p.l<=e/\e<=p.r:=by
 have:=P.wide;rcases(mem e).mp h with y|y|y
 .lia
 .lia
 .exact⟨vU y.1,vU y.2.1⟩
def prt(p:Bx)(x y:Int):Bx:=⟨x,p.t,y,p.b⟩
theorem zcq{x y:Int}{b:Bx}:wthn (prt p x y) b=true↔x<=b.l/\b.r<=y/\p.t<=b.t/\b.b<=p.b:=zG
theorem xQ{x y:Int}(hx:p.l<=x)(hy:y<=p.r){b:Bx}:wthn (prt p x y) b=true↔wthn p b=true/\x<=b.l/\b.r<=y:=by
 rw[zcq,zG];constructor
 .rintro⟨a,b',c,d⟩;exact⟨⟨(),(),c,d⟩,a,b'⟩
 .rintro⟨⟨a,b',c,d⟩,e,f⟩;exact⟨e,f,c,d⟩
theorem JD(P:Piece cs p){x y:Int}(hx:p.l<=x)(hy:y<=p.r)(lt:x<y)(nx:NoX cs p x)(ny:NoX cs p y):Piece cs (prt p x y):=by
 refine⟨lt,P.high,λa c h1 h2 h3 h4=>?_⟩;have h1:x<=a:=h1;have h2:a<y:=h2;obtain⟨b,hb,hw,hi⟩:=P.fill a c () () h3 h4;have i:=z8.mp hi;have n1:=nx b hb hw;have n2:=ny b hb hw;exact⟨b,hb,(xQ hx hy).mpr ⟨hw,(),()⟩,hi⟩
theorem zcr{x y:Int}(hx:p.l<=x)(hy:y<=p.r)(nx:NoX cs p x)(ny:NoX cs p y){e:Int}(c:CutX cs (prt p x y) e):CutX cs p e:=by
 obtain⟨c1,c2,c3⟩:=c;have c1:x<e:=c1;have c2:e<y:=c2;refine⟨(),(),λb hb hw z=>?_⟩;have n1:=nx b hb hw;have n2:=ny b hb hw;exact c3 b hb ((xQ hx hy).mpr ⟨hw,(),()⟩) z
end
theorem Xc{α:Type}{f g:α->Bool}:∀{l:List α},(∀a∈l,f a=true->g a=true)->(∃b∈l,g b=true/\¬f b=true)->l.countP f<l.countP g
 |[],_,⟨b,hb,_⟩=>(nomatch hb)
 |a::r,h,⟨b,hb,h1,h2⟩=>by
  have le:r.countP f<=r.countP g:=List.countP_mono_left λd hd=>h d (kn _ hd);rw[v7,v7];rcases kK.mp hb with e|e
  .subst e;rw[if_neg h2,if_pos h1]
   lia
  .have:=Xc (l:=r) (λd hd=>h d (kn _ hd)) ⟨b,e,h1,h2⟩;by_cases z:f a=true
   .rw[if_pos z,if_pos (h a kg z)]
    lia
   .rw[if_neg z]
    lia
section
variable{cs:List Bx}{p:Bx}{us:List Int}
theorem zcs(P:Piece cs p){x y:Int}(hx:p.l<=x)(hy:y<=p.r)(ne:p.l<x\/y<p.r):(cs.filter (wthn (prt p x y))).length<(cs.filter (wthn p)).length:=by
 rw[<-List.countP_eq_length_filter,<-List.countP_eq_length_filter];refine Xc (λa _ h=>((xQ hx hy).mp h).1) ?_;rcases ne with z|z
 .obtain⟨b,hb,hw,e⟩:=jv P;exact⟨b,hb,hw,λh=>by have:=(xQ hx hy).mp h;lia⟩
 .obtain⟨b,hb,hw,e⟩:=ends_right P;exact⟨b,hb,hw,λh=>by have:=(xQ hx hy).mp h;lia⟩
end
theorem qU:∀{us:List Int},us.Pairwise (· < ·)->∀{x y:Int},(x,y)∈us.zip (us.drop 1)->x∈us/\y∈us/\x<y/\∀e∈us,e<=x\/y<=e
 |[],_,x,y,h=>by simp at h
 |[a],_,x,y,h=>by simp at h
 |a::b::r,up,x,y,h=>by
  obtain⟨u1,u2⟩:=vf.mp up;have h:(x,y)=(a,b)\/(x,y)∈(b::r).zip ((b::r).drop 1):=by
   have e:(a::b::r).zip ((a::b::r).drop 1)=(a,b)::(b::r).zip ((b::r).drop 1):=rfl;rw[e]at h;exact kK.mp h
  rcases h with h|h
  .injection h with h1 h2;subst h1;subst h2;refine⟨kg,kn _ kg,u1 _ kg,λe he=>?_⟩;rcases kK.mp he with z|z
   .exact .inl ()
   .rcases kK.mp z with z|z
    .exact .inr ()
    .exact .inr (vU ((vf.mp u2).1 e z))
  .obtain⟨h1,h2,h3,h4⟩:=qU u2 h;refine⟨kn _ h1,kn _ h2,h3,λe he=>?_⟩;rcases kK.mp he with z|z
   .have:=u1 x h1;exact .inl ()
   .exact h4 e z
theorem jz{α:Type}(L:α->Int)(R:α->Int)(wf:∀b:α,L b<R b):∀(us:List Int)(bs:List α),us.Pairwise (· < ·)->2<=us.length->(∀e∈us,∀b∈bs,¬(L b<e/\e<R b))->(∀b∈bs,us.headD 0<=L b/\R b<=us.getLastD 0) ->
  ((us.zip (us.drop 1)).map λq=>bs.filter λb=>decide (q.1<=L b)&&decide (R b<=q.2)).flatten.Perm bs
 |[],bs,_,h,_,_=>by simp at h
 |[a],bs,_,h,_,_=>by simp at h
 |[a,b],bs,up,_,nc,bd=>by
  show(([(a,b)]:List (Int×Int)).map λq=>bs.filter λb=>decide (q.1<=L b)&&decide (R b<=q.2)).flatten.Perm bs;rw[kY,List.map_nil,k5,uz,vh,bN.mpr];intro c hc;have:=bd c hc;have h1:a<=L c:=this.1;have h2:R c<=b:=this.2;rw[decide_eq_true h1,decide_eq_true h2];rfl
 |a::b::c::r,bs,up,_,nc,bd=>by
  obtain⟨u1,u2⟩:=vf.mp up;have e:(a::b::c::r).zip ((a::b::c::r).drop 1)=(a,b)::(b::c::r).zip ((b::c::r).drop 1):=rfl;rw[e,kY,k5];have ih:=jz L R wf (b::c::r) (bs.filter λd=>decide (b<=L d)) u2 (by simp) (λe he d hd=>nc e (kn _ he) d (vD.mp hd).1) (λd hd=>by
   obtain⟨h1,h2⟩:=vD.mp hd;exact⟨of_decide_eq_true h2,(bd d h1).2⟩)
  have e2:((b::c::r).zip ((b::c::r).drop 1)).map (λq=>(bs.filter λd=>decide (b<=L d)).filter λb=>decide (q.1<=L b)&&decide (R b<=q.2))=((b::c::r).zip ((b::c::r).drop 1)).map λq=>bs.filter λb=>decide (q.1<=L b)&&decide (R b<=q.2):=by
   refine uv λq hq=>?_;rw[List.filter_filter];refine uW λd _=>?_;obtain⟨x,y⟩:=q;have zn:=qU u2 hq;have bx:b<=x:=by
    rcases kK.mp zn.1 with z|z
    .lia
    .exact vU ((vf.mp u2).1 x z)
   rw[vn];simp only[vi,decide_eq_true_eq]
   lia
  rw[e2]at ih;refine(List.Perm.append_left _ ih).trans ?_;have e3:(bs.filter λd=>decide (a<=L d)&&decide (R d<=b))=bs.filter λd=>!decide (b<=L d):=by
   refine uW λd hd=>?_;have h1:=(bd d hd).1;have h1:a<=L d:=h1;have h2:=nc b (kn _ kg) d hd;have h3:=wf d;rw[vn];simp only[vi,decide_eq_true_eq,bA,decide_eq_false_iff_not]
   lia
  show((bs.filter λd=>decide (a<=L d)&&decide (R d<=b))++bs.filter λd=>decide (b<=L d)).Perm bs;rw[e3];exact uV.trans (List.filter_append_perm _ _)
theorem zec(cs:List Bx):(cs.map flp).map flp=cs:=by
 rw[vm];exact List.map_id'' (λ_=>rfl) cs
end _Til
namespace _JN
open PySem _L2 _Til _Tre PySem.W
theorem Xd:∀{a b:List Int},a.Pairwise (· < ·)->b.Pairwise (· < ·)->(∀z,z∈a↔z∈b)->a=b
 |[],[],_,_,_=>rfl
 |[],y::b,_,_,h=>by have:=(h y).mpr kg;cases this
 |x::a,[],_,_,h=>by have:=(h x).mp kg;cases this
 |x::a,y::b,u,v,h=>by
  obtain⟨u1,u2⟩:=vf.mp u;obtain⟨v1,v2⟩:=vf.mp v;have e:x=y:=by
   rcases kK.mp ((h x).mp kg)with z|z
   .exact z
   .rcases kK.mp ((h y).mpr kg)with w|w
    .exact w.symm
    .have:=v1 x z;have:=u1 y w
     lia
  subst e;rw[Xd u2 v2 λz=>⟨λhz=>?_,λhz=>?_⟩]
  .rcases kK.mp ((h z).mp (kn _ hz))with w|w
   .have:=u1 z hz
    lia
   .exact w
  .rcases kK.mp ((h z).mpr (kn _ hz))with w|w
   .have:=v1 z hz
    lia
   .exact w
theorem Ends.uniq{fl:_Til.Bx->_Til.Bx}{cs:List _Til.Bx}{p:_Til.Bx}{ms ns:List Int}(a:Ends fl cs p ms)(b:Ends fl cs p ns):ms=ns:=Xd a.1 b.1 λz=>(a.2.1 z).trans (b.2.1 z).symm
theorem yE.uniq{cs:List _Til.Bx}{p:_Til.Bx}{k k':Str}{ps qs:List _Til.Bx}(a:yE cs p k ps)(b:yE cs p k' qs):k=k'/\ps=qs:=by
 obtain⟨ms,E,a⟩:=a;obtain⟨ns,E2,b⟩:=b;have:=E.uniq E2;subst this;rcases a with⟨rfl,rfl,l⟩|⟨rfl,l,m1,F1,rfl⟩<;>rcases b with⟨rfl,rfl,l2⟩|⟨rfl,l2,m2,F2,rfl⟩
 .exact⟨rfl,rfl⟩
 .lia
 .lia
 .rw[F1.uniq F2];exact⟨rfl,rfl⟩
section
variable{cs:List _Til.Bx}{p:_Til.Bx}{W G:Int}
theorem Qr(T:zS cs W G)(P:Piece cs p){us:List Int}(up:us.Pairwise (· < ·))(mem:∀e,e∈us↔e=p.l\/e=p.r\/CutX cs p e){q:_Til.Bx}(hq:q∈pcs p us):
  Piece cs q/\(1<(pcs p us).length->(cs.filter (wthn q)).length<(cs.filter (wthn p)).length)/\¬ ∃e,CutX cs q e:=by
 unfold pcs at hq;obtain⟨⟨x,y⟩,hxy,rfl⟩:=kU.mp hq;obtain⟨m1,m2,lt,gap⟩:=qU up hxy;have r1:=xv P mem m1;have r2:=xv P mem m2;have n1:=Yl mem m1;have n2:=Yl mem m2;refine⟨JD P r1.1 r2.2 lt n1 n2,λl2=>?_,?_⟩
 .refine zcs P r1.1 r2.2 ?_;rw[xC]at l2;have a1:p.l∈us:=(mem _).mpr (.inl rfl);have a2:p.r∈us:=(mem _).mpr (.inr (.inl rfl));obtain⟨e,he,ne1,ne2⟩:=(three up P.wide a1 a2).mp (by omega);have:=xv P mem he;rcases gap e he with z|z
  .left
   lia
  .right
   lia
 .rintro⟨e,c⟩;have h:=(mem e).mpr (.inr (.inr (zcr r1.1 r2.2 n1 n2 c)));have c1:x<e:=c.1;have c2:e<y:=c.2.1;rcases gap e h with z|z<;>lia
theorem Ym(T:zS cs W G)(P:Piece cs p){ms:List Int}(E:Ends id cs p ms):(unc id cs p ms).Pairwise (· < ·)/\∀e,e∈unc id cs p ms↔e=p.l\/e=p.r\/CutX cs p e:=by
 obtain⟨up,mem,_⟩:=E;unfold unc;rw[bv]at mem ⊢;exact⟨jw up _,λe=>xP P mem λb hb=>(T.wf b hb).h1⟩
theorem Zg(T:zS cs W G)(P:Piece cs p){ms:List Int}(E:Ends flp cs p ms):(unc flp cs p ms).Pairwise (· < ·)/\∀e,e∈unc flp cs p ms↔e=(flp p).l\/e=(flp p).r\/CutX (cs.map flp) (flp p) e:=by
 obtain⟨up,mem,_⟩:=E;unfold unc;rw[Zd]at mem ⊢;exact⟨jw up _,λe=>xP P.flp mem λb hb=>((qa T).wf b hb).h1⟩
theorem Qt(q:_Til.Bx):((cs.map flp).filter (wthn q)).length=(cs.filter (wthn (flp q))).length:=by
 have:=Zd cs (flp q);have e:flp (flp q)=q:=rfl;rw[e]at this;rw[<-this,ke]
theorem Piece.back{q:_Til.Bx}(h:Piece (cs.map flp) q):Piece cs (flp q):=by
 have:=h.flp;rw[zec]at this;exact this
theorem wb(T:zS cs W G)(P:Piece cs p){k:Str}{ps:List _Til.Bx}(h:yE cs p k ps){q:_Til.Bx}(hq:q∈ps):
  Piece cs q/\(1<ps.length->(cs.filter (wthn q)).length<(cs.filter (wthn p)).length)/\(k = "|" -> ¬ ∃e,CutX cs q e)/\(k = "-" -> ¬ ∃e,CutX (cs.map flp) (flp q) e):=by
 have nk:("|" : Str) ≠ "-" := (Ne.symm x8);obtain⟨ms,E,h⟩:=h;rcases h with⟨rfl,rfl,l⟩|⟨rfl,l,ns,E2,rfl⟩
 .obtain⟨up,mem⟩:=Ym T P E;obtain⟨a,b,c⟩:=Qr T P up mem hq;exact⟨a,b,λ_=>c,λz=>absurd z nk⟩
 .obtain⟨up,mem⟩:=Zg T P E2;obtain⟨q',hq',rfl⟩:=kU.mp hq;obtain⟨a,b,c⟩:=Qr (qa T) P.flp up mem hq';rw[Qt,Qt]at b;refine⟨Piece.back a,λz=>b (by rw[ke]at z;exact z),λz=>absurd z.symm nk,λ_=>c⟩
end
mutual
inductive Fs(cs:List _Til.Bx):_Til.Bx->Option _Til.Bx->Prop where
 |box{p:_Til.Bx}(h:p∈cs):Fs cs p none
 |stk{p:_Til.Bx}(h:p∉cs)(n:¬xU cs p):Fs cs p (some p)
 |cut{p:_Til.Bx}{o:Option _Til.Bx}{k:Str}{ps:List _Til.Bx}(h:p∉cs)(c:xU cs p)(hp:yE cs p k ps)(r:FsL cs ps o):Fs cs p o
inductive FsL(cs:List _Til.Bx):List _Til.Bx->Option _Til.Bx->Prop where
 |nil:FsL cs [] none
 |hit{q s:_Til.Bx}{ps:List _Til.Bx}(h:Fs cs q (some s)):FsL cs (q::ps) (some s)
 |miss{q:_Til.Bx}{ps:List _Til.Bx}{o:Option _Til.Bx}(h:Fs cs q none)(r:FsL cs ps o):FsL cs (q::ps) o
end
theorem FsL.pre{cs:List _Til.Bx}:∀{as bs:List _Til.Bx}{o:Option _Til.Bx},(∀q∈as,Fs cs q none)->FsL cs bs o->FsL cs (as++bs) o
 |[],_,_,_,h=>h
 |a::as,_,_,ha,h=>.miss (ha a kg) (FsL.pre (λq hq=>ha q (kn _ hq)) h)
mutual
theorem Fs.stuck{cs:List _Til.Bx}{W G:Int}(T:zS cs W G):∀{p:_Til.Bx}{o:Option _Til.Bx},Fs cs p o->Piece cs p->∀s,o=some s->IsS cs s
 |_,_,.box h,_,s,e=>by cases e
 |_,_,.stk h n,P,s,e=>by cases e;exact⟨P,h,n⟩
 |_,_,.cut h c hp r,P,s,e=>FsL.stuck T r (λq hq=>(wb T P hp hq).1) s e
theorem FsL.stuck{cs:List _Til.Bx}{W G:Int}(T:zS cs W G):∀{ps:List _Til.Bx}{o:Option _Til.Bx},FsL cs ps o->(∀q∈ps,Piece cs q)->∀s,o=some s->IsS cs s
 |_,_,.nil,_,s,e=>by cases e
 |_,_,.hit h,P,s,e=>Fs.stuck T h (P _ kg) s e
 |_,_,.miss h r,P,s,e=>FsL.stuck T r (λq hq=>P q (kn _ hq)) s e
end
theorem FsL.all{cs:List _Til.Bx}:∀{ps:List _Til.Bx},FsL cs ps none->∀q∈ps,Fs cs q none
 |_,.nil,q,hq=>by cases hq
 |_,.miss h r,q,hq=>by
  rcases kK.mp hq with e|e
  .rw[e];exact h
  .exact FsL.all r q e
theorem Qu{cs:List _Til.Bx}{p:_Til.Bx}(P:Piece cs p):0<(cs.filter (wthn p)).length:=by
 obtain⟨b,hb,hw,_⟩:=jv P;exact bB (vD.mpr ⟨hb,hw⟩)
theorem xn{cs:List _Til.Bx}{W G:Int}(T:zS cs W G)(hW:0<W)(hG:0<G):Piece cs ⟨0,0,W,G⟩ :=
 (YW T).mpr ⟨⟨kX _,hW,kX _⟩,⟨kX _,hG,kX _⟩,λb hb _=>zG.mpr ⟨(T.wf b hb).h0,(T.wf b hb).h2,(T.wf b hb).v0,(T.wf b hb).v2⟩⟩
def ZM(d:Nat):Sp:=λvs H Q _=>∃(pg:Addr)(u:V)(W G:Int)(cs:List _Til.Bx)(p:_Til.Bx),vs=[.ref pg,u]/\xf H pg W G cs/\yt H u p/\zS cs W G/\Piece cs p/\(cs.filter (wthn p)).length<=d/\d<=24 /\
 (∀H',Same H H'->Fs cs p none->Q .non H')/\∀(v:V)(s:_Til.Bx)(H':Hp),Same H H'->yt H' v s->Fs cs p (some s)->Q v H'
def JE:Sp:=λvs H Q _=>∃(pg:Addr)(W G:Int)(cs:List _Til.Bx),vs=[.ref pg]/\xf H pg W G cs/\∀(v:V)(H':Hp),Same H H'->yt H' v ⟨0,0,W,G⟩->Q v H'
def JF:Sp:=λvs H Q _=>∃(pg:Addr)(W G:Int)(cs:List _Til.Bx),vs=[.ref pg]/\xf H pg W G cs/\zS cs W G/\0<W/\0<G /\
 (∀H',Same H H'->Fs cs ⟨0,0,W,G⟩ none->Q .non H')/\∀(v:V)(s:_Til.Bx)(H':Hp),Same H H'->yt H' v s->Fs cs ⟨0,0,W,G⟩ (some s)->Q v H'
section
variable{P:Program}{w:World}{K:PySem.W.Frag}{mg:Str->Option Value}{base:Heap}
theorem Xw:zu ["page","piece","part","found"] ["page","piece"] (zl sFst):=by trivial
theorem zed{f:Addr}{fd:FuncData}(F:Fun K "first_stuck" "first_stuck" sFst f fd):FnOk P w K mg base CX0 6 f fd ["page","piece"] (ZM 0):=by
 refine F.ok Xw (λvs H Q E h=>?_) (λcdv A outer s H vs Q E hr h=>?_)
 .refine E_6 h λpg u W G cs p n8=>A_2 n8 λe9 _=>?_;clear n8 h;subst e9;rfl
 .refine E_6 h λpg u W G cs p n8=>A_7 n8 λe9 _ _ _ PC h0 _=>?_;clear n8 h;subst e9;have:=Qu PC;omega
theorem zee{f fH fP:Addr}{fd dH dP:FuncData}{d:Nat}(F:Fun K "first_stuck" "first_stuck" sFst f fd)(gBOXES:GI mg "BOXES" 2)(gPARTS:GI mg "PARTS" 1)(Hc:Callee P w K mg base CX0 5 "has_cut" fH dH ["page","piece"] WA)(Pa:Callee P w K mg base CX0 4 "parted" fP dP ["page","piece"] jL)
  (Fi:Callee P w K mg base CX0 (d+6) "first_stuck" f fd ["page","piece"] (ZM d)):FnOk P w K mg base CX0 (d+7) f fd ["page","piece"] (ZM (d+1)):=by
 refine F.ok Xw (λvs H Q E h=>?_) (λcdv A outer s H vs Q E hr h=>?_)
 .refine E_6 h λpg u W G cs p n8=>A_2 n8 λe9 _=>?_;clear n8 h;subst e9;rfl
 .refine E_6 h λpg u W G cs p n8=>A_9 n8 λe9 hPG n91 T PC hle hd qN qS=>?_;clear n8 h;subst e9;obtain⟨a,rfl,ha⟩:=n91;refine⟨_,(ze (zO (zI (za5 rfl hr.units) (pv 1) (zm zw (pv 0) (zx rfl gBOXES) (λ_ _=>rfl)) rfl)
   (zf (zo xR))
   zF)
   (ze (zO (z9 (zX (zg Hc.ok (hr.mono ()) rfl Hc.bound Hc.kp Hc.bd .nil zr (za (pv 0) (za (pv 1) zb)))))
   (zf (zo (pv 1)))
   zF)
   (ze (yS PassesOwn.never rfl (zV (zm zw (zg Pa.ok (hr.mono ()) rfl Pa.bound Pa.kp Pa.bd .nil zr (za (pv 0) (za (pv 1) zb))) (zx rfl gPARTS) (λ_ _=>rfl))) (zt (i:=2) Xw.nd rfl (Or.inl rfl))
   (ze (zB (i:=3) Xw.nd rfl (Or.inl rfl) (zg Fi.ok hr rfl Fi.bound Fi.kp Fi.bd .nil zr (za (pv 0) (za (pv 2) zb))))
    (zf (zO (zI ZV (pv 3) xR rfl)
    (zf (zo (pv 3)))
    zF))))
   (zf (zo xR))))),?_⟩
  obtain⟨tb,us,hpg,htb,hB,h24⟩:=id hPG;obtain⟨as,e,eu,hE,hany⟩:=WB (K:=K) hB ha;subst eu;refine⟨_,rfl,_,rfl,_,_,_,_,rfl,rfl,SqT.of hpg,rfl,tb,as,e,1,rfl,htb.sq,⋯,hE,_,rfl,?_⟩;rw[hany];by_cases hp:p∈cs
  .rw[decide_eq_true hp];exact iteT (qN H (Same.refl _) (.box hp))
  rw[decide_eq_false hp];refine iteF ?_;refine z6 ?_;dsimp only;refine⟨_,rfl,_,rfl,pg,.ref a,W,G,cs,p,rfl,hPG,⟨a,rfl,ha⟩,T,PC,λc H1 S1 hc=>⟨_,rfl,?_⟩⟩;cases c with
  |false=>exact iteT ⟨_,rfl,qS _ p H1 S1 ⟨a,rfl,S1 _ _ ha⟩ (.stk hp λz=>by cases hc.mpr z)⟩
  |true =>
   have hcut:=hc.mp rfl;refine iteF ?_;refine z6 ?_;dsimp only;refine⟨_,rfl,_,rfl,pg,.ref a,W,G,cs,p,rfl,hPG.same S1,⟨a,rfl,S1 _ _ ha⟩,λtp l k vl ps H2 S2 htp hl hBp hPA=>?_⟩;have l1:=(qP T PC hPA).mpr hcut;have lb:=hBp.len;refine I_4 _ _ _ _ ⟨rfl,rfl,SqT.of htp,rfl,l,rfl,⟨_,SqL.of hl⟩,?_⟩;refine xp (K:=K) (a:=l) (xs:=vl) (λi σ H3=>∃(o2 o3:Option V),σ=[some (.ref pg),some (.ref a),o2,o3]/\Same H2 H3/\∀q∈ps.take i,Fs cs q none)
    ⟨none,none,rfl,Same.refl _,λq hq=>by simp at hq⟩ (λi σ H3 _ h9=>by obtain⟨_,_,_,S,_⟩:=h9;exact(SqL.of (S _ _ hl))) ?_ ?_
   .intro i v σ H3 hv h8;refine E_2 h8 λo2 o3 n8=>A_3 n8 λe9 S3 hpre=>?_;clear n8 h8;subst e9;obtain⟨q,hq,hbq⟩:=xG hBp hv;obtain⟨ok1,ok2,_,_⟩:=wb T PC hPA (ky hq);have few:=ok2 l1;have A3:=S1.trans (S2.trans S3);obtain⟨hil,ev⟩:=kf.mp hq;refine zJ ?_;dsimp only;refine⟨_,rfl,_,rfl,pg,v,W,G,cs,q,rfl,hPG.same A3,hbq.same S3,T,ok1,(),(),λH4 S4 hN=>?_,λx s H4 S4 hx hS=>?_⟩
    .refine zJ ?_;dsimp only;refine⟨_,rfl,rfl,_,rfl,iteF ⟨_,_,rfl,S3.trans S4,λq' hq'=>?_⟩⟩;rw[ur,hq]at hq';rcases k7.mp hq' with h|h
     .exact hpre q' h
     .rw[kq.mp (show q'∈[q]from h)];exact hN
    .refine zJ ?_;dsimp only;obtain⟨px,rfl,hpx⟩:=id hx;refine⟨_,rfl,rfl,_,rfl,iteT ⟨_,rfl,qS _ s H4 (A3.trans S4) hx (.cut hp hcut hPA ?_)⟩⟩;have es:ps=ps.take i++q::ps.drop (i+1):=by
      rw[<-ev,uS,vK]
     rw[es];exact FsL.pre hpre (.hit hS)
   .intro σ H3 h8;refine E_2 h8 λo2 o3 n8=>A_3 n8 λe9 S3 hpre=>?_;clear n8 h8;subst e9;rw[lb,kJ]at hpre;refine qN H3 (S1.trans (S2.trans S3)) (.cut hp hcut hPA ?_);have:=FsL.pre (cs:=cs) hpre .nil;rw[vh]at this;exact this
theorem zbg{f fH fP:Addr}{fd dH dP:FuncData}(F:Fun K "first_stuck" "first_stuck" sFst f fd)(gBOXES:GI mg "BOXES" 2)(gPARTS:GI mg "PARTS" 1)(Hc:Callee P w K mg base CX0 5 "has_cut" fH dH ["page","piece"] WA)(Pa:Callee P w K mg base CX0 4 "parted" fP dP ["page","piece"] jL)
  (bo:mg "first_stuck"=some (.ref f))(kp:um K (.ref f)=true)(bd:Binds K fd ["page","piece"] []):∀d,FnOk P w K mg base CX0 (d+6) f fd ["page","piece"] (ZM d)
 |0=>zed F
 |d+1=>zee F gBOXES gPARTS Hc Pa ⟨zbg F gBOXES gPARTS Hc Pa bo kp bd d,bo,kp,bd⟩
theorem zgm:zu ["page"] ["page"] (zl sWho):=by trivial
theorem zfx{f:Addr}{fd:FuncData}(F:Fun K "whole_of" "whole_of" sWho f fd)(gWIDE:GI mg "WIDE" 0)(gHIGH:GI mg "HIGH" 1):FnOk P w K mg base CX0 1 f fd ["page"] JE:=by
 refine F.ok zgm (λvs H Q E h=>?_) (λcdv A outer s H vs Q E hr h=>?_)
 .refine E_4 h λpg W G cs n8=>A_2 n8 λe9 _=>?_;clear n8 h;subst e9;rfl
 .refine E_4 h λpg W G cs n8=>A_3 n8 λe9 n90 q=>?_;clear n8 h;subst e9;obtain⟨tb,us,hpg,htb,hB,h24⟩:=n90;refine⟨_,(zf (zo (ye (za zk (za zk (za (zm zw (pv 0) (zx rfl gWIDE) (λ_ _=>rfl)) (za (zm zw (pv 0) (zx rfl gHIGH) (λ_ _=>rfl)) zb))))))),?_⟩;exact wN (v1:=.int 0) (v2:=.int 0) (v3:=.int W) (v4:=.int G) zC zC (zE (zh rfl) zC (SqT.of hpg) rfl) (zE (zh rfl) zC (SqT.of hpg) rfl) (λtq ntq=>q _ _ (zd ntq) ⟨tq,rfl,zc⟩)
theorem zgn:zu ["page"] ["page"] (zl sStk):=by trivial
theorem zfy{f fF fW:Addr}{fd dF dW:FuncData}(F:Fun K "stuck_piece" "stuck_piece" sStk f fd)(Fi:Callee P w K mg base CX0 30 "first_stuck" fF dF ["page","piece"] (ZM 24))(Wh:Callee P w K mg base CX0 1 "whole_of" fW dW ["page"] JE):FnOk P w K mg base CX0 31 f fd ["page"] JF:=by
 refine F.ok zgn (λvs H Q E h=>?_) (λcdv A outer s H vs Q E hr h=>?_)
 .refine E_4 h λpg W G cs n8=>A_2 n8 λe9 _=>?_;clear n8 h;subst e9;rfl
 .refine E_4 h λpg W G cs n8=>A_7 n8 λe9 hPG T hW hG qN qS=>?_;clear n8 h;subst e9;refine⟨_,(zf (zo (zg Fi.ok hr rfl Fi.bound Fi.kp Fi.bd .nil zr (za (pv 0) (za (zg Wh.ok (hr.mono ⋯) rfl Wh.bound Wh.kp Wh.bd .nil zr (za (pv 0) zb)) zb))))),?_⟩;have h24:cs.length<=24:=(let ⟨_,_,_,_,_,h⟩:=hPG;h);refine⟨_,rfl,_,rfl,pg,W,G,cs,rfl,hPG,λv H1 S1 hv=>?_⟩;exact I_6 pg v W G cs _ ⟨rfl,hPG.same S1,hv,T,xn T hW hG,kw (vA _ _) h24,km _,λH2 S2 h=>qN H2 (S1.trans S2) h,λx s H2 S2 hx h=>qS x s H2 (S1.trans S2) hx h⟩
end
mutual
inductive TrO(cs:List _Til.Bx):_Til.Bx->T->Prop where
 |leaf{p:_Til.Bx}{i:Nat}(h:cs[i]?=some p):TrO cs p (.int (i:Int))
 |node{p:_Til.Bx}{k:Str}{ps:List _Til.Bx}{ts:List T}(h:p∉cs)(hp:yE cs p k ps)(l:1<ps.length)(r:TrOL cs ps ts):TrO cs p (.tup [.str k,.tup ts])
inductive TrOL(cs:List _Til.Bx):List _Til.Bx->List T->Prop where
 |nil:TrOL cs [] []
 |cons{q:_Til.Bx}{t:T}{ps:List _Til.Bx}{ts:List T}(h:TrO cs q t)(r:TrOL cs ps ts):TrOL cs (q::ps) (t::ts)
end
theorem TrOL.len{cs:List _Til.Bx}:∀{ps:List _Til.Bx}{ts:List T},TrOL cs ps ts->ts.length=ps.length
 |_,_,.nil=>rfl
 |_,_,.cons _ r=>by rw[kG,kG,r.len]
theorem TrOL.snoc{cs:List _Til.Bx}:∀{ps:List _Til.Bx}{ts:List T}{q:_Til.Bx}{t:T},TrOL cs ps ts->TrO cs q t->TrOL cs (ps++[q]) (ts++[t])
 |_,_,_,_,.nil,h=>.cons h .nil
 |_,_,_,_,.cons a r,h=>.cons a (TrOL.snoc r h)
theorem AtL.snoc'{H:Hp}{vs:List V}{ts:List T}{v:V}{t:T}(h:AtL H vs ts)(g:At H v t):AtL H (vs++[v]) (ts++[t]):=h.app (.cons g .nil)
theorem zbh{α:Type}(e:α->Bool):∀(l:List α),l.any e=true->∃j:Nat,l[j]?.map e=some true/\∀m,m<j->l[m]?.map e=some false
 |[],h=>by cases h
 |a::r,h=>by
  cases z:e a with
  |true=>exact⟨0,by simp[z],λm hm=>absurd hm (bj _)⟩
  |false =>
   rw[List.any_cons,z,Bool.false_or]at h;obtain⟨j,h1,h2⟩:=zbh e r h;refine⟨j+1,by simpa using h1,λm hm=>?_⟩;cases m with
   |zero=>simp[z]
   |succ m=>simpa using h2 m ()
theorem Qv{K:PySem.W.Frag}{H:Hp}{us:List V}{cs:List _Til.Bx}{a:Addr}{p:_Til.Bx}(hB:zM H us cs)(ha:H a=some (.tup (bxV p)))(hp:p∈cs):∃(as:List Addr)(e:Addr->Bool)(j:Nat),us=as.map V.ref/\(∀b∈as,EqR K H 1 (.ref b) (.ref a) (e b))/\as[j]?.map e=some true/\(∀m,m<j->as[m]?.map e=some false)/\cs[j]?=some p:=by
 classical
 obtain⟨as,rfl,l,h⟩:=qQ hB;have inj:∀c:_Til.Bx,(some (HO.tup (bxV c))=some (HO.tup (bxV p)))->c=p:=λc z=>by
  injection z with z;injection z with z;unfold bxV at z;simp only[List.cons.injEq,V.int.injEq,and_true]at z;obtain⟨z1,z2,z3,z4⟩:=z;cases c;cases p;simp only[Bx.mk.injEq];exact⟨z1,z2,z3,z4⟩
 have at_:∀i b,as[i]?=some b->∃c,cs[i]?=some c/\H b=some (.tup (bxV c)):=λi b hb=>by
  obtain⟨hi,_⟩:=kf.mp hb;exact⟨cs[i]'(),kc (),h i b _ hb (kc ())⟩
 have any:as.any (λb=>decide (H b=some (.tup (bxV p))))=true:=by
  rw[uJ];obtain⟨i,hi,e⟩:=vg.mp hp;refine⟨as[i]'(),vv _,?_⟩;rw[decide_eq_true_eq];exact h i _ _ (kc ()) (by rw[kc hi,e])
 obtain⟨j,h1,h2⟩:=zbh _ as any;refine⟨as,λb=>decide (H b=some (.tup (bxV p))),j,rfl,λb hb=>?_,h1,h2,?_⟩
 .obtain⟨i,hi,e⟩:=vg.mp hb;obtain⟨c,_,hc⟩:=at_ i b (by rw[kc hi,e]);have z:=zcZ (K:=K) hc ha;have e:decide (c=p)=decide (H b=some (.tup (bxV p))):=by
   rw[vn,decide_eq_true_eq,decide_eq_true_eq,hc];exact⟨λz=>by rw[z],inj c⟩
  show EqR K H 1 (.ref b) (.ref a) (decide (H b=some (.tup (bxV p))));rw[<-e];exact z
 .cases eb:as[j]? with
  |none=>rw[eb]at h1;cases h1
  |some b =>
   rw[eb]at h1;have h1:decide (H b=some (.tup (bxV p)))=true:=Option.some.inj h1;rw[decide_eq_true_eq]at h1;obtain⟨c,hc,hb⟩:=at_ j b eb;rw[hb]at h1;rw[hc,inj c h1]
def ZN(d:Nat):Sp:=λvs H Q _=>∃(pg:Addr)(u:V)(W G:Int)(cs:List _Til.Bx)(p:_Til.Bx),vs=[.ref pg,u]/\xf H pg W G cs/\yt H u p/\zS cs W G/\Piece cs p/\(cs.filter (wthn p)).length<=d/\d<=24/\Fs cs p none /\
 ∀(v:V)(t:T)(H':Hp),Same H H'->At H' v t->TrO cs p t->Q v H'
def zc3:Sp:=λvs H Q _=>∃(pg:Addr)(W G:Int)(cs:List _Til.Bx),vs=[.ref pg]/\xf H pg W G cs/\zS cs W G/\0<W/\0<G /\
 (∀(s:_Til.Bx)(H':Hp),Same H H'->Fs cs ⟨0,0,W,G⟩ (some s)->Q (.str "stuck") H')/\∀(v:V)(t:T)(H':Hp),Same H H'->Fs cs ⟨0,0,W,G⟩ none->At H' v t->TrO cs ⟨0,0,W,G⟩ t->Q v H'
section
variable{P:Program}{w:World}{K:PySem.W.Frag}{mg:Str->Option Value}{base:Heap}
theorem JG:zu ["page","piece","cut"] ["page","piece"] (zl sTop):=by trivial
theorem zef{f:Addr}{fd:FuncData}(F:Fun K "tree_of_piece" "tree_of_piece" sTop f fd):FnOk P w K mg base CX0 5 f fd ["page","piece"] (ZN 0):=by
 refine F.ok JG (λvs H Q E h=>?_) (λcdv A outer s H vs Q E hr h=>?_)
 .refine E_6 h λpg u W G cs p n8=>A_2 n8 λe9 _=>?_;clear n8 h;subst e9;rfl
 .refine E_6 h λpg u W G cs p n8=>A_7 n8 λe9 _ _ _ PC h0 _=>?_;clear n8 h;subst e9;have:=Qu PC;omega
theorem zeg{f fP:Addr}{fd dP:FuncData}{d:Nat}(F:Fun K "tree_of_piece" "tree_of_piece" sTop f fd)(gBOXES:GI mg "BOXES" 2)(gKIND:GI mg "KIND" 0)(gPARTS:GI mg "PARTS" 1)(ttup:mg "tuple"=none)(Pa:Callee P w K mg base CX0 4 "parted" fP dP ["page","piece"] jL)
  (Tp:Callee P w K mg base CX0 (d+5) "tree_of_piece" f fd ["page","piece"] (ZN d)):FnOk P w K mg base CX0 (d+6) f fd ["page","piece"] (ZN (d+1)):=by
 refine F.ok JG (λvs H Q E h=>?_) (λcdv A outer s H vs Q E hr h=>?_)
 .refine E_6 h λpg u W G cs p n8=>A_2 n8 λe9 _=>?_;clear n8 h;subst e9;rfl
 .refine E_6 h λpg u W G cs p n8=>A_9 n8 λe9 hPG n91 T PC hle hd hF q=>?_;clear n8 h;subst e9;obtain⟨a,rfl,ha⟩:=n91;refine⟨_,(ze (zO (zI (za5 rfl hr.units) (pv 1) (zm zw (pv 0) (zx rfl gBOXES) (λ_ _=>rfl)) rfl)
   (zf (zo (zfi PySem.F.slot_tuple_index PySem.F.type_tuple_index (za4 (K:=K) rfl hr.units) (zm zw (pv 0) (zx rfl gBOXES) (λ_ _=>rfl)) (za (pv 1) zb))))
   zF)
   (ze (zB (i:=2) JG.nd rfl (Or.inl rfl) (zg Pa.ok (hr.mono ()) rfl Pa.bound Pa.kp Pa.bd .nil zr (za (pv 0) (za (pv 1) zb))))
   (zf (zo (ye (za (zm zw (pv 2) (zx rfl gKIND) (λ_ _=>rfl)) (za (xM wu rfl ttup vx (za (zQ (Nc:=["part","page"]) (ix:=[none,some 0]) rfl rfl (by refine' zV ?zz;case zz=>exact(zm zw (pv 2) (zx rfl gPARTS) (λ_ _=>rfl))) (λ_ _ _ _ _=>(zt (i:=0) (by show(["part","page"]:List Str).Nodup;decide +kernel) rfl (Or.inl rfl))) (λ_ _ _ _ _=>zP) (λ_ _ _ _ _=>(zg Tp.ok hr rfl Tp.bound Tp.kp Tp.bd .nil zr (za (pv 1) (za (pv 0) zb))))) zb)) zb))))))),?_⟩
  obtain⟨tb,us,hpg,htb,hB,h24⟩:=id hPG;obtain⟨as,e,eu,hE,hany⟩:=WB (K:=K) hB ha;refine⟨_,rfl,_,rfl,_,_,_,_,rfl,rfl,SqT.of hpg,rfl,tb,as,e,1,rfl,by rw[<-eu];exact htb.sq,⋯,hE,_,rfl,?_⟩;rw[hany];by_cases hp:p∈cs
  .rw[decide_eq_true hp];obtain⟨as2,e2,j,eu2,hE2,j1,j2,ej⟩:=Qv (K:=K) hB ha hp;exact iteT ⟨_,rfl,_,_,_,_,rfl,rfl,SqT.of hpg,rfl,⟨_,_,rfl,htb⟩,_,rfl,tb,as2,_,e2,1,j,rfl,rfl,by rw[<-eu2];exact htb.sq,⋯,hE2,j1,j2,q _ (.int j) H (Same.refl _) (.int _) (.leaf ej)⟩
  rw[decide_eq_false hp];refine iteF ?_;refine z6 ?_;dsimp only;obtain⟨k0,ps0,hPA0,hFL⟩:∃k0 ps0,yE cs p k0 ps0/\FsL cs ps0 none:=by
   cases hF with
   |box h=>exact absurd h hp
   |cut _ _ hp2 r=>exact⟨_,_,hp2,r⟩
  have hcut:xU cs p:=by
   cases hF with
   |box h=>exact absurd h hp
   |cut _ c _ _=>exact c
  refine⟨_,rfl,_,rfl,pg,.ref a,W,G,cs,p,rfl,hPG,⟨a,rfl,ha⟩,λtp l k vl ps H2 S2 htp hl hBp hPA=>?_⟩;obtain⟨_,eps⟩:=hPA.uniq hPA0;subst eps;have l1:=(qP T PC hPA).mpr hcut;have lb:=hBp.len;have l48:=hPA.len;have all:=hFL.all;refine zJ ?_;dsimp only;refine⟨_,rfl,_,_,_,_,rfl,rfl,SqT.of htp,rfl,_,rfl,_,_,_,_,rfl,rfl,SqT.of htp,rfl,l,rfl,⟨_,SqL.of hl⟩,zZ (K:=K) (a:=l) (xs:=vl) (λi ys σ H3=>(∃o,σ=[o,some (.ref pg)])/\Same H2 H3/\∃ts,AtL H3 ys ts/\TrOL cs (ps.take i) ts)
   ⟨⟨none,rfl⟩,Same.refl _,[],.nil,.nil⟩ (λi ys σ H3 hi ⟨_,S,ts,hA,hT⟩=>⟨?_,SqL.of (S _ _ hl)⟩) ?_ ?_⟩
  .have:=hA.len;have:=hT.len;rw[kQ]at this;exact kw (show _<=1000 by lia) ⋯
  .rintro ys σ H3 ⟨_,S3,ts,hA,hT⟩ la nla;rw[lb,kJ]at hT;have S4:=zd (o:=.lst ys) nla;have h4:upd H3 la (.lst ys) la=some (.lst ys):=zc;have hA:=hA.same S4;generalize upd H3 la (.lst ys)=H4 at S4 h4 hA;refine⟨la,ys,rfl,.inl ⟨SqL.of h4,λtq ntq=>⟨Zz2,λtr ntr=>?_⟩⟩⟩;have S5:=zd (o:=.tup ys) ntq;have h5:upd H4 tq (.tup ys) tq=some (.tup ys):=zc;generalize upd H4 tq (.tup ys)=H5 at S5 h5 ntr;have S6:=zd (o:=.tup [.str k,.ref tq]) ntr;exact q _ (.tup [.str k,.tup ts]) _ (S2.trans (S3.trans (S4.trans (S5.trans S6)))) (.tup zc (.cons (.str _) (.cons (.tup (S6 _ _ h5) (hA.same (S5.trans S6))) .nil))) (.node hp hPA l1 hT)
  .rintro i x ys σ H3 hx ⟨⟨o,rfl⟩,S3,ts,hA,hT⟩;obtain⟨b,hb,hbx⟩:=xG hBp hx;have hm:=ky hb;obtain⟨ok1,ok2,_,_⟩:=wb T PC hPA hm;have few:=ok2 l1;dsimp only[zU,tYes];refine iteT ?_;refine⟨_,rfl,_,rfl,pg,x,W,G,cs,b,rfl,hPG.same (S2.trans S3),hbx.same S3,T,ok1,(),(),all b hm,λv t H4 S4 hv ht=>⟨⟨_,rfl⟩,S3.trans S4,ts++[t],AtL.snoc' (hA.same S4) hv,?_⟩⟩;rw[ur,hb];exact hT.snoc ht
theorem zbi{f fP:Addr}{fd dP:FuncData}(F:Fun K "tree_of_piece" "tree_of_piece" sTop f fd)(gBOXES:GI mg "BOXES" 2)(gKIND:GI mg "KIND" 0)(gPARTS:GI mg "PARTS" 1)(ttup:mg "tuple"=none)(Pa:Callee P w K mg base CX0 4 "parted" fP dP ["page","piece"] jL)
  (bo:mg "tree_of_piece"=some (.ref f))(kp:um K (.ref f)=true)(bd:Binds K fd ["page","piece"] []):∀d,FnOk P w K mg base CX0 (d+5) f fd ["page","piece"] (ZN d)
 |0=>zef F
 |d+1=>zeg F gBOXES gKIND gPARTS ttup Pa ⟨zbi F gBOXES gKIND gPARTS ttup Pa bo kp bd d,bo,kp,bd⟩
theorem zgo:zu ["page"] ["page"] (zl sTof):=by trivial
theorem zfz{f fS fT fW:Addr}{fd dS dT dW:FuncData}(F:Fun K "tree_of" "tree_of" sTof f fd)(gSTUCK:GS mg "STUCK" "stuck")(Sk:Callee P w K mg base CX0 31 "stuck_piece" fS dS ["page"] JF)(Tp:Callee P w K mg base CX0 29 "tree_of_piece" fT dT ["page","piece"] (ZN 24))(Wh:Callee P w K mg base CX0 1 "whole_of" fW dW ["page"] JE):FnOk P w K mg base CX0 32 f fd ["page"] zc3:=by
 refine F.ok zgo (λvs H Q E h=>?_) (λcdv A outer s H vs Q E hr h=>?_)
 .refine E_4 h λpg W G cs n8=>A_2 n8 λe9 _=>?_;clear n8 h;subst e9;rfl
 .refine E_4 h λpg W G cs n8=>A_7 n8 λe9 hPG T hW hG qS qT=>?_;clear n8 h;subst e9;refine⟨_,(ze (zO (zI ZV (zg Sk.ok (hr.mono (show 31<=31 by decide)) rfl Sk.bound Sk.kp Sk.bd .nil zr (za (pv 0) zb)) xR rfl)
   (zf (zo (Jz rfl gSTUCK)))
   zF)
   (zf (zo (zg Tp.ok (hr.mono ⋯) rfl Tp.bound Tp.kp Tp.bd .nil zr (za (pv 0) (za (zg Wh.ok (hr.mono ⋯) rfl Wh.bound Wh.kp Wh.bd .nil zr (za (pv 0) zb)) zb)))))),?_⟩
  have h24:cs.length<=24:=(let ⟨_,_,_,_,_,h⟩:=hPG;h);refine⟨_,rfl,pg,W,G,cs,rfl,hPG,T,hW,hG,λH1 S1 hF=>?_,λv s H1 S1 hv hF=>?_⟩
  .refine⟨rfl,_,rfl,iteF ?_⟩;refine z6 ?_;dsimp only;refine⟨_,rfl,_,rfl,pg,W,G,cs,rfl,hPG.same S1,λv H2 S2 hv=>?_⟩;exact I_6 pg v W G cs _ ⟨rfl,hPG.same (S1.trans S2),hv,T,xn T hW hG,kw (vA _ _) h24,km _,hF,λx t H3 S3 hx ht=>qT x t H3 (S1.trans (S2.trans S3)) hF hx ht⟩
  .obtain⟨px,rfl,hpx⟩:=id hv;exact⟨rfl,_,rfl,iteT (qS s H1 S1 hF)⟩
end
def bx(cs:List _Til.Bx)(i:Nat):_Til.Bx:=cs.getD i ⟨0,0,1,1⟩
def ixs(cs:List _Til.Bx)(p:_Til.Bx):List Nat:=(kR cs.length).filter λi=>wthn p (bx cs i)
theorem wU{cs:List _Til.Bx}{i:Nat}(h:i<cs.length):bx cs i∈cs/\cs[i]?=some (bx cs i):=by
 unfold bx;rw[kP,kc h];exact⟨vv h,rfl⟩
theorem zgp{cs:List _Til.Bx}{W G:Int}(T:zS cs W G)(i:Nat):(bx cs i).l<(bx cs i).r/\(bx cs i).t<(bx cs i).b:=by
 by_cases h:i<cs.length
 .have o:=T.wf _ (wU h).1;exact⟨o.h1,o.v1⟩
 .unfold bx;rw[kP,vY ()];exact⟨⋯,⋯⟩
theorem wH:∀{us:List Int},us.Pairwise (· < ·)->∀{e:Int},e∈us->us.headD 0<=e/\e<=us.getLastD 0
 |[a],_,e,h=>by rw[kq.mp h];exact⟨kX _,kX _⟩
 |a::b::r,up,e,h=>by
  obtain⟨u1,u2⟩:=vf.mp up;have l:(a::b::r).getLastD 0=(b::r).getLastD 0:=by simp[List.getLastD]
  rw[l];have hb:=wH u2 (e:=b) kg;have ab:=u1 b kg;rcases kK.mp h with z|z
  .rw[z];exact⟨kX _,()⟩
  .have:=wH u2 z;have:=u1 e z;exact⟨by show a<=e;lia,()⟩
section
variable{cs:List _Til.Bx}{p:_Til.Bx}{W G:Int}
theorem Yn{i:Nat}:i∈ixs cs p↔i<cs.length/\wthn p (bx cs i)=true:=by
 unfold ixs;rw[vD,vp]
theorem Xe(T:zS cs W G)(P:Piece cs p){us:List Int}(up:us.Pairwise (· < ·))(mem:∀e,e∈us↔e=p.l\/e=p.r\/CutX cs p e)(l:2<=us.length):((pcs p us).map (ixs cs)).flatten.Perm (ixs cs p):=by
 have h:=jz (λi=>(bx cs i).l) (λi=>(bx cs i).r) (λi=>(zgp T i).1) us (ixs cs p) up l (λe he i hi=>by
  obtain⟨h1,h2⟩:=Yn.mp hi;exact Yl mem he _ (wU h1).1 h2) (λi hi=>by
  obtain⟨h1,h2⟩:=Yn.mp hi;have j:=zG.mp h2;have e1:=(wH up ((mem p.l).mpr (.inl rfl))).1;have e2:=(wH up ((mem p.r).mpr (.inr (.inl rfl)))).2;exact⟨(),()⟩)
 refine List.Perm.trans (List.Perm.of_eq ?_) h;unfold pcs;rw[vm];congr 1;refine uv λq hq=>?_;obtain⟨x,y⟩:=q;obtain⟨m1,m2,lt,_⟩:=qU up hq;have r1:=xv P mem m1;have r2:=xv P mem m2;show ixs cs (prt p x y)=(ixs cs p).filter _;unfold ixs;rw[List.filter_filter];refine uW λi _=>?_;rw[vn,xQ r1.1 r2.2];simp only[vi,decide_eq_true_eq];exact⟨λz=>⟨z.2,z.1⟩,λz=>⟨z.2,z.1⟩⟩
theorem zfA(i:Nat)(h:i<cs.length):bx (cs.map flp) i=flp (bx cs i):=by
 unfold bx;rw[kP,kM,kc h,kP,kc h];rfl
theorem Qw(q:_Til.Bx):ixs (cs.map flp) q=ixs cs (flp q):=by
 unfold ixs;rw[ke];refine uW λi hi=>?_;rw[zfA i (vp.mp hi)];have:=x9 (flp q) (bx cs i);exact this
theorem zbj(T:zS cs W G)(P:Piece cs p){k:Str}{ps:List _Til.Bx}(h:yE cs p k ps)(l:1<ps.length):(ps.map (ixs cs)).flatten.Perm (ixs cs p):=by
 obtain⟨ms,E,h⟩:=h;rcases h with⟨rfl,rfl,l1⟩|⟨rfl,l1,ns,E2,rfl⟩
 .obtain⟨up,mem⟩:=Ym T P E;rw[xC]at l1;exact Xe T P up mem (by omega)
 .obtain⟨up,mem⟩:=Zg T P E2;rw[ke,xC]at l;have z:=Xe (qa T) P.flp up mem (by omega);rw[Qw]at z;refine List.Perm.trans (List.Perm.of_eq ?_) z;rw[vm];congr 1;exact uv λq _=>(Qw q).symm
theorem zeh(T:zS cs W G){i:Nat}(h:cs[i]?=some p):ixs cs p=[i]:=by
 obtain⟨hi,e⟩:=kf.mp h;have hp:p∈cs:=ky h;have o:=T.wf p hp;have P:Piece cs p:=⟨o.h1,o.v1,λx y a b c d=>⟨p,hp,zG.mpr ⟨kX _,kX _,kX _,kX _⟩,z8.mpr ⟨a,b,c,d⟩⟩⟩;have self:wthn p p=true:=zG.mpr ⟨kX _,kX _,kX _,kX _⟩;have only:∀j,j∈ixs cs p↔j=i:=λj=>by
  rw[Yn];constructor
  .rintro⟨h1,h2⟩;have:=(YX T P).mp hp _ (wU h1).1 _ hp h2 self;have e2:=(wU h1).2;rw[this]at e2;obtain⟨h3,e3⟩:=kf.mp e2;exact(List.getElem_inj (WZ T)).mp (e3.trans e.symm)
  .rintro rfl;have:=(wU hi).2;rw[h]at this;rw[<-Option.some.inj this];exact⟨hi,self⟩
 have nd:(ixs cs p).Nodup:=List.nodup_range.filter _
 match e:ixs cs p,only,nd with
 |[],only,_=>cases (only i).mpr rfl
 |[a],only,_=>rw[(only a).mp kg]
 |a::b::r,only,nd =>
  have e1:=(only a).mp kg;have e2:=(only b).mp (kn _ kg);rw[ug]at nd;exact absurd (by rw[e1,<-e2];exact kg) nd.1
end
def CutK(cs:List _Til.Bx)(q:_Til.Bx)(k:Str):Prop:=(k = "|" /\ ∃e,CutX cs q e)\/(k = "-" /\ ∃e,CutX (cs.map flp) (flp q) e)
mutual
theorem TrO.good{cs:List _Til.Bx}{W G:Int}(T:zS cs W G):∀{p:_Til.Bx}{t:_Tre.T},TrO cs p t->Piece cs p->∃n,Good t n/\n.Perm ((ixs cs p).map λi:Nat=>(i:Int))/\∀k,HasK t k->CutK cs p k
 |_,_,.leaf (i:=i) h,P=>⟨[(i:Int)],.leaf _,by rw[zeh T h];exact .refl _,λk hk=>by obtain⟨q,e⟩:=hk;cases e⟩
 |p,_,.node (k:=k) (ps:=ps) (ts:=ts) h hp l r,P=>by
  obtain⟨nss,g,pm,hk⟩:=TrOL.good T r (λq hq=>(wb T P hp hq).1);have nk:("|" : Str) ≠ "-" := (Ne.symm x8);have ik:isK k:=by
   obtain⟨ms,E,z⟩:=hp;rcases z with⟨z,_⟩|⟨z,_⟩
   .exact .inl z
   .exact .inr z
  have ln:=r.len;refine⟨nss.flatten,.node ik () (λt ht z=>?_) g,pm.trans ((zbj T P hp l).map _),λk' hk'=>?_⟩
  .obtain⟨q,hq,cq⟩:=hk t ht k z;obtain⟨_,_,n1,n2⟩:=wb T P hp hq;rcases cq with⟨e,c⟩|⟨e,c⟩
   .exact n1 e c
   .exact n2 e c
  .obtain⟨q,e⟩:=hk';injection e with e;injection e with e1 e2;injection e1 with e1;subst e1;obtain⟨ms,E,z⟩:=hp;rcases z with⟨rfl,rfl,l1⟩|⟨rfl,l1,ns,E2,rfl⟩
   .exact .inl ⟨rfl,(Wz T P E).mp l1⟩
   .rw[ke]at l;exact .inr ⟨rfl,(Qq T P E2).mp l⟩
theorem TrOL.good{cs:List _Til.Bx}{W G:Int}(T:zS cs W G):∀{ps:List _Til.Bx}{ts:List _Tre.T},TrOL cs ps ts->(∀q∈ps,Piece cs q)->∃nss,zL ts nss/\nss.flatten.Perm ((ps.map (ixs cs)).flatten.map λi:Nat=>(i:Int))/\∀t∈ts,∀k,HasK t k->∃q∈ps,CutK cs q k
 |_,_,.nil,_=>⟨[],.nil,.refl _,λt ht=>by cases ht⟩
 |_,_,.cons (q:=q) h r,P=>by
  obtain⟨n,g,pm,hk⟩:=TrO.good T h (P _ kg);obtain⟨nss,gs,pms,hks⟩:=TrOL.good T r (λq hq=>P q (kn _ hq));refine⟨n::nss,.cons g gs,?_,λt ht k z=>?_⟩
  .rw[k5,kY,k5,kF];exact pm.append pms
  .rcases kK.mp ht with e|e
   .subst e;exact⟨q,kg,hk k z⟩
   .obtain⟨q',hq',c⟩:=hks t e k z;exact⟨q',kn _ hq',c⟩
end
theorem JH{cs:List _Til.Bx}{W G:Int}(T:zS cs W G)(hW:0<W)(hG:0<G)(h24:cs.length<=24){t:_Tre.T}(h:TrO cs ⟨0,0,W,G⟩ t):wm t/\sz t+3<=96:=by
 obtain⟨n,g,pm,_⟩:=h.good T (xn T hW hG);have all:ixs cs ⟨0,0,W,G⟩=kR cs.length:=by
  unfold ixs;refine bN.mpr λi hi=>?_;have o:=T.wf _ (wU (vp.mp hi)).1;exact zG.mpr ⟨o.h0,o.h2,o.v0,o.v2⟩
 rw[all]at pm;have ln:=pm.length_eq;rw[ke,vq]at ln;have:=g.szN;refine⟨⟨n,g,(),?_⟩,()⟩;rw[ln];exact pm
end _JN
namespace _Lin
def nar(wide:Int):List W->List W
 |[]=>[]
 |w::r=>if(w.length:Int)<=wide then w::nar wide r else []
def fit(wide:Int):Int->List W->Nat
 |_,[]=>0
 |u,w::r=>if u+1+w.length<=wide then fit wide (u+1+w.length) r+1 else 0
def lns(wide:Int):Nat->List W->List (List W)
 |0,_=>[]
 |h+1,ws=>if fit wide (-1) ws=0 then []else ws.take (fit wide (-1) ws)::lns wide h (ws.drop (fit wide (-1) ws))
def used(wide:Int)(h:Nat)(ws:List W):Nat:=(lns wide h ws).flatten.length
theorem fit_le{wide:Int}:∀{u:Int}{ws:List W},fit wide u ws<=ws.length
 |_,[]=>km _
 |u,w::r=>by
  unfold fit;split
  .exact vw fit_le
  .exact kN _
theorem Qx{wide:Int}:∀{ws:List W},(∀w∈ws,(w.length:Int)<=wide)->nar wide ws=ws
 |[],_=>rfl
 |w::r,h=>by
  unfold nar;rw[if_pos (h w kg),Qx λv hv=>h v (kn _ hv)]
theorem WF{wide:Int}:∀{ws:List W}{k:Nat},(∀w∈ws.take k,(w.length:Int)<=wide)->(∀w,ws[k]?=some w->wide<(w.length:Int))->nar wide ws=ws.take k
 |[],k,_,_=>by rw[List.take_nil];rfl
 |w::r,0,_,h=>by
  unfold nar;rw[if_neg (by have:=h w rfl;lia)];rfl
 |w::r,k+1,h1,h2=>by
  unfold nar;rw[if_pos (h1 w (by rw[uf];exact kg)),uf,WF (k:=k) (λv hv=>h1 v (by rw[uf];exact kn _ hv)) (λv hv=>h2 v hv)]
theorem qV(wide:Int):∀(ws:List W)(R:List (List W))(g:List W),ws.foldl (putG wide) (R++[g])=R++ws.foldl (putG wide) [g]
 |[],R,g=>rfl
 |w::r,R,g=>by
  show r.foldl (putG wide) (putG wide (R++[g]) w)=R++r.foldl (putG wide) (putG wide [g] w);have e:=yH wide [] g w;rw[uh,uh]at e;rw[yH,e];split
  .exact qV wide r R (g++[w])
  .rw[qV wide r (R++[g]) [w],qV wide r [g] [w],ud]
theorem Xf(wide:Int):∀(ws:List W)(g:List W),g≠[] ->
  (nar wide ws).foldl (putG wide) [g]=(g++ws.take (fit wide ((glue g).length:Int) ws))::grp wide (nar wide (ws.drop (fit wide ((glue g).length:Int) ws)))
 |[],g,_=>by
  show [g]=[g++[]];rw[vh]
 |w::r,g,hg=>by
  by_cases c:((glue g).length:Int)+1+w.length<=wide
  .have ef:fit wide ((glue g).length:Int) (w::r)=fit wide ((glue (g++[w])).length:Int) r+1:=by
    conv=>lhs;unfold fit
    rw[if_pos c,jf _ _ hg,kt,kG];congr 2
    lia
   have en:nar wide (w::r)=w::nar wide r:=by
    conv=>lhs;unfold nar
    rw[if_pos ()]
   have e:=yH wide [] g w;rw[uh,uh,if_pos c]at e;rw[en,ef,uf,List.drop_succ_cons];show(nar wide r).foldl (putG wide) (putG wide [g] w)=_;rw[e,Xf wide r (g++[w]) (by simp),ud];rfl
  .have ef:fit wide ((glue g).length:Int) (w::r)=0:=by
    conv=>lhs;unfold fit
    rw[if_neg c]
   rw[ef,List.take_zero,uK,vh];by_cases d:(w.length:Int)<=wide
   .have en:nar wide (w::r)=w::nar wide r:=by
     conv=>lhs;unfold nar
     rw[if_pos d]
    have e:=yH wide [] g w;rw[uh,uh,if_neg c]at e;rw[en];show(nar wide r).foldl (putG wide) (putG wide [g] w)=g::(nar wide r).foldl (putG wide) [[w]];rw[e,qV];rfl
   .have en:nar wide (w::r)=[]:=by
     conv=>lhs;unfold nar
     rw[if_neg d]
    rw[en];rfl
theorem zct{wide:Int}:∀{ws:List W},fit wide (-1) ws≠0->grp wide (nar wide ws)=ws.take (fit wide (-1) ws)::grp wide (nar wide (ws.drop (fit wide (-1) ws)))
 |[],h=>absurd rfl h
 |w::r,h=>by
  have c:(w.length:Int)<=wide:=by
   apply Classical.byContradiction;intro z;apply h;unfold fit;rw[if_neg ()]
  have ef:fit wide (-1) (w::r)=fit wide ((glue [w]).length:Int) r+1:=by
   conv=>lhs;unfold fit
   rw[if_pos ()];congr 2;show(-1:Int)+1+(w.length:Int)=(w.length:Int)
   lia
  have en:nar wide (w::r)=w::nar wide r:=by
   conv=>lhs;unfold nar
   rw[if_pos c]
  rw[en,ef,uf,List.drop_succ_cons];show(nar wide r).foldl (putG wide) [[w]]=_;rw[Xf wide r [w] (by simp)];rfl
theorem zei{wide:Int}:∀{ws:List W},fit wide (-1) ws=0->nar wide ws=[]
 |[],_=>rfl
 |w::r,h=>by
  unfold nar;rw[if_neg];intro z;unfold fit at h;rw[if_pos ()]at h;exact absurd h (Nat.succ_ne_zero _)
theorem zbk{wide:Int}:∀(h:Nat)(ws:List W),(grp wide (nar wide ws)).take h=lns wide h ws
 |0,ws=>rfl
 |h+1,ws=>by
  unfold lns;split
  .rename_i z;rw[zei z];rfl
  .rename_i z;rw[zct z,uf,zbk h]
theorem jA(wide:Int)(h:Nat)(ws:List W):(taken wide (nar wide ws)).take h=(lns wide h ws).map glue:=by
 rw[<-zbk,List.map_take,qC]
theorem zbl{wide:Int}:∀{h:Nat}{ws:List W},∀g∈lns wide h ws,g≠[]
 |0,_,g,hg=>(k6 hg).elim
 |h+1,ws,g,hg=>by
  unfold lns at hg;split at hg
  .exact(k6 hg).elim
  .rename_i z;rcases kK.mp hg with e|e
   .rw[e];intro y;have:=congrArg List.length y;rw[kQ,bp]at this;have:=fit_le (wide:=wide) (u := -1) (ws:=ws)
    lia
   .exact zbl g e
theorem wq(wide:Int)(h:Nat)(ws:List W):used wide (h+1) ws=fit wide (-1) ws+used wide h (ws.drop (fit wide (-1) ws)):=by
 conv=>lhs;unfold used lns
 split
 .rename_i z;rw[z,uK];have:lns wide h ws=[]:=by
   cases h with
   |zero=>rfl
   |succ h=>unfold lns;rw[if_pos z]
  unfold used;rw[this];rfl
 .rw[k5,kt,kQ,Nat.min_eq_left fit_le];rfl
theorem Qy{wide:Int}:∀{h:Nat}{ws:List W},used wide h ws<=ws.length
 |0,_=>kN _
 |h+1,ws=>by
  rw[wq];have:=Qy (wide:=wide) (h:=h) (ws:=ws.drop (fit wide (-1) ws));have:=fit_le (wide:=wide) (u := -1) (ws:=ws);rw[vk]at *;omega
theorem zbm{wide:Int}{h:Nat}{ws:List W}(z:fit wide (-1) ws=0):used wide h ws=0:=by
 cases h with
 |zero=>rfl
 |succ h=>unfold used lns;rw[if_pos z];rfl
theorem jB{wide:Int}:∀{h:Nat}{ws:List W},used wide h ws<=used wide (h+1) ws
 |0,_=>kN _
 |h+1,ws=>by
  rw[wq,wq (h:=h+1)];exact Nat.add_le_add_left jB _
theorem WG{wide:Int}:∀{h:Nat}{ws:List W},(lns wide h ws).flatten=ws.take (used wide h ws)
 |0,ws=>rfl
 |h+1,ws=>by
  rw[wq]
  conv=>lhs;unfold lns
  split
  .rename_i z;rw[z,uK,zbm z];rfl
  .rw[k5,WG,List.take_add]
def sl:List W->Int
 |[]=>0
 |w::r=>(w.length:Int)+1+sl r
theorem JI:∀g:List W,0<=sl g
 |[]=>kX _
 |w::r=>by
  have:=JI r;show 0<=(w.length:Int)+1+sl r
  lia
theorem zbn:∀a b:List W,sl (a++b)=sl a+sl b
 |[],b=>by
  show sl b=0+sl b
  lia
 |w::r,b=>by
  show(w.length:Int)+1+sl (r++b)=(w.length:Int)+1+sl r+sl b;rw[zbn r b]
  lia
theorem Qz:∀g:List W,g≠[]->((glue g).length:Int)=sl g-1
 |[],h=>absurd rfl h
 |[a],_=>by
  show(a.length:Int)=(a.length:Int)+1+0-1
  lia
 |a::b::r,_=>by
  have ih:=Qz (b::r) (by simp);show((a++32::glue (b::r)).length:Int)=(a.length:Int)+1+sl (b::r)-1;rw[kt,kG]
  lia
theorem zbo{wide:Int}:∀(g r:List W)(u:Int),u+sl g<=wide->g.length<=fit wide u (g++r)
 |[],_,_,_=>kN _
 |w::g,r,u,h=>by
  have n:=JI g;have h:u+((w.length:Int)+1+sl g)<=wide:=h;show g.length+1<=fit wide u (w::(g++r));unfold fit;rw[if_pos ()];exact vw (zbo g r _ ())
theorem best{wide:Int}:∀(gs:List (List W))(h:Nat)(pre ws rest:List W),gs.length<=h->(∀g∈gs,((glue g).length:Int)<=wide)->pre++ws=gs.flatten++rest->gs.flatten.length<=pre.length+used wide h ws
 |[],h,pre,ws,rest,_,_,_=>kN _
 |g::gs,0,pre,ws,rest,l,_,_=>absurd l (by simp)
 |g::gs,h+1,pre,ws,rest,l,hg,e=>by
  have l:gs.length<=h:=Nat.le_of_succ_le_succ l;have hgs:∀z∈gs,((glue z).length:Int)<=wide:=λz hz=>hg z (kn _ hz);rw[k5,ud]at e;rw[k5,kt];rcases List.append_eq_append_iff.mp e with⟨a,e1,e2⟩|⟨c,e1,e2⟩
  .by_cases ha:a=[]
   .subst ha;rw[vh]at e1;rw[uh]at e2;have ih:=best gs h [] ws rest l hgs e2;have:=jB (wide:=wide) (h:=h) (ws:=ws);rw[e1];rw[bp]at ih
    lia
   .have gn:g≠[]:=λz=>by
     rw[z]at e1;exact ha (List.append_eq_nil_iff.mp e1.symm).2
    have hw:=hg g kg;rw[Qz g gn,e1,zbn]at hw;have np:=JI pre;have fg:=zbo (wide:=wide) a (gs.flatten++rest) (-1) ();rw[<-e2]at fg;rw[wq];have fl:=fit_le (wide:=wide) (u := -1) (ws:=ws);generalize fit wide (-1) ws=n at fg fl;have dd:ws.drop n=(gs.flatten++rest).drop (n-a.length):=by
     rw[e2,List.drop_append,List.drop_of_length_le fg,uh]
    rw[dd];have ih:=best gs h ((gs.flatten++rest).take (n-a.length)) ((gs.flatten++rest).drop (n-a.length)) rest l hgs (vK _ _);have:=List.length_take_le (n-a.length) (gs.flatten++rest);rw[e1,kt]
    lia
  .have ih:=best gs h c ws rest l hgs e2.symm;have:=jB (wide:=wide) (h:=h) (ws:=ws);rw[e1,kt]
   lia
end _Lin
namespace _JN
open PySem _L2 _Lin PySem.W
open _Tre (T)
structure Nr(K:PySem.W.Frag)(mg:Str->Option Value):Prop where
 ti:mg "isinstance"=none
 ttup:mg "tuple"=none
 tlist:mg "list"=none
 tl:mg "len"=none
 tall:mg "all"=none
 tsum:mg "sum"=none
 te:mg "enumerate"=none
 kT:kitOne K (.type "tuple") (.type "tuple")=some true
 kL:kitOne K (.type "list") (.type "list")=some true
def yW(ws:List W)(rs:List (Nat×Nat)):Nat:=rs.foldl (λu r=>u+used r.1 r.2 (ws.drop u)) 0
theorem ZO(ws:List W)(rs:List (Nat×Nat))(r:Nat×Nat):yW ws (rs++[r])=yW ws rs+used r.1 r.2 (ws.drop (yW ws rs)):=by
 unfold yW;rw[uo];rfl
theorem WH(ws:List W):∀(rs:List (Nat×Nat))(u:Nat),u<=ws.length->rs.foldl (λu r=>u+used r.1 r.2 (ws.drop u)) u<=ws.length
 |[],u,h=>h
 |r::rs,u,h=>WH ws rs _ (by
  show u+used r.1 r.2 (ws.drop u)<=ws.length;have:=Qy (wide:=r.1) (h:=r.2) (ws:=ws.drop u);rw[vk]at this
  lia)
theorem Zh(ws:List W)(rs:List (Nat×Nat)):yW ws rs<=ws.length:=WH ws rs 0 (kN _)
theorem ZQ(xs:List V)(k:Nat):cutV xs none (some (k:Int))=xs.take k:=by
 unfold cutV;rw[_HT.wK,_HT.W6,uK,Nat.sub_zero];show xs.take (min k xs.length)=xs.take k;rcases Nat.le_total k xs.length with z|z
 .rw[Nat.min_eq_left z]
 .rw[Nat.min_eq_right z,uy z,kJ]
theorem WI(ws:List W)(k:Nat):(tx ws).take k=tx (ws.take k):=by unfold tx;rw[<-List.map_take]
theorem jC(ws:List W)(k:Nat)(h:k<=ws.length):cutV (tx ws) (some (k:Int)) none=tx (ws.drop k):=by
 rw[y8 _ _ (by rw[yf];exact h)];unfold tx;rw[<-bh]
theorem Yo{wide:Int}:∀{ws:List W}{u:W},u∈nar wide ws->u∈ws
 |w::r,u,h=>by
  unfold nar at h;split at h
  .rcases kK.mp h with e|e
   .rw[e];exact kg
   .exact kn _ (Yo e)
  .exact(k6 h).elim
theorem QA{wide:Int}:∀{ws:List W},(nar wide ws).length<=ws.length
 |[]=>km _
 |w::r=>by
  unfold nar;split
  .exact vw QA
  .exact kN _
theorem QB:∀g:List W,(∀u∈g,1<=u.length)->g.length<=(glue g).length
 |[],_=>km _
 |[a],h=>h a kg
 |a::b::r,h=>by
  have ih:=QB (b::r) λu hu=>h u (kn _ hu);show(b::r).length+1<=(a++32::glue (b::r)).length;rw[kt,kG (a:=32)]
  lia
theorem zej{wide:Int}{h:Nat}{ws:List W}:∀g∈lns wide h ws,∀u∈g,u∈ws:=λg hg u hu=>by
 have:u∈(lns wide h ws).flatten:=List.mem_flatten.mpr ⟨g,hg,hu⟩;rw[WG]at this;exact u4 this
def okR(r:Nat×Nat):Prop:=1<=r.1/\1<=r.2
def zbp:Sp:=λvs H Q _=>∃(x:V)(r:Nat×Nat),vs=[x]/\StAt H x r/\okR r/\∀H',Same H H'->Q (.bl true) H'
def zbq:Sp:=λvs H Q _=>∃(b:Addr)(xs:List V)(rs:List (Nat×Nat)),vs=[.ref b]/\H b=some (.lst xs)/\zY H xs rs/\(∀r∈rs,okR r)/\rs.length<=1000/\∀H',Same H H'->Q .non H'
def zc4:Sp:=λvs H Q _=>∃(a:Addr)(ws:List W)(wide:Int),vs=[.ref a,.int wide]/\H a=some (.lst (tx ws))/\(∀u∈ws,okW u)/\ws.length<=1000 /\
 ∀(l:Addr)(H':Hp),Same H H'->H' l=some (.lst (tx (nar wide ws)))->Q (.ref l) H'
def spOn:Sp:=λvs H Q _=>∃(a:Addr)(gs:List (List W)),vs=[.ref a]/\H a=some (.lst (tx (gs.map glue)))/\(∀g∈gs,g≠[]/\∀u∈g,okW u)/\(∀g∈gs,(glue g).length<=100000)/\gs.length<=1000/\∀H',Same H H'->Q (.int (gs.flatten.length:Nat)) H'
def zbr:Sp:=λvs H Q _=>∃(a b:Addr)(ws:List W)(xs:List V)(rs:List (Nat×Nat)),vs=[.ref a,.ref b]/\H a=some (.lst (tx ws))/\(∀u∈ws,okW u)/\ws.length<=1000/\H b=some (.lst xs)/\zY H xs rs/\(∀r∈rs,okR r)/\rs.length<=1000 /\
 ∀(t lf ll:Addr)(H':Hp),Same H H'->H' t=some (.tup [.ref lf,.ref ll])->H' ll=some (.lst (tx (ws.drop (yW ws rs))))->Q (.ref t) H'
theorem qW{i:Nat}:ve i (V.bl true)++[V.bl true]=ve (i+1) (V.bl true):=by rw[v6]
theorem zbs{i:Nat}:ve i (V.bl true)=(ve i true).map V.bl:=by rw[List.map_replicate]
theorem zbt(i:Nat):(ve i true).all id=true:=by
 rw[vM];exact λx hx=>List.eq_of_mem_replicate hx
section
variable{P:Program}{w:World}{K:PySem.W.Frag}{mg:Str->Option Value}{base:Heap}
theorem zfB:zu ["thing"] ["thing"] (zl Q4):=by trivial
theorem zek{f fL:Addr}{fd fdL:FuncData}(F:Fun K "is_room" "is_room" Q4 f fd)(Z:Nr K mg)(Le:Callee P w K mg base CX0 2 "is_length" fL fdL ["thing"] Zf):FnOk P w K mg base CX0 3 f fd ["thing"] zbp:=by
 obtain⟨ti,ttup,tlist,tl,tall,tsum,te,kT,kL⟩:=Z;refine F.ok zfB (λvs H Q E h=>?_) (λcdv A outer s H vs Q E hr h=>?_)
 .refine E_2 h λx r n8=>A_2 n8 λe9 _=>?_;clear n8 h;subst e9;rfl
 .refine E_2 h λx r n8=>A_4 n8 λe9 n90 n91 q=>?_;clear n8 h;subst e9;obtain⟨a,rfl,ha⟩:=n90;obtain⟨r1,r2⟩:=n91;refine⟨_,(zf (zo (yg (zp yj (by rfl) ti k8 (za (pv 0) (za (yM rfl ttup vx) zb))) (yg (z5 xH (zp zA (by rfl) tl kW (za (pv 0) zb)) zk (zD _)) (yG (zp (xg rfl) (by rfl) tall vS (za (zQ (Nc:=["part"]) (ix:=[none]) rfl rfl (by exact(xT (pv 0))) (λ_ _ _ _ _=>(zt (i:=0) (by show(["part"]:List Str).Nodup;decide +kernel) rfl (Or.inl rfl))) (λ_ _ _ _ _=>zP) (λ_ _ _ _ _=>(zg Le.ok hr rfl Le.bound Le.kp Le.bd .nil zr (za (pv 0) zb)))) zb))))))),?_⟩;refine⟨_,rfl,_,_,_,_,rfl,rfl,.of (.tup ha),kT,_,rfl,iteT ?_⟩;refine⟨_,rfl,_,_,rfl,.inr (SqT.of ha),rfl,_,rfl,iteT ?_⟩;refine⟨_,rfl,a,rfl,⟨_,SqT.of ha⟩,xN (K:=K) (a:=a) (xs:=[.int (r.1:Int),.int (r.2:Int)]) (λi ys σ H'=>ys=ve i (V.bl true)/\H'=H/\∃o,σ=[o]) ⟨rfl,rfl,none,rfl⟩
   (λi ys σ H' hi h9=>by obtain⟨e1,e3,_⟩:=h9;exact(⟨by rw[e1,vz];exact kw (show i<=1000000 by simp only[kG,bp]at hi;lia) ⋯,by rw[e3];exact SqT.of ha⟩)) ?_ ?_⟩
  .intro ys σ H' h8 la nl;obtain⟨e3,rfl,_⟩:=h8;subst e3;refine⟨la,ve 2 true,rfl,SqL.of zc,q _ (zd nl)⟩
  .intro i x ys σ H' hx h8;obtain⟨e3,rfl,o,rfl⟩:=h8;subst e3;dsimp only[zU,tYes];refine iteT ?_
   match i,hx with
   |0,hx =>
    cases hx;refine⟨_,rfl,(r.1:Int),rfl,?_,rfl,_,rfl⟩;rw[decide_eq_true ()];exact qW
   |1,hx =>
    cases hx;refine⟨_,rfl,(r.2:Int),rfl,?_,rfl,_,rfl⟩;rw[decide_eq_true ()];exact qW
theorem zfC:zu ["things"] ["things"] (zl Q5):=by trivial
theorem zel{f fS:Addr}{fd fdS:FuncData}(F:Fun K "refuse_no_rooms" "refuse_no_rooms" Q5 f fd)(Z:Nr K mg)(Ro:Callee P w K mg base CX0 3 "is_room" fS fdS ["thing"] zbp):FnOk P w K mg base CX0 4 f fd ["things"] zbq:=by
 obtain⟨ti,ttup,tlist,tl,tall,tsum,te,kT,kL⟩:=Z;refine F.ok zfC (λvs H Q E h=>?_) (λcdv A outer s H vs Q E hr h=>?_)
 .refine E_3 h λb xs rs n8=>A_2 n8 λe9 _=>?_;clear n8 h;subst e9;rfl
 .refine E_3 h λb xs rs n8=>A_6 n8 λe9 hb hS ok hn q=>?_;clear n8 h;subst e9;refine⟨_,(zf (zO (PW.pt (xi (z9 (zX (zp yj (by rfl) ti k8 (za (pv 0) (za (yM rfl tlist vX) zb))))) (yZ (z9 (zX (zp (xg rfl) (by rfl) tall vS (za (zQ (Nc:=["thing"]) (ix:=[none]) rfl rfl (by refine' zV ?zz;case zz=>exact(pv 0)) (λ_ _ _ _ _=>(zt (i:=0) (by show(["thing"]:List Str).Nodup;decide +kernel) rfl (Or.inl rfl))) (λ_ _ _ _ _=>zP) (λ_ _ _ _ _=>(zg Ro.ok hr rfl Ro.bound Ro.kp Ro.bd .nil zr (za (pv 0) zb)))) zb)))))))
   yP
   zF)),?_⟩
  have ln:=hS.len;refine⟨_,rfl,_,_,_,_,rfl,rfl,.of (.lst hb),kL,_,rfl,iteF ?_⟩;refine⟨_,rfl,b,rfl,⟨_,SqL.of hb⟩,zZ (K:=K) (a:=b) (xs:=xs) (λi ys σ H'=>ys=ve i (V.bl true)/\Same H H'/\∃o,σ=[o]) ⟨rfl,Same.refl _,none,rfl⟩
   (λi ys σ H' hi h9=>by obtain⟨e1,S,_⟩:=h9;exact(⟨by rw[e1,vz];exact kw (show i<=1000000 by lia) ⋯,SqL.of (S _ _ hb)⟩)) ?_ ?_⟩
  .rintro ys σ H' ⟨e3,S,_⟩ la nl;subst e3;refine⟨la,ve xs.length true,rfl,by rw[<-zbs];exact SqL.of zc,?_⟩;rw[zbt];exact⟨_,rfl,iteF (q _ (S.trans (zd nl)))⟩
  .intro i x ys σ H' hx h8;refine A_3 h8 λe3 S n8=>E_1 n8 λo e9=>?_;clear n8 h8;subst e9;subst e3;obtain⟨r,er,hr'⟩:=hS.get' hx;dsimp only[zU,tYes];refine iteT ?_;exact⟨_,rfl,x,r,rfl,hr'.same S,ok r (ky er),λH1 S1=>⟨qW,S.trans S1,_,rfl⟩⟩
theorem JJ:zu ["words","wide","number","word"] ["words","wide"] (zl sNar):=by trivial
theorem zfD{f:Addr}{fd:FuncData}(F:Fun K "narrow_ones" "narrow_ones" sNar f fd)(Z:Nr K mg):FnOk P w K mg base CX0 1 f fd ["words","wide"] zc4:=by
 obtain⟨ti,ttup,tlist,tl,tall,tsum,te,kT,kL⟩:=Z;refine F.ok JJ (λvs H Q E h=>?_) (λcdv A outer s H vs Q E hr h=>?_)
 .refine E_3 h λa ws wide n8=>A_2 n8 λe9 _=>?_;clear n8 h;subst e9;rfl
 .refine E_3 h λa ws wide n8=>A_5 n8 λe9 ha hw hn q=>?_;clear n8 h;subst e9;refine⟨_,(ze (yS PassesOwn.never rfl (XM rfl te (za (pv 0) zb)) (wI rfl (zR (zt (i:=2) JJ.nd rfl (Or.inl rfl)) (zR (zt (i:=3) JJ.nd rfl (Or.inl rfl)) yB)))
   (zf (zO (zI wY (zp yT (by rfl) tl kW (za (pv 3) zb)) (pv 1) (zD _))
    (zf (zo (yp yQ (pv 0) yJ (yx (pv 2)))))
    zF)))
   (zf (zo (pv 0)))),?_⟩
  refine⟨_,rfl,a,rfl,⟨_,SqL.of ha⟩,YC (K:=K) (a:=a) (xs:=tx ws) (λi σ H2=>∃o1 o2:Option V,σ=[some (.ref a),some (.int wide),o1,o2]/\Same H H2/\∀u∈ws.take i,(u.length:Int)<=wide)
   ⟨none,none,rfl,Same.refl _,λu hu=>by rw[List.take_zero]at hu;exact(k6 hu).elim⟩ (λi σ H2 _ h9=>by obtain⟨_,_,_,S,_⟩:=h9;exact(SqL.of (S _ _ ha))) ?_ ?_⟩
  .intro i x σ H2 p hx h8 np;refine E_2 h8 λo1 o2 n8=>A_3 n8 λe9 S hle=>?_;clear n8 h8;subst e9;obtain⟨v,hv,rfl⟩:=xY hx;obtain⟨hil,ev⟩:=kf.mp hv;have S3:=S.trans (zd (o:=.tup [.int i,.str (txt v)]) np);refine⟨p,_,rfl,SqT.of zc,rfl,_,_,rfl,_,_,rfl,rfl,?_⟩;generalize upd H2 p (.tup [.int i,.str (txt v)])=H3 at S3;refine yV (p:=wide<(v.length:Int)) (zT (qB (zh rfl) (kw (hw v (ky hv)).2.1 ⋯)) (zh rfl)) _ ?_;dsimp only;refine ite2 (λc=>?_) (λc=>?_)
   .have c:=of_decide_eq_true c;refine⟨_,rfl,_,rfl,_,rfl,a,_,rfl,SqL.of (S3 _ _ ha),λl nl=>?_⟩;refine q l _ (S3.trans (zd nl)) ?_;rw[zc,ZQ,WI,WF hle];intro u hu;rw[hv]at hu;cases hu;exact c
   .have c:¬wide<(v.length:Int):=λz=>c (decide_eq_true z);refine⟨_,_,rfl,S3,λu hu=>?_⟩;rw[<-kC hil,ev]at hu;rcases k7.mp hu with m|m
    .exact hle u m
    .rw[kq.mp m]
     lia
  .intro σ H2 h8;refine E_2 h8 λo1 o2 n8=>A_3 n8 λe9 S hle=>?_;clear n8 h8;subst e9;rw[yf,kJ]at hle;refine⟨_,rfl,q a H2 S ?_⟩;rw[Qx hle];exact S _ _ ha
theorem WJ:∀gs:List (List W),(gs.map λg=>(g.length:Int)).sum=(gs.flatten.length:Nat)
 |[]=>rfl
 |g::r=>by
  rw[kY,va,WJ r,k5,kt]
  lia
theorem scOn:zu ["rows"] ["rows"] (zl sOn):=by trivial
theorem zgq{f:Addr}{fd:FuncData}(F:Fun K "words_on" "words_on" sOn f fd)(Z:Nr K mg):FnOk P w K mg base CX0 1 f fd ["rows"] spOn:=by
 obtain⟨ti,ttup,tlist,tl,tall,tsum,te,kT,kL⟩:=Z;refine F.ok scOn (λvs H Q E h=>?_) (λcdv A outer s H vs Q E hr h=>?_)
 .refine E_2 h λa gs n8=>A_2 n8 λe9 _=>?_;clear n8 h;subst e9;rfl
 .refine E_2 h λa gs n8=>A_6 n8 λe9 ha hg hb hn q=>?_;clear n8 h;subst e9;refine⟨_,(zf (zo (zp (zam rfl) (by rfl) tsum PyProof.Rows.boot_sum (za (zQ (Nc:=["row"]) (ix:=[none]) rfl rfl (by refine' zV ?zz;case zz=>exact(pv 0)) (λ_ _ _ _ _=>(zt (i:=0) (by show(["row"]:List Str).Nodup;decide +kernel) rfl (Or.inl rfl))) (λ_ _ _ _ _=>zP) (λ_ _ _ _ _=>(zp (zaj (K:=K) rfl) (by rfl) tl kW (by exact(za (zaS (K:=K) rfl PySem.F.plainAttrs_str PySem.F.slot_str_split PySem.F.type_str_split YL (pv 0) (za xS zb)) zb))))) zb)))),?_⟩;refine⟨_,rfl,a,rfl,⟨_,SqL.of ha⟩,zZ (K:=K) (a:=a) (xs:=tx (gs.map glue)) (λi ys σ H'=>ys=((gs.take i).map λg=>(g.length:Int)).map V.int/\Same H H'/\∃o,σ=[o]) ⟨rfl,Same.refl _,none,rfl⟩
    (λi ys σ H' hi h9=>by obtain⟨e,S,_⟩:=h9;exact(⟨by rw[e,ke,ke,kQ];exact kw (show _<=1000 by lia) ⋯,SqL.of (S _ _ ha)⟩)) ?_ ?_⟩
  .rintro ys σ H' ⟨e,S,_⟩ la nl;rw[yf,ke,kJ]at e;subst e;refine⟨la,_,rfl,SqL.of zc,?_⟩;rw[WJ];exact q _ (S.trans (zd nl))
  .intro i x ys σ H' hx h8;refine A_3 h8 λe S n8=>E_1 n8 λo e9=>?_;clear n8 h8;subst e9;subst e;obtain⟨v,hv,rfl⟩:=xY hx;rw[kM]at hv;obtain⟨g,eg,rfl⟩:∃g,gs[i]?=some g/\v=glue g:=by
    cases e:gs[i]? with
    |none=>rw[e]at hv;cases hv
    |some g=>rw[e]at hv;cases hv;exact⟨g,rfl,rfl⟩
   obtain⟨hil,ev⟩:=kf.mp eg;have mg:=hg g (ky eg);have bg:=hb g (ky eg);dsimp only[zU,tYes];refine iteT ?_;have lg:g.length<=1000000:=by
    have:=QB g (λu hu=>(mg.2 u hu).1)
    lia
   refine⟨_,rfl,rfl,g,rfl,rfl,mg.1,(λu hu=>jp (mg.2 u hu)),(),lg,λl nl=>?_⟩;refine⟨l,_,rfl,.inl (SqL.of zc),?_,S.trans (zd nl),_,rfl⟩;rw[ke,<-kC hil,ev,kF,kF];rfl
theorem wV:zu ["words","rooms","filled","used","wide","high","rows"] ["words","rooms"] (zl Q6):=by trivial
theorem zem{f fRe fRr fTa fNa fOn:Addr}{fd dRe dRr dTa dNa dOn:FuncData}(F:Fun K "poured" "poured" Q6 f fd)
  (Re:Callee P w K mg base CX0 4 "refuse_no_words" fRe dRe ["things"] j5)(Rr:Callee P w K mg base CX0 4 "refuse_no_rooms" fRr dRr ["things"] zbq)
  (Ta:Callee P w K mg base CX0 1 "taken" fTa dTa ["words","wide"] Yb)(Na:Callee P w K mg base CX0 1 "narrow_ones" fNa dNa ["words","wide"] zc4)
  (On:Callee P w K mg base CX0 1 "words_on" fOn dOn ["rows"] spOn):FnOk P w K mg base CX0 5 f fd ["words","rooms"] zbr:=by
 refine F.ok wV (λvs H Q E h=>?_) (λcdv A outer s H vs Q E hr h=>?_)
 .refine E_5 h λa b ws xs rs n8=>A_2 n8 λe9 _=>?_;clear n8 h;subst e9;rfl
 .refine E_5 h λa b ws xs rs n8=>A_9 n8 λe9 ha hw hn hb hS ok hrn q=>?_;clear n8 h;subst e9;refine⟨_,(ze (yw (zg Re.ok hr rfl Re.bound Re.kp Re.bd .nil zr (za (pv 0) zb)))
   (ze (yw (zg Rr.ok hr rfl Rr.bound Rr.kp Rr.bd .nil zr (za (pv 1) zb)))
   (ze (zB (i:=2) wV.nd rfl (Or.inl rfl) (yh zb))
   (ze (zB (i:=3) wV.nd rfl (Or.inl rfl) zk)
   (ze (PS.nox (yS PassesOwn.never rfl (zV (pv 1)) (wI rfl (zR (zt (i:=4) wV.nd rfl (Or.inl rfl)) (zR (zt (i:=5) wV.nd rfl (Or.inl rfl)) yB)))
   (ze (zB (i:=6) wV.nd rfl (Or.inl rfl) (yp yQ (zg Ta.ok (hr.mono (show 1<=4 by decide)) rfl Ta.bound Ta.kp Ta.bd .nil zr (za (zg Na.ok (hr.mono (show 1<=4 by decide)) rfl Na.bound Na.kp Na.bd .nil zr (za (yp yQ (pv 0) (yx (pv 3)) yJ) (za (pv 4) zb))) (za (pv 4) zb))) yJ (yx (pv 5))))
    (ze (yw (xw vj vQ vR xr (pv 2) (za (pv 6) zb)))
    (zf (Xz (i:=3) wV.nd rfl (Or.inl rfl) (zg On.ok (hr.mono (show 1<=4 by decide)) rfl On.bound On.kp On.bd .nil zr (za (pv 6) zb)) XA))))))
   (zf (zo (ye (za (pv 2) (za (yp yQ (pv 0) (yx (pv 3)) yJ) zb)))))))))),?_⟩
  refine⟨_,rfl,a,ws,rfl,ha,hw,hn,λH1 S1=>?_⟩;refine⟨_,rfl,b,xs,rs,rfl,S1 _ _ hb,hS.same S1,ok,hrn,λH2 S2=>?_⟩;have S12:=S1.trans S2;clear S1 S2;have ln:=hS.len;refine⟨Zz0,λlf nlf=>?_⟩;have S3:=S12.trans (zd (o:=.lst []) nlf);have hlf:(upd H2 lf (.lst [])) lf=some (.lst []):=zc;generalize upd H2 lf (.lst [])=H3 at S3 hlf;have flf:H lf=none:=S12.free nlf;clear S12;refine⟨_,rfl,b,rfl,⟨_,SqL.of (S3 _ _ hb)⟩,xp (K:=K) (a:=b) (xs:=xs) (λi σ H4=>∃(o4 o5 o6:Option V)(ys:List V),σ=[some (.ref a),some (.ref b),some (.ref lf),some (.int (yW ws (rs.take i):Nat)),o4,o5,o6]/\Same H H4 /\
    H4 lf=some (.lst ys)/\ys.length=i) ⟨none,none,none,[],rfl,S3,hlf,rfl⟩
   (λi σ H4 _ h9=>by obtain⟨_,_,_,_,_,S,_⟩:=h9;exact(SqL.of (S _ _ hb))) ?_ ?_⟩
  .intro i x σ H4 hx h8;refine E_4 h8 λo4 o5 o6 ys n8=>A_4 n8 λe9 S4 hl4 ly=>?_;clear n8 h8;subst e9;obtain⟨r,er,p,rfl,hp⟩:=hS.get' hx;obtain⟨hil,ev⟩:=kf.mp er;have okr:=ok r (ky er);have ul:=Zh ws (rs.take i);have es:yW ws (rs.take (i+1))=yW ws (rs.take i)+used r.1 r.2 (ws.drop (yW ws (rs.take i))):=by rw[<-kC hil,ev,ZO]
   rw[es];generalize yW ws (rs.take i)=u at ul;refine⟨p,_,rfl,SqT.of (S4 _ _ hp),rfl,_,_,rfl,_,_,rfl,rfl,?_⟩;dsimp only;refine⟨_,rfl,_,rfl,_,rfl,a,_,rfl,SqL.of (S4 _ _ ha),λpc nc=>?_⟩;rw[jC ws u ul];have S5:=zd (o:=.lst (tx (ws.drop u))) nc;have hpc:(upd H4 pc (.lst (tx (ws.drop u)))) pc=some (.lst (tx (ws.drop u))):=zc;generalize upd H4 pc (.lst (tx (ws.drop u)))=H5 at S5 hpc;have hwd:∀v∈ws.drop u,okW v:=λv hv=>hw v (List.mem_of_mem_drop hv);have hnd:(ws.drop u).length<=1000:=by rw[vk];lia
   refine⟨_,rfl,pc,ws.drop u,r.1,rfl,hpc,hwd,hnd,λl6 H6 S6 h6=>?_⟩;have hnn:=QA (wide:=r.1) (ws:=ws.drop u);refine⟨_,rfl,l6,_,r.1,rfl,h6,(λv hv=>hwd v (Yo hv)),(),λl7 H7 S7 n7 h7=>?_⟩;refine⟨_,rfl,_,rfl,l7,_,rfl,SqL.of h7,λl8 n8=>?_⟩;rw[ZQ,WI,jA];have bt:=qc r.1 (nar r.1 (ws.drop u)) (λv hv=>(hwd v (Yo hv)).2.1);have hgl:∀g∈lns r.1 r.2 (ws.drop u),(glue g).length<=100000:=λg hg=>by
    have:glue g∈(lns r.1 r.2 (ws.drop u)).map glue:=kU.mpr ⟨g,hg,rfl⟩;rw[<-jA]at this;have:=bt _ (u4 this)
    lia
   have hll:(lns r.1 r.2 (ws.drop u)).length<=1000:=by
    have e:(lns r.1 r.2 (ws.drop u)).length=((lns r.1 r.2 (ws.drop u)).map glue).length:=(ke _).symm;rw[e,<-jA,kQ];have:=wQ r.1 (nar r.1 (ws.drop u))
    lia
   have hgo:∀g∈lns r.1 r.2 (ws.drop u),g≠[]/\∀v∈g,okW v:=λg hg=>⟨zbl g hg,λv hv=>hwd v (zej g hg v hv)⟩;have S48:=(S5.trans (S6.trans S7)).trans (zd (o:=.lst (tx ((lns r.1 r.2 (ws.drop u)).map glue))) n8);have h8:(upd H7 l8 (.lst (tx ((lns r.1 r.2 (ws.drop u)).map glue)))) l8=some (.lst (tx ((lns r.1 r.2 (ws.drop u)).map glue))):=zc;have n84:H4 l8=none:=(S5.trans (S6.trans S7)).free n8;generalize upd H7 l8 (.lst (tx ((lns r.1 r.2 (ws.drop u)).map glue)))=H8 at h8 S48;have h8lf:l8≠lf:=λz=>by rw[z,hl4]at n84;cases n84
   refine⟨_,rfl,.inl ⟨rfl,_,SqL.of (S48 _ _ hl4)⟩,_,rfl,lf,_,_,rfl,rfl,S48 _ _ hl4,vC (show ys.length<=1000 by lia) ⋯,?_⟩;have S9:Same H (upd H8 lf (.lst (ys++[.ref l8]))):=yu (S4.trans S48) flf;have h9:(upd H8 lf (.lst (ys++[.ref l8]))) l8=some (.lst (tx ((lns r.1 r.2 (ws.drop u)).map glue))):=(zN h8lf).trans h8;have hl9:(upd H8 lf (.lst (ys++[.ref l8]))) lf=some (.lst (ys++[.ref l8])):=zc;generalize upd H8 lf (.lst (ys++[.ref l8]))=H9 at S9 h9 hl9;refine⟨_,rfl,_,rfl,l8,_,rfl,h9,hgo,hgl,hll,λH10 S10=>⟨_,_,rfl,rfl,?_⟩⟩;refine⟨some (.int (r.1:Int)),some (.int (r.2:Int)),some (.ref l8),ys++[.ref l8],?_,S9.trans S10,S10 _ _ hl9,by rw[kt,ly];rfl⟩;show _=([some (.ref a),some (.ref b),some (.ref lf),some (.int ((u+used r.1 r.2 (ws.drop u):Nat):Int)),some (.int (r.1:Int)),some (.int (r.2:Int)),some (.ref l8)]:List (Option V));rw[bL];rfl
  .intro σ H4 h8;refine E_4 h8 λo4 o5 o6 ys n8=>A_4 n8 λe9 S4 hl4 ly=>?_;clear n8 h8;subst e9;rw[ln,kJ];have ul:=Zh ws rs;refine⟨_,rfl,_,rfl,_,rfl,_,rfl,a,_,rfl,SqL.of (S4 _ _ ha),λll nll=>?_⟩;rw[jC ws _ ul];have S5:=zd (o:=.lst (tx (ws.drop (yW ws rs)))) nll;have hll:(upd H4 ll (.lst (tx (ws.drop (yW ws rs))))) ll=some (.lst (tx (ws.drop (yW ws rs)))):=zc;generalize upd H4 ll (.lst (tx (ws.drop (yW ws rs))))=H5 at S5 hll;refine⟨Zz2,λt nt=>?_⟩;have S6:=zd (o:=.tup [.ref lf,.ref ll]) nt;exact q t lf ll _ (S4.trans (S5.trans S6)) zc (S6 _ _ hll)
end
end _JN
namespace _Tre
def grw(at':Int)(new:List Int)(i:Int):List Int:=if i=at' then at'::new else [i]
theorem zbu{at':Int}{new:List Int}:∀{n:List Int},at'∉n->n.flatMap (grw at' new)=n
 |[],_=>rfl
 |i::r,h=>by
  rw[uX,zbu λz=>h (kn _ z)];unfold grw;rw[if_neg λz=>h (by rw[z];exact kg)];rfl
theorem WK{at':Int}{new:List Int}:∀{n:List Int},n.Nodup->at'∈n->(n.flatMap (grw at' new)).Perm (n++new)
 |[],_,h=>absurd h k6
 |i::r,nd,h=>by
  rw[ug]at nd;rw[uX];by_cases c:i=at'
  .subst c;rw[zbu nd.1];unfold grw;rw[if_pos rfl];exact List.Perm.cons _ uV
  .have m:at'∈r:=by
    rcases kK.mp h with z|z
    .exact absurd z.symm c
    .exact z
   unfold grw;rw[if_neg c];exact List.Perm.cons _ (WK nd.2 m)
theorem zfE(m j:Nat):up (m+j)=up m++(kR j).map λk:Nat=>(m:Int)+(k:Int):=by
 unfold up;rw[List.range_add,kF,vm];congr 1
theorem zfF{m j:Nat}{at':Int}{n:List Int}(pm:n.Perm (up m))(h0:0<=at')(h1:at'<m):(n.flatMap (grw at' ((kR j).map λk:Nat=>(m:Int)+(k:Int)))).Perm (up (m+j)):=by
 have nd:n.Nodup:=by
  rw[pm.nodup_iff];unfold up;exact List.Pairwise.map _ (λa b (e:a≠b) (z:(a:Int)=(b:Int))=>e ()) List.nodup_range
 have mm:at'∈n:=by
  rw[pm.mem_iff];unfold up;exact kU.mpr ⟨at'.toNat,vp.mpr (),by show((at'.toNat:Nat):Int)=at';lia⟩
 rw[zfE];exact(WK nd mm).trans (List.Perm.append pm (List.Perm.refl _))
end _Tre
namespace _JN
open PySem _L2 _Lin _Tre PySem.W
def yA:List Nat:=[33,34,35,36,38,39,40,41,42,43,44,45,46,47,48,49,50,51,52,53,54,55,56,57,58,59,60,61,62,63,64,65,66,67,68,69,70,71,72,73,74,75,76,77,78,79,80,81,82,83,84,85,86,87,88,89,90,91,92,93,94,95,96,97,98,99,100,101,102,103,104,105,106,107,108,109,110,111,112,113,114,115,116,117,118,119,120,121,122,123,124,125,126]
theorem qd:yA.length=93:=rfl
theorem WL:∀c∈yA,good c:=by
 intro c hc;have:(yA.all λc=>decide (33<=c)&&(decide (c<=126)&&decide (c≠37)))=true:=by decide +kernel
 have:=vM.mp this c hc;simp only[vi,decide_eq_true_eq]at this;exact this
def Yp:Sp:=λvs H Q _=>∃c k:Int,vs=[.int c,.int k]/\0<=k/\k<=100000/\∀n:Int,0<=n->Q (.int n) H
def zbv:Sp:=λvs H Q _=>∃cell:Int,vs=[.int cell]/\∀u:W,okW u->Q (.str (txt u)) H
section
variable{P:Program}{w:World}{K:PySem.W.Frag}{mg:Str->Option Value}{base:Heap}{kA:Addr}
theorem zcu:zu ["script","k"] ["script","k"] (zl Z6):=by trivial
theorem zbw{f:Addr}{fd:FuncData}(F:Fun K "_law_cell_at" "_law_cell_at" Z6 f fd)(tl:mg "len"=none):FnOk P w K mg base CX0 1 f fd ["script","k"] (Wf K):=by
 refine F.ok zcu (λvs H Q E h=>?_) (λcdv A outer s H vs Q E hr h=>?_)
 .refine E_3 h λa ns k n8=>A_2 n8 λe9 _=>?_;clear n8 h;subst e9;rfl
 .refine E_3 h λa ns k n8=>A_4 n8 λe9 hS k1 q=>?_;clear n8 h;subst e9;refine⟨_,(ze (zO (zI yO (pv 1) (zp zA (by rfl) tl kW (za (pv 0) zb)) (zD _))
   (zf (zo (zm yc (pv 0) (pv 1) (λ_ _=>rfl))))
   zF)
   (zf (zo zk))),?_⟩
  refine⟨_,rfl,_,rfl,_,_,rfl,.inl hS,_,_,rfl,rfl,_,rfl,?_⟩;rw[ke];refine ite2 (λc1=>?_) (λc1=>?_)
  .have c1:=of_decide_eq_true c1;exact⟨_,rfl,_,rfl,_,_,_,_,rfl,rfl,hS,zeP k1 c1,q _⟩
  .exact q _
theorem QC:zu ["cell","k","number"] ["cell","k"] (zl Wa):=by trivial
theorem zcv{f:Addr}{fd:FuncData}(F:Fun K "_law_mixed" "_law_mixed" Wa f fd):FnOk P w K mg base CX0 1 f fd ["cell","k"] Yp:=by
 refine F.ok QC (λvs H Q E h=>?_) (λcdv A outer s H vs Q E hr h=>?_)
 .refine E_2 h λc k n8=>A_2 n8 λe9 _=>?_;clear n8 h;subst e9;rfl
 .refine E_2 h λc k n8=>A_4 n8 λe9 k0 k1 q=>?_;clear n8 h;subst e9;refine⟨_,(ze (zB (i:=2) QC.nd rfl (Or.inl rfl) (zK y6 (zK yL (zK yL (zK qg (zK y6 (pv 0) zk) (zK yL (zK qg zk (pv 1)) zk)) (zK qg zk (pv 1))) zk) zk))
   (zf (zo (zK zdc (zK y6 (zK qg (pv 2) (pv 2)) zk) zk)))),?_⟩
  have a0:=v5 c (show(2147483629:Int)≠0 by decide);have a1:=vW c (show(0:Int)<2147483629 by decide);refine' xx (v:=.int ((c % 2147483629*(2*k+51431)+17*k+3) % 2147483587)) ?_ ?_
  .exact wz (zT (zT (wz (wz (zh rfl) zC (by show(0:Int)<2147483629;decide)) (zT (wz zC (zh rfl) (Or.inl ⟨⋯,⋯⟩)) zC) (Or.inl ⟨(),()⟩)) (wz zC (zh rfl) (Or.inl ⟨⋯,⋯⟩))) zC) zC (by show(0:Int)<2147483587;decide)
  generalize (c % 2147483629*(2*k+51431)+17*k+3)=u;have u0:=v5 u (show(2147483587:Int)≠0 by decide);have u1:=vW u (show(0:Int)<2147483587 by decide);refine' wE (v:=.int (u % 2147483587*(u % 2147483587) % 2147483563 / 7)) ?_ ?_
  .exact wz (wz (wz (zh rfl) (zh rfl) (Or.inl ⟨(),()⟩)) zC (by show(0:Int)<2147483563;decide)) zC ⟨⋯,⋯⟩
  exact q _ (Int.ediv_nonneg (v5 _ ⋯) ⋯)
theorem qt:zu ["cell","some","word","k"] ["cell"] (zl sLw):=by trivial
theorem zen{f fM:Addr}{fd dM:FuncData}(F:Fun K "_law_word" "_law_word" sLw f fd)(tr:mg "range"=none)(Mx:Callee P w K mg base CX0 1 "_law_mixed" fM dM ["cell","k"] Yp):FnOk P w K mg base CX0 2 f fd ["cell"] zbv:=by
 refine F.ok qt (λvs H Q E h=>?_) (λcdv A outer s H vs Q E hr h=>?_)
 .obtain⟨cell,rfl,_⟩:=h;rfl
 .obtain⟨cell,rfl,q⟩:=h;refine⟨_,(ze (zB (i:=1) qt.nd rfl (Or.inl rfl) xS)
   (ze (zB (i:=1) qt.nd rfl (Or.inl rfl) (zK wx (pv 1) xS))
   (ze (zB (i:=2) qt.nd rfl (Or.inl rfl) (zm Z1 (pv 1) (zK y6 (zg Mx.ok hr rfl Mx.bound Mx.kp Mx.bd .nil zr (za (pv 0) (za zk zb))) zk) (λ_ _=>rfl)))
   (ze (yS PassesOwn.never rfl (wW rfl tr (za (zK y6 (zg Mx.ok hr rfl Mx.bound Mx.kp Mx.bd .nil zr (za (pv 0) (za zk zb))) zk) zb)) (zt (i:=3) qt.nd rfl (Or.inl rfl))
   (zf (zB (i:=2) qt.nd rfl (Or.inl rfl) (zK wx (pv 2) (zm Z1 (pv 1) (zK y6 (zg Mx.ok hr rfl Mx.bound Mx.kp Mx.bd .nil zr (za (pv 0) (za (zK yL zk (pv 3)) zb))) zk) (λ_ _=>rfl))))))
   (zf (zo (pv 2))))))),?_⟩
  have e1:("!\"#$&'()*+,-./0123456789:;<=>?\x40ABCDEFGHIJKLMNOPQRSTUVWXYZ[\\]^_\x60" : Str)=txt (yA.take 63):=by decide +kernel
  have e2:("abcdefghijklmnopqrstuvwxyz{|}~" : Str)=txt (yA.drop 63):=by decide +kernel
  have pick:∀n:Int,atI yA (n % 93)=some (yA.getD (n % 93).toNat 0)/\good (yA.getD (n % 93).toNat 0):=λn=>by
   have m0:=v5 n (show(93:Int)≠0 by decide);have m1':=vW n (show(0:Int)<93 by decide);have hn:(n % 93).toNat<yA.length:=by rw[qd];lia
   have z:atI yA (((n % 93).toNat:Nat):Int)=some yA[(n % 93).toNat]:=yX (kc hn);rw[show(((n % 93).toNat:Nat):Int)=n % 93 by lia]at z;rw[_L2.getD_at hn];exact⟨z,WL _ (vv hn)⟩
  refine⟨_,rfl,_,_,rfl,rfl,by decide +kernel,?_⟩;rw[e1,e2,qj,vK];refine⟨_,rfl,_,rfl,cell,1,rfl,⋯,⋯,λn1 p1=>⟨_,_,rfl,rfl,(by show(0:Int)<93;decide),yA,_,_,rfl,rfl,by rw[qd];decide,(pick n1).1,?_⟩⟩;have g1:=(pick n1).2;generalize yA.getD (n1 % 93).toNat 0=c1 at g1;refine zJ ?_;refine⟨_,rfl,cell,2,rfl,⋯,⋯,λn2 p2=>⟨_,_,rfl,rfl,(by show(0:Int)<6;decide),?_⟩⟩;refine⟨_,rfl,by have:=v5 n2 (show(6:Int)≠0 by decide);lia,by have:=vW n2 (show(0:Int)<6 by decide);lia,?_⟩;have k0:=v5 n2 (show(6:Int)≠0 by decide);have k1:=vW n2 (show(0:Int)<6 by decide);obtain⟨N,hN⟩:∃N:Nat,n2 % 6=(N:Int):=⟨(n2 % 6).toNat,()⟩;rw[hN,v9];refine Yu (lo:=0) (n:=N) (λi σ H5=>∃(l:W)(o:Option V),σ=[some (.int cell),some (.str (txt yA)),some (.str (txt l)),o]/\H5=H/\l.length=i+1/\∀c∈l,good c)
   ⟨[c1],none,rfl,rfl,rfl,λc hc=>by rw[kq.mp hc];exact g1⟩ ?_ ?_
  .intro i σ H5 hi h8;refine E_2 h8 λl o n8=>A_4 n8 λe9 n90 ll lg=>?_;clear n8 h8;subst e9;subst n90;refine zJ ?_;rw[show(0:Int)+(i:Int)=(i:Int)from Int.zero_add _];refine⟨_,rfl,_,rfl,_,rfl,_,rfl,_,_,rfl,rfl,cell,_,rfl,(),(),λn3 p3=>⟨_,_,rfl,rfl,(by show(0:Int)<93;decide),yA,_,_,rfl,rfl,by rw[qd];decide,(pick n3).1,?_⟩⟩;have g3:=(pick n3).2;generalize yA.getD (n3 % 93).toNat 0=c3 at g3;refine⟨_,_,rfl,rfl,?_,?_⟩
   .rw[yK,yK];exact kw (show l.length+1<=100 by lia) ⋯
   .rw[qj];refine⟨l++[c3],_,rfl,rfl,by rw[kt,ll];rfl,λc hc=>?_⟩;rcases k7.mp hc with z|z
    .exact lg c z
    .rw[kq.mp z];exact g3
  .intro σ H5 h8;refine E_2 h8 λl o n8=>A_4 n8 λe9 n90 ll lg=>?_;clear n8 h8;subst e9;subst n90;exact⟨_,rfl,q l ⟨(),(),lg⟩⟩
end
def xJ(d:Addr)(H H':Hp):Prop:=∀p o,p≠d->H p=some o->H' p=some o
theorem xJ.refl(d:Addr)(H:Hp):xJ d H H:=λ_ _ _ e=>e
theorem xJ.trans{d:Addr}{H H' H2:Hp}(a:xJ d H H')(b:xJ d H' H2):xJ d H H2:=λp o n e=>b p o n (a p o n e)
theorem jD{d:Addr}{H:Hp}{o:HO}:xJ d H (upd H d o):=λp u n e=>by rw[zN n];exact e
section
variable{d:Addr}{H H':Hp}{us us':List V}
mutual
theorem At.x(hd:H d=some (.lst us))(hd':H' d=some (.lst us'))(S:xJ d H H'):∀{v:V}{t:T},At H v t->At H' v t
 |_,_,.int i=>.int i
 |_,_,.str x=>.str x
 |_,_,.tup e h=>.tup (S _ _ (qu e hd (by intro z;cases z)) e) (AtL.x hd hd' S h)
theorem AtL.x(hd:H d=some (.lst us))(hd':H' d=some (.lst us'))(S:xJ d H H'):∀{vs:List V}{ts:List T},AtL H vs ts->AtL H' vs ts
 |_,_,.nil=>.nil
 |_,_,.cons h r=>.cons (At.x hd hd' S h) (AtL.x hd hd' S r)
end
end
def nws(first:Int)(many:Nat):List Int:=(kR (many-1)).map λj:Nat=>first+(j:Int)
theorem Yq(first:Int)(many:Nat):(nws first many).length=many-1:=by unfold nws;rw[ke,vq]
theorem WM{H:Hp}:∀ns:List Int,AtL H (ns.map V.int) (ns.map T.int)
 |[]=>.nil
 |i::r=>.cons (.int i) (WM r)
theorem Xg:∀ns:List Int,zL (ns.map T.int) (ns.map λi=>[i])
 |[]=>.nil
 |i::r=>.cons (.leaf i) (Xg r)
theorem ZR:∀ns:List Int,(ns.map λi=>[i]).flatten=ns
 |[]=>rfl
 |i::r=>by rw[kY,k5,ZR r];rfl
theorem W0{ns:List Int}{k:Str}:∀p∈ns.map T.int,¬HasK p k:=λp hp ⟨_,e⟩=>by
 obtain⟨i,_,rfl⟩:=kU.mp hp;cases e
def ZS(d:Nat):Sp:=λvs H Q _=>∃(x:V)(t:T)(n:List Int)(at':Int)(k:Str)(many:Nat)(first:Int),vs=[x,.int at',.str k,.int many,.int first]/\At H x t/\Good t n/\isK k/\2<=many/\many<=3/\n.length<=24/\sz t+3<=4*d/\d<=24 /\
 ∀(x':V)(t':T)(H':Hp),Same H H'->At H' x' t'->Good t' (n.flatMap (grw at' (nws first many)))->Q x' H'
section
variable{P:Program}{w:World}{K:PySem.W.Frag}{mg:Str->Option Value}{base:Heap}{kA:Addr}
theorem ZT:zu ["tree","at","kind","many","first","parts","part","made"] ["tree","at","kind","many","first"] (zl (top 97)):=by trivial
theorem zeo{f:Addr}{fd:FuncData}(F:Fun K "_law_split" "_law_split" (top 97) f fd):FnOk P w K mg base CX0 1 f fd ["tree","at","kind","many","first"] (ZS 0):=by
 refine F.ok ZT (λvs H Q E h=>?_) (λcdv A outer s H vs Q E hr h=>?_)
 .refine E_7 h λx t n at' k many first n8=>A_2 n8 λe9 _=>?_;clear n8 h;subst e9
  rfl
 .refine E_7 h λx t n at' k many first n8=>A_9 n8 λe9 _ _ _ _ _ _ hz _=>?_;clear n8 h;subst e9
  lia
theorem zep{f:Addr}{fd:FuncData}{d:Nat}(F:Fun K "_law_split" "_law_split" (top 97) f fd)(Zt:Nt K mg kA)(Sp:Callee P w K mg base CX0 (d+1) "_law_split" f fd ["tree","at","kind","many","first"] (ZS d)):FnOk P w K mg base CX0 (d+2) f fd ["tree","at","kind","many","first"] (ZS (d+1)):=by
 obtain⟨_,_,_,_,_,ti,_,_,_,ttup,_,_,_,_,tr,_,_,_,kT⟩:=Zt;refine F.ok ZT (λvs H Q E h=>?_) (λcdv A outer s H vs Q E hr h=>?_)
 .refine E_7 h λx t n at' k many first n8=>A_2 n8 λe9 _=>?_;clear n8 h;subst e9
  rfl
 .refine E_7 h λx t n at' k many first n8=>A_10 n8 λe9 hA g hk m2 m3 n24 hz hd q=>?_;clear n8 h;subst e9
  refine⟨_,(ze (zO (z9 (zX (zp yj (by rfl) ti k8 (za (pv 0) (za (yM rfl ttup vx) zb)))))
   (ze (zO (zI ww (pv 0) (pv 1) (zD _))
    (zf (zo (pv 0)))
    zF)
    (zf (zo (ye (za (pv 2) (za (xM wu rfl ttup vx (za (zK q8 (yh (za (pv 1) zb)) (zQ (Nc:=["k","first"]) (ix:=[none,some 4]) rfl rfl (by exact(wW rfl tr (za (zK xq (pv 3) zk) zb))) (λ_ _ _ _ _=>(zt (i:=0) (by show(["k","first"]:List Str).Nodup;decide +kernel) rfl (Or.inl rfl))) (λ_ _ _ _ _=>zP) (λ_ _ _ _ _=>(zK yL (pv 1) (pv 0))))) zb)) zb))))))
   zF)
   (ze (zB (i:=5) ZT.nd rfl (Or.inl rfl) (yh zb))
   (ze (yS PassesOwn.never rfl (xT (zm zw (pv 0) zk (λ_ _=>rfl))) (zt (i:=6) ZT.nd rfl (Or.inl rfl))
   (ze (zB (i:=7) ZT.nd rfl (Or.inl rfl) (zg Sp.ok hr rfl Sp.bound Sp.kp Sp.bd .nil zr (za (pv 6) (za (pv 1) (za (pv 2) (za (pv 3) (za (pv 4) zb)))))))
    (zf (zO (PW.pt (qY (zX (zp yj (by rfl) ti k8 (za (pv 7) (za (yM rfl ttup vx) zb)))) (qf (zI xH (zm zw (pv 7) zk (λ_ _=>rfl)) (zm zw (pv 0) zk (λ_ _=>rfl)) (zD _)))))
    (zf (yw (xw vj uF uG Zz (pv 5) (za (zm zw (pv 7) zk (λ_ _=>rfl)) zb))))
    (zf (yw (xw vj vQ vR xr (pv 5) (za (pv 7) zb))))))))
   (zf (zo (ye (za (zm zw (pv 0) zk (λ_ _=>rfl)) (za (xM wu rfl ttup vx (za (pv 5) zb)) zb)))))))),?_⟩
  refine⟨_,rfl,_,_,_,_,rfl,rfl,hA.ty,kT hA,_,rfl,?_⟩;cases g with
  |leaf i =>
   cases hA;refine iteT ⟨_,rfl,_,rfl,rfl,_,rfl,?_⟩;by_cases c:i=at'
   .subst c;rw[decide_eq_true rfl];refine iteF ?_;refine z6 ?_;refine⟨_,rfl,_,rfl,Zz1,λp0 np0=>?_⟩;have S0:=zd (o:=.lst [V.int i]) np0;have hp0:upd H p0 (.lst [V.int i]) p0=some (.lst [V.int i]):=zc;generalize upd H p0 (.lst [V.int i])=H0 at S0 hp0;refine⟨_,rfl,_,_,rfl,rfl,_,rfl,(),(),?_⟩;rw[show((many:Int)-1).toNat=many-1 by lia];refine YF (lo:=0) (n:=many-1) (λj ys σ H1=>ys=((kR j).map λj:Nat=>first+(j:Int)).map V.int/\H1=H0/\∃o,σ=[o,some (.int first)]) ⟨rfl,rfl,none,rfl⟩
     (λj ys σ H1 hj h9=>by obtain⟨e,_,_⟩:=h9;exact(by rw[e,ke,ke,vq];exact kw (show j<=10 by lia) ⋯)) ?_ ?_
    case refine_2 =>
     rintro j ys σ H1 hj ⟨rfl,rfl,o,rfl⟩;dsimp only[zU,tYes];refine iteT ⟨_,rfl,_,rfl,_,_,rfl,rfl,?_,rfl,_,rfl⟩;rw[List.range_succ,kF,kF,show(0:Int)+(j:Int)=(j:Int)from Int.zero_add _];rfl
    rintro ys σ H1 ⟨rfl,rfl,_⟩ p1 np1;rw[show(kR (many-1)).map (λj:Nat=>first+(j:Int))=nws first many from rfl];have S1:=zd (o:=.lst ((nws first many).map V.int)) np1;have hp1:upd H1 p1 (.lst ((nws first many).map V.int)) p1=some (.lst ((nws first many).map V.int)):=zc;have hp01:=S1 _ _ hp0;have S01:=S0.trans S1;refine I_4 p0 p1 _ _ ⟨rfl,rfl,hp01,hp1,?_,λp2 np2=>?_⟩
    .rw[ke,Yq,vo];exact kw (show _<=10 by lia) ⋯
    generalize upd H1 p1 (.lst ((nws first many).map V.int))=H2 at S01 np2;have S2:=zd (o:=.lst ([V.int i]++(nws first many).map V.int)) np2;have S02:=S01.trans S2;refine⟨p2,_,rfl,.inl ⟨SqL.of zc,λp3 np3=>⟨Zz2,λp4 np4=>?_⟩⟩⟩;have S3:=zd (o:=.tup ([V.int i]++(nws first many).map V.int)) np3;have S4:=zd (o:=.tup [V.str k,.ref p3]) np4;have hp3:upd (upd H2 p2 (.lst ([V.int i]++(nws first many).map V.int))) p3 (.tup ([V.int i]++(nws first many).map V.int)) p3=some (.tup ((i::nws first many).map V.int)):=zc;have S03:=S02.trans S3;refine q (.ref p4) (.tup [.str k,.tup ((i::nws first many).map T.int)]) _ (S03.trans S4) (.tup zc (.cons (.str _) (.cons (.tup (S4 _ _ hp3) (WM _)) .nil))) ?_;have e:[i].flatMap (grw i (nws first many))=i::nws first many:=by
     rw[uX,List.flatMap_nil,vh];unfold grw;rw[if_pos rfl]
    rw[e];have gg:=Good.node (ps:=(i::nws first many).map T.int) hk (by rw[ke,kG,Yq];lia) W0 (Xg (i::nws first many))
    rwa [ZR]at gg
   .rw[decide_eq_false λz=>c (by injection z)];refine iteT ⟨_,rfl,q (.int i) (.int i) H (Same.refl _) (.int i) ?_⟩;have e:[i].flatMap (grw at' (nws first many))=[i]:=by
     rw[uX,List.flatMap_nil,vh];unfold grw;rw[if_neg c]
    rw[e];exact .leaf i
  |@node k0 ps nss hk0 h2 hn hG =>
   cases hA with
   |@tup a0 vs0 ss e hL =>
   obtain⟨b0,ws,rfl,e2,hQ⟩:=hL.knot;have lq:=hQ.len;have nsz:=xZ k0 ps;have lps:=qq ps;refine iteF ?_;refine z6 ?_;dsimp only;refine⟨Zz0,λlp nlp=>?_⟩;have S1:=zd (o:=.lst []) nlp;have h1:(upd H lp (.lst [])) lp=some (.lst []):=zc;generalize upd H lp (.lst [])=H1 at S1 h1;dsimp only;refine⟨_,rfl,_,_,_,_,rfl,rfl,SqT.of (S1 _ _ e),rfl,b0,rfl,⟨_,SqT.of (S1 _ _ e2)⟩,?_⟩;refine zdb (K:=K) (a:=b0) (xs:=ws) (λi σ H3=>∃(us:List V)(ts:List T)(mss:List (List Int))(o6 o7:Option V),σ=[some (.ref a0),some (.int at'),some (.str k),some (.int many),some (.int first),some (.ref lp),o6,o7]/\Same H H3/\H3 lp=some (.lst us)/\AtL H3 us ts/\zL ts mss/\mss.flatten=(nss.take i).flatten.flatMap (grw at' (nws first many))/\(∀p∈ts,¬HasK p k0)/\i<=ts.length/\us.length<=300*i)
    ⟨[],[],[],none,none,rfl,S1,h1,.nil,.nil,rfl,λp hp=>(k6 hp).elim,km _,kN _⟩ (λi σ H3 _ h9=>by obtain⟨_,_,_,_,_,_,S,_⟩:=h9;exact(SqT.of (S _ _ e2))) ?_ ?_
   .intro i v σ H3 hi h8;refine E_5 h8 λus ts mss o6 o7 n8=>A_9 n8 λe9 S3 hl3 hAL hGL hf hnK hc hu=>?_;clear n8 h8;subst e9;obtain⟨p,ep,hAp⟩:=hQ.get hi;obtain⟨np,enp,gp⟩:=hG.get ep;have two:=ZA h2 (ky ep);obtain⟨hin,evn⟩:=kf.mp enp;obtain⟨hiw,_⟩:=kf.mp hi;refine zJ ?_;refine⟨_,rfl,_,rfl,_,rfl,_,rfl,_,rfl,v,p,np,at',k,many,first,rfl,hAp.same S3,gp,hk,m2,m3,kw (x6 (ky enp)) n24,(),(),λx' t' H4 S4 hA' g'=>?_⟩;have hl4:=S4 _ _ hl3;have hAL4:=hAL.same S4;have S04:=S3.trans S4;obtain⟨qs,qss,gq,ef,hnp,hsp,lp1,alt⟩:=g'.flat k0;have z2:=qq qs;have szt:=g'.szN;have lg:(np.flatMap (grw at' (nws first many))).length<=72:=by
     have ln:∀l:List Int,(l.flatMap (grw at' (nws first many))).length<=3*l.length:=λl=>by
      induction l with
      |nil=>exact km _
      |cons a r ih =>
       rw[uX,kt,kG];have:(grw at' (nws first many) a).length<=3:=by
        unfold grw;split
        .rw[kG,Yq];lia
        .exact(by decide:1<=3)
       lia
     have:=ln np;have:=x6 (ky enp)
     lia
    have lus:=hAL.len;refine zJ ?_;have fin:∀(zs:List V),AtL H4 zs qs->∃(us':List V)(ts:List T)(mss:List (List Int))(o6 o7:Option V),[some (.ref a0),some (.int at'),some (.str k),some (.int many),some (.int first),some (.ref lp),some v,some x']=[some (.ref a0),some (.int at'),some (.str k),some (.int many),some (.int first),some (.ref lp),o6,o7]/\Same H (upd H4 lp (.lst (us++zs)))/\(upd H4 lp (.lst (us++zs))) lp=some (.lst us')/\AtL (upd H4 lp (.lst (us++zs))) us' ts/\zL ts mss/\mss.flatten=(nss.take (i+1)).flatten.flatMap (grw at' (nws first many))/\(∀p∈ts,¬HasK p k0)/\i+1<=ts.length/\us'.length<=300*(i+1):=λzs hw=>by
     have lz:=hw.len;refine I_5 (us++zs) (ts++qs) (mss++qss) _ _ ⟨rfl,yu S04 nlp,zc,(hAL4.app hw).x hl4 zc jD,hGL.app gq,?_,?_,?_,?_⟩
     .rw[<-kC hin,evn,vL,vL,List.flatMap_append,hf,ef,k5,uz,vh]
     .intro p hp;rcases k7.mp hp with z|z
      .exact hnK p z
      .exact hnp p z
     .rw[kt];lia
     .rw[kt];lia
    refine⟨_,rfl,_,_,_,_,rfl,rfl,hA'.ty,kT hA',_,rfl,?_⟩;rcases alt with rfl|⟨rfl,⟨j,rfl⟩|⟨k',rs,rfl,ne⟩⟩
    .cases hA' with
     |@tup a5 vs5 ss5 e5 hL5 =>
     obtain⟨b5,ws5,rfl,e6,hQ5⟩:=hL5.knot;have lq5:=hQ5.len;refine iteT ⟨_,rfl,_,_,_,_,rfl,rfl,SqT.of e5,rfl,_,rfl,_,_,_,_,rfl,rfl,SqT.of (S04 _ _ e),rfl,rfl,_,rfl,?_⟩;rw[decide_eq_true rfl];refine iteT ⟨_,rfl,.inl ⟨rfl,_,SqL.of hl4⟩,_,rfl,_,_,_,_,rfl,rfl,SqT.of e5,rfl,lp,_,_,_,rfl,rfl,hl4,SqT.of e6,kw (show _<=100000 by lia) ⋯,fin _ hQ5⟩
    .cases hA';refine iteF (iteF ⟨_,rfl,.inl ⟨rfl,_,SqL.of hl4⟩,_,rfl,lp,_,_,rfl,rfl,hl4,vC (show _<=100000 by lia) ⋯,fin _ (.cons (.int _) .nil)⟩)
    .cases hA' with
     |@tup a5 vs5 ss5 e5 hL5 =>
     obtain⟨b5,ws5,rfl,e6,hQ5⟩:=hL5.knot;refine iteT ⟨_,rfl,_,_,_,_,rfl,rfl,SqT.of e5,rfl,_,rfl,_,_,_,_,rfl,rfl,SqT.of (S04 _ _ e),rfl,rfl,_,rfl,?_⟩;rw[decide_eq_false (λz=>ne (by injection z))];exact iteF ⟨_,rfl,.inl ⟨rfl,_,SqL.of hl4⟩,_,rfl,lp,_,_,rfl,rfl,hl4,vC (show _<=100000 by lia) ⋯,fin _ (.cons (.tup e5 hL5) .nil)⟩
   .intro σ H3 h8;refine E_5 h8 λus ts mss o6 o7 n8=>A_9 n8 λe9 S3 hl3 hAL hGL hf hnK hc hu=>?_;clear n8 h8;subst e9;refine⟨_,rfl,_,_,_,_,rfl,rfl,SqT.of (S3 _ _ e),rfl,_,rfl,lp,us,rfl,.inl ⟨SqL.of hl3,λp np=>⟨Zz2,λr nr=>?_⟩⟩⟩;have Sp:=zd (o:=.tup us) np;have hp:(upd H3 p (.tup us)) p=some (.tup us):=zc;generalize upd H3 p (.tup us)=H4 at Sp hp nr;have Sr:=zd (o:=.tup [.str k0,.ref p]) nr;have lG:=hG.len;rw[lq,<-lG,kJ]at hf;refine q (.ref r) (.tup [.str k0,.tup ts]) _ ((S3.trans Sp).trans Sr) (.tup zc (.cons (.str _) (.cons (.tup (Sr _ _ hp) (hAL.same (Sp.trans Sr))) .nil))) ?_;rw[<-hf];exact .node hk0 () hnK hGL
theorem zbx{f:Addr}{fd:FuncData}(F:Fun K "_law_split" "_law_split" (top 97) f fd)(Zt:Nt K mg kA)(bo:mg "_law_split"=some (.ref f))(kp:um K (.ref f)=true)(bd:Binds K fd ["tree","at","kind","many","first"] []):∀d,FnOk P w K mg base CX0 (d+1) f fd ["tree","at","kind","many","first"] (ZS d)
 |0=>zeo F
 |d+1=>zep F Zt ⟨zbx F Zt bo kp bd d,bo,kp,bd⟩
end
theorem Paired.set'{α β:Type}{R:α->β->Prop}{v:α}{w:β}(r:R v w):∀{us:List α}{ws:List β}(i:Nat),Paired R us ws->Paired R (us.set i v) (ws.set i w)
 |_,_,_,.nil=>.nil
 |_,_,0,.cons _ t=>.cons r t
 |_,_,i+1,.cons h t=>.cons h (Paired.set' r i t)
theorem Txs.ne{H:Hp}{us:List V}{wss:List (List W)}(h:Txs H us wss){l:Addr}(n:H l=none):∀v∈us,v≠.ref l:=λv hv z=>by
 obtain⟨i,hi,ei⟩:=vg.mp hv;obtain⟨ws,_,p,e,hp,_⟩:=h.get (kc hi);rw[ei,z]at e;cases e;rw[n]at hp;cases hp
theorem Txs.updL{H:Hp}{l:Addr}{o:HO}:∀{us:List V}{wss:List (List W)},Txs H us wss->(∀v∈us,v≠.ref l)->Txs (upd H l o) us wss
 |_,_,.nil,_=>.nil
 |_,_,.cons ⟨p,e,hp,r⟩ t,h=>.cons ⟨p,e,by rw[zN (λz=>h _ kg (by rw[e,z]))];exact hp,r⟩ (Txs.updL t λv hv=>h v (kn _ hv))
theorem WN(a b:List W):tx a++tx b=tx (a++b):=by
 unfold tx;rw[kF]
structure Tx1(H0 H:Hp)(lt:Addr)(us:List V)(wss:List (List W)):Prop where
 same:Same H0 H
 new:H0 lt=none
 out:H lt=some (.lst us)
 txs:Txs H us wss
 inn:∀v∈us,v≠.ref lt
theorem Tx1.ex{H0 H H':Hp}{lt:Addr}{us:List V}{wss:List (List W)}(S:Same H H')(h:Tx1 H0 H lt us wss):Tx1 H0 H' lt us wss:=⟨h.same.trans S,h.new,S _ _ h.out,h.txs.same S,h.inn⟩
theorem Tx1.put{H0 H:Hp}{lt b:Addr}{us:List V}{wss:List (List W)}{ws:List W}(h:Tx1 H0 H lt us wss)(i:Nat)(hb:Tx H (.ref b) ws)(ne:b≠lt):Tx1 H0 (upd H lt (.lst (us.set i (.ref b)))) lt (us.set i (.ref b)) (wss.set i ws):=by
 have inn:∀v∈us.set i (.ref b),v≠.ref lt:=λv hv=>by
  rcases List.mem_or_eq_of_mem_set hv with z|z
  .exact h.inn v z
  .rw[z];intro e;injection e with e;exact ne e
 exact⟨yu h.same h.new,h.new,zc,Txs.updL (Paired.set' hb i h.txs) inn,inn⟩
def QD(K:PySem.W.Frag):Sp:=λvs H Q _=>∃(a:Addr)(ns:List Int),vs=[.ref a]/\SqL K H a (ns.map V.int) /\
 ∀(l:Addr)(x:V)(lt:Addr)(t:T)(n:List Int)(us:List V)(wss:List (List W))(H':Hp),Same H H'->H' l=some (.lst [x,.ref lt])->At H' x t->Good t n->n.Perm (up wss.length)->H' lt=some (.lst us)->Txs H' us wss->wss.length<=11->Q (.ref l) H'
section
variable{P:Program}{w:World}{K:PySem.W.Frag}{mg:Str->Option Value}{base:Heap}{kA:Addr}
theorem xD:zu ["cells","tree","texts","cell","way","at","many","k"] ["cells"] (zl (top 98)):=by trivial
theorem zcw{f fM fS fL:Addr}{fd dM dS dL:FuncData}(F:Fun K "_law_grown" "_law_grown" (top 98) f fd)(tl:mg "len"=none)(tr:mg "range"=none)(Mx:Callee P w K mg base CX0 1 "_law_mixed" fM dM ["cell","k"] Yp)(Sp:Callee P w K mg base CX0 25 "_law_split" fS dS ["tree","at","kind","many","first"] (ZS 24))
  (Lw:Callee P w K mg base CX0 2 "_law_word" fL dL ["cell"] zbv):FnOk P w K mg base CX0 26 f fd ["cells"] (QD K):=by
 refine F.ok xD (λvs H Q E h=>?_) (λcdv A outer s H vs Q E hr h=>?_)
 .refine E_2 h λa ns n8=>A_2 n8 λe9 _=>?_;clear n8 h;subst e9;rfl
 .refine E_2 h λa ns n8=>A_3 n8 λe9 hS q=>?_;clear n8 h;subst e9;refine⟨_,(ze (zB (i:=1) xD.nd rfl (Or.inl rfl) zk)
   (ze (zB (i:=2) xD.nd rfl (Or.inl rfl) (yh (za (yh zb) zb)))
   (ze (yS PassesOwn.never rfl (zV (pv 0)) (zt (i:=3) xD.nd rfl (Or.inl rfl))
   (ze (zB (i:=4) xD.nd rfl (Or.inl rfl) (zK y6 (zg Mx.ok (hr.mono (show 1<=25 by decide)) rfl Mx.bound Mx.kp Mx.bd .nil zr (za (pv 3) (za zk zb))) zk))
    (ze (zB (i:=5) xD.nd rfl (Or.inl rfl) (zK y6 (zg Mx.ok (hr.mono (show 1<=25 by decide)) rfl Mx.bound Mx.kp Mx.bd .nil zr (za (pv 3) (za zk zb))) (zp zA (by rfl) tl kW (za (pv 2) zb))))
    (ze (zB (i:=6) xD.nd rfl (Or.inl rfl) (zK yL zk (zK y6 (zg Mx.ok (hr.mono (show 1<=25 by decide)) rfl Mx.bound Mx.kp Mx.bd .nil zr (za (pv 3) (za zk zb))) zk)))
    (zf (zO (PW.pt (qY (zI xH (pv 4) zk (zD _)) (qf (zI yO (zK yL (zp zA (by rfl) tl kW (za (pv 2) zb)) (pv 6)) zk (zD _)))))
    (ze (zB (i:=1) xD.nd rfl (Or.inl rfl) (zg Sp.ok hr rfl Sp.bound Sp.kp Sp.bd .nil zr (za (pv 1) (za (pv 5) (za (zm Z1 xS (zK y6 (zg Mx.ok (hr.mono (show 1<=25 by decide)) rfl Mx.bound Mx.kp Mx.bd .nil zr (za (pv 3) (za zk zb))) zk) (λ_ _=>rfl)) (za (pv 6) (za (zp zA (by rfl) tl kW (za (pv 2) zb)) zb)))))))
     (zf (zB (i:=2) xD.nd rfl (Or.inl rfl) (zK q8 (pv 2) (zQ (Nc:=["k"]) (ix:=[none]) rfl rfl (by exact(wW rfl tr (za (zK xq (pv 6) zk) zb))) (λ_ _ _ _ _=>(zt (i:=0) (by show(["k"]:List Str).Nodup;decide +kernel) rfl (Or.inl rfl))) (λ_ _ _ _ _=>zP) (λ_ _ _ _ _=>(yh zb)))))))
    (zf (zO (zI yO (zp zA (by rfl) tl kW (za (zm yc (pv 2) (pv 5) (λ_ _=>rfl)) zb)) zk (zD _))
     (zf (Zk (zK q8 (zm yc (pv 2) (pv 5) (λ_ _=>rfl)) (yh (za (zg Lw.ok (hr.mono (show 2<=25 by decide)) rfl Lw.bound Lw.kp Lw.bd .nil zr (za (pv 3) zb)) zb))) (JR (pv 2) (pv 5) set_list)))
     zF))))))))
   (zf (zo (yh (za (pv 1) (za (pv 2) zb)))))))),?_⟩
  try dsimp only
  refine⟨Zz0,λp0 np0=>⟨Zz1,λlt0 nlt0=>?_⟩⟩;have S0:=zd (o:=.lst []) np0;have X0:Tx1 H (upd (upd H p0 (.lst [])) lt0 (.lst [.ref p0])) lt0 [.ref p0] [[]]:=by
   have h0:(upd H p0 (.lst [])) p0=some (.lst (tx [])):=zc;have T0:Txs (upd H p0 (.lst [])) [.ref p0] [[]]:=.cons ⟨p0,rfl,h0,λu hu=>absurd hu k6,kN _⟩ .nil;have S1:=zd (o:=.lst [.ref p0]) nlt0;exact⟨S0.trans S1,S0.free nlt0,zc,T0.same S1,T0.ne nlt0⟩
  generalize upd (upd H p0 (.lst [])) lt0 (.lst [.ref p0])=H1 at X0
  try dsimp only
  -- cell by cell
  refine⟨_,rfl,a,rfl,⟨_,X0.same.seq hS⟩,?_⟩;refine xp (K:=K) (a:=a) (xs:=ns.map V.int) (λi σ H2=>∃(x:V)(t:T)(n:List Int)(lt:Addr)(us:List V)(wss:List (List W))(o4 o5 o6 o7:Option V),σ=[some (.ref a),some x,some (.ref lt),o4,o5,o6,o7,none]/\At H2 x t/\Good t n/\n.Perm (up wss.length)/\Tx1 H H2 lt us wss/\wss.length<=11)
   ⟨.int 0,.int 0,[0],lt0,_,_,none,none,none,none,rfl,.int 0,.leaf 0,.refl _,X0,⋯⟩ (λi σ H2 _ h9=>by obtain⟨_,_,_,_,_,_,_,_,_,_,_,_,_,_,X,_⟩:=h9;exact(X.same.seq hS)) ?_ ?_
  .intro i v σ H2 hi h8;refine E_10 h8 λx t n lt us wss o4 o5 o6 o7 n8=>A_6 n8 λe9 hA g pm X2 m11=>?_;clear n8 h8;subst e9;rw[kM]at hi;obtain⟨cell,_,rfl⟩:=kZ.mp hi;have lu:=X2.txs.len;have ln:=pm.length_eq;rw[qp]at ln;have n1:1<=n.length:=by
    have:=g.szN;have:=jq t
    lia
   refine zJ ?_;refine⟨_,rfl,cell,3,rfl,⋯,⋯,λc3 p3=>⟨_,_,rfl,rfl,(by show(0:Int)<4;decide),?_⟩⟩;refine zJ ?_;refine⟨_,rfl,cell,4,rfl,⋯,⋯,λc4 p4=>⟨_,rfl,lt,_,rfl,.inl (SqL.of X2.out),_,_,rfl,rfl,(by show(0:Int)<(us.length:Int);lia),?_⟩⟩;have a0:=v5 c4 (show(us.length:Int)≠0 by lia);have a1:=vW c4 (show(0:Int)<(us.length:Int)by lia);obtain⟨at',hat⟩:=vO a0;refine zJ ?_;dsimp only;rw[hat];rw[hat]at a1;refine⟨_,rfl,cell,5,rfl,⋯,⋯,λc5 p5=>⟨_,_,rfl,rfl,(by show(0:Int)<2;decide),_,_,rfl,rfl,?_⟩⟩;obtain⟨many,hmany,m2,m3⟩:∃many:Nat,(2:Int)+c5 % 2=(many:Int)/\2<=many/\many<=3:=by
    have:=v5 c5 (show(2:Int)≠0 by decide);have:=vW c5 (show(0:Int)<2 by decide);exact⟨(2+c5 % 2).toNat,(),(),()⟩
   refine zJ ?_;dsimp only;rw[hmany];refine wM (p:=c3 % 4=0/\(us.length:Int)+(many:Int)<12) (Qa (yV (Z0 (zh rfl) zC)) (yV (zT (zT (yU (zh rfl) (SqL.of X2.out)) (zh rfl)) zC))) (λc=>?_) (λ_=>?_)
   .-- a box is parted
    refine⟨_,rfl,_,rfl,_,rfl,cell,6,rfl,⋯,⋯,λc6 p6=>?_⟩;obtain⟨ch,hch,hkk⟩:=zaC c6;have sz1:=g.szN;refine⟨_,_,rfl,rfl,(by show(0:Int)<2;decide),[124,45],_,ch,congrArg V.str zdz,rfl,⋯,hch,_,rfl,_,rfl,lt,_,rfl,.inl (SqL.of X2.out),x,t,n,(at':Int),_,many,_,rfl,hA,g,hkk,m2,m3,(),(),⋯,λx' t' H3 S3 hA' g'=>?_⟩;have X3:=X2.ex S3;refine zJ ?_
    try dsimp only
    refine⟨_,rfl,_,rfl,_,_,rfl,rfl,_,rfl,(),(),?_⟩;rw[show((many:Int)-1).toNat=many-1 by lia];refine YF (lo:=0) (n:=many-1) (λj ys σ H4=>Txs H4 ys (ve j [])/\Same H3 H4/\∃o,σ=[o]) ⟨.nil,Same.refl _,none,rfl⟩
     (λj ys σ H4 hj h9=>by obtain⟨e,_,_⟩:=h9;exact(by rw[e.len,vz];exact kw (show j<=10 by lia) ⋯)) ?_ ?_
    case refine_2 =>
     intro j ys σ H4 hj h8;refine A_3 h8 λhY S4 n8=>E_1 n8 λo e9=>?_;clear n8 h8;subst e9;dsimp only[zU,tYes];refine iteT ⟨Zz0,λp1 np1=>⟨?_,S4.trans (zd np1),_,rfl⟩⟩;rw[v6];exact(hY.same (zd np1)).snoc ⟨p1,rfl,zc,λu hu=>absurd hu k6,kN _⟩
    rintro ys σ H4 ⟨hY,S4,_⟩ p1 np1;have S5:=zd (o:=.lst ys) np1;have X5:=(X3.ex S4).ex S5;have hY5:=hY.same S5;have hp1:upd H4 p1 (.lst ys) p1=some (.lst ys):=zc;have hA5:=(hA'.same S4).same S5;generalize upd H4 p1 (.lst ys)=H5 at S5 X5 hY5 hp1 hA5;have ly:=hY5.len;rw[vz]at ly;refine I_4 lt p1 _ _ ⟨rfl,rfl,X5.out,hp1,kw (show us.length+ys.length<=100 by lia) ⋯,λp2 np2=>?_⟩;have S6:=zd (o:=.lst (us++ys)) np2;have T6:Txs H5 (us++ys) (wss++ve (many-1) []):=by
     have app:∀{vs:List V}{ts:List (List W)},Txs H5 vs ts->Txs H5 (vs++ys) (ts++ve (many-1) []):=λh=>by
      induction h with
      |nil=>exact hY5
      |cons h t ih=>exact .cons h ih
     exact app X5.txs
    have gu:=zfF (j:=many-1) (at':=(at':Int)) pm () ();have el:((us.length:Nat):Int)=((wss.length:Nat):Int):=()
    rw[show(((us.length:Nat):Int))=((wss.length:Nat):Int)by omega]at g';refine I_10 x' t' _ p2 (us++ys) (wss++ve (many-1) []) _ _ _ _ ⟨rfl,hA5.same S6,g',?_,⟨X5.same.trans S6,X5.same.free np2,zc,T6.same S6,T6.ne np2⟩,by rw[kt,vz];lia⟩;rw[kt,vz];exact gu
   .-- or gets a word
    have hi':at'<us.length:=()
    obtain⟨ws,ew,pa,ev,hpa,hw,h40⟩:=X2.txs.get (kc hi');have eat:atI us (at':Int)=some (.ref pa):=yX (by rw[kc hi',ev]);refine wM (p:=(((tx ws).length:Nat):Int)<40) (yV (zT (yU (xW (zh rfl) (zh rfl) (SqL.of X2.out) eat) (SqL.of hpa)) zC)) (λc=>?_) (λ_=>?_)
    .rw[yf]at c;refine⟨_,rfl,_,rfl,lt,_,_,_,rfl,rfl,SqL.of X2.out,eat,_,rfl,cell,rfl,λu hu=>⟨Zz1,λp1 np1=>?_⟩⟩;have S3:=zd (o:=.lst [.str (txt u)]) np1;have X3:=X2.ex S3;have hp1:upd H2 p1 (.lst [.str (txt u)]) p1=some (.lst (tx [u])):=zc;have hpa3:=S3 _ _ hpa;have hA3:=hA.same S3;generalize upd H2 p1 (.lst [.str (txt u)])=H3 at S3 X3 hp1 hpa3 hA3;refine I_4 pa p1 _ _ ⟨rfl,rfl,hpa3,hp1,by rw[yf,yf];exact kw (show ws.length+1<=100 by lia) ⋯,λp2 np2=>?_⟩;rw[WN];have S4:=zd (o:=.lst (tx (ws++[u]))) np2;have X4:=X3.ex S4;have hp2:upd H3 p2 (.lst (tx (ws++[u]))) p2=some (.lst (tx (ws++[u]))):=zc;have hA4:=hA3.same S4;have ne:p2≠lt:=(yd X3.out np2).symm;generalize upd H3 p2 (.lst (tx (ws++[u])))=H4 at S4 X4 hp2 hA4;refine⟨_,rfl,_,rfl,lt,_,_,at',rfl,rfl,X4.out,?_,?_⟩
     .unfold ixN;rw[if_pos (),if_pos (by omega),v9]
     .refine I_10 x t n lt _ (wss.set at' (ws++[u])) _ _ _ _ ⟨rfl,hA4.x X4.out zc jD,g,by rw[List.length_set];exact pm,X4.put at' ⟨p2,rfl,hp2,λz hz=>?_,by rw[kt];show ws.length+1<=40;lia⟩ ne,by rw[List.length_set];exact m11⟩;rcases k7.mp hz with y|y
      .exact hw z y
      .rw[kq.mp y];exact hu
    .exact I_10 x t n lt us wss _ _ _ _ ⟨rfl,hA,g,pm,X2,m11⟩
  intro σ H2 h8;refine E_10 h8 λx t n lt us wss o4 o5 o6 o7 n8=>A_6 n8 λe9 hA g pm X2 m11=>?_;clear n8 h8;subst e9;have lu:=X2.txs.len;have ln:=pm.length_eq;rw[qp]at ln
  try dsimp only
  refine⟨_,rfl,_,rfl,Zz2,λl nl=>?_⟩;have S3:=zd (o:=.lst [x,.ref lt]) nl;exact q l x lt t n us wss _ (X2.same.trans S3) zc (hA.same S3) g pm (S3 _ _ X2.out) (X2.txs.same S3) m11
end
end _JN
namespace _Sta
open _Tre _Lin
theorem zfG{P:R}{w k:Nat}{o:Option Nat}(h:P w k)(l:Low P w o):∃v,o=some v:=by
 cases o with
 |none=>exact(l k h).elim
 |some v=>exact⟨v,rfl⟩
open PySem _L2
mutual
inductive Nr(wss:List (List W)):T->Nat->Prop where
 |leaf{i:Int}{ws:List W}{m:Nat}(h0:0<=i)(h:wss[i.toNat]?=some ws)(l1:1<=m)(l2:∀u∈ws,u.length<=m)(l3:m=1\/∃u∈ws,u.length=m):Nr wss (.int i) m
 |bar{ps:List T}{ms:List Nat}(h:NrL wss ps ms):Nr wss (.tup [.str bar,.tup ps]) ms.sum
 |dash{ps:List T}{ms:List Nat}{m:Nat}(h:NrL wss ps ms)(hm:m∈ms)(hx:∀z∈ms,z<=m):Nr wss (.tup [.str dash,.tup ps]) m
inductive NrL(wss:List (List W)):List T->List Nat->Prop where
 |nil:NrL wss [] []
 |cons{t:T}{m:Nat}{ts:List T}{ms:List Nat}(h:Nr wss t m)(r:NrL wss ts ms):NrL wss (t::ts) (m::ms)
end
mutual
theorem ya.room{Ls:List R}:∀{t:T}{p:Pc}{res:List (Int×Pc)},ya Ls t p res->∀{P:R},HasR Ls t P->Rm P p->∀q∈res,0<=q.1/\∃L,Ls[q.1.toNat]?=some L/\Rm L q.2
 |_,_,_,.leaf,P,h,rm,q,hq=>by
  rw[kq.mp hq];cases h with
  |leaf h0 h=>exact⟨h0,P,h,rm⟩
 |_,_,_,.bar h r,P,_,_,q,hq=>SetL.room r (λi t p e1 e2=>(PcsA.rm h e1 e2).2.2) q hq
 |_,_,_,.dash h r,P,_,_,q,hq=>SetL.room r (λi t p e1 e2=>(PcsD.rm h e1 e2).2.2) q hq
theorem SetL.room{Ls:List R}:∀{ts:List T}{pcs:List Pc}{res:List (List (Int×Pc))},SetL Ls ts pcs res->(∀(i:Nat)(t:T)(p:Pc),ts[i]?=some t->pcs[i]?=some p->∃P,HasR Ls t P/\Rm P p)->∀q∈res.flatten,0<=q.1/\∃L,Ls[q.1.toNat]?=some L/\Rm L q.2
 |_,_,_,.nil,_,q,hq=>by simp at hq
 |_,_,_,.cons h r,H,q,hq=>by
  rw[k5]at hq;rcases k7.mp hq with z|z
  .obtain⟨P,hP,rm⟩:=H 0 _ _ rfl rfl;exact ya.room h hP rm q z
  .exact SetL.room r (λi t p e1 e2=>H (i+1) t p (by simpa using e1) (by simpa using e2)) q z
end
theorem zby{A:S}(h:A.Pairwise Lt){p q:Nat×Nat}(hp:p∈A)(hq:q∈A):p=q\/Lt p q\/Lt q p:=by
 obtain⟨i,hi,ei⟩:=vg.mp hp;obtain⟨j,hj,ej⟩:=vg.mp hq;have pw:=vE.mp h;rcases Nat.lt_trichotomy i j with z|z|z
 .have:=pw i j hi hj z;rw[ei,ej]at this;exact .inr (.inl this)
 .subst z;exact .inl (ei.symm.trans ej)
 .have:=pw j i hj hi z;rw[ei,ej]at this;exact .inr (.inr this)
theorem QE{A:S}(h:Ok A){p:Nat×Nat}(hp:p∈A):Low (reg A) p.1 (some p.2)/\Low (tr (reg A)) p.2 (some p.1):=by
 refine⟨⟨⟨p,hp,km _,km _⟩,λk ⟨q,hq,a,b⟩=>?_⟩,⟨⟨p,hp,km _,km _⟩,λk ⟨q,hq,a,b⟩=>?_⟩⟩
 .rcases zby h.1 hp hq with z|z|z
  .rw[z];exact b
  .have:=z.1;lia
  .have:=z.2;lia
 .rcases zby h.1 hp hq with z|z|z
  .rw[z];exact a
  .have:=z.1;lia
  .have:=z.2;lia
end _Sta
namespace _Sta
open _Tre _Lin
def inP(p:Pc)(x y:Nat):Bool:=decide (p.l<=x/\x<p.r/\p.t<=y/\y<p.b)
def wthn(p q:Pc):Prop:=p.l<=q.l/\q.l<q.r/\q.r<=p.r/\p.t<=q.t/\q.t<q.b/\q.b<=p.b
theorem wthn.trans{p q s:Pc}(a:wthn p q)(b:wthn q s):wthn p s:=by
 unfold wthn at *
 lia
theorem QF{a b c:Prop}[Decidable a][Decidable b][Decidable c](h:c↔a\/b)(n:¬(a/\b)):(if b then 1 else 0)+(if decide a=true then 1 else 0)=(if c then 1 else 0:Nat):=by
 by_cases ha:a
 .have hb:¬b:=λz=>n ⟨ha,z⟩;simp[ha,hb,h]
 .by_cases hb:b
  .simp[ha,hb,h]
  .simp[ha,hb,h]
theorem PcsA.cov{Ls:List R}(hL:∀L∈Ls,Up L){top below right:Nat}:∀{ts:List T}{left:Nat}{pcs:List Pc},PcsA Ls top below right ts left pcs->left<right/\top<below/\(∀x y,pcs.countP (inP · x y)=if left<=x/\x<right/\top<=y/\y<below then 1 else 0)/\∀q∈pcs,wthn ⟨left,top,right,below⟩ q
 |_,left,_,.one h rm=>by
  have up:=(HasR.up hL h).pos rm;refine⟨by omega,by omega,λx y=>?_,λq hq=>?_⟩
  .rw[v7,List.countP_nil,u6];unfold inP;by_cases c:left<=x/\x<right/\top<=y/\y<below
   .rw[if_pos c,if_pos (decide_eq_true c)]
   .rw[if_neg c,if_neg (by rw[decide_eq_false c];exact kH)]
  .rw[kq.mp hq];unfold wthn;exact⟨km _,by show left<right;omega,km _,km _,by show top<below;omega,km _⟩
 |_,left,_,.cons (w:=w) h lw r=>by
  obtain⟨a,b,c,d⟩:=PcsA.cov hL r;have up:=(HasR.up hL h).pos lw.1;refine⟨(),b,λx y=>?_,λq hq=>?_⟩
  .rw[v7,c];exact QF (a:=left<=x/\x<left+w/\top<=y/\y<below) (by constructor<;>intro z<;>lia) (by omega)
  .rcases kK.mp hq with rfl|z
   .unfold wthn;exact⟨km _,by show left<left+w;lia,by show left+w<=right;lia,km _,b,km _⟩
   .exact wthn.trans (q:=⟨left+w,top,right,below⟩) ⟨by show left<=left+w;lia,a,km _,km _,b,km _⟩ (d q z)
theorem PcsD.cov{Ls:List R}(hL:∀L∈Ls,Up L){left right below:Nat}:∀{ts:List T}{top:Nat}{pcs:List Pc},PcsD Ls left right below ts top pcs->left<right/\top<below/\(∀x y,pcs.countP (inP · x y)=if left<=x/\x<right/\top<=y/\y<below then 1 else 0)/\∀q∈pcs,wthn ⟨left,top,right,below⟩ q
 |_,top,_,.one h rm=>by
  have up:=(HasR.up hL h).pos rm;refine⟨by omega,by omega,λx y=>?_,λq hq=>?_⟩
  .rw[v7,List.countP_nil,u6];unfold inP;by_cases c:left<=x/\x<right/\top<=y/\y<below
   .rw[if_pos c,if_pos (decide_eq_true c)]
   .rw[if_neg c,if_neg (by rw[decide_eq_false c];exact kH)]
  .rw[kq.mp hq];unfold wthn;exact⟨km _,by show left<right;omega,km _,km _,by show top<below;omega,km _⟩
 |_,top,_,.cons (k:=k) h lw r=>by
  obtain⟨a,b,c,d⟩:=PcsD.cov hL r;have up:=(HasR.up hL h).pos lw.1;refine⟨a,(),λx y=>?_,λq hq=>?_⟩
  .rw[v7,c];exact QF (a:=left<=x/\x<right/\top<=y/\y<top+k) (by constructor<;>intro z<;>lia) (by omega)
  .rcases kK.mp hq with rfl|z
   .unfold wthn;exact⟨km _,a,km _,km _,by show top<top+k;lia,by show top+k<=below;lia⟩
   .exact wthn.trans (q:=⟨left,top+k,right,below⟩) ⟨km _,a,km _,by show top<=top+k;lia,b,km _⟩ (d q z)
mutual
theorem ya.cov{Ls:List R}(hL:∀L∈Ls,Up L):∀{t:T}{p:Pc}{res:List (Int×Pc)},ya Ls t p res->p.l<p.r->p.t<p.b->(∀x y,(res.map (·.2)).countP (inP · x y)=if p.l<=x/\x<p.r/\p.t<=y/\y<p.b then 1 else 0)/\∀q∈res,wthn p q.2
 |_,p,_,.leaf,a,b=>⟨λx y=>by
   show([p]:List Pc).countP (inP · x y)=_;rw[v7,List.countP_nil,u6];unfold inP;by_cases c:p.l<=x/\x<p.r/\p.t<=y/\y<p.b
   .rw[if_pos c,if_pos (decide_eq_true c)]
   .rw[if_neg c,if_neg (by rw[decide_eq_false c];exact kH)],λq hq=>by
   rw[kq.mp hq];exact⟨km _,a,km _,km _,b,km _⟩⟩
 |_,p,_,.bar h r,a,b=>by
  obtain⟨_,_,c,d⟩:=PcsA.cov hL h;obtain⟨e,f⟩:=SetL.cov hL r λq hq=>d q hq;exact⟨λx y=>by rw[e,c],f⟩
 |_,p,_,.dash h r,a,b=>by
  obtain⟨_,_,c,d⟩:=PcsD.cov hL h;obtain⟨e,f⟩:=SetL.cov hL r λq hq=>d q hq;exact⟨λx y=>by rw[e,c],f⟩
theorem SetL.cov{Ls:List R}(hL:∀L∈Ls,Up L){p0:Pc}:∀{ts:List T}{pcs:List Pc}{res:List (List (Int×Pc))},SetL Ls ts pcs res->(∀q∈pcs,wthn p0 q)->(∀x y,(res.flatten.map (·.2)).countP (inP · x y)=pcs.countP (inP · x y))/\∀q∈res.flatten,wthn p0 q.2
 |_,_,_,.nil,_=>⟨λ_ _=>rfl,λq hq=>by simp at hq⟩
 |_,_,_,.cons (p:=p) h r,H=>by
  have hp:=H p kg;obtain⟨c,d⟩:=ya.cov hL h hp.2.1 hp.2.2.2.2.1;obtain⟨e,f⟩:=SetL.cov hL r λq hq=>H q (kn _ hq);refine⟨λx y=>?_,λq hq=>?_⟩
  .rw[k5,kF,List.countP_append,c,e,v7,Nat.add_comm];congr 1;unfold inP;by_cases z:p.l<=x/\x<p.r/\p.t<=y/\y<p.b
   .rw[if_pos z,if_pos (decide_eq_true z)]
   .rw[if_neg z,if_neg (by rw[decide_eq_false z];exact kH)]
  .rw[k5]at hq;rcases k7.mp hq with z|z
   .exact hp.trans (d q z)
   .exact f q z
end
end _Sta
namespace _Til
inductive Gu(cs:List Bx):Bx->Prop where
 |box{p:Bx}(h:p∈cs):Gu cs p
 |x{p:Bx}{e:Int}(c:CutX cs p e)(a:Gu cs ⟨p.l,p.t,e,p.b⟩)(b:Gu cs ⟨e,p.t,p.r,p.b⟩):Gu cs p
 |y{p:Bx}{e:Int}(c:CutX (cs.map flp) (flp p) e)(a:Gu cs ⟨p.l,p.t,p.r,e⟩)(b:Gu cs ⟨p.l,e,p.r,p.b⟩):Gu cs p
theorem zgr{p q:Bx}(a:wthn p q=true)(b:wthn q p=true):p=q:=by
 obtain⟨a1,a2,a3,a4⟩:=zG.mp a;obtain⟨b1,b2,b3,b4⟩:=zG.mp b;cases p;cases q;simp only[Bx.mk.injEq];exact⟨ut a1 b1,ut a3 b3,ut b2 a2,ut b4 a4⟩
theorem xV{p q b:Bx}(a:wthn p q=true)(c:wthn q b=true):wthn p b=true:=by
 obtain⟨a1,a2,a3,a4⟩:=zG.mp a;obtain⟨b1,b2,b3,b4⟩:=zG.mp c;exact zG.mpr ⟨vT a1 b1,vT b2 a2,vT a3 b3,vT b4 a4⟩
theorem Gu.cut{cs:List Bx}{W G:Int}(T:zS cs W G){P:Bx}(g:Gu cs P):∀{q:Bx},Piece cs q->wthn P q=true->q∈cs\/xU cs q:=by
 induction g with
 |@box p h =>
  intro q hq hw;obtain⟨b,hb,hbq,_⟩:=hq.fill q.l q.t (kX _) hq.wide (kX _) hq.high;have o:=T.wf p h;have pp:Piece cs p:=⟨o.h1,o.v1,λx y a b c d=>⟨p,h,zG.mpr ⟨kX _,kX _,kX _,kX _⟩,z8.mpr ⟨a,b,c,d⟩⟩⟩;have e:=(YX T pp).mp h b hb p h (xV hw hbq) (zG.mpr ⟨kX _,kX _,kX _,kX _⟩);rw[e]at hbq;rw[zgr hbq hw];exact .inl h
 |@x p e c _ _ ia ib =>
  intro q hq hw;obtain⟨w1,w2,w3,w4⟩:=zG.mp hw;by_cases h1:q.r<=e
  .exact ia hq (zG.mpr ⟨w1,h1,w3,w4⟩)
  by_cases h2:e<=q.l
  .exact ib hq (zG.mpr ⟨h2,w2,w3,w4⟩)
  .exact .inr (.inl ⟨e,Int.not_le.mp h2,Int.not_le.mp h1,λb hb hbq=>c.2.2 b hb (xV hw hbq)⟩)
 |@y p e c _ _ ia ib =>
  intro q hq hw;obtain⟨w1,w2,w3,w4⟩:=zG.mp hw;by_cases h1:q.b<=e
  .exact ia hq (zG.mpr ⟨w1,w2,w3,h1⟩)
  by_cases h2:e<=q.t
  .exact ib hq (zG.mpr ⟨w1,w2,h2,w4⟩)
  .refine .inr (.inr ⟨e,Int.not_le.mp h2,Int.not_le.mp h1,λb hb hbq=>?_⟩);obtain⟨d,hd,rfl⟩:=kU.mp hb;rw[x9]at hbq;exact c.2.2 (flp d) (kU.mpr ⟨d,hd,rfl⟩) (by rw[x9];exact xV hw hbq)
end _Til
namespace _Sta
open _Tre _Lin _Til
def pb(p:Pc):Bx:=⟨p.l,p.t,p.r,p.b⟩
theorem zgs{p:Pc}{x y:Nat}:inB (pb p) x y=inP p x y:=by
 rw[vn,z8];unfold inP;rw[decide_eq_true_eq];show((p.l:Nat):Int)<=x/\(x:Int)<((p.r:Nat):Int)/\((p.t:Nat):Int)<=y/\(y:Int)<((p.b:Nat):Int)↔_;omega
theorem zfH(ps:List Pc)(x y:Nat):_Til.cnt (ps.map pb) x y=ps.countP (inP · x y):=by
 unfold _Til.cnt;rw[List.countP_map];exact List.countP_congr λp _=>by
  show inB (pb p) x y=true↔_;rw[zgs]
theorem QG{p q:Pc}(h:_Sta.wthn p q):_Til.wthn (pb p) (pb q)=true:=by
 obtain⟨a,_,b,c,_,d⟩:=h;exact zG.mpr ⟨uk.mpr a,uk.mpr b,uk.mpr c,uk.mpr d⟩
theorem Xh{Ls:List R}(hL:∀L∈Ls,Up L){t:T}{w h:Nat}{res:List (Int×Pc)}(s:ya Ls t ⟨0,0,w,h⟩ res)(hw:0<w)(hh:0<h):zS ((res.map (·.2)).map pb) w h:=by
 obtain⟨c,d⟩:=s.cov hL hw hh;refine⟨λb hb=>?_,λx y x0 x1 y0 y1=>?_⟩
 .obtain⟨p,hp,rfl⟩:=kU.mp hb;obtain⟨q,hq,rfl⟩:=kU.mp hp;obtain⟨a1,a2,a3,a4,a5,a6⟩:=d q hq;exact⟨Int.natCast_nonneg _,uT.mpr a2,uk.mpr a3,Int.natCast_nonneg _,uT.mpr a5,uk.mpr a6⟩
 .obtain⟨i,rfl⟩:=vO x0;obtain⟨j,rfl⟩:=vO y0;rw[zfH,c,if_pos ⟨kN _,uT.mp x1,kN _,uT.mp y1⟩]
def Own(cs:List Bx)(p:Pc)(res:List (Int×Pc)):Prop:=(∀q∈res,pb q.2∈cs)/\∀b∈cs,_Til.wthn (pb p) b=true->∃q∈res,b=pb q.2
theorem Own.l{cs:List Bx}{p q:Pc}{a r:List (Int×Pc)}(o:Own cs p (a++r))(hq:_Til.wthn (pb p) (pb q)=true)(far:∀z∈r,¬_Til.wthn (pb q) (pb z.2)=true):Own cs q a :=
 ⟨λz hz=>o.1 z (vJ _ hz),λb hb hw=>by
  obtain⟨z,hz,e⟩:=o.2 b hb (xV hq hw);rcases k7.mp hz with m|m
  .exact⟨z,m,e⟩
  .exact absurd (e ▸ hw) (far z m)⟩
theorem Own.r{cs:List Bx}{p q:Pc}{a r:List (Int×Pc)}(o:Own cs p (a++r))(hq:_Til.wthn (pb p) (pb q)=true)(far:∀z∈a,¬_Til.wthn (pb q) (pb z.2)=true):Own cs q r :=
 ⟨λz hz=>o.1 z (kO _ hz),λb hb hw=>by
  obtain⟨z,hz,e⟩:=o.2 b hb (xV hq hw);rcases k7.mp hz with m|m
  .exact absurd (e ▸ hw) (far z m)
  .exact⟨z,m,e⟩⟩
mutual
theorem jE{Ls:List R}(hL:∀L∈Ls,Up L){cs:List Bx}:∀{t:T}{p:Pc}{res:List (Int×Pc)},ya Ls t p res->p.l<p.r->p.t<p.b->Own cs p res->Gu cs (pb p)
 |_,p,_,.leaf,_,_,o=>.box (o.1 _ (kq.mpr rfl))
 |_,p,_,.bar h r,a,b,o=>gu_A hL r h o
 |_,p,_,.dash h r,a,b,o=>gu_D hL r h o
theorem gu_A{Ls:List R}(hL:∀L∈Ls,Up L){cs:List Bx}{top below right:Nat}:∀{ts:List T}{pcs:List Pc}{res:List (List (Int×Pc))},SetL Ls ts pcs res->∀{left:Nat},PcsA Ls top below right ts left pcs->Own cs ⟨left,top,right,below⟩ res.flatten->Gu cs ⟨left,top,right,below⟩
 |_,_,_,.nil,_,h,_=>by cases h
 |_,_,_,.cons (p:=p) (a:=a) (res:=res) s r,left,h,o=>by
  obtain⟨h1,h2,_,h4⟩:=PcsA.cov hL h;have wp:=h4 p kg;obtain⟨_,sa⟩:=s.cov hL wp.2.1 wp.2.2.2.2.1;rw[k5]at o;cases h with
  |one h rm =>
   cases r;rw[uz,vh]at o;exact jE hL s h1 h2 o
  |@cons t t2 ts left w P pcs hR lw rr =>
   obtain⟨k1,k2,_,k4⟩:=PcsA.cov hL rr;obtain⟨_,sr⟩:=SetL.cov hL r k4;have e1:((left:Nat):Int)<((left+w:Nat):Int):=uT.mpr wp.2.1;have e2:((left+w:Nat):Int)<((right:Nat):Int):=uT.mpr k1;have far1:∀z∈res.flatten,¬_Til.wthn (pb ⟨left,top,left+w,below⟩) (pb z.2)=true:=λz hz y=>by
    obtain⟨b1,b2,_⟩:=sr z hz;obtain⟨_,c2,_⟩:=zG.mp y;have c2:((z.2.r:Nat):Int)<=((left+w:Nat):Int):=c2;have b1:left+w<=z.2.l:=b1
    lia
   have far2:∀z∈a,¬_Til.wthn (pb ⟨left+w,top,right,below⟩) (pb z.2)=true:=λz hz y=>by
    obtain⟨_,b2,b3,_⟩:=sa z hz;obtain⟨c1,_⟩:=zG.mp y;have c1:((left+w:Nat):Int)<=((z.2.l:Nat):Int):=c1;have b3:z.2.r<=left+w:=b3
    lia
   refine .x (p:=⟨left,top,right,below⟩) (e:=((left+w:Nat):Int)) ⟨e1,e2,λb hb hw=>?_⟩ (jE hL s wp.2.1 wp.2.2.2.2.1 (o.l (QG wp) far1)) (gu_A hL r rr (o.r ?_ far2))
   .obtain⟨z,hz,rfl⟩:=o.2 b hb hw;rcases k7.mp hz with m|m
    .obtain⟨_,b2,b3,_⟩:=sa z m;have b3:z.2.r<=left+w:=b3;exact λy=>absurd (show((left+w:Nat):Int)<((z.2.r:Nat):Int)from y.2) ()
    .obtain⟨b1,b2,_⟩:=sr z m;have b1:left+w<=z.2.l:=b1;exact λy=>absurd (show((z.2.l:Nat):Int)<((left+w:Nat):Int)from y.1) ()
   .exact zG.mpr ⟨vU e1,kX _,kX _,kX _⟩
theorem gu_D{Ls:List R}(hL:∀L∈Ls,Up L){cs:List Bx}{left right below:Nat}:∀{ts:List T}{pcs:List Pc}{res:List (List (Int×Pc))},SetL Ls ts pcs res->∀{top:Nat},PcsD Ls left right below ts top pcs->Own cs ⟨left,top,right,below⟩ res.flatten->Gu cs ⟨left,top,right,below⟩
 |_,_,_,.nil,_,h,_=>by cases h
 |_,_,_,.cons (p:=p) (a:=a) (res:=res) s r,top,h,o=>by
  obtain⟨h1,h2,_,h4⟩:=PcsD.cov hL h;have wp:=h4 p kg;obtain⟨_,sa⟩:=s.cov hL wp.2.1 wp.2.2.2.2.1;rw[k5]at o;cases h with
  |one h rm =>
   cases r;rw[uz,vh]at o;exact jE hL s h1 h2 o
  |@cons t t2 ts top k P pcs hR lw rr =>
   obtain⟨k1,k2,_,k4⟩:=PcsD.cov hL rr;obtain⟨_,sr⟩:=SetL.cov hL r k4;have e1:((top:Nat):Int)<((top+k:Nat):Int):=uT.mpr wp.2.2.2.2.1;have e2:((top+k:Nat):Int)<((below:Nat):Int):=uT.mpr k2;have far1:∀z∈res.flatten,¬_Til.wthn (pb ⟨left,top,right,top+k⟩) (pb z.2)=true:=λz hz y=>by
    obtain⟨_,_,_,b1,b2,_⟩:=sr z hz;obtain⟨_,_,_,c2⟩:=zG.mp y;have c2:((z.2.b:Nat):Int)<=((top+k:Nat):Int):=c2;have b1:top+k<=z.2.t:=b1
    lia
   have far2:∀z∈a,¬_Til.wthn (pb ⟨left,top+k,right,below⟩) (pb z.2)=true:=λz hz y=>by
    obtain⟨_,_,_,_,b2,b3⟩:=sa z hz;obtain⟨_,_,c1,_⟩:=zG.mp y;have c1:((top+k:Nat):Int)<=((z.2.t:Nat):Int):=c1;have b3:z.2.b<=top+k:=b3
    lia
   refine .y (p:=⟨left,top,right,below⟩) (e:=((top+k:Nat):Int)) ⟨e1,e2,λb hb hw=>?_⟩ (jE hL s wp.2.1 wp.2.2.2.2.1 (o.l (QG wp) far1)) (gu_D hL r rr (o.r ?_ far2))
   .obtain⟨d,hd,rfl⟩:=kU.mp hb;rw[x9]at hw;obtain⟨z,hz,rfl⟩:=o.2 d hd hw;rcases k7.mp hz with m|m
    .obtain⟨_,_,_,_,b2,b3⟩:=sa z m;have b3:z.2.b<=top+k:=b3;exact λy=>absurd (show((top+k:Nat):Int)<((z.2.b:Nat):Int)from y.2) ()
    .obtain⟨_,_,_,b1,b2,_⟩:=sr z m;have b1:top+k<=z.2.t:=b1;exact λy=>absurd (show((z.2.t:Nat):Int)<((top+k:Nat):Int)from y.1) ()
   .exact zG.mpr ⟨kX _,kX _,vU e1,kX _⟩
end
theorem zeq{Ls:List R}(hL:∀L∈Ls,Up L){t:T}{w h:Nat}{res:List (Int×Pc)}(s:ya Ls t ⟨0,0,w,h⟩ res)(hw:0<w)(hh:0<h){cs:List Bx}(pm:cs.Perm ((res.map (·.2)).map pb)){q:Bx}(hq:Piece cs q)(hin:_Til.wthn ⟨0,0,w,h⟩ q=true):q∈cs\/xU cs q:=by
 have T0:=Xh hL s hw hh;have T:zS cs w h:=⟨λb hb=>T0.wf b (pm.mem_iff.mp hb),λx y a b c d=>by
  have e:=T0.one x y a b c d;unfold _Til.cnt at e ⊢;rw[pm.countP_eq];exact e⟩
 have o:Own cs ⟨0,0,w,h⟩ res:=⟨λz hz=>pm.mem_iff.mpr (kU.mpr ⟨z.2,kU.mpr ⟨z,hz,rfl⟩,rfl⟩),λb hb _=>by
  obtain⟨p,hp,rfl⟩:=kU.mp (pm.mem_iff.mp hb);obtain⟨z,hz,rfl⟩:=kU.mp hp;exact⟨z,hz,rfl⟩⟩
 exact(jE hL s hw hh o).cut T hq hin
end _Sta
namespace _L2
open PySem
theorem zcx{K:PySem.W.Frag}{a b:Addr}{xs ys:List V}{g:TG}{tb:TS}{D:Ends}{σ:St}{H:Hp}(Pv:Nat->St->Hp->Prop)(h0:Pv 0 σ H)(hq:∀i σ H,i<=min xs.length ys.length->Pv i σ H->SqL K H a xs/\SqL K H b ys)
  (hs:∀i x y σ H p,xs[i]?=some x->ys[i]?=some y->Pv i σ H->H p=none->g (.ref p) σ (upd H p (.tup [x,y])) λσ2 H2=>tb {D with nx:=Pv (i+1),ct:=Pv (i+1),bk:=D.nx} σ2 H2)(hd:∀σ H,Pv (min xs.length ys.length) σ H->D.nx σ H):
  ∃W:Nat->Nat->St->Hp->Prop,(∃m,W 0 m σ H)/\∀i m σ H,W i m σ H ->
   ((ItZ K a b).stop i H/\D.nx σ H)\/((ItZ K a b).go i H/\∃N:St->Hp->Prop,(∀σ' H',N σ' H'->∃m',m'<m/\W (i+1) m' σ' H')/\∀x H',(ItZ K a b).yld i H x H'->g x σ H' λσ2 H2=>tb {D with nx:=N,ct:=N,bk:=D.nx} σ2 H2):=by
 refine⟨λi m σ H=>m=min xs.length ys.length-i/\i<=min xs.length ys.length/\Pv i σ H,⟨min xs.length ys.length,by simp,kN _,h0⟩,?_⟩;rintro i m σ H ⟨rfl,hi,p⟩;obtain⟨z1,z2⟩:=hq i σ H hi p;by_cases hlt:i<min xs.length ys.length
 .refine .inr ⟨⟨xs,ys,xs[i]'(),ys[i]'(by omega),z1,z2,kc _,kc _⟩,Pv (i+1),λσ' H' p'=>⟨min xs.length ys.length-(i+1),by omega,rfl,hlt,p'⟩,λx H' y=>?_⟩;obtain⟨q,u,v,hn,e,e2,y1,y2⟩:=y;subst e e2;exact hs i u v σ H q (y1 xs z1) (y2 ys z2) p hn
 .have e:i=min xs.length ys.length:=()
  subst e;exact .inl ⟨⟨xs,ys,z1,z2,()⟩,hd σ H p⟩
end _L2
namespace _JN
open PySem _L2 _Lin _Tre PySem.W
open _Sta (R HasR zH OkS)
def zc5:Sp:=λvs H Q _=>∃(l:Addr)(us:List V)(A:Stc),vs=[.ref l]/\H l=some (.lst us)/\zY H us A/\_Sta.Ok A/\A≠[]/\A.length<=15000/\∀H',Same H H'->Q (.bl true) H'
structure Nl(K:PySem.W.Frag)(mg:Str->Option Value):Prop where
 ti:mg "isinstance"=none
 tlist:mg "list"=none
 ttup:mg "tuple"=none
 tl:mg "len"=none
 tmin:mg "min"=none
 tzip:mg "zip"=none
 tr:mg "range"=none
 kT:kitOne K (.type "tuple") (.type "tuple")=some true
 kL:kitOne K (.type "list") (.type "list")=some true
theorem QH{A:Stc}(h:_Sta.Ok A){i:Nat}{p q:Nat×Nat}(a:A[i]?=some p)(b:A[i+1]?=some q):p.1<q.1/\q.2<p.2:=by
 obtain⟨i1,e1⟩:=kf.mp a;obtain⟨i2,e2⟩:=kf.mp b;have:=vE.mp h.1 i (i+1) i1 i2 (vH _);rw[e1,e2]at this;exact this
section
variable{P:Program}{w:World}{K:PySem.W.Frag}{mg:Str->Option Value}{base:Heap}
theorem Xx:zu ["found","stair","one","other"] ["found"] (zl (top 99)):=by trivial
theorem zfI{f:Addr}{fd:FuncData}(F:Fun K "_law_is_stairs" "_law_is_stairs" (top 99) f fd)(Z:Nl K mg):FnOk P w K mg base CX0 1 f fd ["found"] zc5:=by
 obtain⟨ti,tlist,ttup,tl,tmin,tzip,tr,kT,kL⟩:=Z;refine F.ok Xx (λvs H Q E h=>?_) (λcdv A outer s H vs Q E hr h=>?_)
 .refine E_3 h λl us A n8=>A_2 n8 λe9 _=>?_;clear n8 h;subst e9;rfl
 .refine E_3 h λl us st n8=>A_7 n8 λe9 hl hS ok ne l15 q=>?_;clear n8 h;subst e9;refine⟨_,(ze (zO (PW.pt (xi (z9 (zX (zp yj (by rfl) ti k8 (za (pv 0) (za (yM rfl tlist vX) zb))))) (yZ (zI xH (zp zA (by rfl) tl kW (za (pv 0) zb)) zk (zD _)))))
   (zf (zo yN))
   zF)
   (ze (yS PassesOwn.never rfl (zV (pv 0)) (zt (i:=1) Xx.nd rfl (Or.inl rfl))
   (zf (zO (PW.pt (xi (z9 (zX (zp yj (by rfl) ti k8 (za (pv 1) (za (yM rfl ttup vx) zb))))) (xi (zI ww (zp zA (by rfl) tl kW (za (pv 1) zb)) zk (zD _)) (yZ (zI yO (zp (zaa rfl) (by rfl) tmin PyProof.Rows.boot_min (za (pv 1) zb)) zk (zD _))))))
    (zf (zo yN))
    zF)))
   (ze (yS PassesOwn.never rfl (qk rfl tzip (za (pv 0) (za (yp yQ (pv 0) (yx zk) yJ) zb))) (wI rfl (zR (zt (i:=2) Xx.nd rfl (Or.inl rfl)) (zR (zt (i:=3) Xx.nd rfl (Or.inl rfl)) yB)))
   (zf (zO (PW.pt (xi (zI zcF (zm zw (pv 2) zk (λ_ _=>rfl)) (zm zw (pv 3) zk (λ_ _=>rfl)) (zD _)) (yZ (zI y7 (zm zw (pv 2) zk (λ_ _=>rfl)) (zm zw (pv 3) zk (λ_ _=>rfl)) (zD _)))))
    (zf (zo yN))
    zF)))
   (zf (zo yN))))),?_⟩
  have ln:=hS.len;have l0:0<st.length:=bc.mpr ne;refine⟨_,rfl,_,_,_,_,rfl,rfl,.of (.lst hl),kL,_,rfl,iteF ?_⟩;refine⟨_,rfl,_,_,rfl,.inl (SqL.of hl),rfl,_,rfl,?_⟩;rw[decide_eq_false (show ¬V.int ((us.length:Nat):Int)=V.int 0 from λz=>by injection z with z;lia)];refine iteF ?_;refine z6 ?_;dsimp only;refine⟨_,rfl,l,rfl,⟨_,SqL.of hl⟩,xp (K:=K) (a:=l) (xs:=us) (λi σ H2=>∃o,σ=[some (.ref l),o,none,none]/\H2=H) ⟨none,rfl,rfl⟩ (λi σ H2 _ h9=>by obtain⟨_,_,e⟩:=h9;exact(by rw[e];exact SqL.of hl)) ?_ ?_⟩
  .intro i x σ H2 hx h8;obtain⟨o,rfl,rfl⟩:=h8;obtain⟨p,ep,a,rfl,ha⟩:=hS.get' hx;have p1:=ok.2 p (ky ep);refine zJ ?_;dsimp only;refine⟨_,rfl,_,_,_,_,rfl,rfl,.of (.tup ha),kT,_,rfl,iteF ?_⟩;refine⟨_,rfl,_,_,rfl,.inr (SqT.of ha),rfl,_,rfl,iteF ?_⟩;refine⟨_,rfl,a,[(p.1:Int),(p.2:Int)],rfl,SqT.of ha,ux _,λM hM _=>⟨_,_,rfl,rfl,_,rfl,?_⟩⟩;have m1:¬M<1:=by
    rcases kK.mp hM with e|e
    .lia
    .rw[kq.mp e]
     lia
   rw[decide_eq_false m1];exact iteF ⟨_,rfl,rfl⟩
  .intro σ H2 h8;obtain⟨o,rfl,e⟩:=h8;have e:=e.symm;subst e;refine⟨_,rfl,_,rfl,_,rfl,l,_,rfl,SqL.of hl,λl2 nl2=>?_⟩;rw[show(some 1:Option Int)=some ((1:Nat):Int)from rfl,y8 us 1 ()];have S2:=zd (o:=.lst (us.drop 1)) nl2;have hl2:upd H l2 (.lst (us.drop 1)) l2=some (.lst (us.drop 1)):=zc;generalize upd H l2 (.lst (us.drop 1))=H2 at S2 hl2;refine⟨l,l2,rfl,⟨_,SqL.of (S2 _ _ hl)⟩,⟨_,SqL.of hl2⟩,zcx (K:=K) (a:=l) (b:=l2) (xs:=us) (ys:=us.drop 1) (λi σ H3=>∃o1 o2 o3,σ=[some (.ref l),o1,o2,o3]/\Same H2 H3) ⟨_,_,_,rfl,Same.refl _⟩
    (λi σ H3 _ h9=>by obtain⟨_,_,_,_,S⟩:=h9;exact(⟨SqL.of (S _ _ (S2 _ _ hl)),SqL.of (S _ _ hl2)⟩)) ?_ ?_⟩
   .intro i x y σ H3 tp hx hy h8 ntp;refine E_3 h8 λo1 o2 o3 n8=>A_2 n8 λe9 S3=>?_;clear n8 h8;subst e9;rw[List.getElem?_drop,show 1+i=i+1 by lia]at hy;obtain⟨p,ep,a,rfl,ha⟩:=hS.get' hx;obtain⟨p',ep',a',rfl,ha'⟩:=hS.get' hy;obtain⟨n1,n2⟩:=QH ok ep ep';have S4:=S3.trans (zd (o:=.tup [.ref a,.ref a']) ntp);refine⟨tp,_,rfl,SqT.of zc,rfl,_,_,rfl,_,_,rfl,rfl,?_⟩;generalize upd H3 tp (.tup [.ref a,.ref a'])=H4 at S4;have h1:=S4 _ _ (S2 _ _ ha);have h2:=S4 _ _ (S2 _ _ ha');dsimp only;refine⟨_,rfl,_,_,_,_,rfl,rfl,SqT.of h1,rfl,_,rfl,_,_,_,_,rfl,rfl,SqT.of h2,rfl,_,_,rfl,rfl,_,rfl,?_⟩;rw[decide_eq_false (show ¬((p'.1:Nat):Int)<=((p.1:Nat):Int)by lia)];refine iteF ?_;refine⟨_,rfl,_,_,_,_,rfl,rfl,SqT.of h1,rfl,_,rfl,_,_,_,_,rfl,rfl,SqT.of h2,rfl,_,_,rfl,rfl,_,rfl,?_⟩;rw[decide_eq_false (show ¬((p.2:Nat):Int)<=((p'.2:Nat):Int)by lia)];exact iteF ⟨_,_,_,rfl,S4⟩
   .intro σ H3 h8;refine E_3 h8 λo1 o2 o3 n8=>A_2 n8 λe9 S3=>?_;clear n8 h8;subst e9;exact q H3 (S2.trans S3)
end
end _JN
namespace _JN
open PySem _L2 _Til _Tre PySem.W
open _Sta (R HasR zH bes dwn tr Low reg)
theorem WO:∀(us:List Int),us.getLastD 0=us.getD (us.length-1) 0
 |[]=>rfl
 |[a]=>rfl
 |a::b::r=>by
  have:=WO (b::r);rw[show(a::b::r).getLastD 0=(b::r).getLastD 0 by simp[List.getLastD],this];rfl
theorem zbz(p:_Til.Bx){us:List Int}{i:Nat}(h:i+1<us.length):(pcs p us)[i]?=some ⟨us.getD i 0,p.t,us.getD (i+1) 0,p.b⟩:=by
 unfold pcs;have e:(us.zip (us.drop 1))[i]?=some (us.getD i 0,us.getD (i+1) 0):=by
  refine uj.mpr ⟨?_,?_⟩
  .rw[kc (),_L2.getD_at ()]
  .rw[List.getElem?_drop,show 1+i=i+1 by lia,kc h,_L2.getD_at h]
 rw[kM,e];rfl
theorem JK{cs:List _Til.Bx}{p:_Til.Bx}{W G:Int}(T:zS cs W G)(P:Piece cs p){k:Str}{ps:List _Til.Bx}(h:yE cs p k ps)(l:1<ps.length):∃(sd:Int)(fl:_Til.Bx->_Til.Bx)(us:List Int),((sd=0/\fl=id/\k = "|")\/(sd=1/\fl=flp/\k = "-"))/\us.length=ps.length+1 /\
  us.getD 0 0=(fl p).l/\us.getD ps.length 0=(fl p).r/\∀i<ps.length,ps[i]?=some (fl ⟨us.getD i 0,(fl p).t,us.getD (i+1) 0,(fl p).b⟩):=by
 have core:∀{cs:List _Til.Bx}{p:_Til.Bx}{us:List Int},Piece cs p->us.Pairwise (· < ·)->(∀e,e∈us↔e=p.l\/e=p.r\/CutX cs p e)->us.getD 0 0=p.l/\us.getD (us.length-1) 0=p.r:=λ{cs p us} P up mem=>by
  have m1:p.l∈us:=(mem _).mpr (.inl rfl);have m2:p.r∈us:=(mem _).mpr (.inr (.inl rfl));have e1:=(wH up m1).1;have e2:=(wH up m2).2;have l0:0<us.length:=bB m1;rw[WO]at e2;have h0:us.headD 0=us.getD 0 0:=by cases us<;>rfl
  rw[h0]at e1;have i0:=xv P mem (e:=us.getD 0 0) (by rw[_L2.getD_at l0];exact vv _);have i1:=xv P mem (e:=us.getD (us.length-1) 0) (by rw[_L2.getD_at (by omega)];exact vv _);exact⟨(),()⟩
 obtain⟨ms,E,h⟩:=h;rcases h with⟨rfl,rfl,l1⟩|⟨rfl,l1,ns,E2,rfl⟩
 .obtain⟨up,mem⟩:=Ym T P E;obtain⟨a,b⟩:=core P up mem;have pl:=xC p (unc id cs p ms);refine⟨0,id,_,.inl ⟨rfl,rfl,rfl⟩,(),a,by rw[pl];exact b,λi hi=>zbz p (by omega)⟩
 .obtain⟨up,mem⟩:=Zg T P E2;obtain⟨a,b⟩:=core P.flp up mem;have pl:=xC (flp p) (unc flp cs p ns);rw[ke]at l ⊢;refine⟨1,flp,_,.inr ⟨rfl,rfl,rfl⟩,(),a,by rw[pl];exact b,λi hi=>?_⟩;rw[kM,zbz (flp p) (by omega)];rfl
theorem WP{us:List Int}{h:Nat}{Q:R}{Qs:List R}(mono:∀i,i<Qs.length+1->us.getD i 0<=us.getD (i+1) 0)(hr:∀(i:Nat)(q:R),(Q::Qs)[i]?=some q->q (us.getD (i+1) 0-us.getD i 0).toNat h):
  ∀k,k<=Qs.length->us.getD 0 0<=us.getD (k+1) 0/\((Qs.take k).foldl bes Q) (us.getD (k+1) 0-us.getD 0 0).toNat h
 |0,_=>⟨mono 0 (ux _),hr 0 Q rfl⟩
 |k+1,hk=>by
  obtain⟨le,ih⟩:=WP mono hr k ();have m:=mono (k+1) ();have e:Qs.take (k+1)=Qs.take k++[Qs[k]'(by assumption)]:=(kC (by assumption)).symm;have r:=hr (k+1) (Qs[k]'(by assumption)) (by rw[bz,kc]);refine⟨vT le m,?_⟩;rw[e,uo];exact⟨_,_,by omega,ih,r⟩
theorem WQ{us:List Int}{w:Nat}{Q:R}{Qs:List R}(mono:∀i,i<Qs.length+1->us.getD i 0<=us.getD (i+1) 0)(hr:∀(i:Nat)(q:R),(Q::Qs)[i]?=some q->q w (us.getD (i+1) 0-us.getD i 0).toNat):
  ∀k,k<=Qs.length->us.getD 0 0<=us.getD (k+1) 0/\((Qs.take k).foldl dwn Q) w (us.getD (k+1) 0-us.getD 0 0).toNat
 |0,_=>⟨mono 0 (ux _),hr 0 Q rfl⟩
 |k+1,hk=>by
  obtain⟨le,ih⟩:=WQ mono hr k ();have m:=mono (k+1) ();have e:Qs.take (k+1)=Qs.take k++[Qs[k]'(by assumption)]:=(kC (by assumption)).symm;have r:=hr (k+1) (Qs[k]'(by assumption)) (by rw[bz,kc]);refine⟨vT le m,?_⟩;rw[e,uo];exact⟨_,_,by omega,ih,r⟩
mutual
theorem QI{cs:List _Til.Bx}{W G:Int}(T:zS cs W G){Ls:List R}(rm:∀(i:Nat)(b:_Til.Bx)(L:R),cs[i]?=some b->Ls[i]?=some L->L (b.r-b.l).toNat (b.b-b.t).toNat):
  ∀{p:_Til.Bx}{t:_Tre.T},TrO cs p t->Piece cs p->∀{Q:R},HasR Ls t Q->Q (p.r-p.l).toNat (p.b-p.t).toNat
 |p,_,.leaf (i:=i) h,_,Q,hR=>by
  cases hR with
  |leaf h0 hl=>exact rm i p Q h hl
 |p,_,.node (ps:=ps) (ts:=ts) h hp l r,P,Q,hR=>by
  have pk:∀q∈ps,Piece cs q:=λq hq=>(wb T P hp hq).1;obtain⟨sd,fl,us,which,lu,u0,ul,at_⟩:=JK T P hp l;cases hR with
  |@bar _ Q Qs hL =>
   rcases which with⟨_,rfl,_⟩|⟨_,_,e⟩
   .have lq:=hL.len;have lt:=r.len;rw[kG]at lq;have rr:=Zi T rm r pk hL;have wd:∀i,i<Qs.length+1->us.getD i 0<us.getD (i+1) 0:=λi hi=>(pk _ (ky (at_ i ()))).wide;have z:=(WP (us:=us) (h:=(p.b-p.t).toNat) (Q:=Q) (Qs:=Qs) (λi hi=>vU (wd i hi)) (λi q hq=>rr i _ q (at_ i (by
     have:=(kf.mp hq).1;rw[kG]at this
     lia)) hq) Qs.length (km _)).2
    rw[kJ,show Qs.length+1=ps.length by lia,ul,u0]at z;exact z
   .exact absurd e.symm x8
  |@dash _ Q Qs hL =>
   rcases which with⟨_,_,e⟩|⟨_,rfl,_⟩
   .exact absurd e x8
   .have lq:=hL.len;have lt:=r.len;rw[kG]at lq;have rr:=Zi T rm r pk hL;have wd:∀i,i<Qs.length+1->us.getD i 0<us.getD (i+1) 0:=λi hi=>(pk _ (ky (at_ i ()))).high;have z:=(WQ (us:=us) (w:=(p.r-p.l).toNat) (Q:=Q) (Qs:=Qs) (λi hi=>vU (wd i hi)) (λi q hq=>rr i _ q (at_ i (by
     have:=(kf.mp hq).1;rw[kG]at this
     lia)) hq) Qs.length (km _)).2
    rw[kJ,show Qs.length+1=ps.length by lia,ul,u0]at z;exact z
theorem Zi{cs:List _Til.Bx}{W G:Int}(T:zS cs W G){Ls:List R}(rm:∀(i:Nat)(b:_Til.Bx)(L:R),cs[i]?=some b->Ls[i]?=some L->L (b.r-b.l).toNat (b.b-b.t).toNat):
  ∀{ps:List _Til.Bx}{ts:List _Tre.T},TrOL cs ps ts->(∀q∈ps,Piece cs q)->∀{Qs:List R},zH Ls ts Qs->∀(i:Nat)(q:_Til.Bx)(Q:R),ps[i]?=some q->Qs[i]?=some Q->Q (q.r-q.l).toNat (q.b-q.t).toNat
 |_,_,.nil,_,_,_,i,q,Q,h,_=>by simp at h
 |_,_,.cons a r,pk,Qs,hL,i,q,Q,h1,h2=>by
  cases hL with
  |cons hR hr =>
   match i,h1,h2 with
   |0,h1,h2 =>
    simp at h1 h2;subst h1 h2;exact QI T rm a (pk _ kg) hR
   |i+1,h1,h2=>exact Zi T rm r (λq hq=>pk q (kn _ hq)) hr i q Q (by simpa using h1) (by simpa using h2)
end
theorem zer{cs:List _Til.Bx}{W G:Int}(T:zS cs W G)(hW:0<W)(hG:0<G)(all:∀q,Piece cs q->_Til.wthn ⟨0,0,W,G⟩ q=true->q∈cs\/xU cs q){s:_Til.Bx}(h:Fs cs ⟨0,0,W,G⟩ (some s)):False:=by
 obtain⟨a,b,c⟩:=h.stuck T (xn T hW hG) s rfl;rcases all s a ((YW T).mp a |> λ⟨⟨x1,_,x2⟩,⟨y1,_,y2⟩,_⟩=>zG.mpr ⟨x1,x2,y1,y2⟩)with z|z
 .exact b z
 .exact c z
theorem zcy{A:_Sta.S}(h:_Sta.Ok A){k:Nat}{p:Nat×Nat}(hp:A[k]?=some p):(k=0->Low (reg A) (p.1-1) none)/\∀q,0<k->A[k-1]?=some q->Low (reg A) (p.1-1) (some q.2):=by
 have p1:=h.2 p (ky hp);obtain⟨ik,ek⟩:=kf.mp hp;have before:∀r∈A,r.1<=p.1-1->∃j,j<k/\A[j]?=some r:=λr hr hl=>by
  obtain⟨j,hj,e⟩:=vg.mp hr;refine⟨j,?_,by rw[kc hj,e]⟩;rcases Nat.lt_trichotomy j k with z|z|z
  .exact z
  .subst z;rw[ek]at e;subst e;omega
  .have:=vE.mp h.1 k j ik hj z;rw[ek,e]at this;have:=this.1;omega
 refine⟨λk0 v ⟨r,hr,a,_⟩=>?_,λq k0 hq=>⟨⟨q,ky hq,?_,km _⟩,λv ⟨r,hr,a,b⟩=>?_⟩⟩
 .obtain⟨j,hj,_⟩:=before r hr a
  lia
 .have:=QH h hq (by rw[Nat.sub_add_cancel k0];exact hp);omega
 .obtain⟨j,hj,ej⟩:=before r hr a;obtain⟨i1,e1⟩:=kf.mp hq;obtain⟨i2,e2⟩:=kf.mp ej;rcases Nat.lt_or_ge j (k-1)with z|z
  .have:=vE.mp h.1 j (k-1) i2 i1 z;rw[e1,e2]at this;have:=this.2
   lia
  .have e:j=k-1:=()
   subst e;rw[hq]at ej;cases ej;exact b
end _JN
namespace _JN
open PySem _L2 _Lin PySem.W
theorem zcz{wss:List (List W)}{rs:List (Nat×Nat)}(hl:rs.length=wss.length)(hr:∀(i:Nat)(ws:List W)(r:Nat×Nat),wss[i]?=some ws->rs[i]?=some r->_Sta.xj ws r.1 r.2):yW wss.flatten rs=wss.flatten.length:=by
 have key:∀k,k<=rs.length->(wss.take k).flatten.length<=yW wss.flatten (rs.take k):=λk=>by
  induction k with
  |zero=>intro _;exact kN _
  |succ k ih =>
   intro hk;have ih:=ih ();have e1:rs.take (k+1)=rs.take k++[rs[k]'(by assumption)]:=(kC (by assumption)).symm;have e2:wss.take (k+1)=wss.take k++[wss[k]'()]:=(kC ()).symm;have e3:wss.flatten=(wss.take k).flatten++(wss[k]'()++(wss.drop (k+1)).flatten):=by
    conv=>lhs;rw[<-vK k wss,uB ()]
    rw[vL,k5]
   obtain⟨w1,fit_,cn⟩:=hr k _ _ (kc ()) (kc (by assumption));rw[e1,ZO,e2,vL,kt];generalize hu:yW wss.flatten (rs.take k)=u at ih;generalize hA:(wss.take k).flatten=A at ih e3;generalize hg:wss[k]'()=g at e3 fit_ cn;generalize hrr:rs[k]'(by assumption)=r at w1 fit_ cn;have fl:∀v∈g,((v.length:Nat):Int)<=((r.1:Nat):Int):=λv hv=>uk.mpr (fit_ v hv);have eg:=XW ((r.1:Nat):Int) g;have lg:(grp ((r.1:Nat):Int) g).length<=r.2:=by
    rw[wG,xh]
    lia
   have gw:∀x∈grp ((r.1:Nat):Int) g,((glue x).length:Int)<=((r.1:Nat):Int):=by
    intro x hx;exact zbQ g fl (glue x) (by rw[<-qC];exact kU.mpr ⟨x,hx,rfl⟩)
   have b:=best (wide:=((r.1:Nat):Int)) (grp ((r.1:Nat):Int) g) r.2 ((g++(wss.drop (k+1)).flatten).take (u-A.length)) (wss.flatten.drop u) (wss.drop (k+1)).flatten lg gw (by
    rw[eg,e3,List.drop_append,List.drop_eq_nil_of_le ih,uh,vK])
   rw[eg,kQ]at b;show A.length+([g].flatten).length<=_;rw[k5,uz,vh]
   lia
 have a:=key rs.length (km _);rw[kJ,hl,kJ]at a;exact uU (Zh _ _) a
end _JN
namespace _Prt
open _Sta _Lin
open Classical in
open Classical in
theorem WR{α:Type}:∀(l m:List α),l.Nodup->(∀k∈l,k∈m)->m.length=l.length->m.Perm l
 |[],m,_,_,h=>by rw[vN.mp h]
 |k::l,m,nd,sub,h=>by
  obtain⟨n1,n2⟩:=ug.mp nd;have hk:=sub k kg;refine(List.perm_cons_erase hk).trans (List.Perm.cons k (WR l _ n2 (λk' hk'=>?_) ?_))
  .exact(bI (λe:k'=k=>n1 (e ▸ hk'))).mpr (sub k' (kn _ hk'))
  .rw[bi hk,h];rfl
theorem zcA{res:List (Int×Pc)}{pcs:List Pc}(ln:res.length=pcs.length)(h:∀(i:Nat)(p:Pc),pcs[i]?=some p->((i:Int),p)∈res):(res.map (·.2)).Perm pcs:=by
 have e2:((kR pcs.length).map λi:Nat=>((i:Int),pcs.getD i ⟨0,0,0,0⟩)).map (·.2)=pcs:=by
  rw[vm];apply u8
  .rw[ke,vq]
  .intro i h1 h2;rw[ba,bu];show pcs.getD i _=_;rw[kP,kc h2];rfl
 have pm:res.Perm ((kR pcs.length).map λi:Nat=>((i:Int),pcs.getD i ⟨0,0,0,0⟩)):=by
  refine WR _ _ ?_ (λk hk=>?_) (by rw[ke,vq,ln])
  .exact List.Pairwise.map _ (λa b (e:a≠b) z=>e (by injection z with z _;lia)) List.nodup_range
  .obtain⟨i,hi,rfl⟩:=kU.mp hk;have hi:=vp.mp hi;refine h i _ ?_;rw[kP,kc hi];rfl
 have:=pm.map (·.2)
 rwa [e2]at this
end _Prt
namespace _Sta
open PySem _L2 _Lin _Tre
def Tl(P:R)(c:Nat):Prop:=∀w h,P w h->P w c
def Tls:List R->List Nat->Prop
 |[],[]=>True
 |P::Ps,c::cs=>Tl P c/\Tls Ps cs
 |_,_=>False
theorem zfJ{P Q:R}{c d:Nat}(u:Up P)(v:Up Q)(p:Tl P c)(q:Tl Q d):Tl (bes P Q) (c+d):=λw h ⟨a,b,e,x,y⟩=>⟨a,b,e,u.up (p a h x) (km _) (),v.up (q b h y) (km _) ()⟩
theorem zfK{P Q:R}{c d:Nat}(p:Tl P c)(q:Tl Q d):Tl (dwn P Q) (c+d):=λw h ⟨a,b,e,x,y⟩=>⟨c,d,km _,p w a x,q w b y⟩
theorem Yr{f:R->R->R}(hf:∀P Q,Up P->Up Q->Up (f P Q))(hb:∀P Q M N,Up P->Up Q->Tl P M->Tl Q N->Tl (f P Q) (M+N)):∀(Ps:List R)(Ms:List Nat)(P:R)(M:Nat),Up P->(∀Q∈Ps,Up Q)->Tl P M->Tls Ps Ms->Tl (Ps.foldl f P) (M+Ms.sum)
 |[],[],P,M,_,_,b,_=>b
 |Q::Ps,N::Ms,P,M,u,us,b,⟨bq,bs⟩=>by
  have:=Yr hf hb Ps Ms (f P Q) (M+N) (hf P Q u (us Q kg)) (λU hU=>us U (kn _ hU)) (hb P Q M N u (us Q kg) b bq) bs;rw[va,<-bF];exact this
theorem zc6:∀nss:List (List Int),(nss.map λn=>40*n.length).sum=40*nss.flatten.length
 |[]=>rfl
 |n::r=>by
  rw[kY,va,zc6 r,k5,kt]
  lia
mutual
theorem tall{wss:List (List W)}(h40:∀ws∈wss,ws.length<=40)(hU:∀L∈wss.map xj,Up L):∀{t:T}{n:List Int},Good t n->∀{P:R},HasR (wss.map xj) t P->Tl P (40*n.length)
 |_,_,.leaf i,P,hR=>by
  cases hR with
  |leaf h0 h =>
   rw[kM]at h;obtain⟨ws,hw,rfl⟩:=kZ.mp h;intro w h ⟨a,b,c⟩;have:=h40 ws (ky hw);have:=zao ws (w:Int);exact⟨a,b,by show max 1 (cnt ws (w:Int))<=40*1;lia⟩
 |_,_,.node (ps:=ps) (nss:=nss) hk h2 hn hG,P,hR=>by
  have s40:=zc6 nss;cases hR with
  |bar h =>
   have:=JL h40 hU hG h;have u:=zH.up hU h;cases nss with
   |nil=>exact absurd this (by simp[Tls])
   |cons n0 r =>
    rw[kY,va]at s40;rw[<-s40];exact Yr (λ_ _ a b=>ZB a b) (λ_ _ _ _ a b c d=>zfJ a b c d) _ _ _ _ (u _ kg) (λQ hQ=>u Q (kn _ hQ)) this.1 this.2
  |dash h =>
   have:=JL h40 hU hG h;have u:=zH.up hU h;cases nss with
   |nil=>exact absurd this (by simp[Tls])
   |cons n0 r =>
    rw[kY,va]at s40;rw[<-s40];exact Yr (λ_ _ a b=>ZC a b) (λ_ _ _ _ _ _ c d=>zfK c d) _ _ _ _ (u _ kg) (λQ hQ=>u Q (kn _ hQ)) this.1 this.2
theorem JL{wss:List (List W)}(h40:∀ws∈wss,ws.length<=40)(hU:∀L∈wss.map xj,Up L):∀{ts:List T}{nss:List (List Int)},zL ts nss->∀{Ps:List R},zH (wss.map xj) ts Ps->Tls Ps (nss.map λn=>40*n.length)
 |_,_,.nil,Ps,hR=>by
  cases hR;exact trivial
 |_,_,.cons h r,Ps,hR=>by
  cases hR with
  |cons h' r'=>exact⟨tall h40 hU h h',JL h40 hU r r'⟩
end
end _Sta
namespace _L2
open PySem PySem.Spec PyProof.Rows PySem.W
section
variable{X:Cx}
theorem zfL{o:Value->Value->Sem Value}{r r':R2}(h1:OpR X o r)(h2:OpR X o r'):OpR X o (λx y H Q=>r x y H Q\/r' x y H Q):=by
 intro pins s σ H x y v u Q I rx ry h;rcases h with h|h
 .exact h1 pins s σ H x y v u Q I rx ry h
 .exact h2 pins s σ H x y v u Q I rx ry h
def zc7(K:PySem.W.Frag):R2:=λx y H Q=>∃(a:Addr)(z:Str)(xs:List V),x=.ref a/\y=.str z/\SqT K H a xs/\Q (.bl false) H
theorem zes(hu:X.A.units+64<cLine):OpR X (compareOp .Eq) (zc7 X.K):=by
 intro pins s σ H x y v u Q I rx ry h;refine E_3 h λa z xs n8=>A_4 n8 λe9 n90 hq q=>?_;clear n8 h;subst e9;subst n90;cases rx;obtain⟨t,rfl⟩:=ry;obtain⟨its,r,p,hz⟩:=I.tuple hq;exact SeqAt.RcAt.tuple_str z t (show s.heap.IsTuple a its.toArray from p) () _ _ _ _ ⟨.bl false,H,I,rfl,q⟩
end
end _L2
namespace _L2
open PySem
theorem JM{X:Cx}{K:PySem.W.Frag}(hK:X.K=K)(hu:X.A.units+64<cLine):MtR X "list.index" (λx vs H Q=>∃(a:Addr)(bs:List Addr)(y:V)(e:Addr->Bool)(n j:Nat),x=.ref a/\vs=[y]/\SqL K H a (bs.map V.ref)/\n<=16/\(∀b∈bs,EqR K H n (.ref b) y (e b))/\bs[j]?.map e=some true/\(∀m,m<j->bs[m]?.map e=some false)/\Q (.int (j:Int)) H):=by
 subst hK;exact za3 hu
end _L2
namespace _JN
open PySem _L2 _Lin _Tre PySem.W
open _Sta (R HasR zH Low tr Pc ya pb)
theorem Xi{H:Hp}:∀{us:List V}{pcs:List Pc},yo H us pcs->zM H us (pcs.map pb)
 |_,_,.nil=>.nil
 |_,_,.cons ⟨a,e,z⟩ t=>.cons ⟨a,e,z⟩ (Xi t)
theorem qX{H:Hp}:∀{vs:List V}{bs:List _Til.Bx}{i:Nat}{v:V},zM H vs bs->vs[i]?=some v->∃b,bs[i]?=some b/\yt H v b
 |_,_,_,_,.nil,e=>by simp at e
 |_,_,0,_,.cons r _,e=>by simp at e;subst e;exact⟨_,rfl,r⟩
 |_,_,i+1,v,.cons _ t,e=>by
  obtain⟨b,h1,h2⟩:=qX (i:=i) (v:=v) t (by simpa using e);exact⟨b,by simpa using h1,h2⟩
theorem Ys:∀wss:List (List W),(∀ws∈wss,ws.length<=40)->wss.flatten.length<=40*wss.length
 |[],_=>kN _
 |a::r,h=>by
  have:=Ys r λws hw=>h ws (kn _ hw);have:=h a kg;rw[k5,kt,kG]
  lia
theorem zM.x{H H':Hp}{d:Addr}{xs:List V}(hd:H d=some (.lst xs))(S:xJ d H H'):∀{us:List V}{bs:List _Til.Bx},zM H us bs->zM H' us bs
 |_,_,.nil=>.nil
 |_,_,.cons ⟨a,e,z⟩ t=>.cons ⟨a,e,S _ _ (qu z hd (by intro y;cases y)) z⟩ (zM.x hd S t)
theorem zcB{cs:List _Til.Bx}{W G:Int}(T:_Til.zS cs W G)(hW:0<W)(hG:0<G){t:_Tre.T}(h:TrO cs ⟨0,0,W,G⟩ t):∃n,Good t n/\n.length=cs.length:=by
 obtain⟨n,g,pm,_⟩:=h.good T (xn T hW hG);have all:ixs cs ⟨0,0,W,G⟩=kR cs.length:=by
  unfold ixs;refine bN.mpr λi hi=>?_;have o:=T.wf _ (wU (vp.mp hi)).1;exact _Til.zG.mpr ⟨o.h0,o.h2,o.v0,o.v2⟩
 rw[all]at pm;have ln:=pm.length_eq;rw[ke,vq]at ln;exact⟨n,g,ln⟩
structure Mvd(cs:List _Til.Bx)(wss:List (List W))(H H2:Hp)(ys:List V)(k:Nat):Prop where
 same:Same H H2
 ex:∃ms,Txs H2 ys ms/\ms.length=k/\∀(i:Nat)(b:_Til.Bx)(m:List W),cs[i]?=some b->ms[i]?=some m->_Sta.xj m (b.r-b.l).toNat (b.b-b.t).toNat
def zc8:Sp:=λvs H Q _=>∃(x:V)(a:Addr)(t:T)(n:List Int)(wss:List (List W))(wide high:Nat)(U:R),vs=[x,.ref a,.int wide,.int high]/\Gd H x a t n wss/\HasR (Lvs wss) t U/\U wide high/\wide<=100000/\high<=100000/\∀H',Same H H'->Q (.bl true) H'
section
variable{P:Program}{w:World}{K:PySem.W.Frag}{mg:Str->Option Value}{base:Heap}
theorem wD:zu ["tree","texts","wide","high","boxes","page","other","moved","found","words","text","rooms"] ["tree","texts","wide","high"] (zl (top 100)):=by trivial
theorem zfM{f fSe fMk fTo fSk fLh fPo:Addr}{fd dSe dMk dTo dSk dLh dPo:FuncData}(F:Fun K "_law_page_good" "_law_page_good" (top 100) f fd)(Z:Nl K mg)
  (Se:Callee P w K mg base CX0 55 "setting" fSe dSe ["tree","texts","wide","high"] zaR)(Mk:Callee P w K mg base CX0 4 "make_page" fMk dMk ["wide","high","boxes"] zbb)
  (To:Callee P w K mg base CX0 32 "tree_of" fTo dTo ["page"] zc3)(Sk:Callee P w K mg base CX0 31 "stuck_piece" fSk dSk ["page"] JF)(Lh:Callee P w K mg base CX0 29 "least_high" fLh dLh ["tree","texts","wide"] spLh)
  (Po:Callee P w K mg base CX0 5 "poured" fPo dPo ["words","rooms"] zbr):FnOk P w K mg base CX0 56 f fd ["tree","texts","wide","high"] zc8:=by
 obtain⟨ti,tlist,ttup,tl,tmin,tzip,tr,kT,kL⟩:=Z;refine F.ok wD (λvs H Q E h=>?_) (λcdv A outer s H vs Q E hr h=>?_)
 .refine E_8 h λx a t n wss wide high U n8=>A_2 n8 λe9 _=>?_;clear n8 h;subst e9;rfl
 .refine E_8 h λx a t n wss wide high U n8=>A_7 n8 λe9 g hR u0 w5 h5 q=>?_;clear n8 h;subst e9;refine⟨_,(ze (zB (i:=4) wD.nd rfl (Or.inr rfl) (zg Se.ok hr rfl Se.bound Se.kp Se.bd .nil zr (za (pv 0) (za (pv 1) (za (pv 2) (za (pv 3) zb))))))
   (ze (zB (i:=5) wD.nd rfl (Or.inl rfl) (zg Mk.ok (hr.mono (show 4<=55 by decide)) rfl Mk.bound Mk.kp Mk.bd .nil zr (za (pv 2) (za (pv 3) (za (xM qZ rfl tlist vX (za (pv 4) zb)) zb)))))
   (ze (zB (i:=6) wD.nd rfl (Or.inl rfl) (zg To.ok (hr.mono (show 32<=55 by decide)) rfl To.bound To.kp To.bd .nil zr (za (pv 5) zb)))
   (ze (zO (PW.pt (xi (zI (zfL xH (zes hr.units)) (pv 6) xS (zD _)) (yZ (zI ZV (zg Sk.ok (hr.mono (show 31<=55 by decide)) rfl Sk.bound Sk.kp Sk.bd .nil zr (za (pv 5) zb)) xR rfl))))
   (zf (zo yN))
   zF)
   (ze (qh (i:=7) (Nc:=["box","texts","boxes"]) (ix:=[none,some 1,some 4]) wD.nd rfl (Or.inl rfl) rfl rfl (by exact(xT (zm zw (pv 5) zk (λ_ _=>rfl)))) (λ_ _ _ _ _=>(zt (i:=0) (by show(["box","texts","boxes"]:List Str).Nodup;decide +kernel) rfl (Or.inl rfl))) (λ_ _ _ _ _=>zP) (λ_ _ _ _ _=>(zm (zbP (K:=K) rfl) (pv 1) (zaS (K:=K) rfl vj PySem.F.slot_list_index PySem.F.type_list_index (JM (K:=K) rfl hr.units) (pv 2) (za (pv 0) zb)) (λ_ _=>rfl))))
   (ze (zB (i:=8) wD.nd rfl (Or.inl rfl) (zg Lh.ok (hr.mono (show 29<=55 by decide)) rfl Lh.bound Lh.kp Lh.bd .nil zr (za (pv 6) (za (pv 7) (za (pv 2) zb)))))
   (ze (zO (PW.pt (xi (zI JV (pv 8) xR rfl) (yZ (zI wY (pv 8) (pv 3) (zD _)))))
   (zf (zo yN))
   zF)
   (ze (zB (i:=9) wD.nd rfl (Or.inl rfl) (yh zb))
   (ze (yS PassesOwn.never rfl (zV (pv 1)) (zt (i:=10) wD.nd rfl (Or.inl rfl))
   (zf (yw (xw vj uF uG Yz (pv 9) (za (pv 10) zb)))))
   (ze (qh (i:=11) (Nc:=["box"]) (ix:=[none]) wD.nd rfl (Or.inl rfl) rfl rfl (by refine' zV ?zz;case zz=>exact(pv 4)) (λ_ _ _ _ _=>(zt (i:=0) (by show(["box"]:List Str).Nodup;decide +kernel) rfl (Or.inl rfl))) (λ_ _ _ _ _=>zP) (λ_ _ _ _ _=>(ye (za (zK xq (zm (z7 (K:=K) rfl) (pv 0) zk (λ_ _=>rfl)) (zm (z7 (K:=K) rfl) (pv 0) zk (λ_ _=>rfl))) (za (zK xq (zm (z7 (K:=K) rfl) (pv 0) zk (λ_ _=>rfl)) (zm (z7 (K:=K) rfl) (pv 0) zk (λ_ _=>rfl))) zb)))))
   (zf (zo (z5 (zai hr.units) (zm zw (zg Po.ok (hr.mono (show 5<=55 by decide)) rfl Po.bound Po.kp Po.bd .nil zr (za (pv 9) (za (pv 11) zb))) zk (λ_ _=>rfl)) (yh zb) (zD _)))))))))))))),?_⟩
  obtain⟨xs,hxs,hT⟩:=id g.txs;have lx:=hT.len;have nl:=g.nlen;have l24:=g.len;have hL:=wn wss;have up:=hR.up hL;obtain⟨w1,h1⟩:=up.pos u0;obtain⟨res,hs⟩:=_Sta.zaK hL hR (p:=⟨0,0,wide,high⟩) u0 (kN _) (kN _);refine⟨_,rfl,_,rfl,_,rfl,_,rfl,x,a,t,n,wss,wide,high,U,res,rfl,g,hR,u0,hs,λl us pcs H1 S1 _ hl1 hP lp mem=>?_⟩;have hB:=Xi hP;have lu:=hB.len;rw[ke]at lu;have rl:res.length=pcs.length:=by
   have:=congrArg List.length (_Sta.ya.keys g.good hs);rw[ke]at this
   lia
  have pm:=_Prt.zcA rl mem;have T0:=_Sta.Xh hL hs (by assumption) (by assumption);have rooms:∀(i:Nat)(p:Pc),pcs[i]?=some p->∃ws,wss[i]?=some ws/\_Sta.xj ws (p.r-p.l) (p.b-p.t):=λi p hp=>by
   obtain⟨_,L,hl,r⟩:=_Sta.ya.room hs hR u0 _ (mem i p hp);unfold Lvs at hl;rw[kM]at hl;obtain⟨ws,hw,rfl⟩:=kZ.mp hl;exact⟨ws,hw,r⟩
  refine zJ ?_;dsimp only;refine⟨_,rfl,_,rfl,_,rfl,l,us,rfl,.inl (SqL.of hl1),λl2 nl2=>?_⟩;have S2:=S1.trans (zd (o:=.lst us) nl2);have hl2:upd H1 l2 (.lst us) l2=some (.lst us):=zc;have hB2:=hB.same (zd (o:=.lst us) nl2);have hl12:=zd (o:=.lst us) nl2 _ _ hl1;generalize upd H1 l2 (.lst us)=H2 at S2 hl2 hB2 hl12;have T1:_Til.zS (pcs.map pb) wide high:=⟨λb hb=>T0.wf b ((pm.map pb).mem_iff.mpr hb),λx y a1 a2 a3 a4=>by
   have e:=T0.one x y a1 a2 a3 a4;unfold _Til.cnt at e ⊢;rw[<-(pm.map pb).countP_eq];exact e⟩
  have pg0:_Til.Page wide high (pcs.map pb):=_Til.Xn T1 () () (by rw[ke];lia);refine I_5 l2 us (pcs.map pb) wide high ⟨rfl,hl2,hB2,(),(),pg0,λpg cs H3 S3 hPG pmc _=>?_⟩;have S13:=S2.trans S3;have T:_Til.zS cs wide high:=⟨λb hb=>T1.wf b (pmc.mem_iff.mp hb),λx y a1 a2 a3 a4=>by
   have e:=T1.one x y a1 a2 a3 a4;unfold _Til.cnt at e ⊢;rw[pmc.countP_eq];exact e⟩
  have pmr:cs.Perm ((res.map (·.2)).map pb):=pmc.trans (pm.map pb).symm;have never:∀{s:_Til.Bx},¬Fs cs ⟨0,0,wide,high⟩ (some s):=λ{s} h=>zer T () () (λz hz hw=>_Sta.zeq hL hs (by assumption) (by assumption) pmr hz hw) h;refine zJ ?_;dsimp only;refine⟨_,rfl,pg,wide,high,cs,rfl,hPG,T,(),(),λs0 H4 S4 hF=>absurd hF never,λvt t' H4 S4 hF hA hTr=>?_⟩;have S14:=S13.trans S4;refine zJ ?_;dsimp only;have noS:∀(k:V->Hp->Prop),k (.bl false) H4->(rEq vt (.str "stuck") H4 k\/zc7 K vt (.str "stuck") H4 k):=λk hk=>by
   cases hTr with
   |leaf h =>
    cases hA;refine .inl ⟨rfl,?_⟩;rw[decide_eq_false (by intro z;cases z)];exact hk
   |node h hp l r =>
    cases hA with
    |tup e hL=>exact .inr ⟨_,_,_,rfl,rfl,SqT.of e,hk⟩
  refine⟨_,rfl,noS _ ⟨_,rfl,iteF ?_⟩⟩;refine⟨_,rfl,pg,wide,high,cs,rfl,hPG.same S4,T,(),(),λH5 S5 _=>⟨rfl,_,rfl,iteF ?_⟩,λv s1 H5 S5 hv hF1=>absurd hF1 never⟩;have S15:=S14.trans S5;have hPG5:=hPG.same (S4.trans S5);obtain⟨tb,ub,hpg,htb,hBb,_⟩:=hPG5;have hA5:=hA.same S5;have hl5:=S5 _ _ (S4 _ _ (S3 _ _ hl12));have hB5:=((hB2.same S3).same S4).same S5;have hx5:=S15 _ _ hxs;have hT5:=hT.same S15;clear hPG hA hB2 hl2 hl12 S3 S4 S5 S14 S13 S2;refine z6 ?_;dsimp only;have lcs:cs.length=pcs.length:=by rw[pmc.length_eq,ke]
  have lub:=hBb.len;refine⟨_,rfl,_,_,_,_,rfl,rfl,SqT.of hpg,rfl,tb,rfl,⟨_,htb.sq⟩,xN (K:=K) (a:=tb) (xs:=ub) (λi ys σ H6=>Mvd cs wss H5 H6 ys i/\∃o,σ=[o,some (.ref a),some (.ref l)])
   ⟨⟨Same.refl _,[],.nil,rfl,λi b m _ hm=>by simp at hm⟩,none,rfl⟩ (λi ys σ H6 hi h9=>by obtain⟨⟨S,ms,hy,lm,_⟩,_⟩:=h9;exact(⟨by rw[hy.len,lm];exact kw (show i<=1000 by lia) ⋯,(TpF.same S htb).sq⟩)) ?_ ?_⟩
  case refine_2 =>
   rintro i v ys σ H6 hv ⟨⟨S6,ms,hy,lm,hrm⟩,o,rfl⟩;obtain⟨c,hc,pc,rfl,hpc⟩:=qX hBb hv;have mc:c∈pcs.map pb:=pmc.mem_iff.mp (ky hc);obtain⟨as,e,j,eas,heq,hj,hno,hcj⟩:=Qv (K:=K) (hB5.same S6) (S6 _ _ hpc) mc;rw[kM]at hcj;obtain⟨p,hp,rfl⟩:=kZ.mp hcj;obtain⟨ws,hws,room⟩:=rooms j p hp;have jl:j<xs.length:=by
    have:=(kf.mp hws).1
    lia
   obtain⟨ws',hws',rj⟩:=hT5.get (kc jl);rw[hws]at hws';cases hws';dsimp only[zU,tYes];refine iteT ⟨_,rfl,_,rfl,.inl ⟨rfl,_,SqL.of (S6 _ _ hl5)⟩,_,rfl,l,as,.ref pc,e,1,j,rfl,rfl,by rw[<-eas];exact SqL.of (S6 _ _ hl5),⋯,heq,hj,hno,?_⟩;refine I_4 a _ _ (xs[j]) ⟨rfl,rfl,SqL.of (S6 _ _ hx5),yX (kc jl),⟨S6,ms++[ws],hy.snoc (rj.same S6),by rw[kt,lm];rfl,λk b m hb hm=>?_⟩,_,rfl⟩;rcases Nat.lt_or_ge k ms.length with z|z
   .rw[ui z]at hm;exact hrm k b m hb hm
   .have kl:k<(ms++[ws]).length:=(kf.mp hm).1;rw[kt,vo]at kl;have ki:k=i:=()
    subst ki;rw[hc]at hb;cases hb;rw[uY z,show k-ms.length=0 by lia]at hm;cases hm;show _Sta.xj ws (((p.r:Nat):Int)-((p.l:Nat):Int)).toNat (((p.b:Nat):Int)-((p.t:Nat):Int)).toNat;rw[show(((p.r:Nat):Int)-((p.l:Nat):Int)).toNat=p.r-p.l by lia,show(((p.b:Nat):Int)-((p.t:Nat):Int)).toNat=p.b-p.t by lia];exact room
  rintro ys σ H6 ⟨⟨S6,ms,hy,lm,hrm⟩,_⟩ lm' nlm;have S7:=S6.trans (zd (o:=.lst ys) nlm);have hlm:upd H6 lm' (.lst ys) lm'=some (.lst ys):=zc;have hy7:=hy.same (zd (o:=.lst ys) nlm);generalize upd H6 lm' (.lst ys)=H7 at S7 hlm hy7;dsimp only;obtain⟨iT,s96⟩:=JH T () () (by omega) hTr;obtain⟨n',g',ln'⟩:=zcB T () () hTr;have ly:=hy7.len;have pm':n'.Perm (_Tre.up ms.length):=by
   obtain⟨y,gy,_,py⟩:=iT;cases Good.uniq g' gy
   rwa [show n'.length=ms.length by lia]at py
  refine⟨_,rfl,_,rfl,_,rfl,vt,lm',t',n',ms,wide,rfl,⟨hA5.same S7,iT,g',pm',(),ys,hlm,hy7⟩,λU' o H8 hR' S8 low=>?_⟩;have room':=QI T (Ls:=Lvs ms) (λi b L hb hLi=>by
   unfold Lvs at hLi;rw[kM]at hLi;obtain⟨m,hm,rfl⟩:=kZ.mp hLi;exact hrm i b m hb hm) hTr (xn T () ()) hR'
  have room':U' wide high:=room';obtain⟨k,rfl⟩:=_Sta.zfG room' low;have kh:=low.2 high room';refine zJ ?_;dsimp only;refine⟨_,rfl,rfl,_,rfl,?_⟩;rw[decide_eq_false (show ¬oV (some k)=V.non by intro z;cases z)];refine iteF ?_;refine⟨_,rfl,_,rfl,_,_,rfl,rfl,_,rfl,?_⟩;rw[decide_eq_false (show ¬((high:Nat):Int)<((k:Nat):Int)by lia)];refine iteF ?_;have S58:=S7.trans S8;have S18:=S15.trans S58;refine z6 ?_;dsimp only;refine⟨Zz0,λlw nlw=>?_⟩;have S9:=S18.trans (zd (o:=.lst []) nlw);have hlw:upd H8 lw (.lst []) lw=some (.lst (tx [])):=zc;have fw:H lw=none:=S18.free nlw;have hl9:=zd (o:=.lst []) nlw _ _ (S58 _ _ hl5);have hB9:=(hB5.same S58).same (zd (o:=.lst []) nlw);have nel:lw≠l:=λz=>by rw[z,S58 _ _ hl5]at nlw;cases nlw
  generalize upd H8 lw (.lst [])=H9 at S9 hlw hl9 hB9;refine zJ ?_;dsimp only;refine⟨_,rfl,a,rfl,⟨_,SqL.of (S9 _ _ hxs)⟩,xp (K:=K) (a:=a) (xs:=xs) (λi σ H10=>∃o10,σ=[some x,some (.ref a),some (.int wide),some (.int high),some (.ref l),some (.ref pg),some vt,some (.ref lm'),some (oV (some k)),some (.ref lw),o10,none]/\Same H H10/\xJ lw H9 H10/\H10 lw=some (.lst (tx (wss.take i).flatten)))
   ⟨none,rfl,S9,xJ.refl _ _,hlw⟩ (λi σ H10 _ h9=>by obtain⟨_,_,S,_⟩:=h9;exact(SqL.of (S _ _ hxs))) ?_ ?_⟩
  .intro i v σ H10 hv h8;refine E_1 h8 λo10 n8=>A_4 n8 λe9 S10 X10 h10=>?_;clear n8 h8;subst e9;obtain⟨ws,hws,pa,rfl,hpa,ow,o40⟩:=hT.get hv;have il:=(kf.mp hws).1;refine zJ ?_;dsimp only;refine⟨_,rfl,.inl ⟨rfl,_,SqL.of h10⟩,_,rfl,lw,pa,_,_,rfl,rfl,h10,S10 _ _ hpa,?_,?_⟩
   .rw[yf,yf];have f1:=Ys (wss.take i) λz hz=>hT.ok40 z (u4 hz);rw[kQ]at f1;exact kw (show _<=2000 by lia) ⋯
   .refine⟨_,rfl,yu S10 fw,X10.trans jD,?_⟩;rw[zc,WN,<-kC il,vL,k5,uz,vh,(kf.mp hws).2]
  .intro σ H10 h8;refine E_1 h8 λo10 n8=>A_4 n8 λe9 S10 X10 h10=>?_;clear n8 h8;subst e9;rw[lx,kJ]at h10;have hl10:=X10 _ _ nel.symm hl9;have hB10:zM H10 us (pcs.map pb):=zM.x hlw X10 hB9;refine⟨_,rfl,l,rfl,⟨_,SqL.of hl10⟩,zZ (K:=K) (a:=l) (xs:=us) (λi ys σ H11=>Same H10 H11/\zY H11 ys ((pcs.take i).map λp=>(p.r-p.l,p.b-p.t))/\∃o,σ=[o]) ⟨Same.refl _,.nil,none,rfl⟩
    (λi ys σ H11 hi h9=>by obtain⟨S,e,_⟩:=h9;exact(⟨by rw[e.len,ke,kQ];exact kw (show _<=1000 by lia) ⋯,SqL.of (S _ _ hl10)⟩)) ?_ ?_⟩
   .rintro ys σ H11 ⟨S11,e,_⟩ lr nlr;rw[lu,kJ]at e;have Sn:=zd (o:=.lst ys) nlr;have hlr:upd H11 lr (.lst ys) lr=some (.lst ys):=zc;have e12:=e.same Sn;have h12:=Sn _ _ (S11 _ _ h10);have S12:=(S10.trans S11).trans Sn;generalize upd H11 lr (.lst ys)=H12 at Sn hlr e12 h12 S12;dsimp only;have okw:∀u∈wss.flatten,okW u:=λu hu=>by
     obtain⟨z,hz,hu⟩:=List.mem_flatten.mp hu;exact hT.okw z hz u hu
    have w1000:wss.flatten.length<=1000:=by
     have:=Ys wss hT.ok40
     lia
    have okr:∀r∈pcs.map (λp=>(p.r-p.l,p.b-p.t)),okR r:=λr hr'=>by
     obtain⟨p,hp,rfl⟩:=kU.mp hr';obtain⟨c1,c2,c3,c4,c5,c6⟩:=T1.wf (pb p) (kU.mpr ⟨p,hp,rfl⟩);have c2:((p.l:Nat):Int)<((p.r:Nat):Int):=c2;have c5:((p.t:Nat):Int)<((p.b:Nat):Int):=c5;exact⟨by show 1<=p.r-p.l;lia,by show 1<=p.b-p.t;lia⟩
    refine⟨_,rfl,_,rfl,lw,lr,wss.flatten,ys,_,rfl,h12,okw,w1000,hlr,e12,okr,by rw[ke];lia,λtp lf ll H13 S13 htp hll=>?_⟩;refine I_4 tp _ _ _ ⟨rfl,rfl,SqT.of htp,rfl,Zz0,λle nle=>?_⟩;have Se:=zd (o:=.lst []) nle;have hll':upd H13 le (.lst []) ll=some (.lst []):=by
     rw[Se _ _ hll,zcz (by rw[ke];lia) (λi ws r hw hr'=>by
      rw[kM]at hr';obtain⟨p,hp,rfl⟩:=kZ.mp hr';obtain⟨ws',hw',rm⟩:=rooms i p hp;rw[hw]at hw';cases hw';exact rm),List.drop_length]
     rfl
    refine I_4 ll le 1 _ ⟨rfl,rfl,eq_empty hll' zc,⋯,?_⟩;rw[decide_eq_true rfl];exact q _ ((S12.trans S13).trans Se)
   .intro i v ys σ H11 hv h8;refine A_3 h8 λS11 e n8=>E_1 n8 λo e9=>?_;clear n8 h8;subst e9;obtain⟨b,hb,pa,rfl,hpa⟩:=qX hB10 hv;rw[kM]at hb;obtain⟨p,hp,rfl⟩:=kZ.mp hb;have il:=(kf.mp hp).1;have hpa:=S11 _ _ hpa;obtain⟨c1,c2,c3,c4,c5,c6⟩:=T1.wf (pb p) (kU.mpr ⟨p,ky hp,rfl⟩);have c2:((p.l:Nat):Int)<((p.r:Nat):Int):=c2;have c5:((p.t:Nat):Int)<((p.b:Nat):Int):=c5;dsimp only[zU,tYes];refine iteT ⟨_,rfl,_,_,_,_,rfl,rfl,SqT.of hpa,rfl,_,rfl,_,_,_,_,rfl,rfl,SqT.of hpa,rfl,_,_,rfl,rfl,_,rfl,_,_,_,_,rfl,rfl,SqT.of hpa,rfl,_,rfl,_,_,_,_,rfl,rfl,SqT.of hpa,rfl,_,_,rfl,rfl,Zz2,λtp ntp=>?_⟩;refine⟨S11.trans (zd ntp),?_,_,rfl⟩;rw[<-kC il,(kf.mp hp).2,kF];refine(e.same (zd ntp)).snoc ⟨tp,rfl,?_⟩;rw[zc];show some (HO.tup [V.int (((p.r:Nat):Int)-((p.l:Nat):Int)),V.int (((p.b:Nat):Int)-((p.t:Nat):Int))])=some (HO.tup [V.int ((p.r-p.l:Nat):Int),V.int ((p.b-p.t:Nat):Int)]);rw[show((p.r:Nat):Int)-((p.l:Nat):Int)=((p.r-p.l:Nat):Int)by lia,show((p.b:Nat):Int)-((p.t:Nat):Int)=((p.b-p.t:Nat):Int)by lia]
end
end _JN
namespace _L2
open PySem PySem.Spec PyProof.Rows
def gLst(K:PySem.W.Frag)(n:Nat)(t:TGs):TG:=λv σ H Q=>∃a xs,v=.ref a/\SqL K H a xs/\xs.length=n/\t xs σ H Q
theorem zfN{X:Cx}{es:List Expr}{k:Nat}{t:TGs}{n:Nat}{pos:Pos}(hc:X.calm=true)(h:PGs X es t)
  (hn:(assignEach es X.env).length=n:=by rfl)(hst:(assignEach es X.env).findIdx? (·.1)=none:=by rfl):PG X (.Tuple es k pos) (gLst X.K n t):=by
 intro pins s σ H v u Q I r hw;obtain⟨a,xs,e1,hq,hl,hw⟩:=hw;subst e1;cases r;obtain⟨its,rv,ht,hz⟩:=I.list hq;rw[assign_Tuple];refine wpAny_bind (wpAny_standAt ?_);unfold unpack;have e:(assignEach es X.env).length=its.toArray.size:=by simp[hn,<-hl,rv.length]
 rw[e,hst];refine wpAny_bind (wpAny_holding (PySem.W.kun_itemsOf (I.ok.hd hc) ht.isList λh' hx=>?_));have I1:Inv X pins σ H {s with heap:=h'}:=I.kept (t':=s.toks) λb o e=>hx b o (vc (Heap.lt_size e)) e;exact h pins _ σ H xs _ Q I1 (by simpa using rv) hw
end _L2
namespace _JN
open PySem _L2 _Lin _Tre PySem.W
open _Sta (R HasR zH Low tr OkS reg)
theorem qb{U U':R}(h:_Sta.Same U U'){w:Nat}:∀{o:Option Nat},Low U w o->Low U' w o
 |none,l=>λk z=>l k ((h w k).mpr z)
 |some v,l=>⟨(h w v).mp l.1,λk z=>l.2 k ((h w k).mpr z)⟩
theorem Zj{U:R}{w:Nat}:∀{o o':Option Nat},Low U w o->Low U w o'->o=o'
 |none,none,_,_=>rfl
 |none,some v,l,l'=>(l v l'.1).elim
 |some v,none,l,l'=>(l' v l.1).elim
 |some v,some v',l,l'=>by
  have:=l.2 v' l'.1;have:=l'.2 v l.1;rw[show v=v' by lia]
theorem zcC{wss:List (List W)}{t:T}{n:List Int}{U:R}{A:Stc}(h40:∀ws∈wss,ws.length<=40)(hw:∀ws∈wss,∀u∈ws,okW u)(l11:wss.length<=11)(g:Good t n)(pm:n.Perm (up wss.length))(hR:HasR (Lvs wss) t U)(ok:OkS A U){p:Nat×Nat}(hp:p∈A):p.1<=10000/\p.2<=1000/\U p.1 p.2:=by
 have up:=wn wss;obtain⟨lo,hi⟩:=_Sta.QE ok.1 hp;have u0:U p.1 p.2:=(ok.2 p.1 p.2).mp lo.1;have bd:=_Sta.zdL g pm hR;obtain⟨v,v1,v2,v3⟩:=bd p.1 p.2 u0;have w1:=hi.2 v ((ok.2 v p.2).mpr v3);have tl:=_Sta.tall h40 up g hR p.1 p.2 u0;have h1:=lo.2 _ ((ok.2 p.1 _).mpr tl);have ln:=pm.length_eq;rw[qp]at ln;have mo:(wss.map _Sta.y9).sum<=521*wss.length:=by
  clear g pm hR ok hp lo hi u0 bd v1 v2 v3 w1 tl h1 ln l11 up
  induction wss with
  |nil=>exact kN _
  |cons a r ih =>
   have i1:=ih (λz hz=>h40 z (kn _ hz)) (λz hz=>hw z (kn _ hz));have i2:_Sta.y9 a<=521:=by
    have a40:=h40 a kg;have ow:=hw a kg;have:∀l:List W,(∀u∈l,okW u)->(l.map λu=>u.length+1).sum<=13*l.length:=λl=>by
     induction l with
     |nil=>intro _;exact kN _
     |cons b s ih2 =>
      intro h;have:=ih2 λu hu=>h u (kn _ hu);have:=(h b kg).2.1;rw[kY,va,kG]
      lia
    have:=this a ow;unfold _Sta.y9
    lia
   rw[kY,va,kG]
   lia
 exact⟨(),(),u0⟩
def JN(K:PySem.W.Frag):Sp:=λvs H Q _=>∃(a:Addr)(ns:List Int),vs=[.ref a]/\SqL K H a (ns.map V.int)/\ns.length<=63/\∀H',Q (.bl true) H'
section
variable{P:Program}{w:World}{K:PySem.W.Frag}{mg:Str->Option Value}{base:Heap}
theorem xo:zu ["script","tree","texts","stairs","k","wide","high","due","at"] ["script"] (zl sLaw):=by trivial
theorem zfO{f fGr fCe fTs fIs fLh fLw fPg:Addr}{fd dGr dCe dTs dIs dLh dLw dPg:FuncData}(F:Fun K "law" "law" sLaw f fd)(Z:Nl K mg)(Gr:Callee P w K mg base CX0 26 "_law_grown" fGr dGr ["cells"] (QD K))(Ce:Callee P w K mg base CX0 1 "_law_cell_at" fCe dCe ["script","k"] (Wf K))
  (Ts:Callee P w K mg base CX0 28 "tree_stairs" fTs dTs ["tree","texts"] Xu)(Is:Callee P w K mg base CX0 1 "_law_is_stairs" fIs dIs ["found"] zc5)(Lh:Callee P w K mg base CX0 29 "least_high" fLh dLh ["tree","texts","wide"] spLh)
  (Lw:Callee P w K mg base CX0 29 "least_wide" fLw dLw ["tree","texts","high"] Qi)(Pg:Callee P w K mg base CX0 56 "_law_page_good" fPg dPg ["tree","texts","wide","high"] zc8):FnOk P w K mg base CX0 57 f fd ["script"] (JN K):=by
 obtain⟨ti,tlist,ttup,tl,tmin,tzip,tr,kT,kL⟩:=Z;refine F.ok xo (λvs H Q E h=>?_) (λcdv A outer s H vs Q E hr h=>?_)
 .refine E_2 h λa ns n8=>A_2 n8 λe9 _=>?_;clear n8 h;subst e9;rfl
 .refine E_2 h λa ns n8=>A_4 n8 λe9 hS h63 q=>?_;clear n8 h;subst e9;refine⟨_,(ze (Zk (zg Gr.ok (hr.mono (show 26<=56 by decide)) rfl Gr.bound Gr.kp Gr.bd .nil zr (za (yp yQ (pv 0) (yx zk) (yx zk)) zb)) (zfN rfl (zR (zt (i:=1) xo.nd rfl (Or.inl rfl)) (zR (zt (i:=2) xo.nd rfl (Or.inl rfl)) yB))))
   (ze (zB (i:=3) xo.nd rfl (Or.inl rfl) (zg Ts.ok (hr.mono (show 28<=56 by decide)) rfl Ts.bound Ts.kp Ts.bd .nil zr (za (pv 1) (za (zQ (Nc:=["text"]) (ix:=[none]) rfl rfl (by refine' zV ?zz;case zz=>exact(pv 2)) (λ_ _ _ _ _=>(zt (i:=0) (by show(["text"]:List Str).Nodup;decide +kernel) rfl (Or.inl rfl))) (λ_ _ _ _ _=>zP) (λ_ _ _ _ _=>(xM (Xl (K:=K) rfl) rfl tlist vX (za (pv 0) zb)))) zb))))
   (ze (zO (z9 (zX (zg Is.ok (hr.mono (show 1<=56 by decide)) rfl Is.bound Is.kp Is.bd .nil zr (za (pv 3) zb))))
   (zf (zo yN))
   zF)
   (ze (yS PassesOwn.never rfl (wW rfl tr (za (zp zA (by rfl) tl kW (za (pv 3) zb)) zb)) (zt (i:=4) xo.nd rfl (Or.inl rfl))
   (ze (Zk (zm yc (pv 3) (pv 4) (λ_ _=>rfl)) (wI rfl (zR (zt (i:=5) xo.nd rfl (Or.inl rfl)) (zR (zt (i:=6) xo.nd rfl (Or.inl rfl)) yB))))
    (ze (zO (PW.pt (qY (jV yO yO zk (pv 4) (zK xq (zp zA (by rfl) tl kW (za (pv 3) zb)) zk)) (qf (zI ww (zK y6 (pv 4) zk) (zK y6 (zg Ce.ok (hr.mono (show 1<=56 by decide)) rfl Ce.bound Ce.kp Ce.bd .nil zr (za (pv 0) (za zk zb))) zk) (zD _)))))
    (zf WS)
    zF)
    (ze (zO (PW.pt (xi (zI ww (zg Lh.ok (hr.mono (show 29<=56 by decide)) rfl Lh.bound Lh.kp Lh.bd .nil zr (za (pv 1) (za (pv 2) (za (pv 5) zb)))) (pv 6) (zD _)) (yZ (zI ww (zg Lw.ok (hr.mono (show 29<=56 by decide)) rfl Lw.bound Lw.kp Lw.bd .nil zr (za (pv 1) (za (pv 2) (za (pv 6) zb)))) (pv 5) (zD _)))))
    (zf (zo yN))
    zF)
    (ze (zB (i:=7) xo.nd rfl (Or.inl rfl) xR)
    (ze (zO (zI wY (pv 4) zk (zD _))
    (zf (zB (i:=7) xo.nd rfl (Or.inl rfl) (zm zw (zm yc (pv 3) (zK xq (pv 4) zk) (λ_ _=>rfl)) zk (λ_ _=>rfl))))
    zF)
    (zf (zO (zI ww (zg Lh.ok (hr.mono (show 29<=56 by decide)) rfl Lh.bound Lh.kp Lh.bd .nil zr (za (pv 1) (za (pv 2) (za (zK xq (pv 5) zk) zb)))) (pv 7) (zD _))
    (zf (zo yN))
    zF))))))))
   (ze (zB (i:=8) xo.nd rfl (Or.inl rfl) (zK y6 (zg Ce.ok (hr.mono (show 1<=56 by decide)) rfl Ce.bound Ce.kp Ce.bd .nil zr (za (pv 0) (za zk zb))) (zp zA (by rfl) tl kW (za (pv 3) zb))))
   (ze (zO (z9 (zX (zg Pg.ok hr rfl Pg.bound Pg.kp Pg.bd .nil zr (za (pv 1) (za (pv 2) (za (zm zw (zm yc (pv 3) (pv 8) (λ_ _=>rfl)) zk (λ_ _=>rfl)) (za (zm zw (zm yc (pv 3) (pv 8) (λ_ _=>rfl)) zk (λ_ _=>rfl)) zb)))))))
   (zf (zo yN))
   zF)
   (zf (zo (zg Pg.ok hr rfl Pg.bound Pg.kp Pg.bd .nil zr (za (pv 1) (za (pv 2) (za (zm zw (zm yc (pv 3) (wX wk zk) (λ_ _=>rfl)) zk (λ_ _=>rfl)) (za (zK yL (zm zw (zm yc (pv 3) (wX wk zk) (λ_ _=>rfl)) zk (λ_ _=>rfl)) (zK y6 (zg Ce.ok (hr.mono (show 1<=56 by decide)) rfl Ce.bound Ce.kp Ce.bd .nil zr (za (pv 0) (za zk zb))) zk)) zb))))))))))))),?_⟩
  refine⟨_,rfl,_,rfl,_,rfl,a,_,rfl,hS,λlc nlc=>?_⟩;obtain⟨cells,hcut⟩:=zb1 ns (some 3) (some 63);dsimp only;rw[hcut];have S1:=zd (o:=.lst (cells.map V.int)) nlc;have hlc:(upd H lc (.lst (cells.map V.int))) lc=some (.lst (cells.map V.int)):=zc;generalize upd H lc (.lst (cells.map V.int))=H1 at S1 hlc;refine⟨lc,cells,rfl,SqL.of hlc,λlg x lt t n us wss H2 S2 hlg hA g pm hlt hT m11=>?_⟩;have S12:=S1.trans S2;refine⟨lg,_,rfl,SqL.of hlg,rfl,_,_,rfl,_,_,rfl,rfl,?_⟩
  try dsimp only
  have lu:=hT.len;have ln:=pm.length_eq;rw[qp]at ln;have iT:wm t:=⟨n,g,(),by rw[ln];exact pm⟩;have gsz:=g.szN;have gd:∀{H':Hp},Same H2 H'->Gd H' x lt t n wss:=λS=>⟨hA.same S,iT,g,pm,(),us,S _ _ hlt,hT.same S⟩
  -- the xF
  refine⟨_,rfl,_,rfl,lt,rfl,⟨_,SqL.of hlt⟩,zZ (K:=K) (a:=lt) (xs:=us) (λi ys σ H3=>Same H2 H3/\Txs H3 ys (wss.take i)/\∃o,σ=[o]) ⟨Same.refl _,.nil,none,rfl⟩
   (λi ys σ H3 hi h9=>by obtain⟨S,e,_⟩:=h9;exact(⟨by rw[e.len,kQ];exact kw (show _<=1000 by lia) ⋯,SqL.of (S _ _ hlt)⟩)) ?_ ?_⟩
  case refine_2 =>
   intro i v ys σ H3 hv h8;refine A_3 h8 λS3 e n8=>E_1 n8 λo e9=>?_;clear n8 h8;subst e9;obtain⟨ws,hws,pa,rfl,hpa,ow,o40⟩:=hT.get hv;have il:=(kf.mp hws).1;dsimp only[zU,tYes];refine iteT ⟨_,rfl,pa,_,rfl,.inl (SqL.of (S3 _ _ hpa)),λpn npn=>⟨S3.trans (zd npn),?_,_,rfl⟩⟩;rw[<-kC il,(kf.mp hws).2];exact(e.same (zd npn)).snoc ⟨pn,rfl,zc,ow,o40⟩
  rintro ys σ H3 ⟨S3,e,_⟩ ly nly;rw[lu,kJ]at e;have S4:=S3.trans (zd (o:=.lst ys) nly);have hly:upd H3 ly (.lst ys) ly=some (.lst ys):=zc;have e4:=e.same (zd (o:=.lst ys) nly);generalize upd H3 ly (.lst ys)=H4 at S4 hly e4;have ley:=e4.len;refine I_5 x ly t n wss ⟨rfl,⟨hA.same S4,iT,g,pm,(),ys,hly,e4⟩,λU ls ss A H5 hR S5 _ hls hSt ok l15=>?_⟩;have S25:=S4.trans S5;have small:=λ{p:Nat×Nat}(hp:p∈A)=>zcC hT.ok40 hT.okw m11 g pm hR ok hp;have ne:A≠[]:=by
   obtain⟨w0,h0,z⟩:=hR.nem (wn wss) (λL hL=>by
    obtain⟨ws,_,rfl⟩:=kU.mp hL;exact _Sta.zb6 ws)
   obtain⟨p,hp,_⟩:=(ok.2 w0 h0).mpr z;exact List.ne_nil_of_mem hp
  have lA:=hSt.len;have lA0:0<A.length:=bc.mpr ne;refine zJ ?_;dsimp only;refine⟨_,rfl,ls,ss,A,rfl,hls,hSt,ok.1,ne,l15,λH6 S6=>⟨_,rfl,iteF ?_⟩⟩;have S26:=S25.trans S6;have hls6:=S6 _ _ hls;have hSt6:=hSt.same S6;have hS6:=(S12.trans S26).seq hS;refine z6 ?_;dsimp only;refine⟨_,rfl,ls,_,rfl,.inl (SqL.of hls6),_,rfl,(),(),?_⟩;rw[show(((ss.length:Nat):Int)).toNat=ss.length by lia];refine Yu (n:=ss.length) (λk σ H7=>∃o4 o5 o6 o7:Option V,σ=[some (.ref a),some x,some (.ref lt),some (.ref ls),o4,o5,o6,o7,none]/\Same H6 H7) ⟨none,none,none,none,rfl,Same.refl _⟩ ?_ ?_
  .intro k σ H7 hk h8;refine E_4 h8 λo4 o5 o6 o7 n8=>A_2 n8 λe9 S7=>?_;clear n8 h8;subst e9;have ek:A[k]?=some A[k]:=kc ();generalize A[k]'()=p at ek;have mp:=ky ek;obtain⟨p1,p2,p3⟩:=small mp;have pos:=ok.1.2 p mp;obtain⟨v,hv,pa,rfl,hpa⟩:=hSt6.get ek;have S27:=S26.trans S7;have hls7:=S7 _ _ hls6;have hpa7:=S7 _ _ hpa;refine zJ ?_;dsimp only;rw[Int.zero_add];refine⟨_,rfl,_,rfl,ls,_,_,_,rfl,rfl,SqL.of hls7,yX hv,pa,_,rfl,SqT.of hpa7,rfl,_,_,rfl,_,_,rfl,rfl,?_⟩;dsimp only;have goal:∀{H8:Hp},Same H7 H8->∀o7',∃o4 o5 o6 o7:Option V,([some (.ref a),some x,some (.ref lt),some (.ref ls),some (.int (k:Int)),some (.int (p.1:Int)),some (.int (p.2:Int)),o7',none]:St)=[some (.ref a),some x,some (.ref lt),some (.ref ls),o4,o5,o6,o7,none]/\Same H6 H8:=λS o7'=>⟨_,_,_,_,rfl,S7.trans S⟩;obtain⟨lo,hi⟩:=_Sta.QE ok.1 mp;refine jG (R:=λσ8 H8=>σ8=[some (.ref a),some x,some (.ref lt),some (.ref ls),some (.int (k:Int)),some (.int (p.1:Int)),some (.int (p.2:Int)),o7,none]/\H8=H7) ?_ λgo=>?_
   case refine_1 =>
    rintro σ8 H8 ⟨rfl,rfl⟩;refine⟨_,rfl,_,rfl,_,rfl,x,lt,t,n,wss,p.1,rfl,gd S27,λU' o' H9 hR' S9 lo'=>?_⟩;rw[_Sta.wo hR' hR]at lo';have e0:=Zj lo' (qb ok.2 lo);subst e0;refine⟨_,rfl,rfl,_,rfl,?_⟩;rw[show(!decide (oV (some p.2)=V.int ((p.2:Nat):Int)))=false by rw[decide_eq_true (show oV (some p.2)=V.int ((p.2:Nat):Int)from rfl)];rfl];refine iteF ?_;refine⟨_,rfl,_,rfl,_,rfl,x,lt,t,n,wss,p.2,rfl,gd (S27.trans S9),λU' o' H10 hR' S10 lo'=>?_⟩;rw[_Sta.wo hR' hR]at lo';have e1:=Zj lo' (qb (λw h=>ok.2 h w) hi);subst e1;refine⟨_,rfl,rfl,_,rfl,?_⟩;rw[show(!decide (oV (some p.1)=V.int ((p.1:Nat):Int)))=false by rw[decide_eq_true (show oV (some p.1)=V.int ((p.1:Nat):Int)from rfl)];rfl];refine iteF ?_;have S710:=S9.trans S10;refine z6 ?_;dsimp only;refine zJ ?_;dsimp only
    -- the height one width less
    have S2a:=S27.trans S710;obtain⟨pr1,pr2⟩:=zcy ok.1 ek;refine jG (R:=λσ8 H8=>(∃o,Low U (p.1-1) o/\σ8=[some (.ref a),some x,some (.ref lt),some (.ref ls),some (.int (k:Int)),some (.int (p.1:Int)),some (.int (p.2:Int)),some (oV o),none])/\H8=H10) ?_ λgo=>?_
    case refine_1 =>
     rintro σ8 H8' ⟨⟨o,lo2,rfl⟩,rfl⟩;refine⟨_,rfl,_,rfl,_,rfl,_,_,rfl,rfl,x,lt,t,n,wss,p.1-1,?_,gd S2a,λU' o' H11 hR' S11 lo'=>?_⟩
     .show [x,V.ref lt,V.int (((p.1:Nat):Int)-1)]=_;rw[show((p.1:Nat):Int)-1=((p.1-1:Nat):Int)by lia]
     .rw[_Sta.wo hR' hR]at lo';have e2:=Zj lo' lo2;subst e2;refine⟨_,rfl,by cases o'<;>rfl,_,rfl,?_⟩;rw[show(!decide (oV o'=oV o'))=false by rw[decide_eq_true rfl];rfl];exact iteF (goal (S710.trans S11) _)
    refine⟨_,rfl,_,_,rfl,rfl,_,rfl,?_⟩;by_cases k0:0<k
    .rw[decide_eq_true (show(0:Int)<((k:Nat):Int)by lia)];have eq:A[k-1]?=some (A[k-1]'(by omega)):=kc (by omega);generalize A[k-1]'(by omega)=p' at eq;obtain⟨v',hv',pa',rfl,hpa'⟩:=hSt6.get eq;refine iteT ⟨_,rfl,_,rfl,_,_,rfl,rfl,ls,_,_,_,rfl,rfl,SqL.of (S710 _ _ hls7),?_,_,_,_,_,rfl,rfl,SqT.of (S710 _ _ (S7 _ _ hpa')),rfl,?_⟩
     .show atI ss (((k:Nat):Int)-1)=some (V.ref pa');rw[show((k:Nat):Int)-1=((k-1:Nat):Int)by omega];exact yX hv'
     .exact go _ _ ⟨⟨some p'.2,qb ok.2 (pr2 p' k0 eq),rfl⟩,rfl⟩
    .rw[decide_eq_false (show ¬(0:Int)<((k:Nat):Int)by lia)];exact iteF (go _ _ ⟨⟨none,qb ok.2 (pr1 ()),rfl⟩,rfl⟩)
   have ch:=jd (σ:=[some (.ref a),some x,some (.ref lt),some (.ref ls),some (.int (k:Int)),some (.int (p.1:Int)),some (.int (p.2:Int)),o7,none]) (H:=H7) (f:=λi j=>decide (i<j)) (g:=λi j=>decide (i<j)) (zC (v:=.int 3)) (zh (i:=4) rfl) (zT (g:=λi j=>V.int (i-j)) (yU (K:=K) (zh (i:=3) rfl) (SqL.of hls7)) (zC (v:=.int 2)));refine ch _ ⟨_,rfl,?_⟩;refine ite2 (λc1=>?_) (λc1=>?_)
   .refine⟨_,rfl,_,_,rfl,rfl,(by show(0:Int)<5;decide),_,rfl,a,ns,2,rfl,S7.seq hS6,⋯,λc2=>⟨_,_,rfl,rfl,(by show(0:Int)<5;decide),rfl,_,rfl,?_⟩⟩;refine ite2 (λc3=>?_) (λc3=>?_)
    .exact goal (Same.refl _) _
    .exact go _ _ ⟨rfl,rfl⟩
   .exact go _ _ ⟨rfl,rfl⟩
  .intro σ H7 h8;refine E_4 h8 λo4 o5 o6 o7 n8=>A_2 n8 λe9 S7=>?_;clear n8 h8;subst e9;have S27:=S26.trans S7;have hls7:=S7 _ _ hls6;have hSt7:=hSt6.same S7;have hS7:=S7.seq hS6;refine⟨_,rfl,a,ns,0,rfl,hS7,⋯,λc0=>⟨_,rfl,ls,_,rfl,.inl (SqL.of hls7),_,_,rfl,rfl,(by show(0:Int)<((ss.length:Nat):Int);lia),?_⟩⟩;have a0:=v5 c0 (show((ss.length:Nat):Int)≠0 by lia);have a1:=vW c0 (show(0:Int)<((ss.length:Nat):Int)by lia);obtain⟨at',hat⟩:=vO a0;refine zJ ?_;dsimp only;rw[hat];rw[hat]at a1;have ea:A[at']?=some (A[at']'()):=kc ();generalize A[at']'()=p at ea;obtain⟨p1,p2,p3⟩:=small (ky ea);obtain⟨v,hv,pa,rfl,hpa⟩:=hSt7.get ea;refine⟨_,rfl,_,rfl,_,rfl,_,rfl,ls,_,_,_,rfl,rfl,SqL.of hls7,yX hv,_,_,_,_,rfl,rfl,SqT.of hpa,rfl,_,rfl,_,rfl,ls,_,_,_,rfl,rfl,SqL.of hls7,yX hv,_,_,_,_,rfl,rfl,SqT.of hpa,rfl,x,lt,t,n,wss,p.1,p.2,U,rfl,gd S27,hR,p3,(),(),λH8 S8=>⟨_,rfl,iteF ?_⟩⟩;have S28:=S27.trans S8;have hls8:=S8 _ _ hls7;have hSt8:=hSt7.same S8;have hS8:=S8.seq hS7;refine z6 ?_;dsimp only;have el:A[A.length-1]?=some (A[A.length-1]'()):=kc ();generalize A[A.length-1]'()=r at el;obtain⟨r1,r2,r3⟩:=small (ky el);obtain⟨v2,hv2,pr,rfl,hpr⟩:=hSt8.get el;have atl:atI ss (-1)=some (V.ref pr):=by
    have e:ss=ss.dropLast++[V.ref pr]:=by
     have hn:ss≠[]:=λz=>by rw[z]at lA;exact absurd lA.symm (by rw[bp];lia)
     have e1:=(vZ hn).symm;rw[<-lA]at hv2;rw[List.getLast_eq_getElem]at e1;rw[kc ()]at hv2;injection hv2 with hv2;rw[hv2]at e1;exact e1
    rw[e];exact jY _ _
   refine⟨_,rfl,_,rfl,_,rfl,_,rfl,ls,_,_,_,rfl,rfl,SqL.of hls8,atl,_,_,_,_,rfl,rfl,SqT.of hpr,rfl,_,rfl,_,rfl,ls,_,_,_,rfl,rfl,SqL.of hls8,atl,_,_,_,_,rfl,rfl,SqT.of hpr,rfl,_,rfl,a,ns,1,rfl,hS8,⋯,λc1=>⟨_,_,rfl,rfl,(by show(0:Int)<5;decide),_,_,rfl,rfl,?_⟩⟩;have b0:=v5 c1 (show(5:Int)≠0 by decide);have b1:=vW c1 (show(0:Int)<5 by decide);obtain⟨m,hm⟩:=vO b0;have up:=hR.up (wn wss);refine⟨x,lt,t,n,wss,r.1,r.2+m,U,?_,gd S28,hR,up.up r3 (km _) (u5 _ _),(),(),λH9 _=>q H9⟩;show [x,V.ref lt,V.int ((r.1:Nat):Int),V.int (((r.2:Nat):Int)+c1 % 5)]=_;rw[hm,<-bL]
end
theorem zbA{P:Program}{w:World}{K:PySem.W.Frag}{mg:Str->Option Value}{base:Heap}{f:Addr}{fd:FuncData}(Y:Callee P w K mg base CX0 1 "is_whole" f fd ["thing"] x5):Callee P w K mg base CX0 1 "is_whole" f fd ["thing"] Ze :=
 ⟨Y.ok.imp λ_ _ _ _ h=>h.elim λi q=>⟨_,.int i,q.1,.int i,q.2⟩,Y.bound,Y.kp,Y.bd⟩
end _JN
namespace _JN
open PySem _L2 _Tre
def Dq(K:PySem.W.Frag)(n:Str)(f:Addr)(st:Stmt):Prop:=∃fd,k9 K mainGlobals n=some (some (.ref f))/\Fun K n n st f fd
theorem bl1{α:Type}{p:List α->Prop}{us:List α}(hl:us.length=1)(q:∀a0,p [a0]):p us:=match us,hl with
 |[a0],_=>q a0
theorem bd1{K:PySem.W.Frag}{x q:Str}{st:Stmt}{f:Addr}{fd:FuncData}{ps:List Str}(F:Fun K x q st f fd)(hp:ps.length=1)(h:∀(kV doc pm:Value)(an:Option Addr)(cdv ct a0:Value),bindArgs (v8 x q (xl st) (xc st) (zl st) .none kV doc pm an cdv ct) ⟨[a0],[]⟩=pure (ps.zip [a0])):Binds K fd ps []:=F.binds λkV doc pm an cdv ct us hl=>bl1 (p:=λus=>bindArgs _ ⟨us,[]⟩=pure (List.zip _ us)) (hl.trans hp) (h kV doc pm an cdv ct)
theorem bl2{α:Type}{p:List α->Prop}{us:List α}(hl:us.length=2)(q:∀a0 a1,p [a0,a1]):p us:=match us,hl with
 |[a0,a1],_=>q a0 a1
theorem bd2{K:PySem.W.Frag}{x q:Str}{st:Stmt}{f:Addr}{fd:FuncData}{ps:List Str}(F:Fun K x q st f fd)(hp:ps.length=2)(h:∀(kV doc pm:Value)(an:Option Addr)(cdv ct a0 a1:Value),bindArgs (v8 x q (xl st) (xc st) (zl st) .none kV doc pm an cdv ct) ⟨[a0,a1],[]⟩=pure (ps.zip [a0,a1])):Binds K fd ps []:=F.binds λkV doc pm an cdv ct us hl=>bl2 (p:=λus=>bindArgs _ ⟨us,[]⟩=pure (List.zip _ us)) (hl.trans hp) (h kV doc pm an cdv ct)
theorem bl3{α:Type}{p:List α->Prop}{us:List α}(hl:us.length=3)(q:∀a0 a1 a2,p [a0,a1,a2]):p us:=match us,hl with
 |[a0,a1,a2],_=>q a0 a1 a2
theorem bd3{K:PySem.W.Frag}{x q:Str}{st:Stmt}{f:Addr}{fd:FuncData}{ps:List Str}(F:Fun K x q st f fd)(hp:ps.length=3)(h:∀(kV doc pm:Value)(an:Option Addr)(cdv ct a0 a1 a2:Value),bindArgs (v8 x q (xl st) (xc st) (zl st) .none kV doc pm an cdv ct) ⟨[a0,a1,a2],[]⟩=pure (ps.zip [a0,a1,a2])):Binds K fd ps []:=F.binds λkV doc pm an cdv ct us hl=>bl3 (p:=λus=>bindArgs _ ⟨us,[]⟩=pure (List.zip _ us)) (hl.trans hp) (h kV doc pm an cdv ct)
theorem bl4{α:Type}{p:List α->Prop}{us:List α}(hl:us.length=4)(q:∀a0 a1 a2 a3,p [a0,a1,a2,a3]):p us:=match us,hl with
 |[a0,a1,a2,a3],_=>q a0 a1 a2 a3
theorem bd4{K:PySem.W.Frag}{x q:Str}{st:Stmt}{f:Addr}{fd:FuncData}{ps:List Str}(F:Fun K x q st f fd)(hp:ps.length=4)(h:∀(kV doc pm:Value)(an:Option Addr)(cdv ct a0 a1 a2 a3:Value),bindArgs (v8 x q (xl st) (xc st) (zl st) .none kV doc pm an cdv ct) ⟨[a0,a1,a2,a3],[]⟩=pure (ps.zip [a0,a1,a2,a3])):Binds K fd ps []:=F.binds λkV doc pm an cdv ct us hl=>bl4 (p:=λus=>bindArgs _ ⟨us,[]⟩=pure (List.zip _ us)) (hl.trans hp) (h kV doc pm an cdv ct)
theorem bl5{α:Type}{p:List α->Prop}{us:List α}(hl:us.length=5)(q:∀a0 a1 a2 a3 a4,p [a0,a1,a2,a3,a4]):p us:=match us,hl with
 |[a0,a1,a2,a3,a4],_=>q a0 a1 a2 a3 a4
theorem bd5{K:PySem.W.Frag}{x q:Str}{st:Stmt}{f:Addr}{fd:FuncData}{ps:List Str}(F:Fun K x q st f fd)(hp:ps.length=5)(h:∀(kV doc pm:Value)(an:Option Addr)(cdv ct a0 a1 a2 a3 a4:Value),bindArgs (v8 x q (xl st) (xc st) (zl st) .none kV doc pm an cdv ct) ⟨[a0,a1,a2,a3,a4],[]⟩=pure (ps.zip [a0,a1,a2,a3,a4])):Binds K fd ps []:=F.binds λkV doc pm an cdv ct us hl=>bl5 (p:=λus=>bindArgs _ ⟨us,[]⟩=pure (List.zip _ us)) (hl.trans hp) (h kV doc pm an cdv ct)
theorem all_mk{l:PySem.W.OpenLaw}{w:World}{K:PySem.W.Frag}{h:Heap}{mg:Str->Option Value}{fa  f0 f1 f2 f3 f4 f5 f6 f7 f8 f9 f10 f11 f12 f13 f14 f15 f16 f17 f18 f19 f20 f21 f22 f23 f24 f25 f26 f27 f28 f29 f30 f31 f32 f33 f34 f35 f36 f37 f38 f39 f40 f41 f42 f43 f44 f45 f46 f47 f48 f49 f50 f51 f52 f53 f54 f55 f56 f57 f58 f59 f60 f61 f62 f63 f64 f65 f66 f67 f68 f69  : Addr}(X:K.In h)(G:h.Ns mainGlobals mg)(hfa:mg "law"=some (.ref fa))
  {kA:Addr}{odK:Option Addr}{nK:Nat}{slK:Array (Option Value)}{tk1 tk2:Tok}{t_LEFT_OUT t_MOST_SIGNS t_KIND t_PARTS t_MOST_BOXES t_WIDE t_HIGH t_MOST_WORDS t_LEFT t_TOP t_RIGHT t_BELOW t_BOXES t_ACROSS t_DOWN t_STUCK:Tok}
  (d0:Dq K "is_sign" f0 QY)
  (d1:Dq K "is_word" f1 QZ)
  (d2:Dq K "are_words" f2 sAre)
  (d3:Dq K "refuse_no_words" f3 Z4)
  (d4:Dq K "taken" f4 XZ)
  (d5:Dq K "with_next_word" f5 Q0)
  (d6:Dq K "next_width" f6 X1)
  (d7:Dq K "text_stairs" f7 Z5)
  (d8:Dq K "is_whole" f8 X6)
  (d9:Dq K "has_kind" f9 sHas)
  (d10:Dq K "is_branch" f10 sBr)
  (d11:Dq K "numbers_in" f11 sNum)
  (d12:Dq K "is_tree" f12 Q2)
  (d13:Dq K "refuse_no_tree" f13 Q3)
  (d14:Dq K "boxes_of" f14 X7)
  (d15:Dq K "is_text" f15 Q7)
  (d16:Dq K "refuse_no_texts" f16 sRTx)
  (d17:Dq K "side_by_side" f17 sSbs)
  (d18:Dq K "all_side_by_side" f18 sAll)
  (d19:Dq K "exchanged" f19 Q8)
  (d20:Dq K "box_stairs" f20 sBst)
  (d21:Dq K "stairs_of" f21 sSo)
  (d22:Dq K "tree_stairs" f22 sTst)
  (d23:Dq K "lowest" f23 sLow)
  (d24:Dq K "narrowest" f24 Q9)
  (d25:Dq K "least_high" f25 sLh)
  (d26:Dq K "least_wide" f26 X8)
  (d27:Dq K "edges" f27 X9)
  (d28:Dq K "pieces_across" f28 sPa)
  (d29:Dq K "pieces_down" f29 sPd)
  (d30:Dq K "pieces_of" f30 sPo)
  (d31:Dq K "set_in" f31 jo)
  (d32:Dq K "height_in" f32 sHin)
  (d33:Dq K "setting" f33 j3)
  (d34:Dq K "is_length" f34 Z7)
  (d35:Dq K "is_box" f35 sBox)
  (d36:Dq K "are_boxes" f36 Ja)
  (d37:Dq K "is_within" f37 Z8)
  (d38:Dq K "overlap" f38 j4)
  (d39:Dq K "any_overlap" f39 sAny)
  (d40:Dq K "area" f40 Jb)
  (d41:Dq K "fill" f41 Jc)
  (d42:Dq K "top_then_left" f42 sTtl)
  (d43:Dq K "make_page" f43 Jd)
  (d44:Dq K "whole_of" f44 sWho)
  (d45:Dq K "lies_within" f45 sLiw)
  (d46:Dq K "boxes_in" f46 sBin)
  (d47:Dq K "lies_inside" f47 sLii)
  (d48:Dq K "uncut_ends" f48 sUnc)
  (d49:Dq K "parted_across" f49 sPac)
  (d50:Dq K "parted_down" f50 sPdn)
  (d51:Dq K "parted" f51 sPar)
  (d52:Dq K "has_cut" f52 Je)
  (d53:Dq K "first_stuck" f53 sFst)
  (d54:Dq K "stuck_piece" f54 sStk)
  (d55:Dq K "tree_of_piece" f55 sTop)
  (d56:Dq K "tree_of" f56 sTof)
  (d57:Dq K "is_room" f57 Q4)
  (d58:Dq K "refuse_no_rooms" f58 Q5)
  (d59:Dq K "narrow_ones" f59 sNar)
  (d60:Dq K "words_on" f60 sOn)
  (d61:Dq K "poured" f61 Q6)
  (d62:Dq K "_law_cell_at" f62 Z6)
  (d63:Dq K "_law_mixed" f63 Wa)
  (d64:Dq K "_law_word" f64 sLw)
  (d65:Dq K "_law_split" f65 (top 97))
  (d66:Dq K "_law_grown" f66 (top 98))
  (d67:Dq K "_law_is_stairs" f67 (top 99))
  (d68:Dq K "_law_page_good" f68 (top 100))
  (d69:Dq K "law" f69 sLaw)
  (z_len:k9 K mainGlobals "len"=some none)
  (z_range:k9 K mainGlobals "range"=some none)
  (z_min:k9 K mainGlobals "min"=some none)
  (z_max:k9 K mainGlobals "max"=some none)
  (z_sum:k9 K mainGlobals "sum"=some none)
  (z_zip:k9 K mainGlobals "zip"=some none)
  (z_isinstance:k9 K mainGlobals "isinstance"=some none)
  (z_int:k9 K mainGlobals "int"=some none)
  (z_bool:k9 K mainGlobals "bool"=some none)
  (z_str:k9 K mainGlobals "str"=some none)
  (z_tuple:k9 K mainGlobals "tuple"=some none)
  (z_list:k9 K mainGlobals "list"=some none)
  (z_all:k9 K mainGlobals "all"=some none)
  (z_any:k9 K mainGlobals "any"=some none)
  (z_ord:k9 K mainGlobals "ord"=some none)
  (z_sorted:k9 K mainGlobals "sorted"=some none)
  (z_reversed:k9 K mainGlobals "reversed"=some none)
  (z_enumerate:k9 K mainGlobals "enumerate"=some none)
  (z_set:k9 K mainGlobals "set"=some none)
  (g_LEFT_OUT:k9 K mainGlobals "LEFT_OUT"=some (some (.int 37 t_LEFT_OUT)))
  (g_MOST_SIGNS:k9 K mainGlobals "MOST_SIGNS"=some (some (.int 12 t_MOST_SIGNS)))
  (g_KIND:k9 K mainGlobals "KIND"=some (some (.int 0 t_KIND)))
  (g_PARTS:k9 K mainGlobals "PARTS"=some (some (.int 1 t_PARTS)))
  (g_MOST_BOXES:k9 K mainGlobals "MOST_BOXES"=some (some (.int 24 t_MOST_BOXES)))
  (g_WIDE:k9 K mainGlobals "WIDE"=some (some (.int 0 t_WIDE)))
  (g_HIGH:k9 K mainGlobals "HIGH"=some (some (.int 1 t_HIGH)))
  (g_MOST_WORDS:k9 K mainGlobals "MOST_WORDS"=some (some (.int 40 t_MOST_WORDS)))
  (g_LEFT:k9 K mainGlobals "LEFT"=some (some (.int 0 t_LEFT)))
  (g_TOP:k9 K mainGlobals "TOP"=some (some (.int 1 t_TOP)))
  (g_RIGHT:k9 K mainGlobals "RIGHT"=some (some (.int 2 t_RIGHT)))
  (g_BELOW:k9 K mainGlobals "BELOW"=some (some (.int 3 t_BELOW)))
  (g_BOXES:k9 K mainGlobals "BOXES"=some (some (.int 2 t_BOXES)))
  (g_ACROSS:k9 K mainGlobals "ACROSS"=some (some (.str "|" t_ACROSS)))
  (g_DOWN:k9 K mainGlobals "DOWN"=some (some (.str "-" t_DOWN)))
  (g_STUCK:k9 K mainGlobals "STUCK"=some (some (.str "stuck" t_STUCK)))
  (hKINDS:k9 K mainGlobals "KINDS"=some (some (.ref kA)))
  (lkK:K.lookup kA=some ⟨.type "tuple",odK,.seq #[.str "|" tk1,.str "-" tk2] nK,slK⟩)
  (q_int2:ue K (.type "int") (.type "int")=some true)
  (q_int3:ue K (.type "str") (.type "int")=some false)
  (q_int4:ue K (.type "tuple") (.type "int")=some false)
  (q_bool2:ue K (.type "int") (.type "bool")=some false)
  (q_str3:ue K (.type "str") (.type "str")=some true)
  (q_tuple2:ue K (.type "int") (.type "tuple")=some false)
  (q_tuple3:ue K (.type "str") (.type "tuple")=some false)
  (q_tuple4:ue K (.type "tuple") (.type "tuple")=some true)
  (kLL:ue K (.type "list") (.type "list")=some true):
  ∃fd:FuncData,(∀(s:Shared)(v:Value),BindsTo s fd ⟨[v],[]⟩ [("script",v)])/\∀base:Heap,K.In base->base.Ns mainGlobals mg->FnOk l.prog w K mg base CX0 57 fa fd ["script"] (JN K):=by
 obtain⟨g69,a69,F69⟩:=d69;have e:=hfa.symm.trans (kE X G a69);cases e;obtain⟨g0,a0,F0⟩:=d0;obtain⟨g1,a1,F1⟩:=d1;obtain⟨g2,a2,F2⟩:=d2;obtain⟨g3,a3,F3⟩:=d3;obtain⟨g4,a4,F4⟩:=d4;obtain⟨g5,a5,F5⟩:=d5;obtain⟨g6,a6,F6⟩:=d6;obtain⟨g7,a7,F7⟩:=d7;obtain⟨g8,a8,F8⟩:=d8;obtain⟨g9,a9,F9⟩:=d9;obtain⟨g10,a10,F10⟩:=d10;obtain⟨g11,a11,F11⟩:=d11;obtain⟨g12,a12,F12⟩:=d12;obtain⟨g13,a13,F13⟩:=d13;obtain⟨g14,a14,F14⟩:=d14;obtain⟨g15,a15,F15⟩:=d15;obtain⟨g16,a16,F16⟩:=d16;obtain⟨g17,a17,F17⟩:=d17;obtain⟨g18,a18,F18⟩:=d18;obtain⟨g19,a19,F19⟩:=d19;obtain⟨g20,a20,F20⟩:=d20;obtain⟨g21,a21,F21⟩:=d21;obtain⟨g22,a22,F22⟩:=d22;obtain⟨g23,a23,F23⟩:=d23;obtain⟨g24,a24,F24⟩:=d24;obtain⟨g25,a25,F25⟩:=d25;obtain⟨g26,a26,F26⟩:=d26;obtain⟨g27,a27,F27⟩:=d27;obtain⟨g28,a28,F28⟩:=d28;obtain⟨g29,a29,F29⟩:=d29;obtain⟨g30,a30,F30⟩:=d30;obtain⟨g31,a31,F31⟩:=d31;obtain⟨g32,a32,F32⟩:=d32;obtain⟨g33,a33,F33⟩:=d33;obtain⟨g34,a34,F34⟩:=d34;obtain⟨g35,a35,F35⟩:=d35;obtain⟨g36,a36,F36⟩:=d36;obtain⟨g37,a37,F37⟩:=d37;obtain⟨g38,a38,F38⟩:=d38;obtain⟨g39,a39,F39⟩:=d39;obtain⟨g40,a40,F40⟩:=d40;obtain⟨g41,a41,F41⟩:=d41;obtain⟨g42,a42,F42⟩:=d42;obtain⟨g43,a43,F43⟩:=d43;obtain⟨g44,a44,F44⟩:=d44;obtain⟨g45,a45,F45⟩:=d45;obtain⟨g46,a46,F46⟩:=d46;obtain⟨g47,a47,F47⟩:=d47;obtain⟨g48,a48,F48⟩:=d48;obtain⟨g49,a49,F49⟩:=d49;obtain⟨g50,a50,F50⟩:=d50;obtain⟨g51,a51,F51⟩:=d51;obtain⟨g52,a52,F52⟩:=d52;obtain⟨g53,a53,F53⟩:=d53;obtain⟨g54,a54,F54⟩:=d54;obtain⟨g55,a55,F55⟩:=d55;obtain⟨g56,a56,F56⟩:=d56;obtain⟨g57,a57,F57⟩:=d57;obtain⟨g58,a58,F58⟩:=d58;obtain⟨g59,a59,F59⟩:=d59;obtain⟨g60,a60,F60⟩:=d60;obtain⟨g61,a61,F61⟩:=d61;obtain⟨g62,a62,F62⟩:=d62;obtain⟨g63,a63,F63⟩:=d63;obtain⟨g64,a64,F64⟩:=d64;obtain⟨g65,a65,F65⟩:=d65;obtain⟨g66,a66,F66⟩:=d66;obtain⟨g67,a67,F67⟩:=d67;obtain⟨g68,a68,F68⟩:=d68;have Z:Nm K mg:=⟨⟨_,kE X G g_LEFT_OUT⟩,⟨_,kE X G g_MOST_SIGNS⟩,(ko X G z_isinstance),(ko X G z_str),(ko X G z_list),(ko X G z_len),(ko X G z_all),(ko X G z_any),(ko X G z_ord)⟩;have Zt:Nt K mg kA:=⟨⟨_,kE X G g_KIND⟩,⟨_,kE X G g_PARTS⟩,⟨_,kE X G g_MOST_BOXES⟩,kE X G hKINDS,λH=>.inr ⟨_,_,_,lkK,rfl,rfl,(show 2<=sizeLine by decide),.cons ⟨_,rfl⟩ (.cons ⟨_,rfl⟩ .nil)⟩,(ko X G z_isinstance),(ko X G z_int),(ko X G z_bool),(ko X G z_str),(ko X G z_tuple),(ko X G z_list),(ko X G z_len),(ko X G z_any),(ko X G z_sorted),(ko X G z_range),(λh=>by cases h;exact q_int2;exact q_int3;exact q_int4),q_bool2,q_str3,(λh=>by cases h;exact q_tuple2;exact q_tuple3;exact q_tuple4)⟩;have Zs:Ns K mg:=⟨⟨_,kE X G g_WIDE⟩,⟨_,kE X G g_HIGH⟩,⟨_,kE X G g_MOST_WORDS⟩,⟨_,kE X G g_ACROSS⟩,(ko X G z_len),(ko X G z_isinstance),(ko X G z_list),(ko X G z_all),(ko X G z_max),(ko X G z_reversed)⟩;have ZP:Np K mg:=⟨⟨_,kE X G g_LEFT⟩,⟨_,kE X G g_TOP⟩,⟨_,kE X G g_RIGHT⟩,⟨_,kE X G g_BELOW⟩,⟨_,kE X G g_MOST_BOXES⟩,(ko X G z_isinstance),(ko X G z_int),(ko X G z_bool),(ko X G z_tuple),(ko X G z_list),(ko X G z_len),(ko X G z_all),(ko X G z_any),(ko X G z_sum),(ko X G z_sorted),(ko X G z_enumerate),q_bool2⟩;have Zr:Nr K mg:=⟨(ko X G z_isinstance),(ko X G z_tuple),(ko X G z_list),(ko X G z_len),(ko X G z_all),(ko X G z_sum),(ko X G z_enumerate),q_tuple4,kLL⟩;have Zl:Nl K mg:=⟨(ko X G z_isinstance),(ko X G z_list),(ko X G z_tuple),(ko X G z_len),(ko X G z_min),(ko X G z_zip),(ko X G z_range),q_tuple4,kLL⟩;obtain⟨oc,od,kV,doc,pm,an,cdv,ct,osl,rfl,lk,hcd⟩:=F69.ex;refine⟨v8 "law" "law" (xl sLaw) (xc sLaw) (zl sLaw) .none kV doc pm an cdv ct,λs v=>.of_eq rfl,λbase B _=>?_⟩;have C {CX:CXT}{k:Nat}{x:Str}{f:Addr}{fd:FuncData}{st:Stmt}{ps:List Str}{sp:Sp} (a:k9 K mainGlobals x=some (some (.ref f))) (F:Fun K x x st f fd) (h:FnOk l.prog w K mg base CX k f fd ps sp) (b:Binds K fd ps []):Callee l.prog w K mg base CX k x f fd ps sp:=⟨h,kE X G a,F.2,b⟩;have Y0:=C (CX:=CX0) a0 F0 (zds F0 Z) (bd1 F0 rfl λ_ _ _ _ _ _ _=>rfl);have Y1:=C (CX:=CX0) a1 F1 (zdt F1 Z Y0) (bd1 F1 rfl λ_ _ _ _ _ _ _=>rfl);have Y2:=C (CX:=CX0) a2 F2 (zeT F2 Z Y1) (bd1 F2 rfl λ_ _ _ _ _ _ _=>rfl);have Y3:=C (CX:=CX0) a3 F3 (zav F3 Y2) (bd1 F3 rfl λ_ _ _ _ _ _ _=>rfl);have Y4:=C (CX:=CX0) a4 F4 (zbV F4 (ko X G z_len)) (bd2 F4 rfl λ_ _ _ _ _ _ _ _=>rfl);have Y5:=C (CX:=CX0) a5 F5 (zdu F5 (ko X G z_len)) (bd2 F5 rfl λ_ _ _ _ _ _ _ _=>rfl);have Y6:=C (CX:=CX0) a6 F6 (zdv F6 (ko X G z_min) (ko X G z_zip) Y5) (bd1 F6 rfl λ_ _ _ _ _ _ _=>rfl);have Y7:=C (CX:=CX0) a7 F7 (zay F7 (ko X G z_len) (ko X G z_max) Y3 Y4 Y6) (bd1 F7 rfl λ_ _ _ _ _ _ _=>rfl);have Y8:=C (CX:=CX0) a8 F8 (zbZ F8 Zt) (bd1 F8 rfl λ_ _ _ _ _ _ _=>rfl);have Y9:=C (CX:=CX0) a9 F9 (zeX F9 Zt) (bd1 F9 rfl λ_ _ _ _ _ _ _=>rfl);have Y10:=C (CX:=CX0) a10 F10 (zf5 F10 Zt Y9) (bd1 F10 rfl λ_ _ _ _ _ _ _=>rfl);have Y11:=C (CX:=CX0) a11 F11 (zeY F11 Zt Y8 Y10) (bd1 F11 rfl λ_ _ _ _ _ _ _=>rfl);have Y12:=C (CX:=CX0) a12 F12 (zdy F12 Zt Y11) (bd1 F12 rfl λ_ _ _ _ _ _ _=>rfl);have Y13:=C (CX:=CX0) a13 F13 (zdA F13 Y12) (bd1 F13 rfl λ_ _ _ _ _ _ _=>rfl);have Y14:=C (CX:=CX0) a14 F14 (zb2 F14 (ko X G z_len) Y13 Y11) (bd1 F14 rfl λ_ _ _ _ _ _ _=>rfl);have Y15:=C (CX:=CX0) a15 F15 (zdH F15 Zs Y2) (bd1 F15 rfl λ_ _ _ _ _ _ _=>rfl);have Y16:=C (CX:=CX0) a16 F16 (ze5 F16 Zs Y14 Y15) (bd2 F16 rfl λ_ _ _ _ _ _ _ _=>rfl);have Y17:=C (CX:=CX0) a17 F17 (ze6 F17 Zs) (bd2 F17 rfl λ_ _ _ _ _ _ _ _=>rfl);have Y18:=C (CX:=CX0) a18 F18 (ze7 F18 Y17) (bd1 F18 rfl λ_ _ _ _ _ _ _=>rfl);have Y19:=C (CX:=CX0) a19 F19 (zdI F19 Zs) (bd1 F19 rfl λ_ _ _ _ _ _ _=>rfl);have Y20:=C (CX:=CX0) a20 F20 (ze9 F20 Y7) (bd1 F20 rfl λ_ _ _ _ _ _ _=>rfl);have Y21:=C (CX:=CX0) a21 F21 (zcP F21 ⟨_,kE X G g_KIND⟩ ⟨_,kE X G g_PARTS⟩ Zs Y8 Y18 Y19 (kE X G a21) F21.2 (bd2 F21 rfl λ_ _ _ _ _ _ _ _=>rfl) 24) (bd2 F21 rfl λ_ _ _ _ _ _ _ _=>rfl);have Y22:=C (CX:=CX0) a22 F22 (zfc F22 Y16 Y21 Y20) (bd2 F22 rfl λ_ _ _ _ _ _ _ _=>rfl);have Y23:=C (CX:=CX0) a23 F23 (zfd F23 ⟨_,kE X G g_WIDE⟩ ⟨_,kE X G g_HIGH⟩ (ko X G z_min)) (bd2 F23 rfl λ_ _ _ _ _ _ _ _=>rfl);have Y24:=C (CX:=CX0) a24 F24 (zdO F24 ⟨_,kE X G g_WIDE⟩ ⟨_,kE X G g_HIGH⟩ (ko X G z_min)) (bd2 F24 rfl λ_ _ _ _ _ _ _ _=>rfl);have Y25:=C (CX:=CX0) a25 F25 (zgc F25 Y22 Y23) (bd3 F25 rfl λ_ _ _ _ _ _ _ _ _=>rfl);have Y26:=C (CX:=CX0) a26 F26 (zcc F26 Y22 Y24) (bd3 F26 rfl λ_ _ _ _ _ _ _ _ _=>rfl);have Y27:=C (CX:=CX0) a27 F27 (zca F27) (bd3 F27 rfl λ_ _ _ _ _ _ _ _ _=>rfl);have Y28:=C (CX:=CX0) a28 F28 (zge F28 ⟨_,kE X G g_LEFT⟩ ⟨_,kE X G g_TOP⟩ ⟨_,kE X G g_RIGHT⟩ ⟨_,kE X G g_BELOW⟩ (ko X G z_zip) Y24 Y21 Y27) (bd3 F28 rfl λ_ _ _ _ _ _ _ _ _=>rfl);have Y29:=C (CX:=CX0) a29 F29 (zgf F29 ⟨_,kE X G g_LEFT⟩ ⟨_,kE X G g_TOP⟩ ⟨_,kE X G g_RIGHT⟩ ⟨_,kE X G g_BELOW⟩ (ko X G z_zip) Y23 Y21 Y27) (bd3 F29 rfl λ_ _ _ _ _ _ _ _ _=>rfl);have Y30:=C (CX:=CX0) a30 F30 (zgg F30 ⟨_,kE X G g_KIND⟩ ⟨_,kE X G g_PARTS⟩ Zs Y28 Y29) (bd3 F30 rfl λ_ _ _ _ _ _ _ _ _=>rfl);have Y31:=C (CX:=CX0) a31 F31 (zaQ F31 ⟨_,kE X G g_PARTS⟩ (ko X G z_zip) Y8 Y30 (kE X G a31) F31.2 (bd3 F31 rfl λ_ _ _ _ _ _ _ _ _=>rfl) 24) (bd3 F31 rfl λ_ _ _ _ _ _ _ _ _=>rfl);have Y32:=C (CX:=CX0) a32 F32 (zff F32 Y25) (bd3 F32 rfl λ_ _ _ _ _ _ _ _ _=>rfl);have Y33:=C (CX:=CX0) a33 F33 (zdS F33 (ko X G z_sorted) Y32 Y31 Y20) (bd4 F33 rfl λ_ _ _ _ _ _ _ _ _ _=>rfl);have Y34:=C (CX:=CX0) a34 F34 (zbd F34 (zbA Y8)) (bd1 F34 rfl λ_ _ _ _ _ _ _=>rfl);have Y35:=C (CX:=CX0) a35 F35 (zfr F35 ⟨_,kE X G g_LEFT⟩ ⟨_,kE X G g_TOP⟩ ⟨_,kE X G g_RIGHT⟩ ⟨_,kE X G g_BELOW⟩ (ko X G z_isinstance) (ko X G z_tuple) (ko X G z_len) (ko X G z_all) (zbA Y8)) (bd1 F35 rfl λ_ _ _ _ _ _ _=>rfl);have Y36:=C (CX:=CX0) a36 F36 (zd8 F36 ZP Y35) (bd1 F36 rfl λ_ _ _ _ _ _ _=>rfl);have Y37:=C (CX:=CX0) a37 F37 (zbe F37 ZP) (bd3 F37 rfl λ_ _ _ _ _ _ _ _ _=>rfl);have Y38:=C (CX:=CX0) a38 F38 (JB F38 ZP) (bd2 F38 rfl λ_ _ _ _ _ _ _ _=>rfl);have Y39:=C (CX:=CX0) a39 F39 (zd9 F39 ZP Y38) (bd1 F39 rfl λ_ _ _ _ _ _ _=>rfl);have Y40:=C (CX:=CX0) a40 F40 (zd7 F40 ⟨_,kE X G g_LEFT⟩ ⟨_,kE X G g_TOP⟩ ⟨_,kE X G g_RIGHT⟩ ⟨_,kE X G g_BELOW⟩) (bd1 F40 rfl λ_ _ _ _ _ _ _=>rfl);have Y41:=C (CX:=CX0) a41 F41 (zea F41 ZP Y37 Y39 Y40) (bd3 F41 rfl λ_ _ _ _ _ _ _ _ _=>rfl);have Y42:=C (CX:=CX0) a42 F42 (zfu F42 ZP) (bd1 F42 rfl λ_ _ _ _ _ _ _=>rfl);have Y43:=C (CX:=CX0) a43 F43 (zeb F43 ZP Y34 Y36 Y41 Y42) (bd3 F43 rfl λ_ _ _ _ _ _ _ _ _=>rfl);have Y44:=C (CX:=CX0) a44 F44 (zfx F44 ⟨_,kE X G g_WIDE⟩ ⟨_,kE X G g_HIGH⟩) (bd1 F44 rfl λ_ _ _ _ _ _ _=>rfl);have Y45:=C (CX:=CX0) a45 F45 (zfj F45 ⟨_,kE X G g_LEFT⟩ ⟨_,kE X G g_TOP⟩ ⟨_,kE X G g_RIGHT⟩ ⟨_,kE X G g_BELOW⟩) (bd2 F45 rfl λ_ _ _ _ _ _ _ _=>rfl);have Y46:=C (CX:=CX0) a46 F46 (zfk F46 ⟨_,kE X G g_BOXES⟩ Y45) (bd2 F46 rfl λ_ _ _ _ _ _ _ _=>rfl);have Y47:=C (CX:=CX0) a47 F47 (zfl F47 (ko X G z_any)) (bd2 F47 rfl λ_ _ _ _ _ _ _ _=>rfl);have Y48:=C (CX:=CX0) a48 F48 (zfm F48 (ko X G z_sorted) (ko X G z_set) Y47) (bd1 F48 rfl λ_ _ _ _ _ _ _=>rfl);have Y49:=C (CX:=CX0) a49 F49 (zfn F49 ⟨_,kE X G g_LEFT⟩ ⟨_,kE X G g_TOP⟩ ⟨_,kE X G g_RIGHT⟩ ⟨_,kE X G g_BELOW⟩ (ko X G z_zip) Y46 Y48) (bd2 F49 rfl λ_ _ _ _ _ _ _ _=>rfl);have Y50:=C (CX:=CX0) a50 F50 (zfo F50 ⟨_,kE X G g_LEFT⟩ ⟨_,kE X G g_TOP⟩ ⟨_,kE X G g_RIGHT⟩ ⟨_,kE X G g_BELOW⟩ (ko X G z_zip) Y46 Y48) (bd2 F50 rfl λ_ _ _ _ _ _ _ _=>rfl);have Y51:=C (CX:=CX0) a51 F51 (zfp F51 ⟨_,kE X G g_ACROSS⟩ ⟨_,kE X G g_DOWN⟩ (ko X G z_len) Y49 Y50) (bd2 F51 rfl λ_ _ _ _ _ _ _ _=>rfl);have Y52:=C (CX:=CX0) a52 F52 (zd6 F52 ⟨_,kE X G g_PARTS⟩ (ko X G z_len) Y51) (bd2 F52 rfl λ_ _ _ _ _ _ _ _=>rfl);have Y53:=C (CX:=CX0) a53 F53 (zbg F53 ⟨_,kE X G g_BOXES⟩ ⟨_,kE X G g_PARTS⟩ Y52 Y51 (kE X G a53) F53.2 (bd2 F53 rfl λ_ _ _ _ _ _ _ _=>rfl) 24) (bd2 F53 rfl λ_ _ _ _ _ _ _ _=>rfl);have Y54:=C (CX:=CX0) a54 F54 (zfy F54 Y53 Y44) (bd1 F54 rfl λ_ _ _ _ _ _ _=>rfl);have Y55:=C (CX:=CX0) a55 F55 (zbi F55 ⟨_,kE X G g_BOXES⟩ ⟨_,kE X G g_KIND⟩ ⟨_,kE X G g_PARTS⟩ (ko X G z_tuple) Y51 (kE X G a55) F55.2 (bd2 F55 rfl λ_ _ _ _ _ _ _ _=>rfl) 24) (bd2 F55 rfl λ_ _ _ _ _ _ _ _=>rfl);have Y56:=C (CX:=CX0) a56 F56 (zfz F56 ⟨_,kE X G g_STUCK⟩ Y54 Y55 Y44) (bd1 F56 rfl λ_ _ _ _ _ _ _=>rfl);have Y57:=C (CX:=CX0) a57 F57 (zek F57 Zr Y34) (bd1 F57 rfl λ_ _ _ _ _ _ _=>rfl);have Y58:=C (CX:=CX0) a58 F58 (zel F58 Zr Y57) (bd1 F58 rfl λ_ _ _ _ _ _ _=>rfl);have Y59:=C (CX:=CX0) a59 F59 (zfD F59 Zr) (bd2 F59 rfl λ_ _ _ _ _ _ _ _=>rfl);have Y60:=C (CX:=CX0) a60 F60 (zgq F60 Zr) (bd1 F60 rfl λ_ _ _ _ _ _ _=>rfl);have Y61:=C (CX:=CX0) a61 F61 (zem F61 Y3 Y58 Y4 Y59 Y60) (bd2 F61 rfl λ_ _ _ _ _ _ _ _=>rfl);have Y62:=C (CX:=CX0) a62 F62 (zbw F62 (ko X G z_len)) (bd2 F62 rfl λ_ _ _ _ _ _ _ _=>rfl);have Y63:=C (CX:=CX0) a63 F63 (zcv F63) (bd2 F63 rfl λ_ _ _ _ _ _ _ _=>rfl);have Y64:=C (CX:=CX0) a64 F64 (zen F64 (ko X G z_range) Y63) (bd1 F64 rfl λ_ _ _ _ _ _ _=>rfl);have Y65:=C (CX:=CX0) a65 F65 (zbx F65 Zt (kE X G a65) F65.2 (bd5 F65 rfl λ_ _ _ _ _ _ _ _ _ _ _=>rfl) 24) (bd5 F65 rfl λ_ _ _ _ _ _ _ _ _ _ _=>rfl);have Y66:=C (CX:=CX0) a66 F66 (zcw F66 (ko X G z_len) (ko X G z_range) Y63 Y65 Y64) (bd1 F66 rfl λ_ _ _ _ _ _ _=>rfl);have Y67:=C (CX:=CX0) a67 F67 (zfI F67 Zl) (bd1 F67 rfl λ_ _ _ _ _ _ _=>rfl);have Y68:=C (CX:=CX0) a68 F68 (zfM F68 Zl Y33 Y43 Y56 Y54 Y25 Y61) (bd4 F68 rfl λ_ _ _ _ _ _ _ _ _ _=>rfl);exact zfO F69 Zl Y66 Y62 Y22 Y67 Y25 Y26 Y68
end _JN
theorem PySem.W.Fast.tw12366815667264550785:True:=True.intro
theorem PySem.W.Fast.te9963195607469280438:True:=True.intro
theorem PySem.W.Fast.tw15796571279258899181:True:=True.intro
theorem PySem.W.Fast.tw4383174600742185920:True:=True.intro
theorem PySem.W.Fast.tw8139908014885946011:True:=True.intro
theorem PySem.W.Fast.tw5739483437887248513:True:=True.intro
theorem PySem.W.Fast.tw16122762437886474961:True:=True.intro
theorem PySem.W.Fast.tw5550702200723818460:True:=True.intro
theorem PySem.W.Fast.tw17045182948329434189:True:=True.intro
theorem PySem.W.Fast.tw14891292734162516427:True:=True.intro
theorem PySem.W.Fast.tw3842441530110023340:True:=True.intro
theorem PySem.W.Fast.tw3733286955632026910:True:=True.intro
theorem PySem.W.Fast.tw989050429554060547:True:=True.intro
theorem PySem.W.Fast.tw2960185589961018615:True:=True.intro
theorem PySem.W.Fast.tw16107750638471738991:True:=True.intro
theorem PySem.W.Fast.tw10097698130629503034:True:=True.intro
theorem PySem.W.Fast.tw8133138940272119505:True:=True.intro
theorem PySem.W.Fast.tw4545460642284442692:True:=True.intro
theorem PySem.W.Fast.tw14743518650240078532:True:=True.intro
theorem PySem.W.Fast.tw13566252410870285141:True:=True.intro
theorem PySem.W.Fast.tw17363643097756267914:True:=True.intro
theorem PySem.W.Fast.tw9991320202163351088:True:=True.intro
theorem PySem.W.Fast.tw8894733902954267496:True:=True.intro
theorem PySem.W.Fast.tw18186868177379694985:True:=True.intro
theorem PySem.W.Fast.tw5807831484295017697:True:=True.intro
theorem PySem.W.Fast.tw15484008083901742711:True:=True.intro
theorem PySem.W.Fast.tw4297078836026011744:True:=True.intro
theorem PySem.W.Fast.tw7023620474783024266:True:=True.intro
theorem PySem.W.Fast.tw32994635749549321:True:=True.intro
theorem PySem.W.Fast.tw6294830536794376844:True:=True.intro
theorem PySem.W.Fast.tw6412538212367321792:True:=True.intro
theorem PySem.W.Fast.tw18042230829096371986:True:=True.intro
theorem PySem.W.Fast.tw16640929514517328519:True:=True.intro
theorem PySem.W.Fast.tw6977737762061365470:True:=True.intro
theorem PySem.W.Fast.tw11965705097898901824:True:=True.intro
theorem PySem.W.Fast.tw7376412466064616254:True:=True.intro
theorem PySem.W.Fast.tw12416350192355381278:True:=True.intro
theorem PySem.W.Fast.tw15157261010712788664:True:=True.intro
theorem PySem.W.Fast.tw15616758654947953491:True:=True.intro
theorem PySem.W.Fast.tw4137103190298156484:True:=True.intro
theorem PySem.W.Fast.tw4684433157338870167:True:=True.intro
theorem PySem.W.Fast.tw5472667680064493794:True:=True.intro
theorem PySem.W.Fast.tw17687141025587679634:True:=True.intro
theorem PySem.W.Fast.tw5202892826657648476:True:=True.intro
theorem PySem.W.Fast.tw18423654796600602427:True:=True.intro
theorem PySem.W.Fast.tw3715125291175787994:True:=True.intro
theorem PySem.W.Fast.tw14855181594320946186:True:=True.intro
theorem PySem.W.Fast.tw17818946073658354581:True:=True.intro
theorem PySem.W.Fast.tw11418329315400525144:True:=True.intro
theorem PySem.W.Fast.tw2035459368361489988:True:=True.intro
theorem PySem.W.Fast.tw12194460111476908374:True:=True.intro
theorem PySem.W.Fast.tw11126047261233611219:True:=True.intro
theorem PySem.W.Fast.tw9622375343668205364:True:=True.intro
theorem PySem.W.Fast.tw6228925764342344779:True:=True.intro
theorem PySem.W.Fast.tw16716778664356113320:True:=True.intro
theorem PySem.W.Fast.tw9320287928904166557:True:=True.intro
theorem PySem.W.Fast.tw12514379456972173644:True:=True.intro
theorem PySem.W.Fast.tw17129286222344473279:True:=True.intro
theorem PySem.W.Fast.tw12320047272969198557:True:=True.intro
theorem PySem.W.Fast.tw4366259792001013782:True:=True.intro
theorem PySem.W.Fast.tw14588037543188873295:True:=True.intro
theorem PySem.W.Fast.tw11036045940389447519:True:=True.intro
theorem PySem.W.Fast.tw17633595849655502346:True:=True.intro
theorem PySem.W.Fast.tw4824902832260168689:True:=True.intro
theorem PySem.W.Fast.tw6489469951624512898:True:=True.intro
theorem PySem.W.Fast.tw9015629489551736342:True:=True.intro
theorem PySem.W.Fast.tw3700068582828817080:True:=True.intro
theorem PySem.W.Fast.tw5851394598395538838:True:=True.intro
theorem PySem.W.Fast.tw17678426710550904811:True:=True.intro
theorem PySem.W.Fast.tw1770855949825700033:True:=True.intro
theorem PySem.W.Fast.tw17369251513758607589:True:=True.intro
theorem PySem.W.Fast.tw14701037161345080008:True:=True.intro
theorem PySem.W.Fast.tw15111258477710018701:True:=True.intro
theorem PySem.W.Fast.tw1169493128251869699:True:=True.intro
theorem PySem.W.Fast.tw14606750453081245952:True:=True.intro
theorem PySem.W.Fast.tw10861751213548273476:True:=True.intro
theorem PySem.W.Fast.tw17426853003893600348:True:=True.intro
theorem PySem.W.Fast.tw10814167044281217605:True:=True.intro
theorem PySem.W.Fast.tw4561403200149708431:True:=True.intro
theorem PySem.W.Fast.tw16715762023518969671:True:=True.intro
theorem PySem.W.Fast.tw9312328123762131108:True:=True.intro
theorem PySem.W.Fast.tw3494809243483851253:True:=True.intro
theorem PySem.W.Fast.tw2043801383573250674:True:=True.intro
theorem PySem.W.Fast.tw925106312059137778:True:=True.intro
theorem PySem.W.Fast.tw12777850514202607181:True:=True.intro
theorem PySem.W.Fast.tw2746906199109458541:True:=True.intro
theorem PySem.W.Fast.tw16651394721151836534:True:=True.intro
theorem PySem.W.Fast.tw7584590454076137040:True:=True.intro
theorem PySem.W.Fast.tw11302871056241671835:True:=True.intro
theorem PySem.W.Fast.tw6485803392092341044:True:=True.intro
theorem PySem.W.Fast.tw13936326214379442184:True:=True.intro
theorem PySem.W.Fast.tw8714961464513813677:True:=True.intro
theorem PySem.W.Fast.tw14166532641287945969:True:=True.intro
theorem PySem.W.Fast.tw14585932300942162409:True:=True.intro
theorem PySem.W.Fast.tw17928533133550739454:True:=True.intro
theorem PySem.W.Fast.tw15703743954824343593:True:=True.intro
theorem PySem.W.Fast.tw1790117301450328167:True:=True.intro
theorem PySem.W.Fast.tw13980070352269217975:True:=True.intro
theorem PySem.W.Fast.tw3346376355183643822:True:=True.intro
theorem PySem.W.Fast.tw13206083290713596033:True:=True.intro
theorem PySem.W.Fast.tw11669699093602497357:True:=True.intro
theorem PySem.W.Fast.tw7548564023501556303:True:=True.intro
theorem PySem.W.Fast.tw951959033111185273:True:=True.intro
theorem PySem.W.Fast.tw7104738132029273379:True:=True.intro
theorem PySem.W.Fast.tw12318015238734830795:True:=True.intro
theorem PySem.W.Fast.tw4799937025631414921:True:=True.intro
theorem PySem.W.Fast.tw2458928939852736189:True:=True.intro
theorem PySem.W.Fast.tw9715040830429098962:True:=True.intro
theorem PySem.W.Fast.tw4650169803618489171:True:=True.intro
theorem PySem.W.Fast.tw10764345637328057783:True:=True.intro
theorem PySem.W.Fast.tw7431066738584131131:True:=True.intro
theorem PySem.W.Fast.tw4799544100518524224:True:=True.intro
theorem PySem.W.Fast.tw2025969572087944672:True:=True.intro
theorem PySem.W.Fast.tw9269953569691172925:True:=True.intro
theorem PySem.W.Fast.tw6811003254407684268:True:=True.intro
theorem PySem.W.Fast.tw14903084498583887119:True:=True.intro
theorem PySem.W.Fast.tw7785561627386919767:True:=True.intro
theorem PySem.W.Fast.tw647423644340610473:True:=True.intro
theorem PySem.W.Fast.tw7039582661370564674:True:=True.intro
theorem PySem.W.Fast.tw10091128910676897393:True:=True.intro
theorem PySem.W.Fast.tw6382411138892744907:True:=True.intro
theorem PySem.W.Fast.tw2055677495451384018:True:=True.intro
theorem PySem.W.Fast.tw11959589747613264353:True:=True.intro
theorem PySem.W.Fast.tw16620150035872581053:True:=True.intro
theorem PySem.W.Fast.tw16560453828638335689:True:=True.intro
theorem PySem.W.Fast.tw14320973090378629091:True:=True.intro
theorem PySem.W.Fast.tw2550760762763310155:True:=True.intro
theorem PySem.W.Fast.tw2447119737143841090:True:=True.intro
theorem PySem.W.Fast.tw4216150778947784850:True:=True.intro
theorem PySem.W.Fast.tw11940568203851650277:True:=True.intro
theorem PySem.W.Fast.tw15199630096431150467:True:=True.intro
theorem PySem.W.Fast.tw8147617740131518698:True:=True.intro
theorem PySem.W.Fast.tw17386193868967038462:True:=True.intro
theorem PySem.W.Fast.tw9010905095481427996:True:=True.intro
theorem PySem.W.Fast.tw13072946073051530743:True:=True.intro
theorem PySem.W.Fast.tw14257632257428762642:True:=True.intro
theorem PySem.W.Fast.tw9222303902826752801:True:=True.intro
theorem PySem.W.Fast.tw9316314439388443874:True:=True.intro
theorem PySem.W.Fast.tw826522939963964475:True:=True.intro
theorem PySem.W.Fast.tw17451094553833573815:True:=True.intro
theorem PySem.W.Fast.tw181235924000116666:True:=True.intro
theorem PySem.W.Fast.tw7232560986449481971:True:=True.intro
theorem PySem.W.Fast.tw4657616900253810705:True:=True.intro
theorem PySem.W.Fast.tw17366758250858706124:True:=True.intro
theorem PySem.W.Fast.tw14155181405927554678:True:=True.intro
theorem PySem.W.Fast.tw7540630862644506506:True:=True.intro
theorem PySem.W.Fast.tw7556763397452330118:True:=True.intro
theorem PySem.W.Fast.tw1610634012705139764:True:=True.intro
theorem PySem.W.Fast.tw8523405973468342630:True:=True.intro
theorem PySem.W.Fast.tw5594045277141193588:True:=True.intro
theorem PySem.W.Fast.tw10647831756779708700:True:=True.intro
theorem PySem.W.Fast.tw12012567323137016115:True:=True.intro
theorem PySem.W.Fast.tw8820734438344579435:True:=True.intro
theorem PySem.W.Fast.tw354762968690440330:True:=True.intro
theorem PySem.W.Fast.tw11979520485451438112:True:=True.intro
theorem PySem.W.Fast.tw9863717607831241306:True:=True.intro
theorem PySem.W.Fast.tw1603747874330882879:True:=True.intro
theorem PySem.W.Fast.tw11786270531528856984:True:=True.intro
theorem PySem.W.Fast.tw3061296830122022258:True:=True.intro
theorem PySem.W.Fast.tw4541750515024687949:True:=True.intro
theorem PySem.W.Fast.tw5396856276695238432:True:=True.intro
theorem PySem.W.Fast.tw8628066305405116505:True:=True.intro
theorem PySem.W.Fast.tw14671663938432587821:True:=True.intro
theorem PySem.W.Fast.tw9509580528040577121:True:=True.intro
theorem PySem.W.Fast.tw5597010050421642711:True:=True.intro
theorem PySem.W.Fast.tw15276185525085447082:True:=True.intro
theorem PySem.W.Fast.tw14792412253869493288:True:=True.intro
theorem PySem.W.Fast.tw10217709064504842673:True:=True.intro
theorem PySem.W.Fast.tw8058534872668494412:True:=True.intro
theorem PySem.W.Fast.tw17974442935576480350:True:=True.intro
theorem PySem.W.Fast.tw7982348619616132862:True:=True.intro
theorem PySem.W.Fast.tw7810317662662886971:True:=True.intro
theorem PySem.W.Fast.tw136922200056404451:True:=True.intro
theorem PySem.W.Fast.tw895645940091636706:True:=True.intro
theorem PySem.W.Fast.tw8892543071783298482:True:=True.intro
theorem PySem.W.Fast.tw10664070954828977669:True:=True.intro
theorem PySem.W.Fast.tw12818568260212159054:True:=True.intro
theorem PySem.W.Fast.tw15777925457955505367:True:=True.intro
theorem PySem.W.Fast.tw1898013852426215544:True:=True.intro
theorem PySem.W.Fast.tw14225743636175855872:True:=True.intro
theorem PySem.W.Fast.tw3078482087161892294:True:=True.intro
theorem PySem.W.Fast.tw1076724857731478266:True:=True.intro
theorem PySem.W.Fast.tw17912683670420073222:True:=True.intro
theorem PySem.W.Fast.tw352282738268694781:True:=True.intro
theorem PySem.W.Fast.tw9537885165723583034:True:=True.intro
theorem PySem.W.Fast.tw3428138446662858557:True:=True.intro
theorem PySem.W.Fast.tw9128720058001469942:True:=True.intro
theorem PySem.W.Fast.tw12381674377408746066:True:=True.intro
theorem PySem.W.Fast.tw17305590213279087165:True:=True.intro
theorem PySem.W.Fast.tw13110057882475377067:True:=True.intro
theorem PySem.W.Fast.tw5202417060061119064:True:=True.intro
theorem PySem.W.Fast.tw16852612466689300943:True:=True.intro
theorem PySem.W.Fast.tw17386434433410024383:True:=True.intro
theorem PySem.W.Fast.tw13157422403916518123:True:=True.intro
theorem PySem.W.Fast.tw13242144705719856379:True:=True.intro
theorem PySem.W.Fast.tw7367678846987221415:True:=True.intro
theorem PySem.W.Fast.tw5487219681245349606:True:=True.intro
theorem PySem.W.Fast.tw14148489222133235962:True:=True.intro
theorem PySem.W.Fast.tw368878029680601741:True:=True.intro
theorem PySem.W.Fast.tw15622369628349622955:True:=True.intro
theorem PySem.W.Fast.tw1852113474842037193:True:=True.intro
theorem PySem.W.Fast.tw4008792929642647799:True:=True.intro
theorem PySem.W.Fast.tw14040556546677133833:True:=True.intro
theorem PySem.W.Fast.tw3609232748263558802:True:=True.intro
theorem PySem.W.Fast.tw18115751682193237835:True:=True.intro
theorem PySem.W.Fast.tw1689653245799846229:True:=True.intro
theorem PySem.W.Fast.tw14586020210498858292:True:=True.intro
theorem PySem.W.Fast.tw13153801994171212365:True:=True.intro
theorem PySem.W.Fast.tw6571050772166221713:True:=True.intro
theorem PySem.W.Fast.tw5648443537287007315:True:=True.intro
open PySem PySem.W PyProof.Rows
set_option maxRecDepth 100000 in
set_option maxHeartbeats 0 in
theorem PySem.Challenge.cw_pagepart_k84_whole_page_of_a_setting_holds : PySem.Challenge.rw_pagepart_k84_whole_page_of_a_setting.Holds := by
 w_on;o_law;k_head;(case hw=>w_witness2)
 k_fill
 refine _L2.zbG (l:=PySem.Challenge.rw_pagepart_k84_whole_page_of_a_setting) (n:=63) (k:=57) (x := "script") (CX:=_L2.CX0) (sp:=λK=>_JN.JN K) rfl ⋯ rfl ⟨rfl,⋯,⋯⟩ (λw h Y=>PySem.W.kIn_of Y) ?F (λK H a ns hl hO hS=>⟨a,ns,rfl,hS,hl,λ_=>rfl⟩) λ_ _ _ _ z=>z
 case F =>
  intro w mg fa h KX G hmg;refine' _root_._JN.all_mk KX G hmg  ?d0 ?d1 ?d2 ?d3 ?d4 ?d5 ?d6 ?d7 ?d8 ?d9 ?d10 ?d11 ?d12 ?d13 ?d14 ?d15 ?d16 ?d17 ?d18 ?d19 ?d20 ?d21 ?d22 ?d23 ?d24 ?d25 ?d26 ?d27 ?d28 ?d29 ?d30 ?d31 ?d32 ?d33 ?d34 ?d35 ?d36 ?d37 ?d38 ?d39 ?d40 ?d41 ?d42 ?d43 ?d44 ?d45 ?d46 ?d47 ?d48 ?d49 ?d50 ?d51 ?d52 ?d53 ?d54 ?d55 ?d56 ?d57 ?d58 ?d59 ?d60 ?d61 ?d62 ?d63 ?d64 ?d65 ?d66 ?d67 ?d68 ?d69 ?z_len ?z_range ?z_min ?z_max ?z_sum ?z_zip ?z_isinstance ?z_int ?z_bool ?z_str ?z_tuple ?z_list ?z_all ?z_any ?z_ord ?z_sorted ?z_reversed ?z_enumerate ?z_set ?g_LEFT_OUT ?g_MOST_SIGNS ?g_KIND ?g_PARTS ?g_MOST_BOXES ?g_WIDE ?g_HIGH ?g_MOST_WORDS ?g_LEFT ?g_TOP ?g_RIGHT ?g_BELOW ?g_BOXES ?g_ACROSS ?g_DOWN ?g_STUCK ?hKINDS ?lkK ?q_int2 ?q_int3 ?q_int4 ?q_bool2 ?q_str3 ?q_tuple2 ?q_tuple3 ?q_tuple4 ?kLL
  (case d0=>exact⟨_,by k_is,_L2.zy (by k_is) (by k_is) (by k_is)⟩)
  (case d1=>exact⟨_,by k_is,_L2.zy (by k_is) (by k_is) (by k_is)⟩)
  (case d2=>exact⟨_,by k_is,_L2.zy (by k_is) (by k_is) (by k_is)⟩)
  (case d3=>exact⟨_,by k_is,_L2.zy (by k_is) (by k_is) (by k_is)⟩)
  (case d4=>exact⟨_,by k_is,_L2.zy (by k_is) (by k_is) (by k_is)⟩)
  (case d5=>exact⟨_,by k_is,_L2.zy (by k_is) (by k_is) (by k_is)⟩)
  (case d6=>exact⟨_,by k_is,_L2.zy (by k_is) (by k_is) (by k_is)⟩)
  (case d7=>exact⟨_,by k_is,_L2.zy (by k_is) (by k_is) (by k_is)⟩)
  (case d8=>exact⟨_,by k_is,_L2.zy (by k_is) (by k_is) (by k_is)⟩)
  (case d9=>exact⟨_,by k_is,_L2.zy (by k_is) (by k_is) (by k_is)⟩)
  (case d10=>exact⟨_,by k_is,_L2.zy (by k_is) (by k_is) (by k_is)⟩)
  (case d11=>exact⟨_,by k_is,_L2.zy (by k_is) (by k_is) (by k_is)⟩)
  (case d12=>exact⟨_,by k_is,_L2.zy (by k_is) (by k_is) (by k_is)⟩)
  (case d13=>exact⟨_,by k_is,_L2.zy (by k_is) (by k_is) (by k_is)⟩)
  (case d14=>exact⟨_,by k_is,_L2.zy (by k_is) (by k_is) (by k_is)⟩)
  (case d15=>exact⟨_,by k_is,_L2.zy (by k_is) (by k_is) (by k_is)⟩)
  (case d16=>exact⟨_,by k_is,_L2.zy (by k_is) (by k_is) (by k_is)⟩)
  (case d17=>exact⟨_,by k_is,_L2.zy (by k_is) (by k_is) (by k_is)⟩)
  (case d18=>exact⟨_,by k_is,_L2.zy (by k_is) (by k_is) (by k_is)⟩)
  (case d19=>exact⟨_,by k_is,_L2.zy (by k_is) (by k_is) (by k_is)⟩)
  (case d20=>exact⟨_,by k_is,_L2.zy (by k_is) (by k_is) (by k_is)⟩)
  (case d21=>exact⟨_,by k_is,_L2.zy (by k_is) (by k_is) (by k_is)⟩)
  (case d22=>exact⟨_,by k_is,_L2.zy (by k_is) (by k_is) (by k_is)⟩)
  (case d23=>exact⟨_,by k_is,_L2.zy (by k_is) (by k_is) (by k_is)⟩)
  (case d24=>exact⟨_,by k_is,_L2.zy (by k_is) (by k_is) (by k_is)⟩)
  (case d25=>exact⟨_,by k_is,_L2.zy (by k_is) (by k_is) (by k_is)⟩)
  (case d26=>exact⟨_,by k_is,_L2.zy (by k_is) (by k_is) (by k_is)⟩)
  (case d27=>exact⟨_,by k_is,_L2.zy (by k_is) (by k_is) (by k_is)⟩)
  (case d28=>exact⟨_,by k_is,_L2.zy (by k_is) (by k_is) (by k_is)⟩)
  (case d29=>exact⟨_,by k_is,_L2.zy (by k_is) (by k_is) (by k_is)⟩)
  (case d30=>exact⟨_,by k_is,_L2.zy (by k_is) (by k_is) (by k_is)⟩)
  (case d31=>exact⟨_,by k_is,_L2.zy (by k_is) (by k_is) (by k_is)⟩)
  (case d32=>exact⟨_,by k_is,_L2.zy (by k_is) (by k_is) (by k_is)⟩)
  (case d33=>exact⟨_,by k_is,_L2.zy (by k_is) (by k_is) (by k_is)⟩)
  (case d34=>exact⟨_,by k_is,_L2.zy (by k_is) (by k_is) (by k_is)⟩)
  (case d35=>exact⟨_,by k_is,_L2.zy (by k_is) (by k_is) (by k_is)⟩)
  (case d36=>exact⟨_,by k_is,_L2.zy (by k_is) (by k_is) (by k_is)⟩)
  (case d37=>exact⟨_,by k_is,_L2.zy (by k_is) (by k_is) (by k_is)⟩)
  (case d38=>exact⟨_,by k_is,_L2.zy (by k_is) (by k_is) (by k_is)⟩)
  (case d39=>exact⟨_,by k_is,_L2.zy (by k_is) (by k_is) (by k_is)⟩)
  (case d40=>exact⟨_,by k_is,_L2.zy (by k_is) (by k_is) (by k_is)⟩)
  (case d41=>exact⟨_,by k_is,_L2.zy (by k_is) (by k_is) (by k_is)⟩)
  (case d42=>exact⟨_,by k_is,_L2.zy (by k_is) (by k_is) (by k_is)⟩)
  (case d43=>exact⟨_,by k_is,_L2.zy (by k_is) (by k_is) (by k_is)⟩)
  (case d44=>exact⟨_,by k_is,_L2.zy (by k_is) (by k_is) (by k_is)⟩)
  (case d45=>exact⟨_,by k_is,_L2.zy (by k_is) (by k_is) (by k_is)⟩)
  (case d46=>exact⟨_,by k_is,_L2.zy (by k_is) (by k_is) (by k_is)⟩)
  (case d47=>exact⟨_,by k_is,_L2.zy (by k_is) (by k_is) (by k_is)⟩)
  (case d48=>exact⟨_,by k_is,_L2.zy (by k_is) (by k_is) (by k_is)⟩)
  (case d49=>exact⟨_,by k_is,_L2.zy (by k_is) (by k_is) (by k_is)⟩)
  (case d50=>exact⟨_,by k_is,_L2.zy (by k_is) (by k_is) (by k_is)⟩)
  (case d51=>exact⟨_,by k_is,_L2.zy (by k_is) (by k_is) (by k_is)⟩)
  (case d52=>exact⟨_,by k_is,_L2.zy (by k_is) (by k_is) (by k_is)⟩)
  (case d53=>exact⟨_,by k_is,_L2.zy (by k_is) (by k_is) (by k_is)⟩)
  (case d54=>exact⟨_,by k_is,_L2.zy (by k_is) (by k_is) (by k_is)⟩)
  (case d55=>exact⟨_,by k_is,_L2.zy (by k_is) (by k_is) (by k_is)⟩)
  (case d56=>exact⟨_,by k_is,_L2.zy (by k_is) (by k_is) (by k_is)⟩)
  (case d57=>exact⟨_,by k_is,_L2.zy (by k_is) (by k_is) (by k_is)⟩)
  (case d58=>exact⟨_,by k_is,_L2.zy (by k_is) (by k_is) (by k_is)⟩)
  (case d59=>exact⟨_,by k_is,_L2.zy (by k_is) (by k_is) (by k_is)⟩)
  (case d60=>exact⟨_,by k_is,_L2.zy (by k_is) (by k_is) (by k_is)⟩)
  (case d61=>exact⟨_,by k_is,_L2.zy (by k_is) (by k_is) (by k_is)⟩)
  (case d62=>exact⟨_,by k_is,_L2.zy (by k_is) (by k_is) (by k_is)⟩)
  (case d63=>exact⟨_,by k_is,_L2.zy (by k_is) (by k_is) (by k_is)⟩)
  (case d64=>exact⟨_,by k_is,_L2.zy (by k_is) (by k_is) (by k_is)⟩)
  (case d65=>exact⟨_,by k_is,_L2.zy (by k_is) (by k_is) (by k_is)⟩)
  (case d66=>exact⟨_,by k_is,_L2.zy (by k_is) (by k_is) (by k_is)⟩)
  (case d67=>exact⟨_,by k_is,_L2.zy (by k_is) (by k_is) (by k_is)⟩)
  (case d68=>exact⟨_,by k_is,_L2.zy (by k_is) (by k_is) (by k_is)⟩)
  (case d69=>exact⟨_,by k_is,_L2.zy (by k_is) (by k_is) (by k_is)⟩)
  (case z_len=>k_is)
  (case z_range=>k_is)
  (case z_min=>k_is)
  (case z_max=>k_is)
  (case z_sum=>k_is)
  (case z_zip=>k_is)
  (case z_isinstance=>k_is)
  (case z_int=>k_is)
  (case z_bool=>k_is)
  (case z_str=>k_is)
  (case z_tuple=>k_is)
  (case z_list=>k_is)
  (case z_all=>k_is)
  (case z_any=>k_is)
  (case z_ord=>k_is)
  (case z_sorted=>k_is)
  (case z_reversed=>k_is)
  (case z_enumerate=>k_is)
  (case z_set=>k_is)
  (case g_LEFT_OUT=>k_is)
  (case g_MOST_SIGNS=>k_is)
  (case g_KIND=>k_is)
  (case g_PARTS=>k_is)
  (case g_MOST_BOXES=>k_is)
  (case g_WIDE=>k_is)
  (case g_HIGH=>k_is)
  (case g_MOST_WORDS=>k_is)
  (case g_LEFT=>k_is)
  (case g_TOP=>k_is)
  (case g_RIGHT=>k_is)
  (case g_BELOW=>k_is)
  (case g_BOXES=>k_is)
  (case g_ACROSS=>k_is)
  (case g_DOWN=>k_is)
  (case g_STUCK=>k_is)
  (case hKINDS=>k_is)
  (case lkK=>k_is)
  (case q_int2=>kernel_rfl)
  (case q_int3=>kernel_rfl)
  (case q_int4=>kernel_rfl)
  (case q_bool2=>kernel_rfl)
  (case q_str3=>kernel_rfl)
  (case q_tuple2=>kernel_rfl)
  (case q_tuple3=>kernel_rfl)
  (case q_tuple4=>kernel_rfl)
  (case kLL=>kernel_rfl)
#print axioms PySem.Challenge.cw_pagepart_k84_whole_page_of_a_setting_holds
