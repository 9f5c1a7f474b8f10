import PyProof.Rows.All
import Wide.All
import OpenK.AllK
import Wide.FinOn
import Lean
import PyProof.EqAt
import PyProof.EqKinds
import PyProof.TupleCall
import PyProof.Draws
import PyProof.EnumMake
import PyProof.TupleIter
import PyProof.WalksMore
import PyProof.MinMaxWalk
import PyProof.SeqI3
import KE.KSortTup
import KE.KLam
import KE.KIsAll
import PyProof.Rows.CallKwBuiltin
import PyProof.SumWalk
import PyProof.CompFree
import PyProof.CompUse
import PyProof.ConsumeWalk
import PyProof.NeKinds
import PyProof.Rows.StrJoin2
import PyProof.Rows.SortShell
import PyProof.StrBlock2
import PyProof.StrWalks
import PyProof.FString5
import PyProof.ZipIter
import PyProof.Rows.StrSplitAre
import PyProof.StrLawsTight
import PyProof.SumWalkG
import KE.KRevIter
import PyProof.AutoSeq1
import PyProof.Rows.SortWalk
import PyProof.Rows.SeqMore
import PyProof.ListNew
import PyProof.CollectWalk
import KE.KUnpack
import PyProof.Conv_int_bool
import PyProof.StrBlock
import PyProof.SliceStr2
import PyProof.Rows.SortStr
import PyProof.ListStr
import PyProof.CollectStr
import PySem.Challenge.RW_pagepart_k68_whole_printed_and_read
open List renaming length_map→ka,mem_cons_self→ke,getElem?_eq_getElem→kf,mem_cons_of_mem→kg,getElem?_eq_some_iff→kh,length_append→ki,mem_singleton→kj,size_toArray→ko,replicate→kq,length_cons→kz,map_append→kD,getD_eq_getElem?_getD→kE,take_append_getElem→kF,mem_append_right→kG,mem_of_getElem?→kH,length_take→kJ,mem_cons→kL,take_length→kM,not_mem_nil→kN,flatten_cons→kP,mem_append→kQ,mem_append_left→kU,append_assoc→kY,length_drop→kZ,getElem?_map→k6,map_cons→k8,sum_cons→k9,range→vc,replicate_succ→vf,mem_map→vh,getElem?_append_left→vi,getElem?_append_right→vk,length_eq_zero_iff→vm,count_append→vp,append_nil→vq,pairwise_append→vt,length_replicate→vx,nodup_cons→vz,getElem_mem→vB,getElem?_eq_none→vC,flatten_append→vD,map_map→vE,length_singleton→vG,take_append_drop→vH,lookup_cons→vJ,take_of_length_le→vK,length_range→vL,getElem?_of_mem→vM,sum_append→vO,all_eq_true→vP,drop_eq_getElem_cons→vQ,mem_range→vR,map_congr_left→vS,mem_iff_getElem→vT,getElem?_take→vV,getElem_map→vX,dropLast_concat_getLast→vZ,getElem?_drop→v5,filter_cons→ub,pairwise_iff_getElem→ug,extract_eq_take_drop→uh,ext_getElem→ui,pairwise_cons→uj,getElem_range→uk,countP_cons→um,mem_of_mem_take→uv,count_eq_zero_of_not_mem→uw,pairwise_singleton→uy,mem_filter→uA,filterMap_cons→uC,length_flatten→uD,mem_flatten→uF,length_filter_le→uM,foldl_cons→uN,dropLast_concat→uP,mem_of_mem_drop→uQ,eq_of_mem_replicate→uS,mem_reverse→uV,nil_append→uY,perm_append_comm→u8,length_dropLast→bb,reverse_append→bi,filter_append→bv,toArray→bB,nodup_append→bC,getElem_replicate→bD,getElem?_toArray→bE,getElem?_set_ne→bH,forIn_cons→bK,length_pos_iff→bM,length_reverse→bN,map_eq_nil_iff→bO,replicate_zero→bP,flatten→bT,drop_zero→bU,lookup→bY,map_drop→b9
open Nat renaming le_refl→kc,le_trans→kn,zero_le→kR,lt_of_lt_of_le→kW,lt_of_le_of_lt→va,succ_le_succ→vd,ne_of_lt→ve,le_of_lt→vw,lt_irrefl→vF,add_sub_cancel_left→vI,le_of_lt_succ→vY,le_succ→v7,le_add_right→v8,lt_succ_self→v9,le_of_succ_le→ud,zero_add→ur,lt_succ_of_lt→ux,sub_le→uB,add_assoc→uE,lt_of_le_of_ne→uH,add_lt_add_left→uU,ne_of_gt→uW,pos_of_ne_zero→uX,not_lt_zero→uZ,le_of_eq→bc,succ_pos→bf,add_sub_cancel'→bh,add_le_add_left→bj,min_eq_left→br,le_zero→bx,not_lt→bG,le_antisymm→bI,sub_self→bR,one_pos→bX
open PySem.W renaming mg_none_of→km,kitOne→kC,mg_of→kK,nsIn→kX,fnOf→uo,keepIn→ut,findIn→uG,mroIn→u3,excIn→u5,hideAll_get→bL,methodObj→bW
open Bool renaming false_ne_true→kt,and_eq_true→vj,eq_iff_iff→vW,or_eq_true→bp,false_eq_true→bu,not_eq_true'→bA,true_and→bZ
open PySem renaming boot_len→kO,mem_of_lookup→uT
open PySem.F renaming plainAttrs_list→k4,slot_list_append→vn,type_list_append→vo,plainAttrs_str→ue,slot_list_pop→uK,type_list_pop→uL,slot_str_join→u9,type_str_join→ba
open PyProof.Rows renaming boot_isinstance→vg,callWith_type1→vN,boot_tuple→ua,boot_all→uI,boot_int→uJ,boot_max→u6,boot_sorted→bn,callWith_builtin1→bF
open Option renaming map_eq_some_iff→vA,isSome_iff_exists→uR
open Int renaming le_refl→vU,emod_lt_of_pos→v6,toNat_natCast→uc,emod_nonneg→uf,le_trans→uO,eq_ofNat_of_zero_le→bz,le_antisymm→bJ,le_of_lt→bQ
set_option Elab.async false
set_option linter.all false
set_option maxHeartbeats 4000000
set_option maxRecDepth 100000
section
variable {A B C D F I J L M N O Q R S T U:Type} {G:Prop}
theorem E_1 {p:A->Prop}:(∃ a,p a)->(∀ a,p a->G)->G:=by rintro ⟨a,h⟩ k;exact k a h
theorem E_2 {p:A->B->Prop}:(∃ a b,p a b)->(∀ a b,p a b->G)->G:=by rintro ⟨a,b,h⟩ k;exact k a b h
theorem E_3 {p:A->B->C->Prop}:(∃ a b c,p a b c)->(∀ a b c,p a b c->G)->G:=by rintro ⟨a,b,c,h⟩ k;exact k a b c h
theorem I_3 {p:A->B->C->Prop} (a:A) (b:B) (c:C) (h:p a b c):∃ a b c,p a b c:=⟨a,b,c,h⟩
theorem E_4 {p:A->B->C->D->Prop}:(∃ a b c d,p a b c d)->(∀ a b c d,p a b c d->G)->G:=by rintro ⟨a,b,c,d,h⟩ k;exact k a b c d h
theorem I_4 {p:A->B->C->D->Prop} (a:A) (b:B) (c:C) (d:D) (h:p a b c d):∃ a b c d,p a b c d:=⟨a,b,c,d,h⟩
theorem E_5 {p:A->B->C->D->F->Prop}:(∃ a b c d f,p a b c d f)->(∀ a b c d f,p a b c d f->G)->G:=by rintro ⟨a,b,c,d,f,h⟩ k;exact k a b c d f h
theorem I_5 {p:A->B->C->D->F->Prop} (a:A) (b:B) (c:C) (d:D) (f:F) (h:p a b c d f):∃ a b c d f,p a b c d f:=⟨a,b,c,d,f,h⟩
theorem E_6 {p:A->B->C->D->F->I->Prop}:(∃ a b c d f i,p a b c d f i)->(∀ a b c d f i,p a b c d f i->G)->G:=by rintro ⟨a,b,c,d,f,i,h⟩ k;exact k a b c d f i h
theorem E_7 {p:A->B->C->D->F->I->J->Prop}:(∃ a b c d f i j,p a b c d f i j)->(∀ a b c d f i j,p a b c d f i j->G)->G:=by rintro ⟨a,b,c,d,f,i,j,h⟩ k;exact k a b c d f i j h
theorem I_7 {p:A->B->C->D->F->I->J->Prop} (a:A) (b:B) (c:C) (d:D) (f:F) (i:I) (j:J) (h:p a b c d f i j):∃ a b c d f i j,p a b c d f i j:=⟨a,b,c,d,f,i,j,h⟩
theorem E_8 {p:A->B->C->D->F->I->J->L->Prop}:(∃ a b c d f i j l,p a b c d f i j l)->(∀ a b c d f i j l,p a b c d f i j l->G)->G:=by rintro ⟨a,b,c,d,f,i,j,l,h⟩ k;exact k a b c d f i j l h
theorem E_9 {p:A->B->C->D->F->I->J->L->M->Prop}:(∃ a b c d f i j l m,p a b c d f i j l m)->(∀ a b c d f i j l m,p a b c d f i j l m->G)->G:=by rintro ⟨a,b,c,d,f,i,j,l,m,h⟩ k;exact k a b c d f i j l m h
theorem I_9 {p:A->B->C->D->F->I->J->L->M->Prop} (a:A) (b:B) (c:C) (d:D) (f:F) (i:I) (j:J) (l:L) (m:M) (h:p a b c d f i j l m):∃ a b c d f i j l m,p a b c d f i j l m:=⟨a,b,c,d,f,i,j,l,m,h⟩
theorem E_11 {p:A->B->C->D->F->I->J->L->M->N->O->Prop}:(∃ a b c d f i j l m n o,p a b c d f i j l m n o)->(∀ a b c d f i j l m n o,p a b c d f i j l m n o->G)->G:=by rintro ⟨a,b,c,d,f,i,j,l,m,n,o,h⟩ k;exact k a b c d f i j l m n o h
theorem I_11 {p:A->B->C->D->F->I->J->L->M->N->O->Prop} (a:A) (b:B) (c:C) (d:D) (f:F) (i:I) (j:J) (l:L) (m:M) (n:N) (o:O) (h:p a b c d f i j l m n o):∃ a b c d f i j l m n o,p a b c d f i j l m n o:=⟨a,b,c,d,f,i,j,l,m,n,o,h⟩
theorem E_12 {p:A->B->C->D->F->I->J->L->M->N->O->Q->Prop}:(∃ a b c d f i j l m n o q,p a b c d f i j l m n o q)->(∀ a b c d f i j l m n o q,p a b c d f i j l m n o q->G)->G:=by rintro ⟨a,b,c,d,f,i,j,l,m,n,o,q,h⟩ k;exact k a b c d f i j l m n o q h
end
section
variable {A B C D F I J L M N O Q R S T U V W X Y Z A21 A22 A23 G:Prop}
theorem A_2:A/\B->(A->B->G)->G:=by rintro ⟨a,b⟩ k;exact k a b
theorem A_3:A/\B/\C->(A->B->C->G)->G:=by rintro ⟨a,b,c⟩ k;exact k a b c
theorem A_4:A/\B/\C/\D->(A->B->C->D->G)->G:=by rintro ⟨a,b,c,d⟩ k;exact k a b c d
theorem A_5:A/\B/\C/\D/\F->(A->B->C->D->F->G)->G:=by rintro ⟨a,b,c,d,f⟩ k;exact k a b c d f
theorem A_6:A/\B/\C/\D/\F/\I->(A->B->C->D->F->I->G)->G:=by rintro ⟨a,b,c,d,f,i⟩ k;exact k a b c d f i
theorem A_7:A/\B/\C/\D/\F/\I/\J->(A->B->C->D->F->I->J->G)->G:=by rintro ⟨a,b,c,d,f,i,j⟩ k;exact k a b c d f i j
theorem A_8:A/\B/\C/\D/\F/\I/\J/\L->(A->B->C->D->F->I->J->L->G)->G:=by rintro ⟨a,b,c,d,f,i,j,l⟩ k;exact k a b c d f i j l
theorem A_9:A/\B/\C/\D/\F/\I/\J/\L/\M->(A->B->C->D->F->I->J->L->M->G)->G:=by rintro ⟨a,b,c,d,f,i,j,l,m⟩ k;exact k a b c d f i j l m
theorem A_10:A/\B/\C/\D/\F/\I/\J/\L/\M/\N->(A->B->C->D->F->I->J->L->M->N->G)->G:=by rintro ⟨a,b,c,d,f,i,j,l,m,n⟩ k;exact k a b c d f i j l m n
theorem A_11:A/\B/\C/\D/\F/\I/\J/\L/\M/\N/\O->(A->B->C->D->F->I->J->L->M->N->O->G)->G:=by rintro ⟨a,b,c,d,f,i,j,l,m,n,o⟩ k;exact k a b c d f i j l m n o
theorem A_12:A/\B/\C/\D/\F/\I/\J/\L/\M/\N/\O/\Q->(A->B->C->D->F->I->J->L->M->N->O->Q->G)->G:=by rintro ⟨a,b,c,d,f,i,j,l,m,n,o,q⟩ k;exact k a b c d f i j l m n o q
theorem A_13:A/\B/\C/\D/\F/\I/\J/\L/\M/\N/\O/\Q/\R->(A->B->C->D->F->I->J->L->M->N->O->Q->R->G)->G:=by rintro ⟨a,b,c,d,f,i,j,l,m,n,o,q,r⟩ k;exact k a b c d f i j l m n o q r
theorem A_16:A/\B/\C/\D/\F/\I/\J/\L/\M/\N/\O/\Q/\R/\S/\T/\U->(A->B->C->D->F->I->J->L->M->N->O->Q->R->S->T->U->G)->G:=by rintro ⟨a,b,c,d,f,i,j,l,m,n,o,q,r,s,t,u⟩ k;exact k a b c d f i j l m n o q r s t u
end
open PySem.W (Frag)
local macro_rules|`(tactic|trivial)=>`(tactic|exact ⟨rfl,rfl,rfl,by decide +kernel,rfl,by decide +kernel,by decide +kernel⟩)
local macro_rules|`(command|def $d:declId $s:optDeclSig $v:declVal)=>`(command|noncomputable def $d:declId $s:optDeclSig $v:declVal)
local macro_rules|`(command|abbrev $d:declId $s:optDeclSig $v:declVal)=>`(command|noncomputable abbrev $d:declId $s:optDeclSig $v:declVal)
local macro_rules|`(())=>`(by lia)
local macro_rules|`(⋯)=>`(by decide)
namespace _L2
open PySem
theorem Zz0:0<=sizeLine:=⋯
theorem Zz1:1<=sizeLine:=⋯
theorem Zz2:2<=sizeLine:=⋯
theorem Zz4:4<=sizeLine:=⋯
open PyProof.Rows PySem.Spec
abbrev Key:=Sum Int Str
def zbt:Key->Value->Bool
 |.inl k,v=>Value.isInt k v
 |.inr x,v=>Value.isStrOf x v
def keyH(w:World):Key->Int
 |.inl k=>hashInt k
 |.inr x=>hashStr w x
theorem yp:∀{k:Key}{v:Value},zbt k v=true->(∃i t,k=Sum.inl i/\v=Value.int i t)\/(∃x t,k=Sum.inr x/\v=Value.str x t)
 |.inl i,v,h=>by
  obtain⟨t,e⟩:=Value.isInt_shape (k:=i) (v:=v) h;exact .inl ⟨i,t,rfl,e⟩
 |.inr x,v,h=>by
  obtain⟨t,e⟩:=Value.isStrOf_shape (x:=x) (v:=v) h;exact .inr ⟨x,t,rfl,e⟩
theorem zcY(a b:Int):decide ((Sum.inl a:Key)=Sum.inl b)=(a==b):=by
 by_cases e:a=b
 .subst e;simp
 .have h:¬(Sum.inl a:Key)=Sum.inl b:=λq=>e (Sum.inl.inj q);rw[decide_eq_false h];exact(beq_eq_false_iff_ne.mpr e).symm
theorem zcZ(a b:Str):decide ((Sum.inr a:Key)=Sum.inr b)=decide (a=b):=by
 by_cases e:a=b
 .subst e;simp
 .have h:¬(Sum.inr a:Key)=Sum.inr b:=λq=>e (Sum.inr.inj q);rw[decide_eq_false h,decide_eq_false e]
theorem zc0(a:Int)(b:Str):decide ((Sum.inl a:Key)=Sum.inr b)=false:=decide_eq_false (λq=>nomatch q)
theorem zc1(a:Str)(b:Int):decide ((Sum.inr a:Key)=Sum.inl b)=false:=decide_eq_false (λq=>nomatch q)
def Zo(prog:Program)(w:World):PySem.KeyKind prog w Key where
 is:=zbt
 hash:=keyH w
 inj:=λv a b ha hb=>by
  rcases yp ha with⟨i,t,rfl,rfl⟩|⟨x,t,rfl,rfl⟩
  .rcases yp hb with⟨j,u,rfl,e⟩|⟨y,u,rfl,e⟩
   .injection e with e1 _;rw[e1]
   .exact nomatch e
  .rcases yp hb with⟨j,u,rfl,e⟩|⟨y,u,rfl,e⟩
   .exact nomatch e
   .injection e with e1 _;rw[e1]
 byValue:=λk v h=>by
  rcases yp h with⟨i,t,rfl,rfl⟩|⟨x,t,rfl,rfl⟩<;>rfl
 pyHash:=λhv h=>by
  rcases yp hv with⟨i,t,rfl,rfl⟩|⟨x,t,rfl,rfl⟩
  .exact wpAny_pyHash_int h
  .exact wpAny_pyHash_str h
 eqBool:=λhu hv h=>by
  rcases yp hu with⟨i,t,rfl,rfl⟩|⟨x,t,rfl,rfl⟩
  .rcases yp hv with⟨j,u,rfl,rfl⟩|⟨y,u,rfl,rfl⟩
   .rw [zcY]at h;exact wpAny_eqBool_int h
   .rw [zc0]at h;exact SeqAt.EqAt.int_str i t y u _ _ _ _ h
  .rcases yp hv with⟨j,u,rfl,rfl⟩|⟨y,u,rfl,rfl⟩
   .rw [zc1]at h;exact SeqAt.EqAt.str_int x t j u _ _ _ _ h
   .rw [zcZ]at h;exact wpAny_eqBool_str h
 «strs»:=λk x t v h=>by
  rcases yp h with⟨i,u,rfl,e⟩|⟨y,u,rfl,e⟩
  .exact nomatch e
  .injection e with e1 _;subst e1;cases v<;>rfl
inductive V where
 |non|bl (b:Bool)|int (i:Int)|str (x:Str)|byt (b:Array UInt8)|flt (b:UInt64)|ref (a:Addr)|ty (n:String)
 deriving DecidableEq
def RelV:V->Value->Prop
 |.non,u=>u=Value.none
 |.bl b,u=>u=Value.bool b
 |.int i,u=>∃t,u=Value.int i t
 |.str x,u=>∃t,u=Value.str x t
 |.byt b,u=>∃t,u=Value.bytes b t
 |.flt b,u=>∃t,u=Value.float b t
 |.ref a,u=>u=Value.ref a
 |.ty n,u=>u=Value.type n
abbrev Vals:List V->List Value->Prop:=Paired RelV
theorem Vals.length{xs:List V}{us:List Value}(r:Vals xs us):xs.length=us.length:=Paired.length r
theorem Vals.get:∀{xs:List V}{us:List Value}{i:Nat}{x:V},Vals xs us->xs[i]?=some x->∃u,us[i]?=some u/\RelV x u
 |_,_,_,_,.nil,e=>by simp at e
 |_,_,0,_,.cons r _,e=>by simp at e;subst e;exact⟨_,rfl,r⟩
 |_,_,i+1,x,.cons _ t,e=>by
  obtain⟨u,h1,h2⟩:=Vals.get (i:=i) (x:=x) t (by simpa using e);exact⟨u,by simpa using h1,h2⟩
theorem Vals.set{x:V}{u:Value}(r:RelV x u):∀{xs:List V}{us:List Value}(i:Nat),Vals xs us->Vals (xs.set i x) (us.set i u)
 |_,_,_,.nil=>.nil
 |_,_,0,.cons _ t=>.cons r t
 |_,_,i+1,.cons q t=>.cons q (Vals.set r i t)
theorem Vals.append:∀{xs ys:List V}{us ws:List Value},Vals xs us->Vals ys ws->Vals (xs++ys) (us++ws)
 |_,_,_,_,.nil,s=>s
 |_,_,_,_,.cons r t,s=>.cons r (Vals.append t s)
theorem Vals.take:∀{xs:List V}{us:List Value}(n:Nat),Vals xs us->Vals (xs.take n) (us.take n)
 |_,_,0,_=>.nil
 |_,_,_+1,.nil=>.nil
 |_,_,n+1,.cons r t=>.cons r (Vals.take n t)
theorem Vals.drop:∀{xs:List V}{us:List Value}(n:Nat),Vals xs us->Vals (xs.drop n) (us.drop n)
 |_,_,0,r=>r
 |_,_,_+1,.nil=>.nil
 |_,_,n+1,.cons _ t=>Vals.drop n t
def RelO:Option V->Option Value->Prop
 |some v,some u=>RelV v u
 |none,none=>True
 |_,_=>False
def KV{κ:Type}:List (κ×V)->List (κ×Value)->Prop:=Paired λ(p:κ×V)(q:κ×Value)=>p.1=q.1/\RelV p.2 q.2
def kV:Key->V
 |.inl i=>.int i
 |.inr x=>.str x
inductive HO where
  |lst(xs:List V)
  |tup(xs:List V)
  |dK(kvs:List (Key×V))|dT (kvs:List (List Key×V))
  |set(S:Int->Bool)(n:Nat)
  |ins(C dx:Addr)(fs:List (Str×V))
  |own(x:Addr)
  |xd(fs:List (Str×V))
  |met(f x:Addr)
  |rng(lo hi:Int)
  |frz(o:Obj)(u:HO)
  |tbl(ps:Array Value)
  |ext(φ:Heap->Prop)
abbrev Hp:=Addr->Option HO
def upd(H:Hp)(a:Addr)(o:HO):Hp:=λb=>if b=a then some o else H b
theorem zc{H:Hp}{a:Addr}{o:HO}:upd H a o a=some o:=by unfold upd;rw[if_pos rfl]
theorem zr{H:Hp}{a b:Addr}{o:HO}(h:b≠a):upd H a o b=H b:=by unfold upd;rw[if_neg h]
theorem xc{H:Hp}{a b:Addr}{o u:HO}(h:H a=some o)(h':H b=some u)(d:o≠u):a≠b:=by
 intro e;subst e;rw[h]at h';exact d (Option.some.inj h')
theorem zK{H:Hp}{a b:Addr}{o:HO}(h:H a=some o)(h':H b=none):a≠b:=by
 intro e;subst e;rw[h]at h';cases h'
section
variable(P:Program)(w:World)
def yg(H:Hp)(h:Heap)(a:Addr):HO->Prop
 |.lst xs=>xs.length<=sizeLine/\∃(its:List Value)(n:Nat),Vals xs its/\h.get? a=some {cls:=.type "list",data:=.seq its.toArray n}
 |.tup xs=>xs.length<=sizeLine/\∃its:List Value,Vals xs its/\IsTup h a its.toArray
 |.dK kvs=>kvs.length<=sizeLine/\(a==sysModules)=false/\∃vs,KV kvs vs/\h.DictOf (Zo P w) a vs
 |.dT kvs=>kvs.length<=sizeLine/\(a==sysModules)=false/\∃xs:List (List Key×Addr×Value),
   Paired (λ(p:List Key×V)(q:List Key×Addr×Value)=>p.1=q.1/\H q.2.1=some (.tup (p.1.map kV))/\RelV p.2 q.2.2) kvs xs /\
   ∃o es ep,h.get? a=some o/\o.ExactDict/\o.data=.dict es ep/\es.toList=xs.map (entryOfKey (tupleKind (Zo P w)))/\(xs.map (·.1)).Nodup
 |.set S n=>h.SetOf (intKind P w) a S n
 |.ins C dx fs=>H dx=some (.own a)/\fs.length<=1000/\dx≠a/\h.get? a=some (PySem.W.instObj C dx) /\
   ∃mA,h.Ns1 dx mA/\(∀f,RelO (fs.lookup f) (mA f))/\PySem.Within mA (fs.map (·.1))
 |.own _=>∃o,h.get? a=some o
 |.xd fs=>∃mA,h.Ns1 a mA/\∀f,RelO (fs.lookup f) (mA f)
 |.rng lo hi=>∃t u v,h.get? a=some {cls:=.type "range",data:=.fields #[.int lo t,.int hi u,.int 1 v]}
 |.frz o u=>h.get? a=some o/\yg H h a u
 |.tbl ps=>h.get? a=some {cls:=.none,data:=.fields ps}
 |.met f x=>h.get? a=some (bW (.ref f) (.ref x))
 |.ext φ=>φ h/\(∃o,h.get? a=some o)/\∀h1 h2:Heap,φ h1->(∀o,h1.get? a=some o->h2.get? a=some o)->φ h2
def HOk(H:Hp)(h:Heap):Prop:=∀a o,H a=some o->yg P w H h a o
end
section
variable{P:Program}{w:World}{H H':Hp}{h h':Heap}{a:Addr}{o:HO}
theorem yg.lt(x:yg P w H h a o):a<h.objs.size:=by
 cases o with
 |lst xs=>obtain⟨_,_,_,_,e⟩:=x;exact Heap.lt_size e
 |tup xs=>obtain⟨_,_,_,p⟩:=x;exact p.lt
 |dK kvs=>obtain⟨_,_,_,_,o,_,_,e,_⟩:=x;exact Heap.lt_size e
 |dT kvs=>obtain⟨_,_,_,_,o,_,_,e,_⟩:=x;exact Heap.lt_size e
 |set S n=>obtain⟨o,_,_,_,e,_⟩:=x;exact Heap.lt_size e
 |ins C dx fs=>obtain⟨_,_,_,e,_⟩:=x;exact Heap.lt_size e
 |own y=>obtain⟨_,e⟩:=x;exact Heap.lt_size e
 |xd fs=>obtain⟨_,⟨_,_,_,e,_⟩,_⟩:=x;exact Heap.lt_size e
 |rng lo hi=>obtain⟨_,_,_,e⟩:=x;exact Heap.lt_size e
 |frz ob u=>obtain⟨e,_⟩:=x;exact Heap.lt_size e
 |tbl ps=>exact Heap.lt_size (show h.get? a=some _ from x)
 |met f y=>exact Heap.lt_size (show h.get? a=some _ from x)
 |ext φ=>obtain⟨_,⟨_,e⟩,_⟩:=x;exact Heap.lt_size e
theorem Paired.mapP{α β:Type}{F G:α->β->Prop}:∀{l₁:List α}{l₂:List β},Paired F l₁ l₂->(∀a b,F a b->G a b)->Paired G l₁ l₂
 |_,_,.nil,_=>.nil
 |_,_,.cons r t,f=>.cons (f _ _ r) (Paired.mapP t f)
theorem Paired.imp'{α β:Type}{F G:α->β->Prop}(f:∀a b,F a b->G a b){l₁:List α}{l₂:List β}(r:Paired F l₁ l₂):Paired G l₁ l₂:=Paired.mapP r f
theorem yg.stay(x:yg P w H h a o)(k:∀b u,(b=a\/H b=some (.own a))->h.get? b=some u->h'.get? b=some u)
  (ho:∀b,H b=some (.own a)->H' b=some (.own a))(ht:∀b xs,H b=some (.tup xs)->H' b=some (.tup xs)):yg P w H' h' a o:=by
 induction o with
 |lst xs=>obtain⟨z,its,n,r,e⟩:=x;exact⟨z,its,n,r,k _ _ (.inl rfl) e⟩
 |tup xs=>obtain⟨z,its,r,ob,e,c⟩:=x;exact⟨z,its,r,ob,k _ _ (.inl rfl) e,c⟩
 |dK kvs=>obtain⟨z,y,vs,r,ob,es,ep,e,c⟩:=x;exact⟨z,y,vs,r,ob,es,ep,k _ _ (.inl rfl) e,c⟩
 |dT kvs =>
  obtain⟨z,y,xs,r,ob,es,ep,e,c⟩:=x;exact⟨z,y,xs,Paired.mapP r λp q z=>⟨z.1,ht _ _ z.2.1,z.2.2⟩,ob,es,ep,k _ _ (.inl rfl) e,c⟩
 |set S n=>obtain⟨ob,es,ep,t,e,c⟩:=x;exact⟨ob,es,ep,t,k _ _ (.inl rfl) e,c⟩
 |ins C dx fs =>
  obtain⟨d,z,ne,e,mA,⟨od,es,ep,e2,c⟩,r⟩:=x;exact⟨ho _ d,z,ne,k _ _ (.inl rfl) e,mA,⟨od,es,ep,k _ _ (.inr d) e2,c⟩,r⟩
 |own y=>obtain⟨ob,e⟩:=x;exact⟨ob,k _ _ (.inl rfl) e⟩
 |xd fs=>obtain⟨mA,⟨od,es,ep,e,c⟩,r⟩:=x;exact⟨mA,⟨od,es,ep,k _ _ (.inl rfl) e,c⟩,r⟩
 |rng lo hi=>obtain⟨t,u,v,e⟩:=x;exact⟨t,u,v,k _ _ (.inl rfl) e⟩
 |frz ob u ih=>obtain⟨e,q⟩:=x;exact⟨k _ _ (.inl rfl) e,ih q⟩
 |tbl ps =>
  have e:h.get? a=some {cls:=.none,data:=.fields ps}:=x;show h'.get? a=some {cls:=.none,data:=.fields ps};exact k a _ (.inl rfl) e
 |met f y =>
  have e:h.get? a=some (bW (.ref f) (.ref y)):=x;show h'.get? a=some (bW (.ref f) (.ref y));exact k a _ (.inl rfl) e
 |ext φ=>obtain⟨p,⟨o,e⟩,st⟩:=x;exact⟨st _ _ p λo q=>k _ _ (.inl rfl) q,⟨o,k _ _ (.inl rfl) e⟩,st⟩
theorem HOk.lt(x:HOk P w H h)(e:H a=some o):a<h.objs.size:=(x a o e).lt
theorem HOk.fresh(x:HOk P w H h)(e:h.objs.size<=a):H a=none:=by
 cases q:H a with
 |none=>rfl
 |some u=>exact absurd (kW (x.lt q) e) (vF _)
theorem HOk.kept(x:HOk P w H h)(k:∀b u,h.get? b=some u->h'.get? b=some u):HOk P w H h':=λa o e =>
 (x a o e).stay (λb u _ q=>k b u q) (λ_ q=>q) λ_ _ q=>q
theorem HOk.laid(x:HOk P w H h)(k:∀b u,h.get? b=some u->h'.get? b=some u)(hp:h.objs.size<=a)(new:yg P w (upd H a o) h' a o):HOk P w (upd H a o) h':=λb u e=>by
 have hn:=x.fresh hp;by_cases hb:b=a
 .subst hb;rw[zc]at e;cases e;exact new
 .rw [zr hb]at e;exact(x b u e).stay (λc v _ q=>k c v q) (λc q=>by rw[zr (zK q hn)];exact q) λc xs q=>by rw[zr (zK q hn)];exact q
end
def Rd(H:Hp)(a:Addr)(u:HO):Prop:=H a=some u\/∃o,H a=some (.frz o u)
theorem Rd.ok{P:Program}{w:World}{H:Hp}{h:Heap}{a:Addr}{u:HO}(r:Rd H a u)(x:HOk P w H h):yg P w H h a u:=by
 rcases r with r|⟨o,r⟩
 .exact x a u r
 .obtain ⟨_,q⟩:=x a _ r;exact q
def Mut:Option HO->Prop
 |some (.lst _)=>True
 |some (.dK _)=>True
 |some (.dT _)=>True
 |some (.set _ _)=>True
 |some (.ins _ _ _)=>True
 |some (.ext _)=>True
 |_=>False
section
variable{P:Program}{w:World}{H:Hp}{h h':Heap}{x e:Addr}{o':HO}
theorem HOk.write(ok:HOk P w H h)(mu:Mut (H x))(he:e=x\/H e=some (.own x))(k:∀b u,b≠e->h.get? b=some u->h'.get? b=some u)(heo:∃u,h'.get? e=some u)
  (new:yg P w (upd H x o') h' x o'):HOk P w (upd H x o') h':=λb u q=>by
 have nown:∀c y,H c=some (.own y)->c≠x:=λc y r z=>by subst z;rw[r]at mu;exact mu
 have ntup:∀c xs,H c=some (.tup xs)->c≠x:=λc xs r z=>by subst z;rw[r]at mu;exact mu
 by_cases hb:b=x
 .subst hb;rw[zc]at q;cases q;exact new
 .rw [zr hb]at q;by_cases hbe:b=e
  .have q':H b=some (.own x):=by
    rcases he with z|z
    .exact absurd (hbe.trans z) hb
    .rw [hbe];exact z
   rw[q]at q';cases q';obtain⟨v,hv⟩:=heo;exact⟨v,by rw[hbe];exact hv⟩
  .refine (ok b u q).stay (λc v hc r=>k c v ?_ r) (λc r=>by rw[zr (nown c b r)];exact r) λc xs r=>by rw[zr (ntup c xs r)];exact r
   rcases hc with rfl|hc
   .exact hbe
   .rintro rfl;rcases he with z|z
    .exact nown c b hc z
    .rw [hc]at z;cases z;exact hb rfl
end
structure Un(fs ex:List Addr)(H H':Hp)(h h':Heap):Prop where
 keep:∀b o,h.get? b=some o->H b=none->b∉fs->b∉ex->h'.get? b=some o
 slot:∀b o,h.get? b=some o->H b=none->b∈fs->b∉ex->∃sl,h'.get? b=some {o with slots:=sl}
 free:∀b o,h.get? b=some o->H b=none->b∉ex->H' b=none
 there:∀b o,h.get? b=some o->b∉ex->∃o',h'.get? b=some o'
 tups:∀b xs,H b=some (.tup xs)->H' b=some (.tup xs)
 frzs:∀b o u,H b=some (.frz o u)->H' b=some (.frz o u)
 tbls:∀b ps,H b=some (.tbl ps)->∃more,H' b=some (.tbl (ps++more))
section
variable{fs fs' ex ex':List Addr}{H H1 H2:Hp}{h h1 h2 h':Heap}{a x e:Addr}{o:HO}
theorem Un.any(u:Un fs ex H H1 h h1){b:Addr}{ob:Obj}(q:h.get? b=some ob)(n:H b=none)(hx:b∉ex):∃sl,h1.get? b=some {ob with slots:=sl}:=by
 by_cases hb:b∈fs
 .exact u.slot b ob q n hb hx
 .exact ⟨ob.slots,u.keep b ob q n hb hx⟩
theorem Un.kept(k:∀b u,h.get? b=some u->h'.get? b=some u):Un fs ex H H h h' :=
 ⟨λb ob q _ _ _=>k b ob q,λb ob q _ _ _=>⟨ob.slots,k b ob q⟩,λ_ _ _ n _=>n,λb ob q _=>⟨ob,k b ob q⟩,λ_ _ q=>q,λ_ _ _ q=>q,λ_ ps q=>⟨#[],by rw[q];simp⟩⟩
theorem Un.refl:Un fs ex H H h h:=Un.kept λ_ _ q=>q
theorem Un.laid(k:∀b u,h.get? b=some u->h'.get? b=some u)(hp:h.objs.size<=a)(hn:H a=none):Un fs ex H (upd H a o) h h' where
 keep:=λb u q _ _ _=>k b u q
 slot:=λb u q _ _ _=>⟨u.slots,k b u q⟩
 free:=λb u q n _=>by rw[zr (ve (kW (Heap.lt_size q) hp))];exact n
 there:=λb u q _=>⟨u,k b u q⟩
 tups:=λb xs q=>by rw[zr (zK q hn)];exact q
 frzs:=λb u xs q=>by rw[zr (zK q hn)];exact q
 tbls:=λb ps q=>⟨#[],by rw[zr (zK q hn),q];simp⟩
theorem Un.write(mu:Mut (H x))(he:e=x\/H e=some (.own x))(k:∀b u,b≠e->h.get? b=some u->h'.get? b=some u)(heo:∃u,h'.get? e=some u):Un fs ex H (upd H x o) h h':=by
 have hx:∀b,H b=none->b≠x:=λb n z=>by subst z;rw[n]at mu;exact mu
 have hb:∀b,H b=none->b≠e:=λb n z=>by
  subst z;rcases he with r|r
  .exact hx b n r
  .rw [n]at r;cases r
 have hm:∀b u,H b=some u->¬Mut (some u)->b≠x:=λb u q nm z=>by subst z;rw[q]at mu;exact nm mu
 refine⟨λb u q n _ _=>k b u (hb b n) q,λb u q n _ _=>⟨u.slots,k b u (hb b n) q⟩,λb u q n _=>by rw[zr (hx b n)];exact n,λb u q _=>?_,
  λb xs q=>by rw[zr (hm b _ q λz=>z)];exact q,λb u xs q=>by rw[zr (hm b _ q λz=>z)];exact q,λb ps q=>⟨#[],by rw[zr (hm b _ q λz=>z),q];simp⟩⟩
 by_cases hbe:b=e
 .subst hbe;exact heo
 .exact ⟨u,k b u hbe q⟩
end
def trk(h:Heap)(H:Hp):List Addr:=(vc h.objs.size).filter λa=>(H a).isSome
def hidT(h:Heap)(H:Hp):Heap:=PySem.W.hideAll h (trk h H)
theorem QL(h:Heap)(H:Hp):(hidT h H).objs.size=h.objs.size:=PySem.W.hideAll_size _ _
theorem zaC{h:Heap}{H:Hp}{b:Addr}{o:Obj}(e:h.get? b=some o)(n:H b=none):(hidT h H).get? b=some o :=
 bL _ e λhm=>by
  have q:(H b).isSome=true:=(uA.mp hm).2;rw[n]at q;simp at q
theorem zbS{h:Heap}{H:Hp}{b:Addr}{o:Obj}(e:(hidT h H).get? b=some o):h.get? b=some o/\H b=none:=by
 have e':h.get? b=some o:=PySem.W.of_hideAll (trk h H) e;refine⟨e',?_⟩;cases q:H b with
 |none=>rfl
 |some x =>
  have hm:b∈trk h H:=uA.mpr ⟨vR.mpr (Heap.lt_size e'),by simp[q]⟩;have z:(hidT h H).get? b=none:=PySem.W.hideAll_none (trk h H) hm;rw[z]at e;cases e
structure Mod(K:Frag)(mg:Str->Option Value)(base:Heap):Prop where
 kin:K.In base
 glob:base.Ns mainGlobals mg
 blt:∃mb,base.Ns builtinsNs mb/\∀x:Str,x ≠ "__name__" -> mb x=bootBuiltins x
 nolimit:base.NoLimit
structure Cx where
 prog:Program
 w:World
 K:Frag
 mg:Str->Option Value
 base:Heap
 A:Around
 N:List Str
 s₀:Shared
 H₀:Hp
 env:Env
 outer:List Env
 stack:List Env
 ex:List Addr
 fn:Str->Bool
 calm:Bool
 pn:List (Addr×Obj)
 xe:Value->Shared->Prop
def frs(l:List Env):List Addr:=l.filterMap (·.frame)
abbrev Cx.fs(X:Cx):List Addr:=frs X.outer
def Vis(sc:Scope)(x:Str):Prop:=sc.names.lookup x=some .local\/sc.names.lookup x=some .cell\/sc.names.lookup x=some .free
def Loc(sc:Scope)(x:Str):Prop:=sc.names.lookup x=some .local\/sc.names.lookup x=some .cell
def Look(env:Env)(h:Heap)(m:Str->Option Value)(x:Str)(u:Value):Prop :=
 (env.kindOf x=some .local/\m x=some u)\/((env.kindOf x=some .cell\/env.kindOf x=some .free)/\∃c,env.cells.lookup x=some c/\h.IsCell c (some u))
structure Cx.Ok(X:Cx):Prop where
 mod:Mod X.K X.mg X.base
 kind:X.env.scope.kind=.function
 glob:X.env.globals=mainGlobals
 blt:X.env.builtins=builtinsNs
 above:X.s₀.heap.objs.size<=X.env.locals
 inj:∀x y c,X.env.cells.lookup x=some c->X.env.cells.lookup y=some c->x=y
 has:∀x,(X.env.kindOf x=some .cell\/X.env.kindOf x=some .free)->∃c,X.env.cells.lookup x=some c
 cab:∀x c,X.fn x=true->X.env.cells.lookup x=some c->X.s₀.heap.objs.size<=c
 hd:X.calm=true->X.A.handled=none
 frames:X.A.frames=some X.stack
 stk:X.stack=X.outer\/(X.stack=X.env::X.outer/\X.env.frame=some X.env.locals)
 exf:∀b∈X.ex,b≠X.env.locals/\∀x c,X.env.cells.lookup x=some c->c≠b
 bs:∀b o,X.base.get? b=some o->X.s₀.heap.get? b=some o/\X.H₀ b=none
 bsz:X.base.objs.size<=X.s₀.heap.objs.size
 noex:∀b o,X.base.get? b=some o->b∉X.ex
 exfs:∀b∈X.ex,b∉X.fs
 funs:X.s₀.heap.FunFrames X.base X.outer
 frf:∀b∈X.fs,X.H₀ b=none
structure Inv(X:Cx)(pins:List (Addr×Obj))(σ:List (Option V))(H:Hp)(s:Shared):Prop where
 ok:X.Ok
 os:s.os=X.s₀.os
 bare:AllBare s.gens
 base:Un X.fs X.ex X.H₀ H X.s₀.heap s.heap
 loc:∃m,s.heap.Ns X.env.locals m/\∀(i:Nat)(x:Str)(v:V),X.N[i]?=some x->σ[i]?=some (some v)->Vis X.env.scope x->∃u,RelV v u/\Look X.env s.heap m x u
 cell:∀x c,X.env.cells.lookup x=some c->∃v,s.heap.IsCell c v
 free:H X.env.locals=none
 freeC:∀x c,X.env.cells.lookup x=some c->H c=none
 pin:∀p∈X.pn++pins,s.heap.get? p.1=some p.2/\H p.1=none/\p.1≠X.env.locals/\p.1∉X.fs/\∀v,p.2.data≠.cell v
 hok:HOk X.prog X.w H s.heap
 len:σ.length=X.N.length
section
variable{X:Cx}{pins:List (Addr×Obj)}{σ:List (Option V)}{H H':Hp}{s:Shared}{h':Heap}
theorem Cx.Ok.nofr(ok:X.Ok){b:Addr}{o:Obj}(e:X.base.get? b=some o):b∉X.fs:=λhb=>by
 have:=(ok.funs.mem hb).1;rw[e]at this;cases this
theorem Inv.bs(I:Inv X pins σ H s):∀b o,X.base.get? b=some o->s.heap.get? b=some o/\H b=none:=λb o e =>
 ⟨I.base.keep b o (I.ok.bs b o e).1 (I.ok.bs b o e).2 (I.ok.nofr e) (I.ok.noex b o e),I.base.free b o (I.ok.bs b o e).1 (I.ok.bs b o e).2 (I.ok.noex b o e)⟩
theorem Inv.bk(I:Inv X pins σ H s):∀b o,X.base.get? b=some o->s.heap.get? b=some o:=λb o e=>(I.bs b o e).1
theorem Inv.mod(I:Inv X pins σ H s):Mod X.K X.mg X.base:=I.ok.mod
theorem Inv.kIn(I:Inv X pins σ H s):X.K.In s.heap:=I.ok.mod.kin.keeps I.bk
theorem Inv.lt(I:Inv X pins σ H s):X.env.locals<s.heap.objs.size:=let ⟨_,hn,_⟩:=I.loc;hn.lt
theorem Inv.sz(I:Inv X pins σ H s):X.s₀.heap.objs.size<=s.heap.objs.size:=kn I.ok.above (vw I.lt)
theorem Inv.nofs(I:Inv X pins σ H s){a:Addr}(h:s.heap.objs.size<=a):a∉X.fs:=λhb=>by
 obtain⟨_,o,ho,_⟩:=I.ok.funs.mem hb;exact absurd (kW (Heap.lt_size ho) (kn I.sz h)) (vF _)
theorem Inv.cne(I:Inv X pins σ H s):∀x c,X.env.cells.lookup x=some c->c≠X.env.locals:=λx c e z=>by
 obtain⟨v,o,ho,hd⟩:=I.cell x c e;obtain⟨m,⟨o',es,ep,ho',hd',_⟩,_⟩:=I.loc;rw[z,ho']at ho;cases ho;rw[hd']at hd;cases hd
theorem Inv.funs(I:Inv X pins σ H s):s.heap.FunFrames X.base X.outer:=by
 have all:∀(l:List Env),(∀b∈frs l,b∈X.fs)->X.s₀.heap.FunFrames X.base l->s.heap.FunFrames X.base l:=by
  intro l
  induction l with
  |nil=>intro _ _;exact trivial
  |cons env r ih =>
   intro hs hl;obtain⟨hk,⟨L,o,hf,hn,ho,hd⟩,hr⟩:=hl;have hL:L∈X.fs:=hs L (by unfold frs;rw[uC,hf];exact ke);obtain⟨sl,e⟩:=I.base.slot L o ho (I.ok.frf L hL) hL λz=>I.ok.exfs L z hL;exact⟨hk,⟨L,_,hf,hn,e,hd⟩,ih (λb hb=>hs b (by unfold frs;rw[uC,hf];exact kg _ hb)) hr⟩
 exact all X.outer (λ_ hb=>hb) I.ok.funs
theorem Inv.stack(I:Inv X pins σ H s):s.heap.FunFrames X.base X.stack:=by
 rcases I.ok.stk with e|⟨e,hf⟩
 .rw [e];exact I.funs
 .rw [e];obtain⟨m,hn,_⟩:=I.loc;refine .cons (by rw[I.ok.kind];decide) hf hn ?_ I.funs;exact Heap.get?_none_of_le (kn I.ok.bsz I.ok.above)
theorem Inv.stkSub(I:Inv X pins σ H s):∀b∈frs X.stack,b∈X.env.locals::X.fs:=λb hb=>by
 rcases I.ok.stk with e|⟨e,hf⟩
 .rw [e]at hb;exact kg _ hb
 .rw [e]at hb;unfold frs at hb;rw[uC,hf]at hb;exact hb
theorem Inv.stkFree(I:Inv X pins σ H s):∀b∈frs X.stack,H b=none:=λb hb=>by
 rcases kL.mp (I.stkSub b hb)with e|hb
 .rw [e];exact I.free
 .obtain ⟨_,o,ho,_⟩:=I.ok.funs.mem hb;exact I.base.free b o ho (I.ok.frf b hb) λz=>I.ok.exfs b z hb
theorem Inv.step{g':Array GenState}{t':Nat}{d':Drawn}{ch:List Addr}(I:Inv X pins σ H s)
  (hch:∀b∈ch,(b∈X.ex\/X.s₀.heap.objs.size<=b)/\b≠X.env.locals/\(∀x c,X.env.cells.lookup x=some c->c≠b)/\∀p∈X.pn++pins,p.1≠b)
  (keep:∀b o,b≠X.env.locals->b∉X.fs->b∉ch->s.heap.get? b=some o->H b=none->h'.get? b=some o)
  (slot:∀b o,b≠X.env.locals->b∈X.fs->b∉ch->s.heap.get? b=some o->H b=none->∃sl,h'.get? b=some {o with slots:=sl})(free:∀b o,b∉ch->s.heap.get? b=some o->H b=none->H' b=none)
  (there:∀b o,b∉ch->s.heap.get? b=some o->∃o',h'.get? b=some o')
  (tups:∀b xs,H b=some (.tup xs)->H' b=some (.tup xs))(frzs:∀b o u,H b=some (.frz o u)->H' b=some (.frz o u))(tbls:∀b ps,H b=some (.tbl ps)->∃more,H' b=some (.tbl (ps++more)))
  (ns:∀m,s.heap.Ns X.env.locals m->h'.Ns X.env.locals m)(hok:HOk X.prog X.w H' h')(hg:AllBare g'):
  Inv X pins σ H' {s with heap:=h',gens:=g',drawn:=d',toks:=t'}:=by
 have neL:∀b o,X.s₀.heap.get? b=some o->b≠X.env.locals:=λb o e=>ve (kW (Heap.lt_size e) I.ok.above);have neC:∀b o,X.s₀.heap.get? b=some o->b∉X.ex->b∉ch:=λb o e hx hb=>by
  rcases(hch b hb).1 with z|z
  .exact hx z
  .exact absurd (kW (Heap.lt_size e) z) (vF _)
 have cellK:∀x c,X.env.cells.lookup x=some c->∀v,s.heap.IsCell c v->h'.IsCell c v:=λx c e v ⟨o,ho,hd⟩=>by
  have nch:c∉ch:=λz=>(hch c z).2.2.1 x c e rfl;by_cases hc:c∈X.fs
  .obtain ⟨sl,q⟩:=slot c o (I.cne x c e) hc nch ho (I.freeC x c e);exact⟨_,q,hd⟩
  .exact ⟨o,keep c o (I.cne x c e) hc nch ho (I.freeC x c e),hd⟩
 refine⟨I.ok,I.os,hg,⟨λb o e n hb hx=>?_,λb o e n hb hx=>?_,λb o e n hx=>?_,λb o e hx=>?_,λb xs e=>tups b xs (I.base.tups b xs e),λb o xs e=>frzs b o xs (I.base.frzs b o xs e),λb ps e=>?_⟩,?_,λx c e=>?_,?_,λx c e=>?_,λp hp=>?_,hok,I.len⟩
 .exact keep b o (neL b o e) hb (neC b o e hx) (I.base.keep b o e n hb hx) (I.base.free b o e n hx)
 .obtain ⟨sl,e1⟩:=I.base.slot b o e n hb hx;obtain⟨sl',e2⟩:=slot b _ (neL b o e) hb (neC b o e hx) e1 (I.base.free b o e n hx);exact⟨sl',e2⟩
 .obtain ⟨o',e1⟩:=I.base.there b o e hx;exact free b o' (neC b o e hx) e1 (I.base.free b o e n hx)
 .obtain ⟨o',e1⟩:=I.base.there b o e hx;exact there b o' (neC b o e hx) e1
 .obtain ⟨m1,e1⟩:=I.base.tbls b ps e;obtain⟨m2,e2⟩:=tbls b _ e1;exact⟨m1++m2,by rw[e2,Array.append_assoc]⟩
 .obtain ⟨m,hn,hl⟩:=I.loc;refine⟨m,ns m hn,λi x v e1 e2 e3=>?_⟩;obtain⟨u,r,l⟩:=hl i x v e1 e2 e3;refine⟨u,r,?_⟩;rcases l with l|⟨k,c,e,z⟩
  .exact .inl l
  .exact .inr ⟨k,c,e,cellK x c e _ z⟩
 .obtain ⟨v,z⟩:=I.cell x c e;exact⟨v,cellK x c e v z⟩
 .obtain ⟨m,⟨o,_,_,ho,_⟩,_⟩:=I.loc;exact free _ o (λz=>(hch _ z).2.1 rfl) ho I.free
 .obtain ⟨v,o,ho,hd⟩:=I.cell x c e;exact free c o (λz=>(hch c z).2.2.1 x c e rfl) ho (I.freeC x c e)
 .obtain ⟨e,n,ne,nf,d⟩:=I.pin p hp;have nch:p.1∉ch:=λz=>(hch p.1 z).2.2.2 p hp rfl;exact⟨keep p.1 p.2 ne nf nch e n,free p.1 p.2 nch e n,ne,nf,d⟩
theorem Inv.un{t':Nat}(I:Inv X pins σ H s)(u:Un X.fs [] H H' s.heap h')(hok:HOk X.prog X.w H' h'):Inv X pins σ H' {s with heap:=h',toks:=t'}:=by
 obtain⟨m,⟨o,es,ep,ho,r⟩,_⟩:=id I.loc;obtain⟨sl,hL⟩:=u.any ho I.free (by simp);exact I.step (g':=s.gens) (d':=s.drawn) (ch:=[]) (λ_ z=>nomatch z) (λb o _ hb _ e n=>u.keep b o e n hb (by simp)) (λb o _ hb _ e n=>u.slot b o e n hb (by simp)) (λb o _ e n=>u.free b o e n (by simp)) (λb o _ e=>u.there b o e (by simp)) u.tups u.frzs u.tbls (λm' hm=>by
  obtain⟨o',es',ep',ho',r'⟩:=hm;rw[ho]at ho';cases ho';exact⟨_,es',ep',hL,r'⟩) hok I.bare
theorem Inv.call{g':Array GenState}{t':Nat}{d':Drawn}{ch:List Addr}(I:Inv X pins σ H s)(u:Un (frs X.stack) ch H H' s.heap h')(hok:HOk X.prog X.w H' h')(hg:AllBare g')
  (hch:∀b∈ch,(b∈X.ex\/X.s₀.heap.objs.size<=b)/\b≠X.env.locals/\(∀x c,X.env.cells.lookup x=some c->c≠b)/\∀p∈X.pn++pins,p.1≠b):
  Inv X pins σ H' {s with heap:=h',gens:=g',drawn:=d',toks:=t'}:=by
 obtain⟨m,⟨o,es,ep,ho,r⟩,_⟩:=id I.loc;obtain⟨sl,hL⟩:=u.any ho I.free λz=>(hch _ z).2.1 rfl;exact I.step (ch:=ch) hch (λb o hL hb hc e n=>u.keep b o e n (λz=>(kL.mp (I.stkSub b z)).elim hL hb) hc) (λb o _ _ hc e n=>u.any e n hc) (λb o hc e n=>u.free b o e n hc) (λb o hc e=>u.there b o e hc) u.tups u.frzs u.tbls (λm' hm=>by
  obtain⟨o',es',ep',ho',r'⟩:=hm;rw[ho]at ho';cases ho';exact⟨_,es',ep',hL,r'⟩) hok hg
theorem Inv.turned{t':Nat}{it:Addr}(I:Inv X pins σ H s)(k:∀b o,b≠it->s.heap.get? b=some o->h'.get? b=some o)(hn:H it=none)(hL:it≠X.env.locals)
  (h1:it∈X.ex\/X.s₀.heap.objs.size<=it)(h2:∀x c,X.env.cells.lookup x=some c->c≠it)(h3:∀p∈X.pn++pins,p.1≠it):Inv X pins σ H {s with heap:=h',toks:=t'}:=by
 have nit:∀b u,H b=some u->b≠it:=λb u e z=>by rw[z,hn]at e;cases e
 refine I.step (g':=s.gens) (d':=s.drawn) (ch:=[it]) (λb hb=>?_) (λb o _ _ hc e _=>k b o (λz=>hc (by simp[z])) e) (λb o _ _ hc e _=>⟨o.slots,k b o (λz=>hc (by simp[z])) e⟩) (λ_ _ _ _ n=>n)
  (λb o hc e=>⟨o,k b o (λz=>hc (by simp[z])) e⟩) (λ_ _ e=>e) (λ_ _ _ e=>e) (λb ps e=>⟨#[],by rw[e];simp⟩) (λm hm=>?_) (λb u e=>?_) I.bare
 .have e:b=it:=by simpa using hb
  subst e;exact⟨h1,hL,h2,h3⟩
 .obtain ⟨o,es,ep,ho,r⟩:=hm;exact⟨o,es,ep,k _ o (Ne.symm hL) ho,r⟩
 .refine (I.hok b u e).stay (λc v hc q=>k c v ?_ q) (λ_ q=>q) λ_ _ q=>q;rcases hc with z|z
  .rw [z];exact nit b u e
  .exact nit c _ z
theorem Inv.tok(I:Inv X pins σ H s)(t:Nat):Inv X pins σ H {s with toks:=t}:=I.un (h':=s.heap) (t':=t) Un.refl I.hok
theorem Inv.kept{t':Nat}(I:Inv X pins σ H s)(k:∀b u,s.heap.get? b=some u->h'.get? b=some u):Inv X pins σ H {s with heap:=h',toks:=t'}:=I.un (Un.kept k) (I.hok.kept k)
theorem Inv.laid{a:Addr}{o:HO}{t':Nat}(I:Inv X pins σ H s)(k:∀b u,s.heap.get? b=some u->h'.get? b=some u)(hp:s.heap.objs.size<=a)(new:yg X.prog X.w (upd H a o) h' a o):
  Inv X pins σ (upd H a o) {s with heap:=h',toks:=t'}:=I.un (Un.laid k hp (I.hok.fresh hp)) (I.hok.laid k hp new)
theorem Inv.write{x e:Addr}{o:HO}{t':Nat}(I:Inv X pins σ H s)(mu:Mut (H x))(he:e=x\/H e=some (.own x))(k:∀b u,b≠e->s.heap.get? b=some u->h'.get? b=some u)(heo:∃u,h'.get? e=some u)
  (new:yg X.prog X.w (upd H x o) h' x o):Inv X pins σ (upd H x o) {s with heap:=h',toks:=t'}:=I.un (Un.write mu he k heo) (I.hok.write mu he k heo new)
theorem Inv.pins_of{pins':List (Addr×Obj)}(I:Inv X pins σ H s)(h:∀p∈pins',s.heap.get? p.1=some p.2/\H p.1=none/\p.1≠X.env.locals/\p.1∉X.fs/\∀v,p.2.data≠.cell v):Inv X pins' σ H s :=
 ⟨I.ok,I.os,I.bare,I.base,I.loc,I.cell,I.free,I.freeC,λp hp=>(kQ.mp hp).elim (λz=>I.pin p (kU _ z)) (h p),I.hok,I.len⟩
theorem jy{N:List Str}(hN:N.Nodup){i j:Nat}{x:Str}(a:N[i]?=some x)(b:N[j]?=some x):i=j:=by
 obtain⟨h1,e1⟩:=kh.mp a;obtain⟨h2,e2⟩:=kh.mp b;exact(List.getElem_inj hN).mp (e1.trans e2.symm)
theorem QM{M:Model}{A:Around}{E:Value->Shared->Prop}{i:Nat}{x:Str}{v:V}{u:Value}{Q:Unit->Shared->Prop}(I:Inv X pins σ H s)(hN:X.N.Nodup)(hi:X.N[i]?=some x)(hx:Loc X.env.scope x)(r:RelV v u)
  (h:∀s',Inv X pins (σ.set i (some v)) H s'->(∃a,Heap.SameBut a s.heap s'.heap/\(a=X.env.locals\/X.env.cells.lookup x=some a))->Q Unit.unit s')(hf:X.fn x=true\/X.env.scope.names.lookup x=some .local:=by first|exact .inl rfl|exact .inr rfl|assumption):wpAny M A (storeName X.env x u) Q E s:=by
 obtain⟨m,hn,hl⟩:=id I.loc;have hcls:(X.env.scope.kind==.class||(X.env.scope.kind==.module&&X.env.locals != X.env.globals))=false:=by rw[I.ok.kind];rfl
 have hiσ:i<σ.length:=by rw[I.len];exact(kh.mp hi).1
 have cne:=I.cne;have tracked:∀{a:Addr}{h':Heap},(∃o,s.heap.get? a=some o/\H a=none)->Heap.SameBut a s.heap h'->HOk X.prog X.w H h':=λ{a h'} ha hs b ob e=>by
  obtain⟨_,_,hfree⟩:=ha;refine(I.hok b ob e).stay (λc w' hc q=>(hs.2 c ?_).trans q) (λ_ q=>q) λ_ _ q=>q;rintro rfl;rcases hc with rfl|hc
  .rw [hfree]at e;cases e
  .rw [hfree]at hc;cases hc
 rcases hx with hk|hk
 .refine wpAny_storeName_local hk hn (λh' hn' hs=>?_) hcls;obtain⟨oL,_,_,hoL,_⟩:=id hn;refine h _ ⟨I.ok,I.os,I.bare,⟨λb o e n hb hx=>?_,λb o e n hb hx=>?_,I.base.free,λb o e hx=>?_,I.base.tups,I.base.frzs,I.base.tbls⟩,⟨_,hn',λj y v' e1 e2 e3=>?_⟩,λy c e=>?_,I.free,I.freeC,λp hp=>?_,tracked ⟨oL,hoL,I.free⟩ hs,by simpa using I.len⟩ ⟨_,hs,.inl rfl⟩
  .exact (hs.2 b (ve (kW (Heap.lt_size e) I.ok.above))).trans (I.base.keep b o e n hb hx)
  .obtain ⟨sl,e1⟩:=I.base.slot b o e n hb hx;exact⟨sl,(hs.2 b (ve (kW (Heap.lt_size e) I.ok.above))).trans e1⟩
  .obtain ⟨o',e1⟩:=I.base.there b o e hx;exact⟨o',(hs.2 b (ve (kW (Heap.lt_size e) I.ok.above))).trans e1⟩
  .by_cases hj:j=i
   .subst hj;rw[hi]at e1;cases e1;rw[List.getElem?_set_self hiσ]at e2;cases e2;exact⟨u,r,.inl ⟨hk,by simp⟩⟩
   .rw [bH (Ne.symm hj)]at e2;obtain⟨u',r',q⟩:=hl j y v' e1 e2 e3;refine⟨u',r',?_⟩;rcases q with⟨k,e⟩|⟨k,c,e,z⟩
    .refine .inl ⟨k,?_⟩;have:y≠x:=λe=>hj (jy hN e1 (e ▸ hi));simp[this,e]
    .exact .inr ⟨k,c,e,z.sameBut hs (cne y c e)⟩
  .obtain ⟨w',z⟩:=I.cell y c e;exact⟨w',z.sameBut hs (cne y c e)⟩
  .obtain ⟨e,n,ne,nf,d⟩:=I.pin p hp;exact⟨(hs.2 p.1 ne).trans e,n,ne,nf,d⟩
 .have hfn:X.fn x=true:=by
   rcases hf with z|z
   .exact z
   .rw [z]at hk;cases hk
  obtain⟨c,hc⟩:=I.ok.has x (.inl hk);obtain⟨w',z⟩:=I.cell x c hc;refine wpAny_storeName_cell I.ok.kind hk hc z (λh' hc' hs=>?_);obtain⟨oc,hoc,hocd⟩:=id z;refine h {s with heap:=h'} ⟨I.ok,I.os,I.bare,⟨λb o e n hb hx=>?_,λb o e n hb hx=>?_,I.base.free,λb o e hx=>?_,I.base.tups,I.base.frzs,I.base.tbls⟩,⟨m,hn.sameBut hs (Ne.symm (cne x c hc)),λj y v' e1 e2 e3=>?_⟩,λy c' e=>?_,I.free,I.freeC,λp hp=>?_,tracked ⟨oc,hoc,I.freeC x c hc⟩ hs,by simpa using I.len⟩ ⟨c,hs,.inr hc⟩
  .exact (hs.2 b (ve (kW (Heap.lt_size e) (I.ok.cab x c hfn hc)))).trans (I.base.keep b o e n hb hx)
  .obtain ⟨sl,e1⟩:=I.base.slot b o e n hb hx;exact⟨sl,(hs.2 b (ve (kW (Heap.lt_size e) (I.ok.cab x c hfn hc)))).trans e1⟩
  .obtain ⟨o',e1⟩:=I.base.there b o e hx;exact⟨o',(hs.2 b (ve (kW (Heap.lt_size e) (I.ok.cab x c hfn hc)))).trans e1⟩
  .by_cases hj:j=i
   .subst hj;rw[hi]at e1;cases e1;rw[List.getElem?_set_self hiσ]at e2;cases e2;exact⟨u,r,.inr ⟨.inl hk,c,hc,hc'⟩⟩
   .rw [bH (Ne.symm hj)]at e2;obtain⟨u',r',q⟩:=hl j y v' e1 e2 e3;refine⟨u',r',?_⟩;rcases q with q|⟨k,c',e,z'⟩
    .exact .inl q
    .refine .inr ⟨k,c',e,z'.sameBut hs ?_⟩;rintro rfl;exact hj (jy hN e1 (I.ok.inj _ _ _ e hc ▸ hi))
  .by_cases hcc:c'=c
   .subst hcc;exact⟨_,hc'⟩
   .obtain ⟨w2,z2⟩:=I.cell y c' e;exact⟨w2,z2.sameBut hs hcc⟩
  .obtain ⟨e,n,ne,nf,d⟩:=I.pin p hp;refine⟨(hs.2 p.1 ?_).trans e,n,ne,nf,d⟩;intro q;rw[q,hoc]at e;have q':oc=p.2:=Option.some.inj e;exact d w' (by rw[<-q'];exact hocd)
theorem wX{M:Model}{A:Around}{E:Value->Shared->Prop}{i:Nat}{x:Str}{v:V}{u:Value}{Q:Unit->Shared->Prop}(I:Inv X pins σ H s)(hN:X.N.Nodup)(hi:X.N[i]?=some x)(hx:Loc X.env.scope x)(r:RelV v u)
  (h:∀s',Inv X pins (σ.set i (some v)) H s'->Q Unit.unit s')(hf:X.fn x=true\/X.env.scope.names.lookup x=some .local:=by first|exact .inl rfl|exact .inr rfl|assumption):wpAny M A (storeName X.env x u) Q E s :=
 QM I hN hi hx r (λs' I' _=>h s' I') hf
theorem Inv.call'{s':Shared}{ch:List Addr}(I:Inv X pins σ H s)(ho:s'.os=s.os)(u:Un (frs X.stack) ch H H' s.heap s'.heap)(hok:HOk X.prog X.w H' s'.heap)(hg:AllBare s'.gens)
  (hch:∀b∈ch,(b∈X.ex\/X.s₀.heap.objs.size<=b)/\b≠X.env.locals/\(∀x c,X.env.cells.lookup x=some c->c≠b)/\∀p∈X.pn++pins,p.1≠b):Inv X pins σ H' s':=by
 obtain⟨h',g',d',t',o'⟩:=s';have e:o'=s.os:=ho;subst e;exact I.call (g':=g') (t':=t') (d':=d') u hok hg hch
end
abbrev XK:=Value->Option Addr->Hp->Prop
abbrev St:=List (Option V)
abbrev VK:=V->Hp->Prop
abbrev TE:=St->Hp->VK->Prop
abbrev TT:=St->Hp->(Bool->Hp->Prop)->Prop
abbrev TA:=St->Hp->(List V->Hp->Prop)->Prop
structure Ends where
 nx:St->Hp->Prop
 rt:VK
 bk:St->Hp->Prop:=λ_ _=>False
 ct:St->Hp->Prop:=λ_ _=>False
abbrev TS:=Ends->St->Hp->Prop
def EP(X:Cx)(pins:List (Addr×Obj))(σ:St)(Q:VK)(u:Value)(s':Shared):Prop:=∃v H',Inv X pins σ H' s'/\RelV v u/\Q v H'
def TP(X:Cx)(pins:List (Addr×Obj))(σ:St)(Q:Bool->Hp->Prop)(b:Bool)(s':Shared):Prop:=∃H',Inv X pins σ H' s'/\Q b H'
def AP(X:Cx)(pins:List (Addr×Obj))(σ:St)(Q:List V->Hp->Prop)(us:List Value)(s':Shared):Prop:=∃vs H',Inv X pins σ H' s'/\Vals vs us/\Q vs H'
def SP(X:Cx)(pins:List (Addr×Obj))(D:Ends)(f:Flow)(s':Shared):Prop :=
 match f with
 |.next=>∃σ' H',Inv X pins σ' H' s'/\D.nx σ' H'
 |.brk=>∃σ' H',Inv X pins σ' H' s'/\D.bk σ' H'
 |.cont=>∃σ' H',Inv X pins σ' H' s'/\D.ct σ' H'
 |.ret u=>∃v σ' H',Inv X pins σ' H' s'/\RelV v u/\D.rt v H'
def PE(X:Cx)(e:Expr)(t:TE):Prop :=
 ∀(pins:List (Addr×Obj))(s:Shared)(σ:St)(H:Hp)(Q:VK),Inv X pins σ H s->t σ H Q->wpAny (model X.prog X.w) X.A (eval e X.env) (EP X pins σ Q) X.xe s
def PT(X:Cx)(e:Expr)(t:TT):Prop :=
 ∀(pins:List (Addr×Obj))(s:Shared)(σ:St)(H:Hp)(Q:Bool->Hp->Prop),Inv X pins σ H s->t σ H Q->wpAny (model X.prog X.w) X.A (isTrue e X.env (eval e X.env)) (TP X pins σ Q) X.xe s
def PW(X:Cx)(e:Expr)(t:TT):Prop :=
 ∀(whole:Sem Value)(pins:List (Addr×Obj))(s:Shared)(σ:St)(H:Hp)(Q:Bool->Hp->Prop),Inv X pins σ H s->t σ H Q->wpAny (model X.prog X.w) X.A (isTrue e X.env whole) (TP X pins σ Q) X.xe s
theorem PW.pt{X:Cx}{e:Expr}{t:TT}(h:PW X e t):PT X e t:=h _
def PA(X:Cx)(es:List Expr)(t:TA):Prop :=
 ∀(pos:Pos)(pins:List (Addr×Obj))(s:Shared)(σ:St)(H:Hp)(Q:List V->Hp->Prop),Inv X pins σ H s->t σ H Q->wpAny (model X.prog X.w) X.A (spliced (backTo pos (starEach es X.env))) (AP X pins σ Q) X.xe s
def PS(X:Cx)(st:Stmt)(t:TS):Prop :=
 ∀(pins:List (Addr×Obj))(s:Shared)(σ:St)(H:Hp)(D:Ends),Inv X pins σ H s->t D σ H->wpAny (model X.prog X.w) X.A (exec st X.env) (SP X pins D) X.xe s
def PSs(X:Cx)(st:List Stmt)(t:TS):Prop :=
 ∀(pins:List (Addr×Obj))(s:Shared)(σ:St)(H:Hp)(D:Ends),Inv X pins σ H s->t D σ H->wpAny (model X.prog X.w) X.A (execs st X.env) (SP X pins D) X.xe s
theorem thn{α:Type}{t:Sem α}{Q Q':α->Shared->Prop}{M:Model}{A:Around}{E:Value->Shared->Prop}{s:Shared}(h:wpAny M A t Q E s)(hQ:∀a s,Q a s->Q' a s):wpAny M A t Q' E s:=wpAny_mono h hQ λ_ _ x=>x
section
variable{X:Cx}
def tVar(i:Nat):TE:=λσ H Q=>∃v,σ[i]?=some (some v)/\Q v H
def tC(v:V):TE:=λ_ H Q=>Q v H
theorem zc2{i:Nat}{x:Str}{pos:Pos}(hN:X.N[i]?=some x)(hv:Vis X.env.scope x)(hd:(x==("__debug__" : Str))=false:=by decide)(hcd:(x==("__classdict__" : Str))=false:=by decide):PE X (.Name x pos) (tVar i):=by
 intro pins s σ H Q I h;obtain⟨v,e,h⟩:=h;obtain⟨m,hn,hl⟩:=I.loc;obtain⟨u,r,l⟩:=hl i x v hN e hv;have fin:EP X pins σ Q u s:=⟨v,H,I,r,h⟩;rcases l with⟨hk,hm⟩|⟨hk,c,hc,hcell⟩
 .exact wpAny_Name (wpAny_loadName_local I.ok.kind hk hn hm fin) hd
 .rcases hk with hk|hk
  .exact wpAny_Name (wpAny_loadName_cell I.ok.kind hk hc hcell fin) hd
  .exact wpAny_Name (wpAny_loadName_free I.ok.kind hk hc hcell fin hcd) hd
theorem zg{i j pos}:PE X (.Constant (.int i) j pos) (tC (.int i)):=λ_ _ _ H _ I h=>wpAny_Constant_int ⟨.int i,H,I.tok _,⟨_,rfl⟩,h⟩
theorem xP{b j pos}:PE X (.Constant (.bool b) j pos) (tC (.bl b)):=λ_ _ _ H _ I h=>Constant_bool ⟨.bl b,H,I,rfl,h⟩
theorem xR{j pos}:PE X (.Constant .none j pos) (tC .non):=λ_ _ _ H _ I h=>Constant_none ⟨.non,H,I,rfl,h⟩
theorem zW{x j pos}:PE X (.Constant (.str x) j pos) (tC (.str x)):=λ_ _ _ H _ I h=>Calls.Constant_str ⟨.str x,H,I.tok _,⟨_,rfl⟩,h⟩
def Gl(X:Cx)(x:Str):Prop:=X.env.kindOf x=some .globalImplicit
theorem x5{E:Value->Shared->Prop}{pins:List (Addr×Obj)}{s:Shared}{σ:St}{H:Hp}{x:Str}{u:Value}{pos:Pos}{Q:Value->Shared->Prop}(I:Inv X pins σ H s)(hg:Gl X x)(hm:X.mg x=some u)(h:Q u s)
  (hd:(x==("__debug__" : Str))=false:=by decide):wpAny (model X.prog X.w) X.A (eval (.Name x pos) X.env) Q E s :=
 Calls.Name_function_global I.ok.kind hg (Calls.loadGlobal_global (by rw[I.ok.glob];exact I.mod.glob.keeps I.bk) hm h) hd
theorem yT{E:Value->Shared->Prop}{pins:List (Addr×Obj)}{s:Shared}{σ:St}{H:Hp}{x:Str}{u:Value}{pos:Pos}{Q:Value->Shared->Prop}(I:Inv X pins σ H s)(hg:Gl X x)(hm:X.mg x=none)(hv:bootBuiltins x=some u)(h:Q u s)
  (hn:x ≠ "__name__" := by decide)(hd:(x==("__debug__" : Str))=false:=by decide):wpAny (model X.prog X.w) X.A (eval (.Name x pos) X.env) Q E s:=by
 obtain⟨mb,h1,h2⟩:=I.mod.blt;exact Calls.Name_function_global I.ok.kind hg (Calls.loadGlobal_builtin (by rw[I.ok.glob];exact I.mod.glob.keeps I.bk) hm (by rw[I.ok.blt];exact h1.keeps I.bk) ((h2 x hn).trans hv) h) hd
theorem Zp{x:Str}{v:V}{u:Value}{pos:Pos}(hg:Gl X x)(hm:X.mg x=some u)(r:RelV v u)(hd:(x==("__debug__" : Str))=false:=by decide):PE X (.Name x pos) (tC v) :=
 λ_ _ _ H _ I h=>x5 I hg hm ⟨v,H,I,r,h⟩ hd
theorem zbT{x:Str}{v:V}{u:Value}{pos:Pos}(hg:Gl X x)(hm:X.mg x=none)(hv:bootBuiltins x=some u)(r:RelV v u)(hn:x ≠ "__name__" := by decide)(hd:(x==("__debug__" : Str))=false:=by decide):PE X (.Name x pos) (tC v) :=
 λ_ _ _ H _ I h=>yT I hg hm hv ⟨v,H,I,r,h⟩ hn hd
variable{a b:Expr}{ta tb:TE}{pos:Pos}
theorem nobehind(b:Expr){op:CmpOp}(h:op≠.In)(h2:op≠.NotIn):behindInMarks op b=false:=by
 have e1:(op==CmpOp.In)=false:=by cases op<;>first|rfl|exact absurd rfl h
 have e2:(op==CmpOp.NotIn)=false:=by cases op<;>first|rfl|exact absurd rfl h2
 cases b<;>simp[behindInMarks,e1,e2]
def tB(t:TE):TT:=λσ H Q=>t σ H λx H1=>∃c,x=.bl c/\Q c H1
theorem yw{e:Expr}{t:TE}(h:PE X e t)(he:∀whole,isTrue e X.env whole=(do let v <-whole;standAt e.pos;holding [v] (truthy v)):=by intro _;rfl):PT X e (tB t):=by
 intro pins s σ H Q I hw;refine isTrue_plain (thn (h pins s σ H _ I hw) λv s1 ⟨x,H1,I1,r1,q1⟩=>?_) (he _);refine E_1 q1 λd n8=>A_2 n8 λe9 q=>?_;clear n8 q1;subst e9;cases r1;exact wpAny_truthy_bool ⟨H1,I1,q⟩
variable{tA tB':TT}{rest:List Expr}
def tAnd(t u:TT):TT:=λσ H Q=>t σ H λc H1=>if c=true then u σ H1 Q else Q false H1
def tOr(t u:TT):TT:=λσ H Q=>t σ H λc H1=>if c=true then Q true H1 else u σ H1 Q
def tNot(t:TT):TT:=λσ H Q=>t σ H λc H1=>Q (!c) H1
theorem x6(ha:PT X a tA):PW X (.BoolOp .And [a] pos) tA:=by
 intro wh pins s σ H Q I h;refine isTrue_and (thn (ha pins s σ H Q I h) λc s1 e=>?_);cases c with
 |true=>exact isTrue_and_nil e
 |false=>exact e
theorem xn(ha:PT X a tA):PW X (.BoolOp .Or [a] pos) tA:=by
 intro wh pins s σ H Q I h;refine isTrue_or (thn (ha pins s σ H Q I h) λc s1 e=>?_);cases c with
 |false=>exact isTrue_or_nil e
 |true=>exact e
theorem wo(ha:PT X a tA)(hb:PW X (.BoolOp .And (b::rest) pos) tB'):PW X (.BoolOp .And (a::b::rest) pos) (tAnd tA tB'):=by
 intro wh pins s σ H Q I h;refine isTrue_and (thn (ha pins s σ H _ I h) λc s1 ⟨H1,I1,q1⟩=>?_);cases c with
 |true=>exact hb wh pins s1 σ H1 Q I1 q1
 |false=>exact⟨H1,I1,q1⟩
theorem xf(ha:PT X a tA)(hb:PW X (.BoolOp .Or (b::rest) pos) tB'):PW X (.BoolOp .Or (a::b::rest) pos) (tOr tA tB'):=by
 intro wh pins s σ H Q I h;refine isTrue_or (thn (ha pins s σ H _ I h) λc s1 ⟨H1,I1,q1⟩=>?_);cases c with
 |true=>exact⟨H1,I1,q1⟩
 |false=>exact hb wh pins s1 σ H1 Q I1 q1
theorem yL(ha:PT X a tA):PT X (.UnaryOp .Not a pos) (tNot tA):=by
 intro pins s σ H Q I h;exact isTrue_not (ha pins s σ H (λc H1=>Q (!c) H1) I h)
def zen(ta tb:TE):TE:=λσ H Q=>ta σ H λx H1=>∃c,x=.bl c/\if c=true then tb σ H1 Q else Q (.bl false) H1
def tOrV(ta tb:TE):TE:=λσ H Q=>ta σ H λx H1=>∃c,x=.bl c/\if c=true then Q (.bl true) H1 else tb σ H1 Q
def zeo(ta:TE):TE:=λσ H Q=>ta σ H λx H1=>∃c,x=.bl c/\Q (.bl (!c)) H1
theorem xS{op}{t:TE}(h:PE X a t):PE X (.BoolOp op [a] pos) t:=λpins s σ H Q I hw=>BoolOp_one (h pins s σ H Q I hw)
theorem xE(ha:PE X a ta)(hb:PE X (.BoolOp .And (b::rest) pos) tb):PE X (.BoolOp .And (a::b::rest) pos) (zen ta tb):=by
 intro pins s σ H Q I h;refine BoolOp_and (thn (ha pins s σ H _ I h) λv s1 h9=>?_);obtain⟨x,H1,I1,r1,q1⟩:=h9;revert q1;intro n7;refine E_1 n7 λc n8=>A_2 n8 λe9 q1=>?_;clear n8 n7;subst e9;cases r1;refine wpAny_truthy_bool ?_;cases c with
 |true=>exact hb pins s1 σ H1 Q I1 q1
 |false=>exact⟨.bl false,H1,I1,rfl,q1⟩
theorem zep(ha:PE X a ta)(hb:PE X (.BoolOp .Or (b::rest) pos) tb):PE X (.BoolOp .Or (a::b::rest) pos) (tOrV ta tb):=by
 intro pins s σ H Q I h;refine BoolOp_or (thn (ha pins s σ H _ I h) λv s1 h9=>?_);obtain⟨x,H1,I1,r1,q1⟩:=h9;revert q1;intro n7;refine E_1 n7 λc n8=>A_2 n8 λe9 q1=>?_;clear n8 n7;subst e9;cases r1;refine wpAny_truthy_bool ?_;cases c with
 |false=>exact hb pins s1 σ H1 Q I1 q1
 |true=>exact⟨.bl true,H1,I1,rfl,q1⟩
theorem QN(ha:PE X a ta):PE X (.UnaryOp .Not a pos) (zeo ta):=by
 intro pins s σ H Q I h;refine UnaryOp_ (thn (ha pins s σ H _ I h) λv s1 h9=>?_);obtain⟨x,H1,I1,r1,q1⟩:=h9;revert q1;intro n7;refine E_1 n7 λc n8=>A_2 n8 λe9 q1=>?_;clear n8 n7;subst e9;cases r1;exact not_of (wpAny_truthy_bool ⟨.bl (!c),H1,I1,rfl,q1⟩)
end
def SqL(K:Frag)(H:Hp)(a:Addr)(xs:List V):Prop :=
 Rd H a (.lst xs) \/
  ∃(o:Obj)(its:Array Value)(n:Nat),K.lookup a=some o/\o.cls=.type "list" /\ o.dict=none/\o.data=.seq its n/\its.size<=sizeLine/\Vals xs its.toList
def SqT(K:Frag)(H:Hp)(a:Addr)(xs:List V):Prop :=
 Rd H a (.tup xs) \/
  ∃(o:Obj)(its:Array Value)(n:Nat),K.lookup a=some o/\o.cls=.type "tuple" /\ o.data=.seq its n/\its.size<=sizeLine/\Vals xs its.toList
def absV:Value->Option V
 |.none=>some .non
 |.bool b=>some (.bl b)
 |.int i _=>some (.int i)
 |.str x _=>some (.str x)
 |.bytes b _=>some (.byt b)
 |.float b _=>some (.flt b)
 |.ref a=>some (.ref a)
 |.type n=>some (.ty n)
 |_=>none
theorem RelV.abs{x:V}{u:Value}(r:RelV x u):absV u=some x:=by
 cases x with
 |non=>cases r;rfl
 |bl _=>cases r;rfl
 |int _=>obtain⟨t,rfl⟩:=r;rfl
 |str _=>obtain⟨t,rfl⟩:=r;rfl
 |byt _=>obtain⟨t,rfl⟩:=r;rfl
 |flt _=>obtain⟨t,rfl⟩:=r;rfl
 |ref _=>cases r;rfl
 |ty _=>cases r;rfl
theorem RelV.inj{x y:V}{u:Value}(r:RelV x u)(q:RelV y u):x=y:=Option.some.inj (r.abs.symm.trans q.abs)
theorem Vals.inj:∀{xs ys:List V}{us:List Value},Vals xs us->Vals ys us->xs=ys
 |_,_,_,.nil,.nil=>rfl
 |_,_,_,.cons r t,.cons r' t'=>by rw[r.inj r',Vals.inj t t']
section
variable{X:Cx}{pins:List (Addr×Obj)}{σ:St}{H:Hp}{s:Shared}{a:Addr}{xs ys:List V}
theorem SqL.of{K:Frag}(h:H a=some (.lst xs)):SqL K H a xs:=.inl (.inl h)
theorem SqT.of{K:Frag}(h:H a=some (.tup xs)):SqT K H a xs:=.inl (.inl h)
theorem Inv.list(I:Inv X pins σ H s)(h:SqL X.K H a xs):∃its:List Value,Vals xs its/\PlainL s.heap a its.toArray/\xs.length<=sizeLine:=by
 rcases h with h|⟨o,its,n,hk,hc,hd,hs,hz,r⟩
 .obtain ⟨z,its,n,r,e⟩:=h.ok I.hok;exact⟨its,r,⟨_,n,e,rfl,rfl,rfl⟩,z⟩
 .refine ⟨its.toList,r,⟨o,n,I.kIn a o hk,hc,hd,by simpa using hs⟩,?_⟩;have e:=r.length;simp only[Array.length_toList]at e;lia
theorem Inv.tuple(I:Inv X pins σ H s)(h:SqT X.K H a xs):∃its:List Value,Vals xs its/\IsTup s.heap a its.toArray/\xs.length<=sizeLine:=by
 rcases h with h|⟨o,its,n,hk,hc,hs,hz,r⟩
 .obtain ⟨z,its,r,p⟩:=h.ok I.hok;exact⟨its,r,p,z⟩
 .refine ⟨its.toList,r,⟨o,I.kIn a o hk,hc,n,by simpa using hs⟩,?_⟩;have e:=r.length;simp only[Array.length_toList]at e;lia
theorem Inv.list_inj(I:Inv X pins σ H s)(h:SqL X.K H a xs)(h':SqL X.K H a ys):xs=ys:=by
 obtain⟨its,r,⟨o,n,e,_,_,d⟩,_⟩:=I.list h;obtain⟨its',r',⟨o',n',e',_,_,d'⟩,_⟩:=I.list h';rw[e]at e';cases e';rw[d]at d';injection d' with d1 _;have:its=its':=by simpa using congrArg Array.toList d1
 subst this;exact r.inj r'
theorem Inv.tuple_inj(I:Inv X pins σ H s)(h:SqT X.K H a xs)(h':SqT X.K H a ys):xs=ys:=by
 obtain⟨its,r,⟨o,e,_,n,d⟩,_⟩:=I.tuple h;obtain⟨its',r',⟨o',e',_,n',d'⟩,_⟩:=I.tuple h';rw[e]at e';cases e';rw[d]at d';injection d' with d1 _;have:its=its':=by simpa using congrArg Array.toList d1
 subst this;exact r.inj r'
end
abbrev Cx.wish(X:Cx)(E:Value->Shared->Prop):Cx:={X with xe:=E}
abbrev Cx.nox(X:Cx):Cx:=X.wish λ_ _=>False
theorem Cx.Ok.wish{X:Cx}(ok:X.Ok)(E:Value->Shared->Prop):(X.wish E).Ok :=
 ⟨ok.mod,ok.kind,ok.glob,ok.blt,ok.above,ok.inj,ok.has,ok.cab,ok.hd,ok.frames,ok.stk,ok.exf,ok.bs,ok.bsz,ok.noex,ok.exfs,ok.funs,ok.frf⟩
theorem Cx.Ok.unwish{X:Cx}{E:Value->Shared->Prop}(ok:(X.wish E).Ok):X.Ok :=
 ⟨ok.mod,ok.kind,ok.glob,ok.blt,ok.above,ok.inj,ok.has,ok.cab,ok.hd,ok.frames,ok.stk,ok.exf,ok.bs,ok.bsz,ok.noex,ok.exfs,ok.funs,ok.frf⟩
section
variable{X:Cx}{pins:List (Addr×Obj)}{σ:St}{H:Hp}{s:Shared}{E:Value->Shared->Prop}
theorem Inv.wish(I:Inv X pins σ H s)(E:Value->Shared->Prop):Inv (X.wish E) pins σ H s:=⟨I.ok.wish E,I.os,I.bare,I.base,I.loc,I.cell,I.free,I.freeC,I.pin,I.hok,I.len⟩
theorem Inv.unwish(I:Inv (X.wish E) pins σ H s):Inv X pins σ H s:=⟨I.ok.unwish,I.os,I.bare,I.base,I.loc,I.cell,I.free,I.freeC,I.pin,I.hok,I.len⟩
theorem SP.unwish{D:Ends}{f:Flow}{s':Shared}(h:SP (X.wish E) pins D f s'):SP X pins D f s':=by
 cases f with
 |next=>obtain⟨σ',H',I,q⟩:=h;exact⟨σ',H',I.unwish,q⟩
 |brk=>obtain⟨σ',H',I,q⟩:=h;exact⟨σ',H',I.unwish,q⟩
 |cont=>obtain⟨σ',H',I,q⟩:=h;exact⟨σ',H',I.unwish,q⟩
 |ret u=>obtain⟨v,σ',H',I,r,q⟩:=h;exact⟨v,σ',H',I.unwish,r,q⟩
theorem PSs.nox{st:List Stmt}{t:TS}(h:PSs X.nox st t):PSs X st t:=λpins s σ H D I hw =>
 wpAny_mono (h pins s σ H D (I.wish _) hw) (λ_ _ q=>q.unwish) λ_ _ z=>False.elim z
end
section
variable{X:Cx}{st:Stmt}{rest:List Stmt}{t u:TS}{e:Expr}{te:TE}{pos:Pos}
def zbu:TS:=λD σ H=>D.nx σ H
def tSeq(t u:TS):TS:=λD σ H=>t {D with nx:=u D} σ H
theorem zF:PSs X [] zbu:=λ_ _ σ H _ I h=>wpAny_execs_nil ⟨σ,H,I,h⟩
theorem ze(h1:PS X st t)(h2:PSs X rest u):PSs X (st::rest) (tSeq t u):=by
 intro pins s σ H D I h;refine wpAny_execs_cons (thn (h1 pins s σ H {D with nx:=u D} I h) λf s1 q=>?_);cases f with
 |next =>
  obtain⟨σ',H',I',q⟩:=q;exact h2 pins s1 σ' H' D I' q
 |ret v=>exact q
 |brk=>exact q
 |cont=>exact q
theorem zf(h1:PS X st t):PSs X [st] t:=by
 intro pins s σ H D I h;refine wpAny_execs_cons (thn (h1 pins s σ H D I h) λf s1 q=>?_);cases f with
 |next=>exact wpAny_execs_nil q
 |ret v=>exact q
 |brk=>exact q
 |cont=>exact q
theorem Inv.quiet{pins:List (Addr×Obj)}{σ:St}{H:Hp}{s:Shared}(I:Inv X pins σ H s):interactive X.env=false:=by simp[interactive,I.ok.kind]
def zeq(te:TE):TS:=λD σ H=>te σ H λ_ H1=>D.nx σ H1
theorem ya(he:PE X e te)(hs:swapsWith e none pos.line X.env=pure false:=by rfl):PS X (.Expr e pos) (zeq te):=by
 intro pins s σ H D I h;exact wpAny_Expr_any (thn (he pins s σ H _ I h) λv s1 ⟨x,H1,I1,r1,q1⟩=>⟨σ,H1,I1,q1⟩) I.quiet hs
def tRet(te:TE):TS:=λD σ H=>te σ H D.rt
theorem zl(he:PE X e te):PS X (.Return (some e) pos) (tRet te):=by
 intro pins s σ H D I h;exact wpAny_Return_some (thn (he pins s σ H _ I h) λv s1 ⟨x,H1,I1,r1,q1⟩=>⟨x,σ,H1,I1,r1,q1⟩)
def tIfS(c:TT)(t u:TS):TS:=λD σ H=>c σ H λb H1=>if b=true then t D σ H1 else u D σ H1
theorem zL{c:Expr}{a b:List Stmt}{tc:TT}(hc:PT X c tc)(ha:PSs X a t)(hb:PSs X b u):PS X (.If c a b pos) (tIfS tc t u):=by
 intro pins s σ H D I h;refine wpAny_If (thn (hc pins s σ H _ I h) λd s1 ⟨H1,I1,q1⟩=>?_);cases d with
 |true=>exact ha pins s1 σ H1 D I1 q1
 |false=>exact hb pins s1 σ H1 D I1 q1
def zc3:TS:=λ_ _ _=>False
theorem zaD:PS X st zc3:=λ_ _ _ _ _ _ h=>h.elim
end
abbrev TG:=V->St->Hp->(St->Hp->Prop)->Prop
abbrev TGs:=List V->St->Hp->(St->Hp->Prop)->Prop
def PG(X:Cx)(target:Expr)(t:TG):Prop :=
 ∀(pins:List (Addr×Obj))(s:Shared)(σ:St)(H:Hp)(v:V)(u:Value)(Q:St->Hp->Prop),Inv X pins σ H s->RelV v u->t v σ H Q ->
  wpAny (model X.prog X.w) X.A (assign target X.env u) (λ_ s'=>∃σ' H',Inv X pins σ' H' s'/\Q σ' H') X.xe s
def PGs(X:Cx)(ts:List Expr)(t:TGs):Prop :=
 ∀(pins:List (Addr×Obj))(s:Shared)(σ:St)(H:Hp)(vs:List V)(us:List Value)(Q:St->Hp->Prop),Inv X pins σ H s->Vals vs us->t vs σ H Q ->
  wpAny (model X.prog X.w) X.A (assignInOrder ((assignEach ts X.env).map (·.2)) us) (λ_ s'=>∃σ' H',Inv X pins σ' H' s'/\Q σ' H') X.xe s
abbrev TSet:=V->V->V->Hp->(Hp->Prop)->Prop
def PSet(X:Cx)(t:TSet):Prop :=
 ∀(pins:List (Addr×Obj))(s:Shared)(σ:St)(H:Hp)(o i v:V)(ov iv u:Value)(Q:Hp->Prop),Inv X pins σ H s->RelV o ov->RelV i iv->RelV v u->t o i v H Q ->
  wpAny (model X.prog X.w) X.A (setItem ov iv u) (λ_ s'=>∃H',Inv X pins σ H' s'/\Q H') X.xe s
abbrev TIp:=V->V->Hp->VK->Prop
def PIp(X:Cx)(op:Operator)(t:TIp):Prop :=
 ∀(pins:List (Addr×Obj))(s:Shared)(σ:St)(H:Hp)(x y:V)(v u:Value)(Q:VK),Inv X pins σ H s->RelV x v->RelV y u->t x y H Q ->
  wpAny (model X.prog X.w) X.A (inplaceOp op v u) (EP X pins σ Q) X.xe s
section
variable{X:Cx}{pos:Pos}
def zU(i:Nat):TG:=λv σ H Q=>Q (σ.set i (some v)) H
theorem zt{i:Nat}{x:Str}(hN:X.N.Nodup)(hi:X.N[i]?=some x)(hx:Loc X.env.scope x)(hf:X.fn x=true\/X.env.scope.names.lookup x=some .local:=by first|exact .inl rfl|exact .inr rfl|assumption):PG X (.Name x pos) (zU i):=by
 intro pins s σ H v u Q I r h;exact wpAny_assign_Name (wX I hN hi hx r (λs' I'=>⟨_,H,I',h⟩) hf)
def gNil:TGs:=λvs σ H Q=>vs=[]/\Q σ H
def zer(t:TG)(u:TGs):TGs:=λvs σ H Q=>∃v r,vs=v::r/\t v σ H λσ' H'=>u r σ' H' Q
theorem xg:PGs X [] gNil:=by
 intro pins s σ H vs us Q I r h;obtain⟨e,h⟩:=h;subst e;cases r;exact assignInOrder_nil ⟨σ,H,I,h⟩
theorem z4{e:Expr}{es:List Expr}{t:TG}{u:TGs}(h1:PG X e t)(h2:PGs X es u)
  (hs:(assignEach (e::es) X.env).map (·.2)=assign e X.env::(assignEach es X.env).map (·.2):=by rfl):PGs X (e::es) (zer t u):=by
 intro pins s σ H vs us Q I r h;obtain⟨v,vr,e1,h⟩:=h;subst e1;cases r with
 |cons r rr =>
  rw[hs];refine assignInOrder_cons (thn (h1 pins s σ H _ _ _ I r h) λ_ s1 h9=>?_);obtain⟨σ1,H1,I1,q1⟩:=h9;exact h2 pins s1 σ1 H1 _ _ Q I1 rr q1
def gTup(K:Frag)(n:Nat)(t:TGs):TG:=λv σ H Q=>∃a xs,v=.ref a/\SqT K H a xs/\xs.length=n/\t xs σ H Q
theorem jW{es:List Expr}{k:Nat}{t:TGs}{n:Nat}(hc:X.calm=true)(h:PGs X es t)
  (hn:(assignEach es X.env).length=n:=by rfl)(hst:(assignEach es X.env).findIdx? (·.1)=none:=by rfl):PG X (.Tuple es k pos) (gTup X.K n t):=by
 intro pins s σ H v u Q I r hw;obtain⟨a,xs,e1,hq,hl,hw⟩:=hw;subst e1;cases r;obtain⟨its,rv,ht,hz⟩:=I.tuple hq;refine assign_Tuple_tuple (I.ok.hd hc) ht (by simp[hn,<-hl,rv.length]) hst λh' hx=>?_;have I1:Inv X pins σ H {s with heap:=h'}:=I.kept (t':=s.toks) λb o e=>hx b o (ve (Heap.lt_size e)) e;exact h pins _ σ H xs _ Q I1 (by simpa using rv) hw
def gSub(to ti:TE)(t:TSet):TG:=λv σ H Q=>to σ H λo H1=>ti σ H1 λi H2=>t o i v H2 λH3=>Q σ H3
theorem QO{o i:Expr}{to ti:TE}{t:TSet}(ho:PE X o to)(hi:PE X i ti)(hs:PSet X t)
  (ha:∀v,assign (.Subscript o i pos) X.env v=(do
   let ov <-holding [v] (eval o X.env)
   let iv <-holding [v,ov] (eval i X.env)
   standAt pos
   holding [v,ov,iv] (setItem ov iv v)
   release [v,ov,iv] []):=by intro _;rfl):PG X (.Subscript o i pos) (gSub to ti t):=by
 intro pins s σ H v u Q I r h;rw[ha];refine wpAny_bind (wpAny_holding (thn (ho pins s σ H _ I h) λov s1 h9=>?_));obtain⟨x,H1,I1,r1,q1⟩:=h9;refine wpAny_bind (wpAny_holding (thn (hi pins s1 σ H1 _ I1 q1) λiv s2 h9=>?_));obtain⟨y,H2,I2,r2,q2⟩:=h9;refine wpAny_bind (wpAny_standAt (wpAny_bind (wpAny_holding (thn (hs pins s2 σ H2 x y v ov iv u _ I2 r1 r2 r q2) λ_ s3 h9=>?_))));obtain⟨H3,I3,q3⟩:=h9;exact wpAny_release ⟨σ,H3,I3,q3⟩
def tAsg(te:TE)(g:TG):TS:=λD σ H=>te σ H λx H1=>g x σ H1 D.nx
theorem QP{tg e:Expr}{te:TE}{g:TG}(he:PE X e te)(hg:PG X tg g)(hs:swapsWithSole [tg] e pos.line X.env=pure false:=by rfl)(hw:swappedStores [tg] e X.env=pure none:=by rfl)
  (h1:(assignEach [tg] X.env).map (·.2)=[assign tg X.env]:=by rfl):PS X (.Assign [tg] e pos) (tAsg te g):=by
 intro pins s σ H D I h;refine wpAny_Assign_stores (thn (he pins s σ H _ I h) λv s1 ⟨x,H1,I1,r1,q1⟩=>?_) hs hw;rw[h1];exact thn (hg pins s1 σ H1 x v _ I1 r1 q1) λ_ s2 q=>q
theorem zo{i:Nat}{x:Str}{e:Expr}{te:TE}{pos':Pos}(hN:X.N.Nodup)(hi:X.N[i]?=some x)(hx:Loc X.env.scope x)(he:PE X e te)(hs:swapsWith e (some (.Name x pos')) pos.line X.env=pure false:=by rfl)(hf:X.fn x=true\/X.env.scope.names.lookup x=some .local:=by first|exact .inl rfl|exact .inr rfl|assumption):
  PS X (.Assign [.Name x pos'] e pos) (tAsg te (zU i)):=by
 intro pins s σ H D I h;refine wpAny_Assign_Name (thn (he pins s σ H _ I h) λv s1 ⟨y,H1,I1,r1,q1⟩=>?_) hs;exact wX I1 hN hi hx r1 (λs2 I2=>⟨_,H1,I2,q1⟩) hf
def tAug(i:Nat)(te:TE)(ti:TIp):TS:=λD σ H=>∃x,σ[i]?=some (some x)/\te σ H λy H1=>ti x y H1 λz H2=>D.nx (σ.set i (some z)) H2
theorem QQ{i:Nat}{x:Str}{e:Expr}{te:TE}{op:Operator}{ti:TIp}{pos':Pos}(hN:X.N.Nodup)(hi:X.N[i]?=some x)(hx:Loc X.env.scope x)(he:PE X e te)(ho:PIp X op ti)(hf:X.fn x=true\/X.env.scope.names.lookup x=some .local:=by first|exact .inl rfl|exact .inr rfl|assumption):
  PS X (.AugAssign (.Name x pos') op e pos) (tAug i te ti):=by
 intro pins s σ H D I h;obtain⟨v,e1,h⟩:=h;obtain⟨m,hn,hl⟩:=I.loc;have vis:Vis X.env.scope x:=by rcases hx with k|k;exact .inl k;exact .inr (.inl k)
 obtain⟨u,r,l⟩:=hl i x v hi e1 vis;refine wpAny_AugAssign_Name ?_;have go:wpAny (model X.prog X.w) X.A (eval e X.env) (λw s₂=>wpAny (model X.prog X.w) X.A (inplaceOp op u w) (λr s₃=>wpAny (model X.prog X.w) X.A (storeName X.env x r) (λ_=>SP X pins D .next) X.xe s₃) X.xe s₂) X.xe s:=by
  refine thn (he pins s σ H _ I h) λw s1 h9=>?_;obtain⟨y,H1,I1,r1,q1⟩:=h9;refine thn (ho pins s1 σ H1 v y u w _ I1 r r1 q1) λz s2 h9=>?_;obtain⟨zv,H2,I2,r2,q2⟩:=h9;exact wX I2 hN hi hx r2 (λs3 I3=>⟨_,H2,I3,q2⟩) hf
 rcases l with⟨hk,hm⟩|⟨hk,c,hc,hcell⟩
 .exact wpAny_loadName_local I.ok.kind hk hn hm go
 .rcases hk with hk|hk
  .exact wpAny_loadName_cell I.ok.kind hk hc hcell go
  .rcases hx with k|k
   .have:X.env.scope.names.lookup x=some .free:=hk;rw[k]at this;cases this
   .have:X.env.scope.names.lookup x=some .free:=hk;rw[k]at this;cases this
def ipI(f:Int->Int->Int):TIp:=λx y H Q=>∃i j,x=.int i/\y=.int j/\Q (.int (f i j)) H
theorem QR:PIp X .Add (ipI λi j=>i+j):=by
 intro pins s σ H x y v u Q I r1 r2 h;obtain⟨i,j,e1,e2,q⟩:=h;subst e1;subst e2;refine E_1 r1 λt e9=>?_;clear r1;subst e9;refine E_1 r2 λt' e9=>?_;clear r2;subst e9;exact iadd_int ⟨.int _,H,I.tok _,⟨_,rfl⟩,q⟩
end
section
variable{X:Cx}{pos:Pos}
def QS(c:TT)(tb:TS):TS:=λD σ H=>∃W:Nat->St->Hp->Prop,(∃m,W m σ H)/\∀m σ H,W m σ H ->
 c σ H λb H1=>if b=true then ∃N:St->Hp->Prop,(∀σ' H',N σ' H'->∃m',m'<m/\W m' σ' H')/\tb {D with nx:=N,ct:=N,bk:=D.nx} σ H1 else D.nx σ H1
theorem wY{c:Expr}{body:List Stmt}{tc:TT}{tb:TS}(hp:PassesOwn (model X.prog X.w) X.A X.env X.xe)(hc:PT X c tc)(hb:PSs X body tb):PS X (.While c body [] pos) (QS tc tb):=by
 intro pins s σ H D I h;obtain⟨W,⟨m0,w0⟩,turn⟩:=h;refine wpAny_While (codeAny_whileLoop (λn s'=>∃σ' H',Inv X pins σ' H' s'/\W n σ' H') ?_ m0 ⟨σ,H,I,w0⟩);rintro n s1 ⟨σ1,H1,I1,w1⟩;refine wpAny_passesOwn hp (thn (hc pins s1 σ1 H1 _ I1 (turn n σ1 H1 w1)) λb s2 ⟨H2,I2,q2⟩=>?_);cases b with
 |true =>
  obtain⟨N,hN,q2⟩:=q2;rw[if_pos rfl];refine wpAny_passesOwn hp (thn (hb pins s2 σ1 H2 _ I2 q2) λf s3 q3=>?_);cases f with
  |next =>
   obtain⟨σ3,H3,I3,n3⟩:=q3;obtain⟨m',hm,w3⟩:=hN σ3 H3 n3;exact⟨m',hm,σ3,H3,I3,w3⟩
  |cont =>
   obtain⟨σ3,H3,I3,n3⟩:=q3;obtain⟨m',hm,w3⟩:=hN σ3 H3 n3;exact⟨m',hm,σ3,H3,I3,w3⟩
  |brk=>exact q3
  |ret v=>exact q3
 |false =>
  rw[if_neg kt];exact wpAny_execs_nil ⟨σ1,H2,I2,q2⟩
end
structure It where
 go:Nat->Hp->Prop
 yld:Nat->Hp->V->Hp->Prop
 stop:Nat->Hp->Prop
def FpOk(X:Cx)(pins:List (Addr×Obj))(H:Hp)(b:Addr):Prop :=
 H b=none/\b≠X.env.locals/\b∉X.fs/\(b∈X.ex\/X.s₀.heap.objs.size<=b)/\(∀x c,X.env.cells.lookup x=some c->c≠b)/\∀p∈X.pn++pins,p.1≠b
theorem Inv.fpOk{X:Cx}{pins:List (Addr×Obj)}{σ:St}{H H':Hp}{s:Shared}{b:Addr}(I:Inv X pins σ H s)(hb:s.heap.objs.size<=b)(hn:H' b=none):FpOk X pins H' b:=by
 refine⟨hn,uW (kW I.lt hb),I.nofs hb,.inr (kn I.sz hb),λx c e z=>?_,λp hp z=>?_⟩
 .obtain ⟨v,q⟩:=I.cell x c e;exact absurd (kW q.lt (by rw[z];exact hb)) (vF _)
 .exact absurd (kW (Heap.lt_size (I.pin p hp).1) (by rw[z];exact hb)) (vF _)
structure Turn(P:Program)(w:World)(K:Frag)(tg:Expr)(J:It)(fp:List Addr)(it:Addr)(tn:Nat->Heap->Prop):Prop where
 mem:it∈fp
 obj:∀i h,tn i h->∀b∈fp,∃o,h.get? b=some o/\∀v,o.data≠.cell v
 keep:∀i h h',tn i h->(∀b∈fp,∀o,h.get? b=some o->h'.get? b=some o)->tn i h'
 item:∀(X:Cx),X.prog=P->X.w=w->X.K=K->X.calm=true->∀(i:Nat)(pins:List (Addr×Obj))(s:Shared)(σ:St)(H:Hp)(E:Value->Shared->Prop),Inv X pins σ H s->(∀b∈fp,FpOk X pins H b)->tn i s.heap->J.go i H ->
  wpAny (model P w) X.A (pyNext (.ref it)) (λr s1=>∃u,r=some u /\
   wpAny (model P w) X.A (letOwnedTupleGo tg (.ref it) u) (λ_ s2=>∃x H',Inv X pins σ H' s2/\RelV x u/\J.yld i H x H'/\tn (i+1) s2.heap/\∀b∈fp,H' b=none) E s1) E s
 done:∀(X:Cx),X.prog=P->X.w=w->X.K=K->X.calm=true->∀(i:Nat)(pins:List (Addr×Obj))(s:Shared)(σ:St)(H:Hp)(E:Value->Shared->Prop),Inv X pins σ H s->(∀b∈fp,FpOk X pins H b)->tn i s.heap->J.stop i H ->
  wpAny (model P w) X.A (pyNext (.ref it)) (λr s1=>r=none/\Inv X pins σ H s1) E s
 self:∀(A:Around)(i:Nat)(s:Shared)(Q:Value->Shared->Prop)(E:Value->Shared->Prop),tn i s.heap->Q (.ref it) s->wpAny (model P w) A (pyIter (.ref it)) Q E s
abbrev TI:=St->Hp->(It->Hp->Prop)->Prop
def PIE(X:Cx)(pins:List (Addr×Obj))(σ:St)(tg:Expr)(R:It->Hp->Prop)(itv:Value)(s2:Shared):Prop :=
 ∃(it:Addr)(fp:List Addr)(tn:Nat->Heap->Prop)(J:It)(H':Hp),itv=.ref it/\Inv X pins σ H' s2/\Turn X.prog X.w X.K tg J fp it tn/\tn 0 s2.heap/\(∀b∈fp,FpOk X pins H' b)/\R J H'
def PI(X:Cx)(tg iter:Expr)(wi:TI):Prop :=
 ∀(pins:List (Addr×Obj))(s:Shared)(σ:St)(H:Hp)(R:It->Hp->Prop),Inv X pins σ H s->wi σ H R ->
  wpAny (model X.prog X.w) X.A (eval iter X.env) (λv s1=>wpAny (model X.prog X.w) X.A (pyIter v) (PIE X pins σ tg R) X.xe s1) X.xe s
theorem jX{M:Model}{A:Around}{E:Value->Shared->Prop}{s:Shared}{tg:Expr}{it:Addr}{u:Value}{o:Obj}{n:String}{vs:Array Value}{Q:Unit->Shared->Prop}(ho:s.heap.get? it=some o)(hc:o.cls=.type n)(hd:o.data=.fields vs)
  (hn:["enumerate","zip","dict_itemiterator","dict_reverseitemiterator","odict_iterator","itertools.zip_longest","itertools.pairwise"].contains n=false)(hQ:Q Unit.unit s):wpAny M A (letOwnedTupleGo tg (.ref it) u) Q E s:=by
 unfold letOwnedTupleGo;cases tg<;>first
  |exact wpAny_pure hQ
  |(cases u<;>first
    |exact wpAny_pure hQ
    |(refine wpAny_bind (wpAny_load ho ?_)
      rw[hc,hd];show wpAny M A (if(["enumerate","zip","dict_itemiterator","dict_reverseitemiterator","odict_iterator","itertools.zip_longest","itertools.pairwise"].contains n&&vs[0]? == some (rawInt _))=true then _ else _) Q E s;rw[if_neg (by intro h;rw[hn,Bool.false_and]at h;cases h)];exact wpAny_pure hQ))
def Itl(K:Frag)(a:Addr):It :=
 ⟨λi H=>∃xs x,SqL K H a xs/\xs[i]?=some x,λi H x H'=>H'=H/\∀xs,SqL K H a xs->xs[i]?=some x,λi H=>∃xs,SqL K H a xs/\xs.length<=i⟩
def Itt(K:Frag)(a:Addr):It :=
 ⟨λi H=>∃xs x,SqT K H a xs/\xs[i]?=some x,λi H x H'=>H'=H/\∀xs,SqT K H a xs->xs[i]?=some x,λi H=>∃xs,SqT K H a xs/\xs.length<=i⟩
def Itr(lo:Int)(n:Nat):It:=⟨λi _=>i<n,λi H x H'=>H'=H/\x=.int (lo+i),λi _=>n<=i⟩
theorem QT{P:Program}{w:World}{K:Frag}{tg:Expr}(a it:Addr):Turn P w K tg (Itl K a) [it] it (λi h=>h.IsListIter it a i) where
 mem:=by simp
 obj:=λi h st b hb=>by
  have e:b=it:=by simpa using hb
  subst e;obtain⟨o,e,c,d⟩:=st;exact⟨o,e,λv z=>by rw[d]at z;cases z⟩
 keep:=λi h h' st k=>st.at λo e=>k it (by simp) o e
 item:=by
  intro X hP hw hK hc i pins s σ H E I hf st hg;subst hP hw hK;obtain⟨xs,x,hq,hx⟩:=hg;obtain⟨its,rv,p,hz⟩:=I.list hq;obtain⟨u,hu,ru⟩:=rv.get hx;obtain⟨f0,f1,f2,f3,f4,f5⟩:=hf it (by simp);refine wpAny_pyNext_list_item st p.isList (x:=u) (by simpa using hu) λh' st' sb=>?_;have I1:Inv X pins σ H {s with heap:=h'}:=I.turned (t':=s.toks) (λb o hb e=>(sb.2 b hb).trans e) f0 f1 f3 f4 f5;obtain⟨o,e,c,d⟩:=id st';exact⟨u,rfl,jX (s:={s with heap:=h'}) e c d ⋯ ⟨x,H,I1,ru,⟨rfl,λys hy=>by rw[I.list_inj hy hq];exact hx⟩,st',λb hb=>(hf b hb).1⟩⟩
 done:=by
  intro X hP hw hK hc i pins s σ H E I hf st hg;subst hP hw hK;obtain⟨xs,hq,hx⟩:=hg;obtain⟨its,rv,p,hz⟩:=I.list hq;obtain⟨f0,f1,f2,f3,f4,f5⟩:=hf it (by simp);have hl:=rv.length;exact wpAny_pyNext_list_end (I.ok.hd hc) st p.isList (by simp;lia) λh' eb=>⟨rfl,I.turned (t':=s.toks) (λb o hb e=>eb b o hb e) f0 f1 f3 f4 f5⟩
 self:=λ_ _ _ _ _ st h=>wpAny_pyIter_listiter st h
theorem WS{P:Program}{w:World}{K:Frag}{tg:Expr}(a it:Addr):Turn P w K tg (Itt K a) [it] it (λi h=>h.IsTupleIter it a i) where
 mem:=by simp
 obj:=λi h st b hb=>by
  have e:b=it:=by simpa using hb
  subst e;obtain⟨o,e,c,d⟩:=st;exact⟨o,e,λv z=>by rw[d]at z;cases z⟩
 keep:=λi h h' st k=>st.at λo e=>k it (by simp) o e
 item:=by
  intro X hP hw hK hc i pins s σ H E I hf st hg;subst hP hw hK;obtain⟨xs,x,hq,hx⟩:=hg;obtain⟨its,rv,p,hz⟩:=I.tuple hq;obtain⟨u,hu,ru⟩:=rv.get hx;obtain⟨f0,f1,f2,f3,f4,f5⟩:=hf it (by simp);refine wpAny_pyNext_tuple_item st (show s.heap.IsTuple a its.toArray from p) (x:=u) (by simpa using hu) λh' st' sb=>?_;have I1:Inv X pins σ H {s with heap:=h'}:=I.turned (t':=s.toks) (λb o hb e=>(sb.2 b hb).trans e) f0 f1 f3 f4 f5;obtain⟨o,e,c,d⟩:=id st';exact⟨u,rfl,jX (s:={s with heap:=h'}) e c d ⋯ ⟨x,H,I1,ru,⟨rfl,λys hy=>by rw[I.tuple_inj hy hq];exact hx⟩,st',λb hb=>(hf b hb).1⟩⟩
 done:=by
  intro X hP hw hK hc i pins s σ H E I hf st hg;subst hP hw hK;obtain⟨xs,hq,hx⟩:=hg;obtain⟨its,rv,p,hz⟩:=I.tuple hq;obtain⟨f0,f1,f2,f3,f4,f5⟩:=hf it (by simp);have hl:=rv.length;exact wpAny_pyNext_tuple_end (I.ok.hd hc) st (show s.heap.IsTuple a its.toArray from p) (by simp;lia) λh' eb=>⟨rfl,I.turned (t':=s.toks) (λb o hb e=>eb b o hb e) f0 f1 f3 f4 f5⟩
 self:=λ_ _ _ _ _ st h=>wpAny_pyIter_tupleiter st h
theorem WT{P:Program}{w:World}{K:Frag}{tg:Expr}(it:Addr)(lo:Int)(n:Nat):Turn P w K tg (Itr lo n) [it] it (λi h=>IsRangeIter h it (lo+(i:Nat)*1) ((n:Int)-(i:Nat)) 1) where
 mem:=by simp
 obj:=λi h st b hb=>by
  have e:b=it:=by simpa using hb
  subst e;exact⟨_,st,λv z=>by
   have z':Data.fields _=Data.cell v:=z;cases z'⟩
 keep:=λi h h' st k=>k it (by simp) _ st
 item:=by
  intro X hP hw hK hc i pins s σ H E I hf st hg;subst hP hw hK;obtain⟨f0,f1,f2,f3,f4,f5⟩:=hf it (by simp);have W:=Walks.range (prog:=X.prog) (w:=X.w) (I.ok.hd hc) it lo 1 n;refine W.item i s _ _ hg st λv h' tk hv st' kk=>?_;refine E_1 hv λt e9=>?_;clear hv;subst e9;have I1:Inv X pins σ H {s with heap:=h',toks:=tk}:=I.turned (λb o hb e=>kk b o (by simpa using hb) e) f0 f1 f3 f4 f5;refine⟨_,rfl,jX (s:={s with heap:=h',toks:=tk}) (n := "range_iterator") st' rfl rfl ⋯ ⟨.int (lo+i),H,I1,⟨t,?_⟩,⟨rfl,rfl⟩,st',λb hb=>(hf b hb).1⟩⟩;rw[Int.mul_one]
 done:=by
  intro X hP hw hK hc i pins s σ H E I hf st hg;subst hP hw hK;obtain⟨f0,f1,f2,f3,f4,f5⟩:=hf it (by simp);exact wpAny_pyNext_range_end (I.ok.hd hc) st (by have:n<=i:=hg;lia) λh' eb=>⟨rfl,I.turned (t':=s.toks) (λb o hb e=>eb b o hb e) f0 f1 f3 f4 f5⟩
 self:=λ_ _ _ _ _ st h=>wpAny_pyIter_rangeiter st h
section
variable{X:Cx}{tg:Expr}
def zes(K:Frag)(tl:TE):TI:=λσ H R=>tl σ H λx H1=>∃a,x=.ref a/\(∃xs,SqL K H1 a xs)/\R (Itl K a) H1
def iTup(K:Frag)(tl:TE):TI:=λσ H R=>tl σ H λx H1=>∃a,x=.ref a/\(∃xs,SqT K H1 a xs)/\R (Itt K a) H1
theorem zY{l:Expr}{tl:TE}(hl:PE X l tl):PI X tg l (zes X.K tl):=by
 intro pins s σ H R I h;refine thn (hl pins s σ H _ I h) λv s1 h9=>?_;obtain⟨x,H1,I1,r1,q1⟩:=h9;obtain⟨a,e,⟨xs,hq⟩,q⟩:=q1;subst e;cases r1;obtain⟨its,rv,p,hz⟩:=I1.list hq;refine wpAny_pyIter_list p.isList ?_;refine I_5 s1.heap.objs.size [s1.heap.objs.size] _ _ H1 ⟨rfl,I1.kept (t':=s1.toks) λb o e=>Heap.get?_push_of_some _ e,QT a _,⟨_,Heap.get?_push_size _ rfl,rfl,rfl⟩,λb hb=>?_,q⟩;have e:b=s1.heap.objs.size:=by simpa using hb
 subst e;exact I1.fpOk (kc _) (I1.hok.fresh (kc _))
theorem wL{l:Expr}{tl:TE}(hl:PE X l tl):PI X tg l (iTup X.K tl):=by
 intro pins s σ H R I h;refine thn (hl pins s σ H _ I h) λv s1 h9=>?_;obtain⟨x,H1,I1,r1,q1⟩:=h9;obtain⟨a,e,⟨xs,hq⟩,q⟩:=q1;subst e;cases r1;obtain⟨its,rv,p,hz⟩:=I1.tuple hq;refine wpAny_pyIter_tuple (show s1.heap.IsTuple a its.toArray from p) ?_;refine I_5 s1.heap.objs.size [s1.heap.objs.size] _ _ H1 ⟨rfl,I1.kept (t':=s1.toks) λb o e=>Heap.get?_push_of_some _ e,WS a _,⟨_,Heap.get?_push_size _ rfl,rfl,rfl⟩,λb hb=>?_,q⟩;have e:b=s1.heap.objs.size:=by simpa using hb
 subst e;exact I1.fpOk (kc _) (I1.hok.fresh (kc _))
theorem zaE{pins:List (Addr×Obj)}{σ:St}{H:Hp}{s:Shared}{R:It->Hp->Prop}{E:Value->Shared->Prop}{lo hi:Int}{t u v:Tok}{tk:Nat}(I:Inv X pins σ H s)(h1:-(2^62)<=lo)(h2:lo<2^62)(h3:-(2^62)<=hi)(h4:hi<2^62)
  (q:R (Itr lo (hi-lo).toNat) H):wpAny (model X.prog X.w) X.A (pyIter (.ref s.heap.objs.size)) (PIE X pins σ tg R) E {s with heap:=s.heap.push {cls:=.type "range",data:=.fields #[.int lo t,.int hi u,.int 1 v]},toks:=tk}:=by
 refine wpAny_pyIter_range (IsRange.new ..) (small_one h1 h2 h3 h4) ?_;have I1:Inv X pins σ H {s with heap:=s.heap.push {cls:=.type "range",data:=.fields #[.int lo t,.int hi u,.int 1 v]},toks:=tk}:=I.kept λb o e=>Heap.get?_push_of_some _ e;refine⟨(s.heap.push {cls:=.type "range",data:=.fields #[.int lo t,.int hi u,.int 1 v]}).objs.size,[(s.heap.push {cls:=.type "range",data:=.fields #[.int lo t,.int hi u,.int 1 v]}).objs.size],_,_,H,rfl,
  I1.kept (t':=tk) λb o e=>Heap.get?_push_of_some _ e,WT _ lo (hi-lo).toNat,?_,λb hb=>?_,q⟩
 .have e1:lo+((0:Nat):Int)*1=lo:=by simp
  have e2:(((hi-lo).toNat:Nat):Int)-((0:Nat):Int)=Builtin.Range.rangeSize lo hi 1:=by rw[rangeSize_one];split<;>lia
  show IsRangeIter _ _ (lo+((0:Nat):Int)*1) ((((hi-lo).toNat:Nat):Int)-((0:Nat):Int)) 1;rw[e1,e2];exact Heap.get?_push_size _ rfl
 .have e:b=(s.heap.push {cls:=.type "range",data:=.fields #[.int lo t,.int hi u,.int 1 v]}).objs.size:=by simpa using hb
  subst e;exact I1.fpOk (kc _) (I1.hok.fresh (kc _))
def zet(ta:TA):TI:=λσ H R=>ta σ H λvs H1=>∃j:Int,vs=[.int j] /\ -(2^62)<=j/\j<2^62/\R (Itr 0 j.toNat) H1
theorem wD{a:Expr}{ta:TA}{p pos:Pos}(hg:Gl X "range")(hm:X.mg "range"=none)(ha:PA X [a] ta)(hs:starEach [a] X.env=[(false,eval a X.env)]:=by rfl):PI X tg (.Call (.Name "range" p) [a] [] pos) (zet ta):=by
 intro pins s σ H R I h;refine Call_ (yT I hg hm boot_range (vN (thn (ha pos pins s σ H _ I h) λus s1 ⟨vs,H1,I1,r1,q1⟩=>?_) hs rfl));obtain⟨j,e,q1,q2,q⟩:=q1;subst e;cases r1 with
 |cons r rr =>
  cases rr;refine E_1 r λt e9=>?_;clear r;subst e9;exact call_range_1 (zaE I1 ⋯ ⋯ q1 q2 (by simpa using q))
def tFor(wi:TI)(g:TG)(tb:TS):TS:=λD σ H=>wi σ H λJ H1=>∃W:Nat->Nat->St->Hp->Prop,(∃m,W 0 m σ H1)/\∀i m σ H,W i m σ H ->
 (J.stop i H/\D.nx σ H)\/(J.go i H/\∃N:St->Hp->Prop,(∀σ' H',N σ' H'->∃m',m'<m/\W (i+1) m' σ' H')/\∀x H',J.yld i H x H'->g x σ H' λσ2 H2=>tb {D with nx:=N,ct:=N,bk:=D.nx} σ2 H2)
def xT(fp:List Addr)(h:Heap):List (Addr×Obj):=fp.filterMap λb=>(h.get? b).map λo=>(b,o)
theorem xY{fp:List Addr}{h:Heap}{b:Addr}{o:Obj}(hb:b∈fp)(e:h.get? b=some o):(b,o)∈xT fp h:=List.mem_filterMap.mpr ⟨b,hb,by rw[e];rfl⟩
theorem ZT{fp:List Addr}{h:Heap}{p:Addr×Obj}(hp:p∈xT fp h):p.1∈fp/\h.get? p.1=some p.2:=by
 obtain⟨b,hb,e⟩:=List.mem_filterMap.mp hp;cases q:h.get? b with
 |none=>rw[q]at e;cases e
 |some o =>
  rw[q]at e;have e':(b,o)=p:=Option.some.inj e;subst e';exact⟨hb,q⟩
theorem Inv.pinned{pins:List (Addr×Obj)}{σ:St}{H:Hp}{s:Shared}{fp:List Addr}(I:Inv X pins σ H s)(hf:∀b∈fp,FpOk X pins H b)(ho:∀b∈fp,∃o,s.heap.get? b=some o/\∀v,o.data≠.cell v):Inv X (pins++xT fp s.heap) σ H s :=
 I.pins_of λp hp=>(kQ.mp hp).elim (λz=>I.pin p (kG _ z)) λz=>by
  obtain⟨hb,e⟩:=ZT z;obtain⟨f0,f1,f2,_⟩:=hf p.1 hb;obtain⟨o,e',d⟩:=ho p.1 hb;rw[e]at e';cases e';exact⟨e,f0,f1,f2,d⟩
theorem Inv.unpinned{pins pl:List (Addr×Obj)}{σ:St}{H:Hp}{s:Shared}(I:Inv X (pins++pl) σ H s):Inv X pins σ H s:=I.pins_of λp hp=>I.pin p (kG _ (kU _ hp))
theorem yZ{iter:Expr}{body:List Stmt}{wi:TI}{g:TG}{tb:TS}{pos:Pos}(hp:PassesOwn (model X.prog X.w) X.A X.env X.xe)(hc:X.calm=true)(hi:PI X tg iter wi)(hg:PG X tg g)(hb:PSs X body tb)
  (hs:∀x,foldedSetIterable iter X.env x=pure x:=by intro _;rfl):PS X (.For tg iter body [] pos) (tFor wi g tb):=by
 intro pins s σ H D I h;refine wpAny_For (thn (hi pins s σ H _ I h) λv s1 h1=>thn h1 λitv s2 h2=>?_) hs;obtain⟨it,fp,tn,J,H2,e,I2,T,st2,f2,W,⟨m0,w0⟩,turn⟩:=h2;subst e
 -- what stays true of the iterator's objects through the loop
 have stat:∀{H':Hp},(∀b∈fp,H' b=none)->∀b∈fp,FpOk X pins H' b:=λhn b hb=>⟨hn b hb,(f2 b hb).2⟩;refine codeAny_forLoop_any (λn s'=>∃i σ' H',Inv X pins σ' H' s'/\tn i s'.heap/\(∀b∈fp,H' b=none)/\W i n σ' H') ?_ m0 ⟨0,σ,H2,I2,st2,λb hb=>(f2 b hb).1,w0⟩;rintro n s3 ⟨i,σ3,H3,I3,st3,fr3,w3⟩;rcases turn i n σ3 H3 w3 with⟨stop,qn⟩|⟨go,N,hN,step⟩
 .refine wpAny_passesOwn hp (thn (T.done X rfl rfl rfl hc i pins s3 σ3 H3 X.xe I3 (stat fr3) st3 stop) λr s4 h9=>?_);obtain⟨hr,I4⟩:=h9;subst hr;exact wpAny_execs_nil ⟨σ3,H3,I4,qn⟩
 .refine wpAny_passesOwn hp (thn (T.item X rfl rfl rfl hc i pins s3 σ3 H3 X.xe I3 (stat fr3) st3 go) λr s4 h9=>?_);obtain⟨u,hr,h4⟩:=h9;subst hr;refine wpAny_passesOwn hp (thn h4 λ_ s5 h9=>?_);obtain⟨x,H5,I5,r5,y5,st5,fr5⟩:=h9;have I5':=I5.pinned (stat fr5) (T.obj _ _ st5);refine wpAny_passesOwn hp (thn (hg _ s5 σ3 H5 x u _ I5' r5 (step x H5 y5)) λ_ s6 h9=>?_);obtain⟨σ6,H6,I6,q6⟩:=h9;refine wpAny_passesOwn hp (thn (hb _ s6 σ6 H6 _ I6 q6) λf s7 q7=>?_);have again:∀{σ7:St}{H7:Hp},Inv X (pins++xT fp s5.heap) σ7 H7 s7->N σ7 H7->∃m,m<n/\∃i σ' H',Inv X pins σ' H' s7/\tn i s7.heap/\(∀b∈fp,H' b=none)/\W i m σ' H':=λ{σ7 H7} I7 n7=>by
   obtain⟨m',hm,w7⟩:=hN σ7 H7 n7;refine⟨m',hm,i+1,σ7,H7,I7.unpinned,T.keep _ _ _ st5 λb hb o e=>(I7.pin (b,o) (kG _ (kG _ (xY hb e)))).1,λb hb=>?_,w7⟩;obtain⟨o,e,d⟩:=T.obj _ _ st5 b hb;exact(I7.pin (b,o) (kG _ (kG _ (xY hb e)))).2.1
  cases f with
  |next=>obtain⟨σ7,H7,I7,n7⟩:=q7;exact again I7 n7
  |cont=>obtain⟨σ7,H7,I7,n7⟩:=q7;exact again I7 n7
  |brk=>obtain⟨σ7,H7,I7,q7⟩:=q7;exact⟨σ7,H7,I7.unpinned,q7⟩
  |ret v=>obtain⟨x7,σ7,H7,I7,r7,q7⟩:=q7;exact⟨x7,σ7,H7,I7.unpinned,r7,q7⟩
end
theorem wp{K:Frag}{a:Addr}{xs:List V}{g:TG}{tb:TS}{D:Ends}{σ:St}{H:Hp}(Pv:Nat->St->Hp->Prop)(h0:Pv 0 σ H)(hl:∀i σ H,i<=xs.length->Pv i σ H->SqL K H a xs)
  (hs:∀i x σ H,xs[i]?=some x->Pv i σ H->g x σ H λσ2 H2=>tb {D with nx:=Pv (i+1),ct:=Pv (i+1),bk:=D.nx} σ2 H2)(hd:∀σ H,Pv xs.length σ H->D.nx σ H):
  ∃W:Nat->Nat->St->Hp->Prop,(∃m,W 0 m σ H)/\∀i m σ H,W i m σ H ->
   ((Itl K a).stop i H/\D.nx σ H)\/((Itl K a).go i H/\∃N:St->Hp->Prop,(∀σ' H',N σ' H'->∃m',m'<m/\W (i+1) m' σ' H')/\∀x H',(Itl K a).yld i H x H'->g x σ H' λσ2 H2=>tb {D with nx:=N,ct:=N,bk:=D.nx} σ2 H2):=by
 refine⟨λi m σ H=>m=xs.length-i/\i<=xs.length/\Pv i σ H,⟨xs.length,by simp,kR _,h0⟩,?_⟩;rintro i m σ H ⟨rfl,hi,p⟩;have q:=hl i σ H hi p;by_cases hlt:i<xs.length
 .refine .inr ⟨⟨xs,xs[i],q,by simp[hlt]⟩,Pv (i+1),λσ' H' p'=>⟨xs.length-(i+1),by omega,rfl,hlt,p'⟩,λx H' y=>?_⟩;obtain⟨e,y⟩:=y;subst e;exact hs i x σ _ (y xs q) p
 .have e:i=xs.length:=()
  subst e;exact .inl ⟨⟨xs,q,kc _⟩,hd σ H p⟩
theorem qD{lo:Int}{n:Nat}{g:TG}{tb:TS}{D:Ends}{σ:St}{H:Hp}(Pv:Nat->St->Hp->Prop)(h0:Pv 0 σ H)
  (hs:∀i σ H,i<n->Pv i σ H->g (.int (lo+i)) σ H λσ2 H2=>tb {D with nx:=Pv (i+1),ct:=Pv (i+1),bk:=D.nx} σ2 H2)(hd:∀σ H,Pv n σ H->D.nx σ H):
  ∃W:Nat->Nat->St->Hp->Prop,(∃m,W 0 m σ H)/\∀i m σ H,W i m σ H ->
   ((Itr lo n).stop i H/\D.nx σ H)\/((Itr lo n).go i H/\∃N:St->Hp->Prop,(∀σ' H',N σ' H'->∃m',m'<m/\W (i+1) m' σ' H')/\∀x H',(Itr lo n).yld i H x H'->g x σ H' λσ2 H2=>tb {D with nx:=N,ct:=N,bk:=D.nx} σ2 H2):=by
 refine⟨λi m σ H=>m=n-i/\i<=n/\Pv i σ H,⟨n,by simp,kR _,h0⟩,?_⟩;rintro i m σ H ⟨rfl,hi,p⟩;by_cases hlt:i<n
 .refine .inr ⟨hlt,Pv (i+1),λσ' H' p'=>⟨n-(i+1),by omega,rfl,hlt,p'⟩,λx H' y=>?_⟩;obtain⟨e,y⟩:=y;subst e y;exact hs i σ _ hlt p
 .have e:i=n:=()
  subst e;exact .inl ⟨kc _,hd σ H p⟩
abbrev R2:=V->V->Hp->VK->Prop
def OpR(X:Cx)(f:Value->Value->Sem Value)(r:R2):Prop :=
 ∀(pins:List (Addr×Obj))(s:Shared)(σ:St)(H:Hp)(x y:V)(v u:Value)(Q:VK),Inv X pins σ H s->RelV x v->RelV y u->r x y H Q ->
  wpAny (model X.prog X.w) X.A (f v u) (EP X pins σ Q) X.xe s
def UnR(X:Cx)(f:Value->Sem Value)(r:V->Hp->VK->Prop):Prop :=
 ∀(pins:List (Addr×Obj))(s:Shared)(σ:St)(H:Hp)(x:V)(v:Value)(Q:VK),Inv X pins σ H s->RelV x v->r x H Q ->
  wpAny (model X.prog X.w) X.A (f v) (EP X pins σ Q) X.xe s
def yz(X:Cx)(f:Value)(r:List V->Hp->VK->Prop):Prop :=
 ∀(pins:List (Addr×Obj))(s:Shared)(σ:St)(H:Hp)(xs:List V)(us:List Value)(Q:VK),Inv X pins σ H s->Vals xs us->r xs H Q ->
  wpAny (model X.prog X.w) X.A (call f us) (EP X pins σ Q) X.xe s
def TruR(X:Cx)(r:V->Hp->(Bool->Hp->Prop)->Prop):Prop :=
 ∀(pins:List (Addr×Obj))(s:Shared)(σ:St)(H:Hp)(x:V)(v:Value)(Q:Bool->Hp->Prop),Inv X pins σ H s->RelV x v->r x H Q ->
  wpAny (model X.prog X.w) X.A (truthy v) (TP X pins σ Q) X.xe s
def tOp(r:R2)(ta tb:TE):TE:=λσ H Q=>ta σ H λx H1=>tb σ H1 λy H2=>r x y H2 Q
def tUn(r:V->Hp->VK->Prop)(ta:TE):TE:=λσ H Q=>ta σ H λx H1=>r x H1 Q
def rI(C:Int->Int->Prop)(g:Int->Int->V):R2:=λx y H Q=>∃i j,x=.int i/\y=.int j/\C i j/\Q (g i j) H
def rI0(g:Int->Int->V):R2:=λx y H Q=>∃i j,x=.int i/\y=.int j/\Q (g i j) H
def rU(g:Int->V):V->Hp->VK->Prop:=λx H Q=>∃i,x=.int i/\Q (g i) H
section
variable{X:Cx}{a b c:Expr}{ta tb tc:TE}{pos:Pos}
theorem binT(ha:PE X a ta)(hb:PE X b tb){pins:List (Addr×Obj)}{s:Shared}{σ:St}{H:Hp}{R:V->V->Hp->Prop}(I:Inv X pins σ H s)
  (h:ta σ H λx H1=>tb σ H1 λy H2=>R x y H2){Q:Value->Shared->Prop}{f:Value->Value->Sem Value}
  (hf:∀v u s2 x y H2,Inv X pins σ H2 s2->RelV x v->RelV y u->R x y H2->wpAny (model X.prog X.w) X.A (f v u) Q X.xe s2):
  wpAny (model X.prog X.w) X.A (eval a X.env) (λv s₁=>wpAny (model X.prog X.w) X.A (eval b X.env) (λu s₂=>wpAny (model X.prog X.w) X.A (f v u) Q X.xe s₂) X.xe s₁) X.xe s:=by
 refine thn (ha pins s σ H _ I h) λv s1 h9=>?_;obtain⟨x,H1,I1,r1,q1⟩:=h9;refine thn (hb pins s1 σ H1 _ I1 q1) λu s2 h9=>?_;obtain⟨y,H2,I2,r2,q2⟩:=h9;exact hf v u s2 x y H2 I2 r1 r2 q2
theorem zA{op:Operator}{r:R2}(ho:OpR X (binaryOp op) r)(ha:PE X a ta)(hb:PE X b tb):PE X (.BinOp a op b pos) (tOp r ta tb):=by
 intro pins s σ H Q I h;exact wpAny_BinOp (binT ha hb I h λv u s2 x y H2 I2 rx ry q=>ho pins s2 σ H2 x y v u Q I2 rx ry q)
theorem yR{op:UnaryOp}{r:V->Hp->VK->Prop}(ho:UnR X (unaryOp op) r)(ha:PE X a ta):PE X (.UnaryOp op a pos) (tUn r ta):=by
 intro pins s σ H Q I h;exact UnaryOp_ (thn (ha pins s σ H _ I h) λv s1 ⟨x,H1,I1,r1,q1⟩=>ho pins s1 σ H1 x v Q I1 r1 q1)
theorem opI{f:Value->Value->Sem Value}{C:Int->Int->Prop}{g:Int->Int->Int}
  (rule:∀(i j:Int)(t u:Tok)(s:Shared)(Q:Value->Shared->Prop)(E:Value->Shared->Prop),C i j->Q (.int (g i j) s.toks) {s with toks:=s.toks+1}->wpAny (model X.prog X.w) X.A (f (.int i t) (.int j u)) Q E s):
  OpR X f (rI C λi j=>.int (g i j)):=by
 intro pins s σ H x y v u Q I rx ry h;refine E_2 h λi j n8=>A_4 n8 λe9 n90 hc q=>?_;clear n8 h;subst e9;subst n90;refine E_1 rx λt e9=>?_;clear rx;subst e9;refine E_1 ry λt' e9=>?_;clear ry;subst e9;exact rule i j t t' s _ _ hc ⟨.int (g i j),H,I.tok _,⟨_,rfl⟩,q⟩
theorem opI0{f:Value->Value->Sem Value}{g:Int->Int->Int}
  (rule:∀(i j:Int)(t u:Tok)(s:Shared)(Q:Value->Shared->Prop)(E:Value->Shared->Prop),Q (.int (g i j) s.toks) {s with toks:=s.toks+1}->wpAny (model X.prog X.w) X.A (f (.int i t) (.int j u)) Q E s):
  OpR X f (rI0 λi j=>.int (g i j)):=by
 intro pins s σ H x y v u Q I rx ry h;refine E_2 h λi j n8=>A_3 n8 λe9 n90 q=>?_;clear n8 h;subst e9;subst n90;refine E_1 rx λt e9=>?_;clear rx;subst e9;refine E_1 ry λt' e9=>?_;clear ry;subst e9;exact rule i j t t' s _ _ ⟨.int (g i j),H,I.tok _,⟨_,rfl⟩,q⟩
theorem opB0{f:Value->Value->Sem Value}{g:Int->Int->Bool}
  (rule:∀(i j:Int)(t u:Tok)(s:Shared)(Q:Value->Shared->Prop)(E:Value->Shared->Prop),Q (.bool (g i j)) s->wpAny (model X.prog X.w) X.A (f (.int i t) (.int j u)) Q E s):
  OpR X f (rI0 λi j=>.bl (g i j)):=by
 intro pins s σ H x y v u Q I rx ry h;refine E_2 h λi j n8=>A_3 n8 λe9 n90 q=>?_;clear n8 h;subst e9;subst n90;refine E_1 rx λt e9=>?_;clear rx;subst e9;refine E_1 ry λt' e9=>?_;clear ry;subst e9;exact rule i j t t' s _ _ ⟨.bl (g i j),H,I,rfl,q⟩
def CDiv(i j:Int):Prop:=0<j/\j<1073741824
def CMul(i j:Int):Prop:=(-(2^64)<i/\i<2^64)\/(-(2^64)<j/\j<2^64)
theorem CMul.ok{i j:Int}(h:CMul i j):IntMulOk i j:=by
 rcases h with⟨h1,h2⟩|⟨h1,h2⟩
 .exact .of_left (intBits_le_64 h1 h2)
 .exact .of_right (intBits_le_64 h1 h2)
theorem ym:OpR X (binaryOp .Add) (rI0 λi j=>.int (i+j)):=opI0 λ_ _ _ _ _ _ _ q=>add_int q
theorem y4:OpR X (binaryOp .Sub) (rI0 λi j=>.int (i-j)):=opI0 λ_ _ _ _ _ _ _ q=>sub_int q
theorem wM:OpR X (binaryOp .Mult) (rI CMul λi j=>.int (i*j)):=opI λ_ _ _ _ _ _ _ hc q=>mul_int q hc.ok
theorem Zq:OpR X (binaryOp .FloorDiv) (rI CDiv λi j=>.int (i / j)):=opI λi j _ _ _ _ _ hc q=>by
 have h1:(0:Int)<j:=hc.1;have h2:j<1073741824:=hc.2;exact floordiv_int () (by rw[Int.fdiv_eq_ediv_of_nonneg i ()];exact q) (.inl (PyProof.noPylong_small (by omega)))
theorem yE:OpR X (binaryOp .Mod) (rI (λ_ j=>0<j) λi j=>.int (i % j)):=opI λi j _ _ _ _ _ hc q=>by
 have h1:(0:Int)<j:=hc;exact mod_int' () (by rw[Int.fmod_eq_emod_of_nonneg i ()];exact q)
theorem unI{f:Value->Sem Value}{g:Int->Int}
  (rule:∀(i:Int)(t:Tok)(s:Shared)(Q:Value->Shared->Prop)(E:Value->Shared->Prop),Q (.int (g i) s.toks) {s with toks:=s.toks+1}->wpAny (model X.prog X.w) X.A (f (.int i t)) Q E s):
  UnR X f (rU λi=>.int (g i)):=by
 intro pins s σ H x v Q I rx h;refine E_1 h λi n8=>A_2 n8 λe9 q=>?_;clear n8 h;subst e9;refine E_1 rx λt e9=>?_;clear rx;subst e9;exact rule i t s _ _ ⟨.int (g i),H,I.tok _,⟨_,rfl⟩,q⟩
theorem yF:UnR X (unaryOp .USub) (rU λi=>.int (-i)):=unI λ_ _ _ _ _ q=>neg_int q
end
def scal:V->V->Bool
 |.non,.non=>true | .non,.int _=>true | .int _,.non=>true | .non,.bl _=>true | .bl _,.non=>true | .non,.str _=>true | .str _,.non=>true
 |.int _,.int _=>true | .bl _,.bl _=>true | .str _,.str _=>true | .byt _,.byt _=>true
 |.int _,.str _=>true | .str _,.int _=>true | .bl _,.str _=>true | .str _,.bl _=>true
 |_,_=>false
def rEq:R2:=λx y H Q=>scal x y=true/\Q (.bl (decide (x=y))) H
def rNe:R2:=λx y H Q=>scal x y=true/\Q (.bl (!decide (x=y))) H
theorem jf{i j:Int}:decide (V.int i=V.int j)=(i==j):=by
 rw[vW];simp
theorem QU{i j:Bool}:decide (V.bl i=V.bl j)=(i==j):=by
 rw[vW];simp
theorem Zr{i j:Str}:decide (V.str i=V.str j)=(i==j):=by
 rw[vW];simp
theorem Wg{i j:Array UInt8}:decide (V.byt i=V.byt j)=(i.toList==j.toList):=by
 rw[vW];cases i;cases j;simp
section
variable{X:Cx}{a b c:Expr}{ta tb tc:TE}{pos:Pos}
theorem zN{pins:List (Addr×Obj)}{σ:St}{H:Hp}{s:Shared}{Q:VK}{k k':Bool}(I:Inv X pins σ H s)(q:Q (.bl k) H)(e:k=k'):EP X pins σ Q (.bool k') s:=by
 subst e;exact⟨.bl k,H,I,rfl,q⟩
theorem xq:OpR X (compareOp .Eq) rEq:=by
 intro pins s σ H x y v u Q I rx ry h;obtain⟨hs,q⟩:=h;cases x with
 |non =>
  cases rx;cases y with
  |non=>cases ry;exact PySem.EqNone.eq_none_none (zN I q (by simp))
  |bl j=>cases ry;exact PySem.EqNone.eq_none_bool (zN I q (by simp))
  |int j=>obtain⟨t',rfl⟩:=ry;exact PySem.EqNone.eq_none_int (zN I q (by simp))
  |str j=>obtain⟨t',rfl⟩:=ry;exact PySem.EqNone.eq_none_str (zN I q (by simp))
  |_=>exact absurd (show false=true from hs) kt
 |bl i =>
  cases rx;cases y with
  |non=>cases ry;exact PySem.EqNone.eq_bool_none (zN I q (by simp))
  |bl j=>cases ry;exact eq_bool (zN I q QU)
  |str j=>obtain⟨t',rfl⟩:=ry;exact PySem.EqMixed.eq_bool_str (zN I q (by simp))
  |_=>exact absurd (show false=true from hs) kt
 |int i =>
  refine E_1 rx λt e9=>?_;clear rx;subst e9;cases y with
  |non=>cases ry;exact PySem.EqNone.eq_int_none (zN I q (by simp))
  |int j=>obtain⟨t',rfl⟩:=ry;exact eq_int (zN I q jf)
  |str j=>obtain⟨t',rfl⟩:=ry;exact PySem.EqMixed.eq_int_str (zN I q (by simp))
  |_=>exact absurd (show false=true from hs) kt
 |str i =>
  refine E_1 rx λt e9=>?_;clear rx;subst e9;cases y with
  |non=>cases ry;exact PySem.EqNone.eq_str_none (zN I q (by simp))
  |bl j=>cases ry;exact PySem.EqMixed.eq_str_bool (zN I q (by simp))
  |int j=>obtain⟨t',rfl⟩:=ry;exact PySem.EqMixed.eq_str_int (zN I q (by simp))
  |str j=>obtain⟨t',rfl⟩:=ry;exact eq_str (zN I q Zr)
  |_=>exact absurd (show false=true from hs) kt
 |byt i =>
  refine E_1 rx λt e9=>?_;clear rx;subst e9;cases y with
  |byt j=>obtain⟨t',rfl⟩:=ry;exact PySem.W.eq_bytes (zN I q Wg)
  |_=>exact absurd (show false=true from hs) kt
 |_=>cases y<;>exact absurd (show false=true from hs) kt
theorem jg:OpR X (compareOp .NotEq) rNe:=by
 intro pins s σ H x y v u Q I rx ry h;obtain⟨hs,q⟩:=h;cases x with
 |non =>
  cases rx;cases y with
  |non=>cases ry;exact PySem.EqNone.ne_none_none (zN I q (by simp))
  |bl j=>cases ry;exact PySem.EqNone.ne_none_bool (zN I q (by simp))
  |int j=>obtain⟨t',rfl⟩:=ry;exact PySem.EqNone.ne_none_int (zN I q (by simp))
  |str j=>obtain⟨t',rfl⟩:=ry;exact PySem.EqNone.ne_none_str (zN I q (by simp))
  |_=>exact absurd (show false=true from hs) kt
 |bl i =>
  cases rx;cases y with
  |non=>cases ry;exact PySem.EqNone.ne_bool_none (zN I q (by simp))
  |bl j=>cases ry;exact ne_bool (zN I q (congrArg not QU))
  |str j=>obtain⟨t',rfl⟩:=ry;exact PySem.EqMixed.ne_bool_str (zN I q (by simp))
  |_=>exact absurd (show false=true from hs) kt
 |int i =>
  refine E_1 rx λt e9=>?_;clear rx;subst e9;cases y with
  |non=>cases ry;exact PySem.EqNone.ne_int_none (zN I q (by simp))
  |int j=>obtain⟨t',rfl⟩:=ry;exact ne_int (zN I q (congrArg not jf))
  |str j=>obtain⟨t',rfl⟩:=ry;exact PySem.EqMixed.ne_int_str (zN I q (by simp))
  |_=>exact absurd (show false=true from hs) kt
 |str i =>
  refine E_1 rx λt e9=>?_;clear rx;subst e9;cases y with
  |non=>cases ry;exact PySem.EqNone.ne_str_none (zN I q (by simp))
  |bl j=>cases ry;exact PySem.EqMixed.ne_str_bool (zN I q (by simp))
  |int j=>obtain⟨t',rfl⟩:=ry;exact PySem.EqMixed.ne_str_int (zN I q (by simp))
  |str j=>obtain⟨t',rfl⟩:=ry;exact ne_str (zN I q (congrArg not Zr))
  |_=>exact absurd (show false=true from hs) kt
 |byt i =>
  refine E_1 rx λt e9=>?_;clear rx;subst e9;cases y with
  |byt j=>obtain⟨t',rfl⟩:=ry;exact PySem.W.ne_bytes (zN I q (congrArg not Wg))
  |_=>exact absurd (show false=true from hs) kt
 |_=>cases y<;>exact absurd (show false=true from hs) kt
theorem xh:OpR X (compareOp .Lt) (rI0 λi j=>.bl (decide (i<j))):=opB0 λ_ _ _ _ _ _ _ q=>lt_int q
theorem xZ:OpR X (compareOp .LtE) (rI0 λi j=>.bl (decide (i<=j))):=opB0 λ_ _ _ _ _ _ _ q=>le_int q
theorem yS:OpR X (compareOp .Gt) (rI0 λi j=>.bl (decide (j<i))):=opB0 λ_ _ _ _ _ _ _ q=>gt_int q
theorem YD:OpR X (compareOp .Is) (λx y H Q=>y=.non/\Q (.bl (decide (x=.non))) H):=by
 intro pins s σ H x y v u Q I rx ry h;obtain⟨rfl,q⟩:=h;cases ry;refine is_none_gen (zN I q ?_);cases x<;>first
  |(cases rx;rfl)
  |(obtain⟨t,rfl⟩:=rx;rfl)
theorem zu(b:Expr){op:CmpOp}(h:op≠.In:=by decide)(h2:op≠.NotIn:=by decide):behindInMarks op b=false:=by
 have e1:(op==CmpOp.In)=false:=by cases op<;>first|rfl|exact absurd rfl h
 have e2:(op==CmpOp.NotIn)=false:=by cases op<;>first|rfl|exact absurd rfl h2
 cases b<;>simp[behindInMarks,e1,e2]
theorem yu{op:CmpOp}{r:R2}(ho:OpR X (compareOp op) r)(ha:PE X a ta)(hb:PE X b tb)(hm:behindInMarks op b=false):PE X (.Compare a [op] [b] pos) (tOp r ta tb):=by
 intro pins s σ H Q I h;exact wpAny_Compare1 (binT ha hb I h λv u s2 x y H2 I2 rx ry q=>ho pins s2 σ H2 x y v u Q I2 rx ry q) hm
def jY(t:TE):TT:=λσ H Q=>t σ H λx H'=>∃k,x=.bl k/\Q k H'
theorem zy{op:CmpOp}{r:R2}(ho:OpR X (compareOp op) r)(ha:PE X a ta)(hb:PE X b tb)(hm:behindInMarks op b=false):PT X (.Compare a [op] [b] pos) (jY (tOp r ta tb)):=by
 intro pins s σ H Q I h;refine wpAny_isTrue_Compare1 (thn (ha pins s σ H _ I h) λv s1 ⟨x,H1,I1,r1,q1⟩=>thn (hb pins s1 σ H1 _ I1 q1) λu s2 ⟨y,H2,I2,r2,q2⟩ =>
  thn (ho pins s2 σ H2 x y v u _ I2 r1 r2 q2) λc s3 ⟨z,H3,I3,r3,k,e,q3⟩=>?_) hm
 subst e;cases r3;exact wpAny_truthy_bool ⟨H3,I3,q3⟩
def YE(r r':R2)(ta tb tc:TE):TE:=λσ H Q=>ta σ H λx H1=>tb σ H1 λy H2=>r x y H2 λz H3=>∃k,z=.bl k /\
 (if k=true then tc σ H3 λw' H4=>r' y w' H4 Q else Q (.bl false) H3)
theorem zaF{op op':CmpOp}{r r':R2}(ho:OpR X (compareOp op) r)(ho':OpR X (compareOp op') r')(ha:PE X a ta)(hb:PE X b tb)(hc:PE X c tc)
  (hm:lastMarks [op,op'] [b,c]=false:=by with_unfolding_all rfl):PE X (.Compare a [op,op'] [b,c] pos) (YE r r' ta tb tc):=by
 intro pins s σ H Q I h;refine Compare_chain (thn (ha pins s σ H _ I h) λv s1 ⟨x,H1,I1,r1,q1⟩=>chain_link (thn (hb pins s1 σ H1 _ I1 q1) λu s2 ⟨y,H2,I2,r2,q2⟩ =>
  thn (ho pins s2 σ H2 x y v u _ I2 r1 r2 q2) λd s3 ⟨z,H3,I3,r3,k,e,q3⟩=>?_)) hm
 subst e;cases r3;refine wpAny_truthy_bool ?_;cases k with
 |false=>exact ite_ff ⟨.bl false,H3,I3,rfl,q3⟩
 |true=>exact ite_tt (chain_last (thn (hc pins s3 σ H3 _ I3 q3) λw' s4 ⟨z',H4,I4,r4,q4⟩=>ho' pins s4 σ H4 y z' u w' Q I4 r2 r4 q4))
theorem YF{op op':CmpOp}{r r':R2}(ho:OpR X (compareOp op) r)(ho':OpR X (compareOp op') r')(ha:PE X a ta)(hb:PE X b tb)(hc:PE X c tc)
  (hm:lastMarks [op,op'] [b,c]=false:=by with_unfolding_all rfl):PT X (.Compare a [op,op'] [b,c] pos) (jY (YE r r' ta tb tc)):=by
 intro pins s σ H Q I h;refine isTrue_chain (thn (ha pins s σ H _ I h) λv s1 ⟨x,H1,I1,r1,q1⟩=>test_link (thn (hb pins s1 σ H1 _ I1 q1) λu s2 ⟨y,H2,I2,r2,q2⟩ =>
  thn (ho pins s2 σ H2 x y v u _ I2 r1 r2 q2) λd s3 ⟨z,H3,I3,r3,k,e,q3⟩=>?_)) hm
 subst e;cases r3;refine wpAny_truthy_bool ?_;cases k with
 |false =>
  obtain⟨k',e',q'⟩:=q3;cases e';exact ite_ff ⟨H3,I3,q'⟩
 |true =>
  refine ite_tt (test_last (thn (hc pins s3 σ H3 _ I3 q3) λw' s4 ⟨z',H4,I4,r4,q4⟩=>thn (ho' pins s4 σ H4 y z' u w' _ I4 r2 r4 q4) λd' s5 h9=>?_));obtain⟨z2,H5,I5,r5,k2,e2,q5⟩:=h9;subst e2;cases r5;exact wpAny_truthy_bool ⟨H5,I5,q5⟩
def TruV(K:Frag)(x:V)(H:Hp)(k:Bool):Prop :=
 match x with
 |.non=>k=false
 |.bl b=>k=b
 |.int i=>k=(i != 0)
 |.str y=>y.length<=sizeLine/\k=((y.length:Int) != 0)
 |.byt y=>y.size<=sizeLine/\k=((y.size:Int) != 0)
 |.ref p=>(∃xs,SqL K H p xs/\k=!xs.isEmpty)\/(∃xs,SqT K H p xs/\k=!xs.isEmpty)\/∃kvs,H p=some (.dK kvs)/\k=!kvs.isEmpty
 |_=>False
theorem WU{κ:Type}{kvs:List (κ×V)}{vs:List (κ×Value)}(r:KV kvs vs):(!vs.isEmpty)=!kvs.isEmpty:=by
 cases r<;>rfl
theorem jZ{xs:List V}{its:List Value}(r:Vals xs its):(!its.toArray.isEmpty)=!xs.isEmpty:=by
 cases r<;>simp
theorem wq:(sizeLine:Nat)<2^63:=by rw[sizeLine_eq];decide
theorem zc4:TruR X (λx H Q=>∃k,TruV X.K x H k/\Q k H):=by
 intro pins s σ H x v Q I rx h;obtain⟨k,e,q⟩:=h;have hl:=wq;have hs:sizeLine=16777216:=sizeLine_eq;cases x with
 |non =>
  cases rx;have e':k=false:=e;subst e';exact truthy_none ⟨H,I,q⟩
 |bl b =>
  cases rx;have e':k=b:=e;subst e';exact wpAny_truthy_bool ⟨H,I,q⟩
 |int i =>
  refine E_1 rx λt e9=>?_;clear rx;subst e9;have e':k=(i != 0):=e;subst e';exact PySem.P.truthy_int ⟨H,I,q⟩
 |str y =>
  refine E_1 rx λt e9=>?_;clear rx;subst e9;obtain⟨hy,e'⟩:y.length<=sizeLine/\k=((y.length:Int) != 0):=e;subst e';exact PySem.P.truthy_str () ⟨H,I.tok _,q⟩
 |byt y =>
  refine E_1 rx λt e9=>?_;clear rx;subst e9;obtain⟨hy,e'⟩:y.size<=sizeLine/\k=((y.size:Int) != 0):=e;subst e';exact PySem.W.truthy_bytes () ⟨H,I.tok _,q⟩
 |ref p =>
  cases rx;have e':(∃xs,SqL X.K H p xs/\k=!xs.isEmpty)\/(∃xs,SqT X.K H p xs/\k=!xs.isEmpty)\/∃kvs,H p=some (.dK kvs)/\k=!kvs.isEmpty:=e;rcases e' with⟨xs,hx,e'⟩|⟨xs,hx,e'⟩|⟨kvs,hx,e'⟩
  .subst e';obtain⟨its,r,pl,hz⟩:=I.list hx;have hlen:=r.length;exact wpAny_truthy_list pl.isList (by simp only[ko];lia) ⟨H,I.tok _,by rw[jZ r];exact q⟩
  .subst e';obtain⟨its,r,pl,hz⟩:=I.tuple hx;have hlen:=r.length;exact truthy_tuple pl (by simp only[ko];lia) ⟨H,I.tok _,by rw[jZ r];exact q⟩
  .subst e';obtain⟨hz,hS,vs,r,m⟩:kvs.length<=sizeLine/\(p==sysModules)=false/\∃vs,KV kvs vs/\s.heap.DictOf (Zo X.prog X.w) p vs:=I.hok p _ hx;have hlen:kvs.length=vs.length:=Paired.length r;exact wpAny_truthy_dict hS m () ⟨H,I.tok _,by rw[WU r];exact q⟩
 |_=>exact(show False from e).elim
theorem jz(ha:PE X a ta)(he:∀whole,isTrue a X.env whole=(do let v <-whole;standAt a.pos;holding [v] (truthy v))):
  PT X a (λσ H Q=>ta σ H λx H'=>∃k,TruV X.K x H' k/\Q k H'):=by
 intro pins s σ H Q I h;exact isTrue_plain (thn (ha pins s σ H _ I h) λv s1 ⟨x,H1,I1,r1,q1⟩=>zc4 pins s1 σ H1 x v Q I1 r1 q1) (he _)
theorem xF:OpR X (binaryOp .Add) (λx y H Q=>∃i j,x=.str i/\y=.str j/\i.length+j.length<=sizeLine/\Q (.str (i++j)) H):=by
 intro pins s σ H x y v u Q I rx ry h;refine E_2 h λi j n8=>A_4 n8 λe9 n90 hz q=>?_;clear n8 h;subst e9;subst n90;refine E_1 rx λt e9=>?_;clear rx;subst e9;refine E_1 ry λt' e9=>?_;clear ry;subst e9;exact add_str (λt' tk=>⟨.str (i++j),H,I.tok _,⟨_,rfl⟩,q⟩) hz
theorem vals1{x:V}{us:List Value}(r:Vals [x] us):∃u,us=[u]/\RelV x u:=by
 cases r with
 |cons r1 r2=>cases r2;exact⟨_,rfl,r1⟩
theorem vals2{x y:V}{us:List Value}(r:Vals [x,y] us):∃u w',us=[u,w']/\RelV x u/\RelV y w':=by
 cases r with
 |cons r1 r2 =>
  cases r2 with
  |cons r3 r4=>cases r4;exact⟨_,_,rfl,r1,r3⟩
theorem qE(hc:X.calm=true):yz X (.builtin "max") (λxs H Q=>∃i j,xs=[.int i,.int j]/\Q (.int (if j>i then j else i)) H):=by
 intro pins s σ H xs us Q I r h;refine E_2 h λi j n8=>A_2 n8 λe9 q=>?_;clear n8 h;subst e9;obtain⟨u,w',rfl,⟨t,rfl⟩,⟨t',rfl⟩⟩:=vals2 r;refine max_two_ints (I.ok.hd hc) λh' tk k=>⟨_,H,I.kept k,?_,q⟩;by_cases hj:j>i
 .rw [if_pos hj,if_pos hj];exact⟨_,rfl⟩
 .rw [if_neg hj,if_neg hj];exact⟨_,rfl⟩
theorem QV(hc:X.calm=true):yz X (.builtin "min") (λxs H Q=>∃i j,xs=[.int i,.int j]/\Q (.int (if j<i then j else i)) H):=by
 intro pins s σ H xs us Q I r h;refine E_2 h λi j n8=>A_2 n8 λe9 q=>?_;clear n8 h;subst e9;obtain⟨u,w',rfl,⟨t,rfl⟩,⟨t',rfl⟩⟩:=vals2 r;refine min_two_ints (I.ok.hd hc) λh' tk k=>⟨_,H,I.kept k,?_,q⟩;by_cases hj:j<i
 .rw [if_pos hj,if_pos hj];exact⟨_,rfl⟩
 .rw [if_neg hj,if_neg hj];exact⟨_,rfl⟩
theorem zaG:yz X (.builtin "ord") (λxs H Q=>∃x,xs=[.str x]/\x.length=1/\Q (.int (x.cps.getD 0 0:Nat)) H):=by
 intro pins s σ H xs us Q I r h;refine E_1 h λx n8=>A_3 n8 λe9 hz q=>?_;clear n8 h;subst e9;obtain⟨u,rfl,t,rfl⟩:=vals1 r;exact ord_of_one hz ⟨.int _,H,I.tok _,⟨_,rfl⟩,q⟩
end
structure ObjM(h:Heap)(x dx C:Addr)(mA:Str->Option Value):Prop where
 obj:h.get? x=some (PySem.W.instObj C dx)
 ns:h.Ns1 dx mA
 ne:dx≠x
theorem QW{h:Heap}{dx:Addr}{mA:Str->Option Value}(n:h.Ns1 dx mA):∃od,h.get? dx=some od/\∀name,PySem.W.lookIn name od=some (mA name):=by
 obtain⟨o,es,ep,ho,hd,hk,_,hm⟩:=n;refine⟨o,ho,λname=>?_⟩;have e:=hm name;unfold nsFind findBy at e;rw[<-Array.find?_toList]at e;unfold PySem.W.lookIn;rw[hd];dsimp only;split
 .rename_i y q;rw[q]at e;exact congrArg some e
 .rename_i q;rw[q]at e;have a:es.toList.any (·.refKey)=false:=by
   rw[List.any_eq_false];intro y hy;obtain⟨z,t,hkey⟩:=hk y (Array.mem_toList_iff.mp hy);simp[DictEntry.refKey,hkey]
  have a':¬es.toList.any (·.refKey)=true:=by rw[a];exact kt
  rw[if_neg a'];exact congrArg some e
theorem ObjM.look{h:Heap}{x dx C:Addr}{mA:Str->Option Value}(I:ObjM h x dx C mA):∃od,PySem.W.InstAt h x (PySem.W.instObj C dx) C (some od)/\∀name,PySem.W.lookIn name od=some (mA name) :=
 let ⟨od,ho,hl⟩:=QW I.ns
 ⟨od,⟨I.obj,rfl,rfl,ho⟩,hl⟩
section
variable{P:Program}{w:World}{H H':Hp}{h h':Heap}{a C dx:Addr}{fs fs':List (Str×V)}
theorem zbU(hok:HOk P w H h)(e:H a=some (.ins C dx fs)):∃mA,ObjM h a dx C mA/\(∀f,RelO (fs.lookup f) (mA f))/\PySem.Within mA (fs.map (·.1))/\fs.length<=1000/\H dx=some (.own a):=by
 obtain⟨d,z,ne,ob,mA,n,r,q⟩:=(show yg P w H h a (.ins C dx fs)from hok a _ e);exact⟨mA,⟨ob,n,ne⟩,r,q,z,d⟩
end
structure Cls(K:Frag)(C:Addr):Prop where
 pg:PySem.W.plainGet K C Str.empty=true
 hd:PySem.W.hasDictIn K C=true
 po:PySem.W.plainOver K C=true
 sa:uG K (.ref C) "__setattr__"=some (some (.builtin "object.__setattr__"))
theorem Cls.get{K:Frag}{C:Addr}(c:Cls K C)(f:Str):PySem.W.plainGet K C f=true:=c.pg
section
variable{X:Cx}{pins:List (Addr×Obj)}{σ:St}{H:Hp}{s:Shared}{A:Around}{E:Value->Shared->Prop}{Q:Value->Shared->Prop}{c:Value}{b:Bool}
inductive TyOf(K:Frag)(H:Hp):V->Value->Prop where
 |non:TyOf K H .non (.type "NoneType")
 |bl(x:Bool):TyOf K H (.bl x) (.type "bool")
 |int(i:Int):TyOf K H (.int i) (.type "int")
 |str(x:Str):TyOf K H (.str x) (.type "str")
 |flt(x:UInt64):TyOf K H (.flt x) (.type "float")
 |lst{a:Addr}{xs:List V}(e:H a=some (.lst xs)):TyOf K H (.ref a) (.type "list")
 |frz{a:Addr}{o:Obj}{xs:List V}(e:H a=some (.frz o (.lst xs))):TyOf K H (.ref a) (.type "list")
 |tup{a:Addr}{xs:List V}(e:H a=some (.tup xs)):TyOf K H (.ref a) (.type "tuple")
 |dK{a:Addr}{kvs:List (Key×V)}(e:H a=some (.dK kvs)):TyOf K H (.ref a) (.type "dict")
 |dT{a:Addr}{kvs:List (List Key×V)}(e:H a=some (.dT kvs)):TyOf K H (.ref a) (.type "dict")
 |ins{a C dx:Addr}{fs:List (Str×V)}(e:H a=some (.ins C dx fs))(cl:Cls K C)(ha:uG K (.ref C) "__class__"=some (some (.builtin "object.__class__")))
   (hn:PySem.W.specialIn K (.builtin "object.__class__") "__get__"=some (some (.builtin "getset_descriptor.__get__")))(htk:PySem.W.takesIn K (.builtin "object.__class__")=some true)
   (hm:u3 K C (.type "object")=some true):TyOf K H (.ref a) (.ref C)
end
structure Room(k:Nat)(A:Around):Prop where
 hd:A.handled=none
 dp:A.depth+3*k+5<recursionLimit
 un:A.units+16*k+200<cLine
theorem Room.mono{j k:Nat}{A:Around}(r:Room k A)(h:j<=k):Room j A:=⟨r.hd,by have:=r.dp;lia,by have:=r.un;lia⟩
theorem Room.deeper{k:Nat}{A:Around}(r:Room (k+1) A)(env:Env):Room k (A.deeper env) :=
 ⟨r.hd,by have:=r.dp;show A.depth+1+3*k+5<_;lia,by have:=r.un;show A.units+3+16*k+200<_;lia⟩
theorem Room.depth{k:Nat}{A:Around}(r:Room k A):A.depth<recursionLimit:=by have:=r.dp;lia
theorem Room.units{k:Nat}{A:Around}(r:Room k A):A.units+64<cLine:=by have:=r.un;lia
theorem Room.units0{k:Nat}{A:Around}(r:Room k A):A.units<cLine:=by have:=r.un;lia
def tNil:TA:=λ_ H Q=>Q [] H
def xr(ta:TE)(tr:TA):TA:=λσ H Q=>ta σ H λx H1=>tr σ H1 λxs H2=>Q (x::xs) H2
section
variable{X:Cx}{e:Expr}{es:List Expr}{te:TE}{t:TA}{pos:Pos}
theorem zb:PA X [] tNil:=λ_ _ _ _ H Q I h=>Calls.spliced_nil ⟨[],H,I,.nil,h⟩
theorem za(ha:PE X e te)(hr:PA X es t)(hs:starEach (e::es) X.env=(false,eval e X.env)::starEach es X.env:=by rfl):PA X (e::es) (xr te t):=by
 intro pos pins s σ H Q I h;rw[hs];show wpAny _ _ (spliced ((false,eval e X.env)::backTo pos (starEach es X.env))) _ _ s;refine Calls.spliced_cons (thn (ha pins s σ H _ I h) λu s1 h9=>?_);obtain⟨x,H1,I1,r1,q1⟩:=h9;exact thn (hr pos pins s1 σ H1 _ I1 q1) λus s2 ⟨xs,H2,I2,r2,q2⟩=>⟨x::xs,H2,I2,.cons r1 r2,q2⟩
def tTup(t:TA):TE:=λσ H Q=>t σ H λxs H1=>xs.length<=sizeLine/\∀p,H1 p=none->Q (.ref p) (upd H1 p (.tup xs))
def tLst(t:TA):TE:=λσ H Q=>t σ H λxs H1=>xs.length<=sizeLine/\∀p,H1 p=none->Q (.ref p) (upd H1 p (.lst xs))
theorem yM{x1}(h:PA X es t):PE X (.Tuple es x1 pos) (tTup t):=by
 intro pins s σ H Q I hq;refine wpAny_Tuple_spliced (thn (h pos pins s σ H _ I hq) λus s1 ⟨xs,H1,I1,r,z,q⟩=>⟨by rw[<-r.length];exact z,?_⟩);have hf:H1 s1.heap.objs.size=none:=I1.hok.fresh (kc _);refine⟨.ref s1.heap.objs.size,upd H1 s1.heap.objs.size (.tup xs),I1.laid (t':=s1.toks) (λb u e=>Heap.get?_push_of_some _ e) (kc _) ?_,rfl,q _ hf⟩;exact⟨z,us,r,⟨_,Heap.get?_push_size _ rfl,rfl,_,rfl⟩⟩
theorem zO(h:PA X es t):PE X (.List es pos) (tLst t):=by
 intro pins s σ H Q I hq;refine wpAny_List_spliced (thn (h pos pins s σ H _ I hq) λus s1 ⟨xs,H1,I1,r,z,q⟩=>⟨by rw[<-r.length];exact z,?_⟩);have hf:H1 s1.heap.objs.size=none:=I1.hok.fresh (kc _);refine⟨.ref s1.heap.objs.size,upd H1 s1.heap.objs.size (.lst xs),I1.laid (t':=s1.toks) (λb u e=>Heap.get?_push_of_some _ e) (kc _) ?_,rfl,q _ hf⟩;exact⟨z,us,0,r,Heap.get?_push_size _ rfl⟩
end
abbrev Sp:=List V->Hp->VK->XK->Prop
abbrev CXT:=List Env->Hp->Shared->XK->Value->Shared->Prop
structure Env0(P:Program)(w:World)(K:Frag)(mg:Str->Option Value)(base:Heap)(A:Around)(outer:List Env)(s:Shared)(H:Hp):Prop where
 frames:A.frames=some outer
 mod:Mod K mg base
 bs:∀b o,base.get? b=some o->s.heap.get? b=some o/\H b=none
 bsz:base.objs.size<=s.heap.objs.size
 funs:s.heap.FunFrames base outer
 frf:∀b∈frs outer,H b=none
 hok:HOk P w H s.heap
 bare:AllBare s.gens
def CE(outer:List Env)(P:Program)(w:World)(H:Hp)(s:Shared)(Q:VK)(u:Value)(s':Shared):Prop :=
 ∃v H',s'.os=s.os/\AllBare s'.gens/\Un (frs outer) [] H H' s.heap s'.heap/\HOk P w H' s'.heap/\RelV v u/\Q v H'
def CR(CX:CXT)(outer:List Env)(P:Program)(w:World)(H:Hp)(s:Shared)(Q:VK)(E:XK)(r:Result)(s':Shared):Prop :=
 match r with
 |.ok (.ret u)=>CE outer P w H s Q u s'
 |.ok _=>False
 |.error e=>CX outer H s E e s'
structure FnOk(P:Program)(w:World)(K:Frag)(mg:Str->Option Value)(base:Heap)(CX:CXT)(k:Nat)(f:Addr)(fd:FuncData)(ps:List Str)(sp:Sp):Prop where
 len:∀vs H Q E,sp vs H Q E->vs.length=ps.length
 run:∀(A:Around)(outer:List Env)(s:Shared)(H:Hp)(args:Args)(us:List Value)(vs:List V)(Q:VK)(E:XK),Room k A->Env0 P w K mg base A outer s H->BindsTo s fd args (ps.zip us)->Vals vs us->sp vs H Q E ->
  codeAny (model P w) A (.call (.ref f) args) (CR CX outer P w H s Q E) s
section
variable{X:Cx}{pins:List (Addr×Obj)}{σ:St}{H:Hp}{s s':Shared}
theorem Inv.env0(I:Inv X pins σ H s):Env0 X.prog X.w X.K X.mg X.base X.A X.stack s H :=
 ⟨I.ok.frames,I.ok.mod,I.bs,kn I.ok.bsz I.sz,I.stack,I.stkFree,I.hok,I.bare⟩
theorem Inv.after{Q:VK}{u:Value}(I:Inv X pins σ H s)(h:CE X.stack X.prog X.w H s Q u s'):EP X pins σ Q u s':=by
 obtain⟨v,H',os,bare,un,hok,r,q⟩:=h;obtain⟨hh,g,d,t,os'⟩:=s';obtain rfl:os'=s.os:=os;exact⟨v,H',I.call (h':=hh) (g':=g) (d':=d) (t':=t) (ch:=[]) un hok bare (λb z=>absurd z (by simp)),r,q⟩
end
def zeu(sp:Sp)(dvs:List V)(E:XK)(t:TA):TE:=λσ H Q=>t σ H λvs H1=>sp (vs++dvs) H1 Q E
def Binds(K:Frag)(fd:FuncData)(ps:List Str)(ds:List Value):Prop :=
 ∀(s:Shared)(us:List Value),K.In s.heap->(us++ds).length=ps.length->BindsTo s fd ⟨us,[]⟩ (ps.zip (us++ds))
theorem Binds.all{K:Frag}{fd:FuncData}{ps:List Str}(h:∀us:List Value,us.length=ps.length->bindArgs fd ⟨us,[]⟩=pure (ps.zip us)):Binds K fd ps []:=λs us _ hl=>by
 rw[vq]at hl ⊢;exact .of_eq (h us hl)
def qF(CX:CXT)(X:Cx)(E:XK):Prop:=∀(pins:List (Addr×Obj))(σ:St)(H:Hp)(s:Shared)(e:Value)(s':Shared),Inv X pins σ H s->CX X.stack H s E e s'->X.xe e s'
section
variable{X:Cx}{CX:CXT}{k:Nat}{f C:Addr}{fd:FuncData}{ps:List Str}{sp:Sp}{dvs:List V}{ds:List Value}{E:XK}{x m:Str}{p pos apos:Pos}{e o:Expr}{es:List Expr}{ta:TE}{t:TA}
theorem zc5{pins:List (Addr×Obj)}{σ:St}{H:Hp}{s:Shared}{Q:VK}{us:List Value}{vs:List V}(F:FnOk X.prog X.w X.K X.mg X.base CX k f fd ps sp)(hr:Room k X.A)(hb:Binds X.K fd ps ds)(hd:Vals dvs ds)(hx:qF CX X E)
  (I:Inv X pins σ H s)(r:Vals vs us)(h:sp (vs++dvs) H Q E):wpAny (model X.prog X.w) X.A (call (.ref f) us) (EP X pins σ Q) X.xe s:=by
 have r2:Vals (vs++dvs) (us++ds):=r.append hd;have hl:(us++ds).length=ps.length:=by rw[<-r2.length];exact F.len _ _ _ _ h
 refine wpAny_call (codeAny_mono (F.run X.A X.stack s H ⟨us,[]⟩ (us++ds) (vs++dvs) Q E hr I.env0 (hb s us I.kIn hl) r2 h) λr s' hq=>?_);cases r with
 |error e=>exact hx pins σ H s e s' I hq
 |ok fl =>
  cases fl with
  |ret u=>exact I.after hq
  |next=>exact False.elim hq
  |brk=>exact False.elim hq
  |cont=>exact False.elim hq
theorem zh(F:FnOk X.prog X.w X.K X.mg X.base CX k f fd ps sp)(hr:Room k X.A)(hg:Gl X x)(hm:X.mg x=some (.ref f))(hk:ut X.K (.ref f)=true)(hb:Binds X.K fd ps ds)(hd:Vals dvs ds)(hx:qF CX X E)
  (ha:PA X (e::es) t)(hdb:(x==("__debug__" : Str))=false:=by decide)(he:starEach (e::es) X.env=(false,eval e X.env)::starEach es X.env:=by rfl)(hpl:(backTo pos (starEach es X.env)).any (·.1)=false:=by rfl):
  PE X (.Call (.Name x p) (e::es) [] pos) (zeu sp dvs E t):=by
 intro pins s σ H Q I h;refine wpAny_Call_Name_kw (x5 I hg hm ?_ hdb);refine PySem.W.callWith_K (h₀:=X.base) I.ok.mod.kin hk (thn (ha pos pins s σ H _ I h) λus s1 ⟨vs,H1,I1,r,q⟩=>⟨I1.kIn,?_⟩) he hpl;exact zc5 F hr hb hd hx I1 r q
end
def PK(X:Cx)(kws:List Keyword)(t:TA):Prop :=
 ∀(pos:Pos)(pins:List (Addr×Obj))(s:Shared)(σ:St)(H:Hp)(Q:List V->Hp->Prop),Inv X pins σ H s->t σ H Q->wpAny (model X.prog X.w) X.A (evalAll ((backToKw pos (keywordEach kws X.env)).map (·.2))) (AP X pins σ Q) X.xe s
section
variable{X:Cx}{CX:CXT}{k:Nat}{f C:Addr}{fd:FuncData}{ps ks:List Str}{sp:Sp}{E:XK}{x m:Str}{p pos apos kpos:Pos}{e o:Expr}{es:List Expr}{kws:List Keyword}{te ta:TE}{t tk:TA}{nm:Option Str}
theorem QX:PK X [] tNil:=λ_ _ _ _ H Q I h=>wpAny_evalAll_nil ⟨[],H,I,.nil,h⟩
theorem Wh(ha:PE X e te)(hr:PK X kws t):PK X (⟨nm,e,kpos⟩::kws) (xr te t):=by
 intro pos pins s σ H Q I h;show wpAny _ _ (evalAll ((do let v <-eval e X.env;standAt pos;pure v)::(backToKw pos (keywordEach kws X.env)).map (·.2))) _ _ s;refine wpAny_evalAll_cons (wpAny_bind (thn (ha pins s σ H _ I h) λu s1 ⟨x,H1,I1,r1,q1⟩=>wpAny_bind (wpAny_standAt (wpAny_pure ?_))));exact thn (hr pos pins s1 σ H1 _ I1 q1) λus s2 ⟨xs,H2,I2,r2,q2⟩=>⟨x::xs,H2,I2,.cons r1 r2,q2⟩
end
structure zn(N P:List Str)(sc:Scope):Prop where
 kind:sc.kind=.function
 co:sc.isCoroutine=false
 gen:sc.isGenerator=false
 nd:N.Nodup
 pre:N.take P.length=P
 par:∀x∈P,sc.names.lookup x=some .local\/sc.names.lookup x=some .cell
 nofree:∀y∈sc.names,y.2≠.free
theorem ZU{kindOf:Str->Option NameKind}{x:Str}:∀{binds:List (Str×Value)}{m:Str->Option Value},(∀v,(x,v)∉binds)->bindL kindOf binds m x=m x
 |[],_,_=>rfl
 |(n,v)::r,m,h=>by
  unfold bindL;rw[ZU λw hw=>h w (kg _ hw)];split
  .have:x≠n:=by rintro rfl;exact h v ke
   simp[this]
  .rfl
theorem ZV{kindOf:Str->Option NameKind}{x:Str}:∀{binds:List (Str×Value)}{m:Str->Option Value},(∀v,(x,v)∉binds)->bindC kindOf binds m x=m x
 |[],_,_=>rfl
 |(n,v)::r,m,h=>by
  unfold bindC;rw[ZV λw hw=>h w (kg _ hw)];split
  .rfl
  .have:x≠n:=by rintro rfl;exact h v ke
   simp[this]
theorem ZW{kindOf:Str->Option NameKind}{x:Str}{v:Value}:∀{P:List Str}{vs:List Value}{i:Nat}{m:Str->Option Value},P.Nodup->P[i]?=some x->vs[i]?=some v->kindOf x=some .local ->
  bindL kindOf (P.zip vs) m x=some v
 |[],_,_,_,_,h,_,_=>by simp at h
 |_::_,[],_,_,_,_,h,_=>by simp at h
 |p::P,w::vs,0,m,nd,h1,h2,hk=>by
  simp at h1 h2;subst h1;subst h2;show bindL kindOf ((p,w)::P.zip vs) m p=_;unfold bindL;rw[ZU λv hv=>(vz.mp nd).1 (List.of_mem_zip hv).1,if_pos hk];simp
 |p::P,w::vs,i+1,m,nd,h1,h2,hk=>by
  show bindL kindOf ((p,w)::P.zip vs) m x=_;unfold bindL;exact ZW (i:=i) (vz.mp nd).2 (by simpa using h1) (by simpa using h2) hk
theorem ZX{kindOf:Str->Option NameKind}{x:Str}{v:Value}:∀{P:List Str}{vs:List Value}{i:Nat}{m:Str->Option Value},P.Nodup->P[i]?=some x->vs[i]?=some v->kindOf x≠some .local ->
  bindC kindOf (P.zip vs) m x=some v
 |[],_,_,_,_,h,_,_=>by simp at h
 |_::_,[],_,_,_,_,h,_=>by simp at h
 |p::P,w::vs,0,m,nd,h1,h2,hk=>by
  simp at h1 h2;subst h1;subst h2;show bindC kindOf ((p,w)::P.zip vs) m p=_;unfold bindC;rw[ZV λv hv=>(vz.mp nd).1 (List.of_mem_zip hv).1,if_neg hk];simp
 |p::P,w::vs,i+1,m,nd,h1,h2,hk=>by
  show bindC kindOf ((p,w)::P.zip vs) m x=_;unfold bindC;exact ZX (i:=i) (vz.mp nd).2 (by simpa using h1) (by simpa using h2) hk
def start(N:List Str)(vs:List V):St:=vs.map some++kq (N.length-vs.length) none
def cxOf(CX:CXT)(P:Program)(w:World)(K:Frag)(mg:Str->Option Value)(base:Heap)(N:List Str)(qual:Str)(scope:Scope)(f:Addr)(cd:Value)(A:Around)(outer:List Env)(s:Shared)(H:Hp)(E:XK):Cx where
 prog:=P
 w:=w
 K:=K
 mg:=mg
 base:=base
 A:=A.deeper (envOfC qual scope s.heap.objs.size f cd)
 N:=N
 s₀:=s
 H₀:=H
 env:=envOfC qual scope s.heap.objs.size f cd
 outer:=outer
 stack:=envOfC qual scope s.heap.objs.size f cd::outer
 ex:=[]
 calm:=true
 fn:=λ_=>true
 pn:=[]
 xe:=λe s'=>wpAny (model P w) (A.deeper (envOfC qual scope s.heap.objs.size f cd)) (leaving (envOfC qual scope s.heap.objs.size f cd) e) (λ_ s''=>CX outer H s E e s'') (λe' s''=>CX outer H s E e' s'') s'
theorem YG{sc:Scope}{n:Nat}{x:Str}(h:sc.names.lookup x=some .cell):∃c,(cellsFrom n sc.names []).lookup x=some c:=by
 have q:=PySem.W.cellsFrom_some sc.names n [] (.inl h);exact uR.mp q
theorem QY{CX:CXT}{P:Program}{w:World}{K:Frag}{mg:Str->Option Value}{base:Heap}{N ps:List Str}{qual:Str}{scope:Scope}{f:Addr}{cd:Value}{A:Around}{outer:List Env}{s s1:Shared}{H:Hp}{E:XK}{us:List Value}{vs:List V}
  (S:zn N ps scope)(hd:A.handled=none)(e0:Env0 P w K mg base A outer s H)(hl:vs.length=ps.length)(r:Vals vs us)
  (x:InCallC s s.heap.objs.size (bindL (envOfC qual scope s.heap.objs.size f cd).kindOf (ps.zip us) λ_=>none) (cellsFrom (s.heap.objs.size+1) scope.names []) (bindC (envOfC qual scope s.heap.objs.size f cd).kindOf (ps.zip us) λ_=>none) s1):
  Inv (cxOf CX P w K mg base N qual scope f cd A outer s H E) [] (start N vs) H s1:=by
 have hpl:ps.length<=N.length:=by have:=congrArg List.length S.pre;rw[kJ]at this;lia
 obtain⟨h1,tk,rfl,hk⟩:=x.done;have noA:∀b:Addr,b∉(cxOf CX P w K mg base N qual scope f cd A outer s H E).ex:=λb z=>absurd (show b∈([]:List Addr)from z) (by simp);refine⟨⟨e0.mod,S.kind,rfl,rfl,kc _,λy z c h1 h2=>?_,λy hy=>?_,λy c _ h=>?_,λ_=>hd,Around.frames_deeper e0.frames,.inr ⟨rfl,rfl⟩,λb z=>absurd z (noA b),e0.bs,e0.bsz,λb _ _=>noA b,λb z=>absurd z (noA b),e0.funs,e0.frf⟩,
  rfl,e0.bare,Un.kept hk,⟨_,x.toInCall.ns,λi y v h1 h2 h3=>?_⟩,λy c h=>⟨_,x.cell y c h⟩,e0.hok.fresh (kc _),λy c h=>?_,λp hp=>absurd (show p∈([]:List (Addr×Obj))from hp) (by simp),e0.hok.kept hk,?_⟩
 .exact name_of_addr x.apart (uT h1) (uT h2)
 .have hy:scope.names.lookup y=some .cell\/scope.names.lookup y=some .free:=hy;rcases hy with hy|hy
  .exact YG hy
  .exact absurd rfl (S.nofree _ (uT hy))
 .exact vw (x.above y c (uT h))
 .have hi:i<vs.length:=by
   unfold start at h2;by_cases hi:i<vs.length
   .exact hi
   .rw [vk (by simpa using hi)]at h2;rw[List.getElem?_replicate]at h2;split at h2<;>cases h2
  have ha:vs[i]?=some v:=by
   unfold start at h2;rw[vi (by simpa using hi),k6]at h2;cases e:vs[i]? with
   |none=>rw[e]at h2;cases h2
   |some a=>rw[e]at h2;cases h2;rfl
  obtain⟨u,hu,rv⟩:=r.get ha;have hp:ps[i]?=some y:=by
   rw[<-S.pre,List.getElem?_take_of_lt ()];exact h1
  have ndP:ps.Nodup:=by rw[<-S.pre];exact S.nd.sublist (List.take_sublist _ _)
  refine⟨u,rv,?_⟩;rcases S.par y (kH hp)with k|k
  .exact .inl ⟨k,ZW ndP hp hu k⟩
  .obtain ⟨c,e⟩:=YG (n:=s.heap.objs.size+1) k;refine .inr ⟨.inl k,c,e,?_⟩;have q:=x.cell y c e;rw[ZX ndP hp hu (by show scope.names.lookup y≠_;rw[k];decide)]at q;exact q
 .exact e0.hok.fresh (vw (x.above y c (uT h)))
 .unfold start;show _=N.length;rw[ki,ka,vx];lia
theorem zbv{CX:CXT}{P:Program}{w:World}{K:Frag}{mg:Str->Option Value}{base:Heap}{k:Nat}{f:Addr}{name qual:Str}{params:Arguments}{body:List Stmt}{scope:Scope}{dV kV doc pm cdv ct oc:Value}{an od:Option Addr}
  {osl:Array (Option Value)}{N ps:List Str}{sp:Sp}(lk:K.lookup f=some ⟨oc,od,.func (uo name qual params body scope dV kV doc pm an cdv ct),osl⟩)(hcd:PySem.W.codeIn K cdv qual=true)(S:zn N ps scope)
  (len:∀vs H Q E,sp vs H Q E->vs.length=ps.length)
  (hbody:∀(A:Around)(outer:List Env)(s:Shared)(H:Hp)(vs:List V)(Q:VK)(E:XK),Room k (A.deeper (envOfC qual scope s.heap.objs.size f cdv))->sp vs H Q E ->
   ∃t,PSs (cxOf CX P w K mg base N qual scope f cdv A outer s H E) body t/\t {nx:=λ_ H'=>Q .non H',rt:=Q} (start N vs) H):
  FnOk P w K mg base CX (k+1) f (uo name qual params body scope dV kV doc pm an cdv ct) ps sp:=by
 refine⟨len,λA outer s H args us vs Q E hr e0 hb r hsp=>?_⟩;have hl:=len _ _ _ _ hsp;have KX:K.In s.heap:=e0.mod.kin.keeps λb o e=>(e0.bs b o e).1;have lim:s.heap.NoLimit:=e0.mod.nolimit.keeps λb o e=>(e0.bs b o e).1;have hkind:∀y∈ps.zip us,scope.names.lookup y.1=some .local\/(scope.names.lookup y.1=some .cell/\((cellsFrom (s.heap.objs.size+1) scope.names []).lookup y.1).isSome=true):=λ⟨n,v⟩ hy=>by
  rcases S.par n (List.of_mem_zip hy).1 with q|q
  .exact .inl q
  .exact .inr ⟨q,PySem.W.cellsFrom_some _ _ _ (.inl q)⟩
 refine codeAny_call_function hr.depth (KX _ _ lk) rfl S.co S.gen rfl (PySem.W.codeRec_of KX hcd) (hb _ _ _ _ ?_);refine wpAny_newFunctionEnv_cells S.kind hkind λenv he s1 x=>?_;subst he;refine⟨lim.keeps x.toInCall.keep,codeAny_func ?_⟩;obtain⟨t,ht,hq⟩:=hbody A outer s H vs Q E (hr.deeper _) hsp;have I:Inv (cxOf CX P w K mg base N qual scope f cdv A outer s H E) [] (start N vs) H s1:=QY S hr.hd e0 hl r x;refine wpAny_mono (ht [] s1 (start N vs) H _ I hq) (λfl s' hs=>?_) λe s' hs=>hs;have fin:∀{σ':St}{H':Hp}{v:V}{u:Value},Inv (cxOf CX P w K mg base N qual scope f cdv A outer s H E) [] σ' H' s'->RelV v u->Q v H'->CE outer P w H s Q u s' :=
  λ{σ' H' v u} J rv q=>⟨v,H',J.os,J.bare,J.base,J.hok,rv,q⟩
 cases fl with
 |ret u =>
  obtain⟨v,σ',H',J,rv,q⟩:=hs;exact fin J rv q
 |next =>
  obtain⟨σ',H',J,q⟩:=hs;exact fin (v:=V.non) (u:=Value.none) J rfl q
 |brk =>
  obtain⟨_,_,_,q⟩:=hs;exact False.elim q
 |cont =>
  obtain⟨_,_,_,q⟩:=hs;exact False.elim q
section
variable{X:Cx}{x:Str}{p pos:Pos}{e:Expr}{es:List Expr}{t:TA}{id T:String}{r:List V->Hp->VK->Prop}
def tCB(r:List V->Hp->VK->Prop)(t:TA):TE:=λσ H Q=>t σ H λvs H1=>r vs H1 Q
theorem zi(hc:yz X (.builtin id) r)(hg:Gl X x)(hm:X.mg x=none)(hv:bootBuiltins x=some (.builtin id))(ha:PA X (e::es) t)(hn:x ≠ "__name__" := by decide)(hdb:(x==("__debug__" : Str))=false:=by decide)
  (he:starEach (e::es) X.env=(false,eval e X.env)::starEach es X.env:=by rfl)(hpl:(backTo pos (starEach es X.env)).any (·.1)=false:=by rfl):PE X (.Call (.Name x p) (e::es) [] pos) (tCB r t):=by
 intro pins s σ H Q I h;refine wpAny_Call_Name_kw (yT I hg hm hv ?_ hn hdb);exact bF (thn (ha pos pins s σ H _ I h) λus s1 ⟨vs,H1,I1,r1,q1⟩=>hc pins s1 σ H1 vs us Q I1 r1 q1) he hpl
theorem xz(hc:yz X (.type T) r)(hg:Gl X x)(hm:X.mg x=none)(hv:bootBuiltins x=some (.type T))(ha:PA X (e::es) t)(hn:x ≠ "__name__" := by decide)(hdb:(x==("__debug__" : Str))=false:=by decide)
  (he:starEach (e::es) X.env=(false,eval e X.env)::starEach es X.env:=by rfl)(hpl:(backTo pos (starEach es X.env)).any (·.1)=false:=by rfl):PE X (.Call (.Name x p) (e::es) [] pos) (tCB r t):=by
 intro pins s σ H Q I h;refine wpAny_Call_Name_kw (yT I hg hm hv ?_ hn hdb);exact vN (thn (ha pos pins s σ H _ I h) λus s1 ⟨vs,H1,I1,r1,q1⟩=>hc pins s1 σ H1 vs us Q I1 r1 q1) he hpl
end
end _L2
namespace _HT
open PySem PyProof.Rows
section
variable{prog:Program}{w:World}{A:Around}{E:Value->Shared->Prop}{s:Shared}
def sIx(n d:Nat):Option Int->Nat
 |none=>d
 |some v=>if v<0 then(v+(n:Int)).toNat else min v.toNat n
theorem xv(n d:Nat):sIx n d none=d:=rfl
theorem jh(n d k:Nat):sIx n d (some (k:Int))=min k n:=by
 show(if(k:Int)<0 then((k:Int)+(n:Int)).toNat else min (k:Int).toNat n)=min k n;rw[if_neg (),uc]
theorem YH(n d:Nat)(hd:d<=n)(o:Option Int):sIx n d o<=n:=by
 cases o with
 |none=>exact hd
 |some v =>
  show(if v<0 then(v+(n:Int)).toNat else min v.toNat n)<=n;by_cases hv:v<0
  .rw [if_pos hv];lia
  .rw [if_neg hv];exact Nat.min_le_right _ _
theorem Wj(v:Int)(n d:Nat):(if v<0 then max (v+(n:Int)) 0 else min v (n:Int))=((sIx n d (some v):Nat):Int):=by
 show(if v<0 then max (v+(n:Int)) 0 else min v (n:Int))=(((if v<0 then(v+(n:Int)).toNat else min v.toNat n):Nat):Int);by_cases hv:v<0
 .simp only[if_pos hv];lia
 .simp only[if_neg hv];lia
theorem WV(lo hi:Option Int)(n:Nat):Builtin.Slice.sliceAdjust lo hi 1 (n:Int)=(((sIx n 0 lo:Nat):Int),((sIx n n hi:Nat):Int)):=by
 have h1:¬((1:Int)<0):=⋯
 unfold Builtin.Slice.sliceAdjust;simp only[h1,if_false];refine Prod.ext ?_ ?_
 .cases lo with
  |none=>rfl
  |some v=>exact Wj v n 0
 .cases hi with
  |none=>rfl
  |some v=>exact Wj v n n
theorem WW(i j:Nat):Builtin.Slice.slicePlaces (i:Int) (j:Int) 1=j-i:=by
 unfold Builtin.Slice.slicePlaces;have h1:(1:Int)>0:=⋯
 simp only[h1,if_true,Int.ediv_one];split<;>lia
theorem j0{v:Value}{o:Option Int}{Q:Option Int->Shared->Prop}(p:IsPart v o)(h:Q o s):wpAny (model prog w) A (Builtin.Slice.slicePartIndex v) Q E s:=by
 cases p with
 |none=>exact slicePart_none h
 |int i t=>exact slicePart_int h
theorem jA{sl:Addr}{vl vu:Value}{lo hi:Option Int}{n:Nat}{Q:Int×Int×Nat->Shared->Prop}(hs:s.heap.IsSliceOf sl vl vu .none)(pl:IsPart vl lo)(pu:IsPart vu hi)
  (h:Q (((sIx n 0 lo:Nat):Int),1,sIx n n hi-sIx n 0 lo) s):wpAny (model prog w) A (Builtin.Slice.sliceApplied (.ref sl) (pure (n:Int))) Q E s:=by
 obtain⟨os,hos,hcs,hds⟩:=id hs;unfold Builtin.Slice.sliceApplied Builtin.Slice.sliceFields;refine wpAny_bind (wpAny_bind (wpAny_field hos hds (x:=vl) rfl (wpAny_bind (wpAny_field hos hds (x:=vu) rfl (wpAny_bind (wpAny_field hos hds (x:=.none) rfl (wpAny_pure ?_)))))));refine wpAny_bind (slicePart_none ?_);show wpAny _ _ (if((1:Int)==0)=true then _ else _) _ _ s;rw[if_neg ⋯];refine wpAny_bind (j0 pl (wpAny_bind (j0 pu (wpAny_bind (wpAny_pure ?_)))));show wpAny _ _ (match Builtin.Slice.sliceAdjust lo hi 1 (n:Int)with|(lo,hi)=>pure (lo,(1:Int),Builtin.Slice.slicePlaces lo hi 1)) _ _ s;rw[WV lo hi n];show wpAny _ _ (pure (((sIx n 0 lo:Nat):Int),(1:Int),Builtin.Slice.slicePlaces ((sIx n 0 lo:Nat):Int) ((sIx n n hi:Nat):Int) 1)) _ _ s;rw[WW];exact wpAny_pure h
theorem zaH(xs:Array Value)(i k:Nat):((vc k).filterMap λ(m:Nat)=>xs[((i:Int)+(m:Int)*1).toNat]?).toArray=((xs.toList.drop i).take k).toArray:=by
 have e:(λ(m:Nat)=>xs[((i:Int)+(m:Int)*1).toNat]?)=λm=>xs[i+m]?:=by
  funext m;have:((i:Int)+(m:Int)*1).toNat=i+m:=()
  rw[this]
 rw[e];have:=pick_run xs i k;rw[List.filterMap_map]at this;have e2:((λx=>xs[x]?)∘λx=>i+x)=λm=>xs[i+m]?:=rfl;rw[e2]at this;rw[this]
theorem jq{t sl:Addr}{items:Array Value}{vl vu:Value}{lo hi:Option Int}{Q:Value->Shared->Prop}(ht:IsTup s.heap t items)(hs:s.heap.IsSliceOf sl vl vu .none)(pl:IsPart vl lo)(pu:IsPart vu hi)
  (hw:¬(sIx items.size 0 lo=0/\sIx items.size items.size hi=items.size))
  (h:Q (.ref s.heap.objs.size) {s with heap:=s.heap.push {cls:=.type "tuple",data:=.seq ((items.toList.drop (sIx items.size 0 lo)).take (sIx items.size items.size hi-sIx items.size 0 lo)).toArray}})
  (hsz:items.size<=sizeLine):wpAny (model prog w) A (getItem (.ref t) (.ref sl)) Q E s:=by
 have htake:sizeOk (.seq ((items.toList.drop (sIx items.size 0 lo)).take (sIx items.size items.size hi-sIx items.size 0 lo)).toArray):=by
  show((items.toList.drop (sIx items.size 0 lo)).take (sIx items.size items.size hi-sIx items.size 0 lo)).toArray.size<=sizeLine;rw[ko,kJ,kZ,Array.length_toList];omega
 have hj:sIx items.size items.size hi<=items.size:=YH _ _ (kc _) hi;obtain⟨os,hos,hcs,hds⟩:=id hs;have hTs:s.TypeIs (.ref sl) "slice" := ⟨os,hos,hcs⟩;unfold getItem
 try with_reducible refine wpAny_holding ?_
 first|refine wpAny_bind (wpAny_pure ?_)|skip
 refine wpAny_bind (wpAny_sequenceKey ht.typeIs ⋯ ?_);refine wpAny_bind (wpAny_callSpecial?_slot (name:=Str.ofString "__getitem__") ht.typeIs PyProof.Rows.slot_tuple_getitem
  (wpAny_call_entry PyProof.Rows.slot_tuple_getitem ht.typeIs entry_tuple_getitem ?_ (args_tuple_getitem _ _)))
 show wpAny _ _ (Builtin.Tuple.tupleItemsOf (.ref t) >>= _) _ _ s;refine wpAny_bind (tupleItemsOf_ ht ?_);refine wpAny_bind (wpAny_typeOf hTs ?_);rw[if_pos ⋯];refine wpAny_bind (jA hs pl pu ?_);have hno:¬((((sIx items.size 0 lo:Nat):Int)==0&&(1:Int)==1&&(sIx items.size items.size hi-sIx items.size 0 lo)==items.size)=true):=by
  intro q;rw[vj,vj]at q;have q1:((sIx items.size 0 lo:Nat):Int)=0:=eq_of_beq q.1.1;have q2:sIx items.size items.size hi-sIx items.size 0 lo=items.size:=eq_of_beq q.2;exact hw ⟨(),by omega⟩
 show wpAny _ _ (if(((sIx items.size 0 lo:Nat):Int)==0&&(1:Int)==1&&(sIx items.size items.size hi-sIx items.size 0 lo)==items.size)=true then _ else _) _ _ s;rw[if_neg hno,zaH]
 first
  |exact wpAny_bind (m:=Builtin.Tuple.tupleExact _) (wpAny_newObj_type (wpAny_pure ⟨_,rfl,wpAny_pure h⟩) htake)
  |exact wpAny_bind (m:=Builtin.Tuple.tupleExact _) (wpAny_newObj_type (wpAny_bind (wpAny_pure (wpAny_pure ⟨_,rfl,wpAny_pure h⟩))) htake)
  |exact wpAny_bind (wpAny_bind (m:=Builtin.Tuple.tupleExact _) (wpAny_newObj_type (wpAny_pure (wpAny_pure ⟨_,rfl,wpAny_pure h⟩)) htake))
  |exact wpAny_bind (wpAny_bind (m:=Builtin.Tuple.tupleExact _) (wpAny_newObj_type (wpAny_pure ⟨_,rfl,wpAny_pure h⟩) htake))
end
end _HT
namespace _L2
open PySem PySem.Spec PyProof.Rows
abbrev TO:=St->Hp->(Option Int->Hp->Prop)->Prop
def PO(X:Cx)(e:Option Expr)(t:TO):Prop :=
 ∀(pins:List (Addr×Obj))(s:Shared)(σ:St)(H:Hp)(Q:Option Int->Hp->Prop),Inv X pins σ H s->t σ H Q ->
  wpAny (model X.prog X.w) X.A (evalPart e X.env) (λu s'=>∃o H',Inv X pins σ H' s'/\IsPart u o/\Q o H') X.xe s
def zbV:TO:=λ_ H Q=>Q none H
def zev(t:TE):TO:=λσ H Q=>t σ H λx H1=>∃i,x=.int i/\Q (some i) H1
section
variable{X:Cx}{e:Expr}{te:TE}{lo hi:Option Expr}{tl th:TO}{pos p2:Pos}
theorem xi:PO X none zbV:=by
 intro pins s σ H Q I h;rw[evalPart_none];exact wpAny_pure ⟨none,H,I,.none,h⟩
theorem yj(h:PE X e te):PO X (some e) (zev te):=by
 intro pins s σ H Q I hw;rw[evalPart_some];refine thn (h pins s σ H _ I hw) λu s1 h9=>?_;obtain⟨x,H1,I1,r1,q1⟩:=h9;refine E_1 q1 λi n8=>A_2 n8 λe9 q=>?_;clear n8 q1;subst e9;refine E_1 r1 λt e9=>?_;clear r1;subst e9;exact⟨some i,H1,I1,.int i t,q⟩
def SlR(X:Cx)(r:V->Option Int->Option Int->Hp->VK->Prop):Prop :=
 ∀(pins:List (Addr×Obj))(s:Shared)(σ:St)(H:Hp)(x:V)(v vl vu:Value)(lo hi:Option Int)(sl:Addr)(Q:VK),Inv X pins σ H s->RelV x v->s.heap.IsSliceOf sl vl vu .none->IsPart vl lo->IsPart vu hi->r x lo hi H Q ->
  ∃T id,typeLookup (.type T) "__getitem__" = pure (some (.builtin id))/\s.TypeIs v T/\wpAny (model X.prog X.w) X.A (getItem v (.ref sl)) (EP X pins σ Q) X.xe s
def tSl(r:V->Option Int->Option Int->Hp->VK->Prop)(te:TE)(tl th:TO):TE:=λσ H Q=>te σ H λx H1=>tl σ H1 λl H2=>th σ H2 λu H3=>r x l u H3 Q
theorem yo{r:V->Option Int->Option Int->Hp->VK->Prop}(hr:SlR X r)(he:PE X e te)(hl:PO X lo tl)(hu:PO X hi th):PE X (.Subscript e (.Slice lo hi none p2) pos) (tSl r te tl th):=by
 intro pins s σ H Q I h;refine Subscript_ (thn (he pins s σ H _ I h) λv s1 h9=>?_);obtain⟨x,H1,I1,r1,q1⟩:=h9;refine wpAny_Slice (thn (hl pins s1 σ H1 _ I1 q1) λvl s2 ⟨l,H2,I2,pl,q2⟩=>thn (hu pins s2 σ H2 _ I2 q2) λvu s3 h9=>?_);obtain⟨u,H3,I3,pu,q3⟩:=h9;rw[evalPart_none];refine wpAny_pure ?_;have I4:Inv X pins σ H3 {s3 with heap:=s3.heap.push {cls:=.type "slice",data:=.fields #[vl,vu,.none]}}:=I3.kept (t':=s3.toks) λb ob q=>Heap.get?_push_of_some _ q;obtain⟨T,id,hT,ht,hg⟩:=hr pins {s3 with heap:=s3.heap.push {cls:=.type "slice",data:=.fields #[vl,vu,.none]}} σ H3 x v vl vu l u s3.heap.objs.size Q I4 r1 (Heap.IsSliceOf.new ..) pl pu q3;show wpAny (model X.prog X.w) X.A (subscriptTail e (.Slice lo hi none p2) v (.ref s3.heap.objs.size)) (EP X pins σ Q) X.xe {s3 with heap:=s3.heap.push {cls:=.type "slice",data:=.fields #[vl,vu,.none]}};exact tail_any (ops:=[.ref s3.heap.objs.size,v]) ht hT hg (by with_unfolding_all rfl)
def cutV(xs:List V)(lo hi:Option Int):List V:=(xs.drop (_HT.sIx xs.length 0 lo)).take (_HT.sIx xs.length xs.length hi-_HT.sIx xs.length 0 lo)
theorem wK(xs:List V)(lo hi:Option Int):(cutV xs lo hi).length<=xs.length:=by
 unfold cutV;rw[kJ,kZ];lia
def rSlT(K:Frag):V->Option Int->Option Int->Hp->VK->Prop:=λx lo hi H Q=>∃a xs,x=.ref a/\SqT K H a xs /\
 ¬(_HT.sIx xs.length 0 lo=0/\_HT.sIx xs.length xs.length hi=xs.length)/\∀p,H p=none->Q (.ref p) (upd H p (.tup (cutV xs lo hi)))
theorem QZ:SlR X (rSlT X.K):=by
 intro pins s σ H x v vl vu lo hi sl Q I rx hs pl pu h;refine E_2 h λa xs n8=>A_4 n8 λe9 hx hw q=>?_;clear n8 h;subst e9;cases rx;obtain⟨its,r,ht,hz⟩:=I.tuple hx;have hlen:its.toArray.size=xs.length:=by rw[ko];exact r.length.symm
 refine⟨"tuple",_,PyProof.Rows.slot_tuple_getitem.lookup,ht.typeIs,?_⟩;refine _HT.jq ht hs pl pu (by rw[hlen];exact hw) ?_ (by rw[hlen];exact hz);rw[hlen];refine⟨.ref s.heap.objs.size,_,I.laid (t':=s.toks) (o:=.tup (cutV xs lo hi)) (λb ob q=>Heap.get?_push_of_some _ q) (kc _) ?_,rfl,q _ (I.hok.fresh (kc _))⟩;exact⟨kn (wK xs lo hi) hz,_,(r.drop (_HT.sIx xs.length 0 lo)).take (_HT.sIx xs.length xs.length hi-_HT.sIx xs.length 0 lo),IsTup.new _ _⟩
end
def ixN(n:Nat)(i:Int):Option Nat:=if 0<=i then(if i<n then some i.toNat else none)else if -(n:Int)<=i then some (i+n).toNat else none
def atI{α:Type}(xs:List α)(i:Int):Option α:=(ixN xs.length i).bind λj=>xs[j]?
theorem Wk{n:Nat}{i:Int}{j:Nat}(h:ixN n i=some j):seqIndex? i n=some j/\j<n /\ -(n:Int)<=i/\i<n:=by
 unfold ixN at h;by_cases h0:0<=i
 .rw [if_pos h0]at h;by_cases h1:i<n
  .rw [if_pos h1]at h;have e:i.toNat=j:=Option.some.inj h;exact⟨by rw[seqIndex_of h0 h1,e],(),(),h1⟩
  .rw [if_neg h1]at h;cases h
 .rw [if_neg h0]at h;by_cases h1:-(n:Int)<=i
  .rw [if_pos h1]at h;have e:(i+n).toNat=j:=Option.some.inj h;exact⟨by rw[seqIndex_neg () h1,e],(),h1,()⟩
  .rw [if_neg h1]at h;cases h
theorem Zu{α:Type}{xs:List α}{i:Int}{v:α}(h:atI xs i=some v):∃j,seqIndex? i xs.length=some j/\xs[j]?=some v/\j<xs.length /\ -(xs.length:Int)<=i/\i<xs.length:=by
 unfold atI at h;cases e:ixN xs.length i with
 |none=>rw[e]at h;cases h
 |some j =>
  rw[e]at h;obtain⟨h1,h2,h3,h4⟩:=Wk e;exact⟨j,h1,h,h2,h3,h4⟩
theorem xH{α:Type}{xs:List α}{j:Nat}{v:α}(h:xs[j]?=some v):atI xs (j:Int)=some v:=by
 have hj:j<xs.length:=(kh.mp h).1;have e:ixN xs.length (j:Int)=some j:=by
  unfold ixN;rw[if_pos (),if_pos ()];simp
 unfold atI;rw[e];exact h
theorem wZ{α:Type}(xs:List α)(v:α):atI (xs++[v]) (-1)=some v:=by
 have hl:(xs++[v]).length=xs.length+1:=by simp
 have e:ixN (xs++[v]).length (-1)=some xs.length:=by
  unfold ixN;rw[hl,if_neg ⋯,if_pos ()];congr 1;lia
 unfold atI;rw[e];show(xs++[v])[xs.length]?=some v;simp
def zbW(b:Expr):Prop:=∀o i,subscripted b false o i=operate [o,i] (getItem o i)
def IxR(X:Cx)(r:R2):Prop :=
 ∀(value slice:Expr)(pins:List (Addr×Obj))(s:Shared)(σ:St)(H:Hp)(x y:V)(v u:Value)(Q:VK),Inv X pins σ H s->RelV x v->RelV y u->r x y H Q ->
  subscripted slice false v u=operate [v,u] (getItem v u)->wpAny (model X.prog X.w) X.A (subscriptTail value slice v u) (EP X pins σ Q) X.xe s
def MtR(X:Cx)(id:String)(r:V->List V->Hp->VK->Prop):Prop :=
 ∀(pins:List (Addr×Obj))(s:Shared)(σ:St)(H:Hp)(x:V)(xs:List V)(v:Value)(us:List Value)(Q:VK),Inv X pins σ H s->RelV x v->Vals xs us->r x xs H Q ->
  wpAny (model X.prog X.w) X.A (call (.builtin id) (v::us)) (EP X pins σ Q) X.xe s
section
variable{X:Cx}{a b:Expr}{ta tb:TE}{pos:Pos}
theorem zk{r:R2}(hr:IxR X r)(ha:PE X a ta)(hb:PE X b tb)(hs:zbW b):PE X (.Subscript a b pos) (tOp r ta tb):=by
 intro pins s σ H Q I h;exact Subscript_ (binT ha hb I h λv u s2 x y H2 I2 rx ry q=>hr a b pins s2 σ H2 x y v u Q I2 rx ry q (hs _ _))
def rIxL(K:Frag):R2:=λx y H Q=>∃p xs i v,x=.ref p/\y=.int i/\SqL K H p xs/\atI xs i=some v/\Q v H
def rIxT(K:Frag):R2:=λx y H Q=>∃p xs i v,x=.ref p/\y=.int i/\SqT K H p xs/\atI xs i=some v/\Q v H
def rIxS:R2:=λx y H Q=>∃z i c,x=.str z/\y=.int i/\z.length<=sizeLine/\atI z.cps.toList i=some c/\Q (.str ⟨#[c]⟩) H
theorem zC:IxR X (rIxL X.K):=by
 intro value slice pins s σ H x y v u Q I rx ry h hs;refine E_4 h λp xs i z n8=>A_5 n8 λe9 n90 hq he q=>?_;clear n8 h;subst e9;subst n90;cases rx;refine E_1 ry λt e9=>?_;clear ry;subst e9;obtain⟨its,r,pl,hz⟩:=I.list hq;obtain⟨j,h1,h2,h3,h4,h5⟩:=Zu he;obtain⟨w,ew,rw'⟩:=r.get h2;have hl:=r.length;have hn:=wq;have fin:EP X pins σ Q w s:=⟨z,H,I,rw',q⟩;by_cases h0:0<=i
 .have hj:i.toNat=j:=by
   rw[seqIndex_of h0 h5]at h1;exact Option.some.inj h1
  exact item_listR pl.isList h0 () (by rw[hj];simpa using ew) fin hs
 .have hj:(i+(its.toArray.size:Int)).toNat=j:=by
   rw[seqIndex_neg () h4]at h1;rw[ko,<-hl];exact Option.some.inj h1
  exact subscriptTail_builtinR (x:=w) pl.isList.typeIs slot_list_getitem.lookup
   (wpAny_getItem_list_neg (Q:=λr s'=>r=w/\EP X pins σ Q r s') pl.isList () (by rw[ko]<;>lia) () (by rw[hj];simpa using ew) ⟨rfl,fin⟩) hs
theorem zG:IxR X (rIxT X.K):=by
 intro value slice pins s σ H x y v u Q I rx ry h hs;refine E_4 h λp xs i z n8=>A_5 n8 λe9 n90 hq he q=>?_;clear n8 h;subst e9;subst n90;cases rx;refine E_1 ry λt e9=>?_;clear ry;subst e9;obtain⟨its,r,pl,hz⟩:=I.tuple hq;obtain⟨j,h1,h2,h3,h4,h5⟩:=Zu he;obtain⟨w,ew,rw'⟩:=r.get h2;have hl:=r.length;have hn:=wq;have fin:EP X pins σ Q w s:=⟨z,H,I,rw',q⟩;exact subscriptTail_builtinR (x:=w) pl.typeIs slot_tuple_getitem.lookup
  (getItem_tuple (j:=j) (Q:=λr s'=>r=w/\EP X pins σ Q r s') pl () () (by rw[ko,<-hl];exact h1) (by simpa using ew) ⟨rfl,fin⟩) hs
theorem zc6:IxR X rIxS:=by
 intro value slice pins s σ H x y v u Q I rx ry h hs;refine E_3 h λz i c n8=>A_5 n8 λe9 n90 hz he q=>?_;clear n8 h;subst e9;subst n90;refine E_1 rx λt e9=>?_;clear rx;subst e9;refine E_1 ry λt' e9=>?_;clear ry;subst e9;obtain⟨j,h1,h2,h3,h4,h5⟩:=Zu he;have hl:z.cps.toList.length=z.length:=by simp[Str.length]
 rw[hl]at h1 h4 h5;have hn:=wq;exact tail_any (typeIs_str s z t) slot_str_getitem.lookup (getItem_str (c:=c) (by
  have e1:decide (i < -(2^63:Int))=false:=decide_eq_false ();have e2:decide (i≥2^63)=false:=decide_eq_false ();rw[e1,e2,Bool.or_false]) (by rw[h1];simpa using h2) ⟨.str ⟨#[c]⟩,H,I.tok _,⟨_,rfl⟩,q⟩) hs
theorem WX(its:List Value)(n j:Nat)(u:Value):Obj.mapSeq (·.setIfInBounds j u) {cls:=.type "list",data:=.seq its.toArray n}={cls:=.type "list",data:=.seq (its.set j u).toArray n}:=by
 simp[Obj.mapSeq]
theorem Inv.lst{pins:List (Addr×Obj)}{σ:St}{H:Hp}{s:Shared}{p:Addr}{xs:List V}(I:Inv X pins σ H s)(h:H p=some (.lst xs)):
  ∃(its:List Value)(n:Nat),Vals xs its/\s.heap.get? p=some {cls:=.type "list",data:=.seq its.toArray n}/\xs.length<=sizeLine:=by
 obtain⟨z,its,n,r,e⟩:=I.hok p _ h;exact⟨its,n,r,e,z⟩
theorem Inv.lstUpd{pins:List (Addr×Obj)}{σ:St}{H:Hp}{s:Shared}{p:Addr}{xs ys:List V}{its its':List Value}{n n':Nat}{f:Obj->Obj}(I:Inv X pins σ H s)(h:H p=some (.lst xs))
  (ho:s.heap.get? p=some {cls:=.type "list",data:=.seq its.toArray n})(hf:f {cls:=.type "list",data:=.seq its.toArray n}={cls:=.type "list",data:=.seq its'.toArray n'})(r:Vals ys its')(hz:ys.length<=sizeLine)(t:Nat):
  Inv X pins σ (upd H p (.lst ys)) {s with heap:=s.heap.update p f,toks:=t}:=by
 have e:(s.heap.update p f).get? p=some {cls:=.type "list",data:=.seq its'.toArray n'}:=by
  rw[Heap.get?_update_self f ho (by rw[hf]<;>rfl),hf]
 refine I.write (x:=p) (e:=p) (by rw[h];exact trivial) (.inl rfl) (λb u hb q=>(Heap.get?_update_other _ _ (Ne.symm hb)).trans q) ⟨_,e⟩ ?_;exact⟨hz,its',n',r,e⟩
def zew:V->V->V->Hp->(Hp->Prop)->Prop:=λo i v H Q=>∃p xs k j,o=.ref p/\i=.int k/\H p=some (.lst xs)/\ixN xs.length k=some j/\Q (upd H p (.lst (xs.set j v)))
theorem set_list:PSet X zew:=by
 intro pins s σ H o i v ov iv u Q I ro ri rv h;refine E_4 h λp xs k j n8=>A_5 n8 λe9 n90 hp hj q=>?_;clear n8 h;subst e9;subst n90;cases ro;refine E_1 ri λt e9=>?_;clear ri;subst e9;obtain⟨its,n,r,ho,hz⟩:=I.lst hp;obtain⟨h1,h2,h3,h4⟩:=Wk hj;have hl:=r.length;have hn:=wq;have I':Inv X pins σ (upd H p (.lst (xs.set j v))) {s with heap:=s.heap.update p (Obj.mapSeq (·.setIfInBounds j u))} :=
  I.lstUpd hp ho (WX its n j u) (r.set rv j) (by rw[List.length_set];exact hz) s.toks
 by_cases h0:0<=k
 .have hk:k.toNat=j:=by
   rw[seqIndex_of h0 h4]at h1;exact Option.some.inj h1
  exact PySem.W.ki_setAt ho h0 () (by rw[ko,<-hl];exact h4) (by rw[hk];exact⟨_,I',q⟩)
 .have hk:(k+(its.toArray.size:Int)).toNat=j:=by
   rw[seqIndex_neg () h3]at h1;rw[ko,<-hl];exact Option.some.inj h1
  exact PySem.W.ki_setBack ho () (by rw[ko,<-hl];exact h3) () (by rw[hk];exact⟨_,I',q⟩)
theorem YI(lo hi:Option Int)(n:Nat):(sliceBounds lo hi none n).1=((_HT.sIx n 0 lo:Nat):Int)/\(sliceBounds lo hi none n).2.1=((_HT.sIx n n hi:Nat):Int)/\(sliceBounds lo hi none n).2.2=1:=by
 refine⟨?_,?_,rfl⟩
 .cases lo with
  |none=>simp[sliceBounds,_HT.sIx]
  |some i =>
   simp only[sliceBounds,_HT.sIx,Option.getD_none,show(1:Int)>0 by decide,if_true];by_cases h:i<0
   .simp only[h,if_true]<;>lia
   .simp only[h,if_false]<;>lia
 .cases hi with
  |none=>simp[sliceBounds,_HT.sIx]
  |some i =>
   simp only[sliceBounds,_HT.sIx,Option.getD_none,show(1:Int)>0 by decide,if_true];by_cases h:i<0
   .simp only[h,if_true]<;>lia
   .simp only[h,if_false]<;>lia
theorem Ys(its:List Value)(lo hi:Option Int):slicePick its.toArray lo hi none=((its.drop (_HT.sIx its.length 0 lo)).take (_HT.sIx its.length its.length hi-_HT.sIx its.length 0 lo)).toArray:=by
 obtain⟨h1,h2,h3⟩:=YI lo hi its.toArray.size;unfold slicePick;rw[h1,h2,h3];simp only[sliceRange_one,pick_run,ko]<;>rfl
def rSlL(K:Frag):V->Option Int->Option Int->Hp->VK->Prop:=λx lo hi H Q=>∃a xs,x=.ref a/\SqL K H a xs/\∀p,H p=none->Q (.ref p) (upd H p (.lst (cutV xs lo hi)))
theorem xA:SlR X (rSlL X.K):=by
 intro pins s σ H x v vl vu lo hi sl Q I rx hs pl pu h;refine E_2 h λa xs n8=>A_3 n8 λe9 hx q=>?_;clear n8 h;subst e9;cases rx;obtain⟨its,r,ht,hz⟩:=I.list hx;have hlen:=r.length;refine⟨"list",_,slot_list_getitem.lookup,ht.isList.typeIs,?_⟩;refine wpAny_getItem_list_slice ht.isList hs pl pu .none (by simp) ?_ (by rw[ko]<;>lia);rw[Ys,<-hlen];refine⟨.ref s.heap.objs.size,_,I.laid (t':=s.toks) (o:=.lst (cutV xs lo hi)) (λb ob q=>Heap.get?_push_of_some _ q) (kc _) ?_,rfl,q _ (I.hok.fresh (kc _))⟩;exact⟨kn (wK xs lo hi) hz,_,0,(r.drop (_HT.sIx xs.length 0 lo)).take (_HT.sIx xs.length xs.length hi-_HT.sIx xs.length 0 lo),Heap.get?_push_size _ rfl⟩
def yJ:V->Bool
 |.non=>true
 |.bl _=>true
 |.int _=>true
 |.str _=>true
 |_=>false
def eqV:V->V->Bool
 |.non,.non=>true
 |.bl a,.bl b=>a==b
 |.bl a,.int b=>(if a then 1 else 0)==b
 |.int a,.bl b=>a==(if b then 1 else 0)
 |.int a,.int b=>a==b
 |.str a,.str b=>a==b
 |_,_=>false
theorem YJ{A:Around}{s:Shared}{y x:V}{u v:Value}(ry:RelV y u)(rx:RelV x v)(fy:yJ y=true)(fx:yJ x=true):SeqAt.EqAt A s u v (eqV y x):=by
 cases y with
 |non =>
  cases ry;cases x with
  |non=>cases rx;exact SeqAt.EqAt.same _
  |bl b=>cases rx;exact SeqAt.EqAt.none_bool b
  |int b=>obtain⟨t,rfl⟩:=rx;exact SeqAt.EqAt.none_int b t
  |str b=>obtain⟨t,rfl⟩:=rx;exact SeqAt.EqAt.none_str b t
  |_=>exact absurd (show false=true from fx) kt
 |bl a =>
  cases ry;cases x with
  |non=>cases rx;exact SeqAt.EqAt.bool_none a
  |bl b=>cases rx;exact SeqAt.EqAt.bool_bool a b
  |int b=>obtain⟨t,rfl⟩:=rx;exact SeqAt.EqAt.bool_int a b t
  |str b=>obtain⟨t,rfl⟩:=rx;exact SeqAt.EqAt.bool_str a b t
  |_=>exact absurd (show false=true from fx) kt
 |int a =>
  refine E_1 ry λt' e9=>?_;clear ry;subst e9;cases x with
  |non=>cases rx;exact SeqAt.EqAt.int_none a t'
  |bl b=>cases rx;exact SeqAt.EqAt.int_bool a t' b
  |int b=>obtain⟨t,rfl⟩:=rx;exact SeqAt.EqAt.int_int a t' b t
  |str b=>obtain⟨t,rfl⟩:=rx;exact SeqAt.EqAt.int_str a t' b t
  |_=>exact absurd (show false=true from fx) kt
 |str a =>
  refine E_1 ry λt' e9=>?_;clear ry;subst e9;cases x with
  |non=>cases rx;exact SeqAt.EqAt.str_none a t'
  |bl b=>cases rx;exact SeqAt.EqAt.str_bool a t' b
  |int b=>obtain⟨t,rfl⟩:=rx;exact SeqAt.EqAt.str_int a t' b t
  |str b=>obtain⟨t,rfl⟩:=rx;exact SeqAt.EqAt.str_str a t' b t
  |_=>exact absurd (show false=true from fx) kt
 |_=>exact absurd (show false=true from fy) kt
def eqU(x:V)(u:Value):Bool:=match u with
 |.none=>eqV .non x
 |.bool b=>eqV (.bl b) x
 |.int i _=>eqV (.int i) x
 |.str z _=>eqV (.str z) x
 |_=>false
theorem Q0{x y:V}{u:Value}(r:RelV y u)(f:yJ y=true):eqU x u=eqV y x:=by
 cases y with
 |non=>cases r;rfl
 |bl b=>cases r;rfl
 |int i=>obtain⟨t,rfl⟩:=r;rfl
 |str z=>obtain⟨t,rfl⟩:=r;rfl
 |_=>exact absurd (show false=true from f) kt
theorem Zv{x:V}:∀{xs:List V}{us:List Value},Vals xs us->xs.all yJ=true->us.any (eqU x)=xs.any λy=>eqV y x
 |_,_,.nil,_=>rfl
 |y::xs,u::us,.cons r t,f=>by
  rw[List.all_cons,vj]at f;rw[List.any_cons,List.any_cons,Q0 r f.1,Zv t f.2]
theorem jB{A:Around}{s:Shared}{x:V}{v:Value}(rx:RelV x v)(fx:yJ x=true):∀{xs:List V}{us:List Value},Vals xs us->xs.all yJ=true->∀u∈us,SeqAt.EqAt A s u v (eqU x u)
 |_,_,.nil,_=>λu hu=>by cases hu
 |y::xs,u::us,.cons r t,f=>λu' hu=>by
  rw[List.all_cons,vj]at f;rcases kL.mp hu with rfl|hu
  .rw [Q0 r f.1];exact YJ r rx f.1 fx
  .exact jB rx fx t f.2 u' hu
def inV(x:V)(xs:List V):Bool:=xs.any λy=>eqV y x
def rIn(K:Frag)(neg:Bool):R2:=λx y H Q=>∃p xs,y=.ref p/\(SqL K H p xs\/SqT K H p xs)/\yJ x=true/\xs.all yJ=true/\Q (.bl (if neg then !inV x xs else inV x xs)) H
theorem Q1:OpR X (compareOp .In) (rIn X.K false):=by
 intro pins s σ H x y v u Q I rx ry h;refine E_2 h λp xs n8=>A_5 n8 λe9 hq fx fs q=>?_;clear n8 h;subst e9;cases ry;rcases hq with hq|hq
 .obtain ⟨its,r,pl,hz⟩:=I.list hq;refine SeqAt.in_listAt (eqU x) pl.isList (λw hw=>jB rx fx r fs w (by simpa using hw)) ⟨.bl _,H,I,rfl,?_⟩;rw[show its.toArray.any (eqU x)=its.any (eqU x)by simp,Zv r fs];exact q
 .obtain ⟨its,r,pl,hz⟩:=I.tuple hq;refine SeqAt.in_tupleAt (eqU x) pl (λw hw=>jB rx fx r fs w (by simpa using hw)) ⟨.bl _,H,I,rfl,?_⟩;rw[show its.toArray.any (eqU x)=its.any (eqU x)by simp,Zv r fs];exact q
theorem zm:yz X (.builtin "len") (λxs H Q=>∃p ys,xs=[.ref p]/\(SqL X.K H p ys\/SqT X.K H p ys)/\Q (.int ys.length) H):=by
 intro pins s σ H xs us Q I r h;refine E_2 h λp ys n8=>A_3 n8 λe9 hq q=>?_;clear n8 h;subst e9;obtain⟨u,rfl,rx⟩:=vals1 r;cases rx;have hn:=wq;rcases hq with hq|hq
 .obtain ⟨its,r',pl,hz⟩:=I.list hq;have hlen:=r'.length;exact Calls.call_len_list pl.isList (by simp only[ko]<;>lia) ⟨.int ys.length,H,I.tok _,⟨s.toks+1,by rw[ko,hlen]⟩,q⟩
 .obtain ⟨its,r',pl,hz⟩:=I.tuple hq;have hlen:=r'.length;exact len_tuple pl (by simp only[ko]<;>lia) ⟨.int ys.length,H,I.tok _,⟨s.toks+1,by rw[ko,hlen]⟩,q⟩
theorem yf:yz X (.builtin "len") (λxs H Q=>∃z,xs=[.str z]/\z.length<=sizeLine/\Q (.int z.length) H):=by
 intro pins s σ H xs us Q I r h;refine E_1 h λz n8=>A_3 n8 λe9 hz q=>?_;clear n8 h;subst e9;obtain⟨u,rfl,t,rfl⟩:=vals1 r;have hn:=wq;exact len_str () ⟨.int z.length,H,I.tok _,⟨_,rfl⟩,q⟩
theorem xt:yz X (.type "tuple") (λxs H Q=>∃p ys,xs=[.ref p]/\((SqL X.K H p ys/\∀l,H l=none->Q (.ref l) (upd H l (.tup ys)))\/(SqT X.K H p ys/\Q (.ref p) H))):=by
 intro pins s σ H xs us Q I r h;revert h;intro n7;refine E_2 n7 λp ys n8=>A_2 n8 λe9 h=>?_;clear n8 n7;subst e9;obtain⟨u,rfl,rx⟩:=vals1 r;cases rx;rcases h with⟨hq,q⟩|⟨hq,q⟩
 .obtain ⟨its,r',pl,hz⟩:=I.list hq;have hlen:=r'.length;refine call_tuple_list pl.isList (λh' kp=>?_) (by simp only[ko]<;>lia);have I1:Inv X pins σ H {s with heap:=h'}:=I.kept (t':=s.toks) kp;have I2:Inv X pins σ (upd H h'.objs.size (.tup ys)) {s with heap:=h'.push {cls:=.type "tuple",data:=.seq its.toArray}} :=
   I1.laid (t':=s.toks) (λb o e=>Heap.get?_push_of_some _ e) (kc _) (show yg X.prog X.w _ _ _ (.tup ys)from⟨hz,its,r',IsTup.new _ _⟩)
  exact⟨.ref h'.objs.size,_,I2,rfl,q _ (I1.hok.fresh (kc _))⟩
 .obtain ⟨its,r',pl,hz⟩:=I.tuple hq;exact call_tuple_same pl ⟨.ref p,H,I,rfl,q⟩
def tyV(K:Frag)(T:String)(x:V)(H:Hp):Prop:=match x with
 |.str _=>T = "str"
 |.int _=>T = "int"
 |.ref p=>(T = "list" /\ ∃xs,SqL K H p xs)\/(T = "tuple" /\ ∃o,K.lookup p=some o/\o.cls=.type "tuple" /\ o.dict=none) \/
   (T = "dict" /\ ((∃kvs,H p=some (.dK kvs))\/∃kvs,H p=some (.dT kvs)))\/(T = "set" /\ ∃S n,H p=some (.set S n))
 |_=>False
theorem Q2{pins:List (Addr×Obj)}{σ:St}{H:Hp}{s:Shared}{T:String}{x:V}{v:Value}(I:Inv X pins σ H s)(r:RelV x v)(ty:tyV X.K T x H):
  s.TypeIs v T/\∀a,v=.ref a->∃ob,s.heap.get? a=some ob/\ob.dict=none:=by
 cases x with
 |str z =>
  refine E_1 r λt e9=>?_;clear r;subst e9;cases (show T = "str" from ty);exact⟨typeIs_str s z t,λ_ e=>nomatch e⟩
 |int i =>
  refine E_1 r λt e9=>?_;clear r;subst e9;cases (show T = "int" from ty);exact⟨typeIs_int s i t,λ_ e=>nomatch e⟩
 |ref p =>
  cases r;rcases ty with⟨rfl,xs,hq⟩|⟨rfl,o,hk,hc,hd⟩|⟨rfl,hk⟩|⟨rfl,S,n,hk⟩
  .obtain ⟨its,_,pl,_⟩:=I.list hq;refine⟨pl.isList.typeIs,λa e=>?_⟩;cases e;obtain⟨o,n,e,c,hd,_⟩:=pl;exact⟨o,e,hd⟩
  .refine ⟨⟨o,I.kIn p o hk,hc⟩,λa e=>?_⟩;cases e;exact⟨o,I.kIn _ o hk,hd⟩
  .have z:∃o,s.heap.get? p=some o/\o.ExactDict:=by
    rcases hk with⟨kvs,hk⟩|⟨kvs,hk⟩
    .obtain ⟨_,_,_,_,o,_,_,e,ex,_⟩:=I.hok p _ hk;exact⟨o,e,ex⟩
    .obtain ⟨_,_,_,_,o,_,_,e,ex,_⟩:=I.hok p _ hk;exact⟨o,e,ex⟩
   obtain⟨o,e,ex⟩:=z;refine⟨⟨o,e,ex.1⟩,λa e2=>?_⟩;cases e2;exact⟨o,e,ex.2.1⟩
  .obtain ⟨o,_,_,_,e,ex,_⟩:=I.hok p _ hk;refine⟨⟨o,e,ex.1⟩,λa e2=>?_⟩;cases e2;exact⟨o,e,ex.2.1⟩
 |_=>exact False.elim ty
def tBM0(K:Frag)(T:String)(r:V->List V->Hp->VK->Prop)(to:TE):TE:=λσ H Q=>to σ H λx H1=>tyV K T x H1/\r x [] H1 Q
def tBM(K:Frag)(T:String)(r:V->List V->Hp->VK->Prop)(to:TE)(t:TA):TE:=λσ H Q=>to σ H λx H1=>tyV K T x H1/\t σ H1 λxs H2=>r x xs H2 Q
variable{o e:Expr}{es:List Expr}{to:TE}{t:TA}{name:Str}{apos cpos:Pos}{T id:String}{r:V->List V->Hp->VK->Prop}
theorem YK(pa:PlainAttrs T)(slot:Slot T name id)(hty:typeOf (.builtin id)=pure (.type "method_descriptor"))(hm:MtR X id r)(ho:PE X o to)
  (hbase:attributeBase o name X.env (eval o X.env)=eval o X.env:=by rfl)(hline:(apos.endLine==cpos.line)=true:=by rfl):PE X (.Call (.Attribute o name apos) [] [] cpos) (tBM0 X.K T r to):=by
 intro pins s σ H Q I h;refine wpAny_Call_method0_late hbase hline (thn (ho pins s σ H _ I h) λv s1 h9=>?_);obtain⟨x,H1,I1,r1,ty,q1⟩:=h9;obtain⟨h1,h2⟩:=Q2 I1 r1 ty;exact⟨T,id,pa,slot,hty,h1,h2,Calls.callWith_builtin rfl (PySem.evalArgs_none (hm pins s1 σ H1 x [] v [] Q I1 r1 .nil q1))⟩
theorem yq(pa:PlainAttrs T)(slot:Slot T name id)(hty:typeOf (.builtin id)=pure (.type "method_descriptor"))(hm:MtR X id r)(ho:PE X o to)(ha:PA X (e::es) t)
  (hbase:attributeBase o name X.env (eval o X.env)=eval o X.env:=by rfl)
  (hfew:((backTo cpos (starEach (e::es) X.env)).all (λx=>!x.1)&&(backToKw cpos (keywordEach [] X.env)).all (λx=>x.1.isSome)
   && decide ((e::es).length+([]:List Keyword).length+(if([]:List Keyword).isEmpty then 0 else 1)<30))=true:=by rfl)
  (hline:(apos.endLine==cpos.line)=true:=by rfl)(hs:starEach (e::es) X.env=(false,eval e X.env)::starEach es X.env:=by rfl)(hplain:(backTo cpos (starEach es X.env)).any (·.1)=false:=by rfl):
  PE X (.Call (.Attribute o name apos) (e::es) [] cpos) (tBM X.K T r to t):=by
 intro pins s σ H Q I h;refine wpAny_Call_method_late hbase hfew hline rfl (thn (ho pins s σ H _ I h) λv s1 h9=>?_);obtain⟨x,H1,I1,r1,ty,q1⟩:=h9;obtain⟨h1,h2⟩:=Q2 I1 r1 ty;refine⟨T,id,pa,slot,hty,h1,h2,?_⟩;have hA:=ha cpos pins s1 σ H1 _ I1 q1;rw[hs]at hA ⊢;refine Calls.callWith_builtin (by show(false||(backTo cpos (starEach es X.env)).any (·.1))=false;rw[hplain]<;>rfl) (Calls.evalArgs_plain ?_);exact thn hA λus s2 ⟨vs,H2,I2,r2,q2⟩=>hm pins s2 σ H2 x vs v us Q I2 r1 r2 q2
end
def MtM(X:Cx)(id:String)(r:V->List V->Hp->VK->Prop):Prop :=
 ∀(pins:List (Addr×Obj))(s:Shared)(σ:St)(H:Hp)(x:V)(xs:List V)(v:Value)(us:List Value)(Q:VK),Inv X pins σ H s->RelV x v->Vals xs us->r x xs H Q ->
  wpAny (model X.prog X.w) X.A (call (.builtin id) (v::us)) (EP X pins σ Q) X.xe s
theorem Vals.one:∀{x:V}{us:List Value},Vals [x] us->∃u,us=[u]/\RelV x u
 |_,_,.cons r .nil=>⟨_,rfl,r⟩
theorem Vals.zero:∀{us:List Value},Vals [] us->us=[]
 |_,.nil=>rfl
theorem Vals.dropLast{xs:List V}{us:List Value}(h:Vals xs us):Vals xs.dropLast us.dropLast:=by
 induction h with
 |nil=>exact .nil
 |cons r t ih =>
  cases t with
  |nil=>exact .nil
  |cons q t'=>exact .cons r ih
theorem Vals.eraseIdx:∀{xs:List V}{us:List Value}(i:Nat),Vals xs us->Vals (xs.eraseIdx i) (us.eraseIdx i)
 |_,_,_,.nil=>.nil
 |_,_,0,.cons _ t=>t
 |_,_,i+1,.cons r t=>.cons r (Vals.eraseIdx i t)
theorem Vals.rep{xs:List V}{us:List Value}(h:Vals xs us):∀k:Nat,Vals (kq k xs).flatten (kq k us).flatten
 |0=>.nil
 |k+1=>by
  rw[vf,vf,kP,kP];exact Vals.append h (Vals.rep h k)
theorem WY{α:Type}(l:List α):l.eraseIdx (l.length-1)=l.dropLast:=by
 induction l with
 |nil=>rfl
 |cons a r ih =>
  cases r with
  |nil=>rfl
  |cons b r =>
   have e:(a::b::r).length-1=((b::r).length-1)+1:=by
    have h1:(a::b::r).length=r.length+2:=rfl;have h2:(b::r).length=r.length+1:=rfl;assumption
   rw[e,List.eraseIdx_cons_succ,ih]
   all_goals rfl
theorem ZY{α:Type}:∀(l:List α)(i:Nat),(l.eraseIdx i).length<=l.length
 |[],_=>kc _
 |_::_,0=>v7 _
 |_::r,i+1=>vd (ZY r i)
theorem foldl_rep(its:List Value):∀(k:Nat)(acc:List Value),
  List.foldl (λx1 x2=>x1++x2) acc.toArray (kq k its.toArray)=(acc++(kq k its).flatten).toArray
 |0,acc=>by simp
 |k+1,acc=>by
  have e:acc.toArray++its.toArray=(acc++its).toArray:=by simp
  have e2:(acc++its)++(kq k its).flatten=acc++(kq (k+1) its).flatten:=by
   rw[vf,kP,kY]
  rw[<-e2,<-foldl_rep its k (acc++its),<-e,vf,uN]
section
variable{X:Cx}{pins:List (Addr×Obj)}{σ:St}{H:Hp}{s:Shared}{l b:Addr}{xs ys zs:List V}
theorem Inv.lset{its its':List Value}{n:Nat}{f:Array Value->Array Value}{t':Nat}(I:Inv X pins σ H s)(hH:H l=some (.lst xs))
  (e:s.heap.get? l=some {cls:=.type "list",data:=.seq its.toArray n})(hf:f its.toArray=its'.toArray)(hv:Vals ys its')(hz:ys.length<=sizeLine):
  Inv X pins σ (upd H l (.lst ys)) {s with heap:=s.heap.update l (Obj.mapSeq f),toks:=t'}:=by
 have q:=PySem.IsL.update e f;rw[hf]at q;refine I.write (x:=l) (e:=l) (by rw[hH];exact trivial) (.inl rfl) (λb' u hb hu=>(Heap.get?_update_other s.heap (Obj.mapSeq f) (Ne.symm hb)).trans hu) ⟨_,q⟩ ?_;exact⟨hz,its',_,hv,q⟩
theorem Inv.lnew{its:List Value}{t':Nat}(I:Inv X pins σ H s)(hv:Vals ys its)(hz:ys.length<=sizeLine):
  Inv X pins σ (upd H s.heap.objs.size (.lst ys)) {s with heap:=s.heap.push {cls:=.type "list",data:=.seq its.toArray},toks:=t'} :=
 I.laid (λ_ _ q=>Heap.get?_push_of_some _ q) (kc _) ⟨hz,its,0,hv,Heap.get?_push_size _ rfl⟩
theorem Inv.fresh(I:Inv X pins σ H s):H s.heap.objs.size=none:=I.hok.fresh (kc _)
theorem Inv.lstM(I:Inv X pins σ H s)(hH:H l=some (.lst xs)):xs.length<=sizeLine/\∃(its:List Value)(n:Nat),Vals xs its/\xs.length=its.length/\s.heap.get? l=some {cls:=.type "list",data:=.seq its.toArray n}:=by
 obtain⟨z,its,n,r,e⟩:=I.hok l _ hH;exact⟨z,its,n,r,r.length,e⟩
theorem jC{n:Nat}(h:n<=sizeLine):Builtin.List.listTooLong n=false:=by
 unfold Builtin.List.listTooLong;exact decide_eq_false ()
end
section
variable{X:Cx}
def zbX:V->List V->Hp->VK->Prop:=λx vs H Q=>∃l xs y,x=.ref l/\vs=[y]/\H l=some (.lst xs)/\xs.length<sizeLine/\Q .non (upd H l (.lst (xs++[y])))
theorem yt:MtM X "list.append" zbX:=by
 intro pins s σ H x vs v us Q I rx rv h;refine E_3 h λl xs y n8=>A_5 n8 λe9 n90 hH hz q=>?_;clear n8 h;subst e9;subst n90;cases rx;obtain⟨u,rfl,ru⟩:=rv.one;obtain⟨z,its,n,r,hl,e⟩:=I.lstM hH;refine call_meets F.slot_list_append ⟨_,e,rfl⟩ F.entry_list_append (F.args_list_append_2 _ _) (PySem.list_append l its.toArray n u (by rw[ko];lia)) ⟨e,?_⟩;refine⟨.non,_,I.lset (its':=its++[u]) hH e (by simp) (r.append (.cons ru .nil)) ?_,rfl,q⟩;rw[ki,vG];assumption
def zbY:V->List V->Hp->VK->Prop:=λx vs H Q=>∃l b xs zs,x=.ref l/\vs=[.ref b]/\H l=some (.lst xs)/\H b=some (.lst zs)/\xs.length+zs.length<=sizeLine/\Q .non (upd H l (.lst (xs++zs)))
theorem Q3:MtM X "list.extend" zbY:=by
 intro pins s σ H x vs v us Q I rx rv h;refine E_4 h λl b xs zs n8=>A_6 n8 λe9 n90 hH hB hz q=>?_;clear n8 h;subst e9;subst n90;cases rx;obtain⟨u,rfl,ru⟩:=rv.one;cases ru;obtain⟨z,its,n,r,hl,e⟩:=I.lstM hH;obtain⟨z2,its2,n2,r2,hl2,e2⟩:=I.lstM hB;have hsz:its.toArray.size+its2.toArray.size<=sizeLine:=by rw[ko,ko];lia
 have hlong:¬(!its.toArray.isEmpty&&Builtin.List.listTooLong (its.toArray.size+its2.toArray.size))=true:=by
  rw[jC hsz,Bool.and_false];exact kt
 refine call_meets F.slot_list_extend ⟨_,e,rfl⟩ F.entry_list_extend (F.args_list_extend_2 _ _)
  (AutoSeq1.list_extend_list_list_0 l its.toArray n b its2.toArray n2 hlong (by rw[ko];lia) ()) ⟨e,e2,?_⟩
 refine⟨.non,_,I.lset (its':=its++its2) hH e (by simp) (r.append r2) ?_,rfl,q⟩;rw[ki];omega
def rPop:V->List V->Hp->VK->Prop:=λx vs H Q=>∃l xs y,x=.ref l/\vs=[]/\H l=some (.lst xs)/\xs[xs.length-1]?=some y/\Q y (upd H l (.lst xs.dropLast))
theorem YL:MtM X "list.pop" rPop:=by
 intro pins s σ H x vs v us Q I rx rv h;refine E_3 h λl xs y n8=>A_5 n8 λe9 n90 hH hy q=>?_;clear n8 h;subst e9;subst n90;cases rx;have hus:=rv.zero;subst hus;obtain⟨z,its,n,r,hl,e⟩:=I.lstM hH;obtain⟨u,hu,ru⟩:=r.get hy;have hy':its.toArray[its.toArray.size-1]?=some u:=by
  show its.toArray[its.length-1]?=some u;rw[<-Array.getElem?_toList,<-hl];exact hu
 refine call_meets F.slot_list_pop ⟨_,e,rfl⟩ F.entry_list_pop (F.args_list_pop_1 _) (MeetsSeq.list_pop_last l its.toArray n u hy' (by rw[ko];lia)) ⟨e,?_⟩;refine⟨y,_,I.lset (its':=its.dropLast) hH e ?_ r.dropLast ?_,ru,q⟩
 .show its.toArray.eraseIdxIfInBounds (its.toArray.size-1)=its.dropLast.toArray;rw[ko,List.eraseIdxIfInBounds_toArray,WY]
 .rw [bb];lia
def zc7:V->List V->Hp->VK->Prop:=λx vs H Q=>∃l xs i k y,x=.ref l/\vs=[.int i]/\H l=some (.lst xs) /\ -(2^63)<=i/\i<2^63/\seqIndex? i xs.length=some k/\xs[k]?=some y/\Q y (upd H l (.lst (xs.eraseIdx k)))
theorem YM:MtM X "list.pop" zc7:=by
 intro pins s σ H x vs v us Q I rx rv h;refine E_5 h λl xs i k y n8=>A_8 n8 λe9 n90 hH h1 h2 hk hy q=>?_;clear n8 h;subst e9;subst n90;cases rx;obtain⟨u,rfl,ru⟩:=rv.one;refine E_1 ru λt e9=>?_;clear ru;subst e9;obtain⟨z,its,n,r,hl,e⟩:=I.lstM hH;obtain⟨w,hw,rw'⟩:=r.get hy;refine call_meets F.slot_list_pop ⟨_,e,rfl⟩ F.entry_list_pop (F.args_list_pop_2 _ _)
  (MeetsSeq.list_pop_at l its.toArray n i t k w (fitsIndex_both h1 h2) (by rw[ko,<-hl];exact hk) (by rw[<-Array.getElem?_toList];exact hw) (by rw[ko];lia)) ⟨e,?_⟩
 refine⟨y,_,I.lset (its':=its.eraseIdx k) hH e ?_ (r.eraseIdx k) ?_,rw',q⟩
 .show its.toArray.eraseIdxIfInBounds k=(its.eraseIdx k).toArray;rw[List.eraseIdxIfInBounds_toArray]
 .have:=ZY xs k;lia
def rCat:R2:=λx y H Q=>∃l b xs zs,x=.ref l/\y=.ref b/\H l=some (.lst xs)/\H b=some (.lst zs)/\xs.length+zs.length<=sizeLine/\∀p,H p=none->Q (.ref p) (upd H p (.lst (xs++zs)))
theorem YN:OpR X (binaryOp .Add) rCat:=by
 intro pins s σ H x y v u Q I rx ry h;refine E_4 h λl b xs zs n8=>A_6 n8 λe9 n90 hH hB hz q=>?_;clear n8 h;subst e9;subst n90;cases rx;cases ry;obtain⟨z,its,n,r,hl,e⟩:=I.lstM hH;obtain⟨z2,its2,n2,r2,hl2,e2⟩:=I.lstM hB;refine PySem.P.add_list e e2 ?_ (by rw[ko,ko];lia);have ea:its.toArray++its2.toArray=(its++its2).toArray:=by simp
 rw[ea];exact⟨.ref _,_,I.lnew (t':=s.toks) (r.append r2) (by rw[ki];omega),rfl,q _ I.fresh⟩
def rRep:R2:=λx y H Q=>∃l k xs,x=.ref l/\y=.int k/\H l=some (.lst xs) /\ -(2^63)<=k/\k<2^63/\xs.length*k.toNat<=sizeLine /\
 ∀p,H p=none->Q (.ref p) (upd H p (.lst (kq k.toNat xs).flatten))
theorem len_rep{α:Type}(xs:List α)(k:Nat):(kq k xs).flatten.length=k*xs.length:=by
 induction k with
 |zero=>simp
 |succ k ih=>rw[vf,kP,ki,ih,Nat.succ_mul,Nat.add_comm]
theorem YO:OpR X (binaryOp .Mult) rRep:=by
 intro pins s σ H x y v u Q I rx ry h;refine E_3 h λl k xs n8=>A_7 n8 λe9 n90 hH h1 h2 hz q=>?_;clear n8 h;subst e9;subst n90;cases rx;refine E_1 ry λt e9=>?_;clear ry;subst e9;obtain⟨z,its,n,r,hl,e⟩:=I.lstM hH;have hlen:its.toArray.size*k.toNat<=sizeLine:=by rw[ko,<-hl];exact hz
 have hcap:¬its.toArray.size*k.toNat>(2^63-1) / 8:=by
  have:(sizeLine:Nat)<=(2^63-1) / 8:=⋯
  lia
 have hfit:¬(!Builtin.List.listFitsIndex k)=true:=by
  rw[fitsIndex_both h1 h2];exact kt
 have hlong:¬Builtin.List.listTooLong (its.toArray.size*k.toNat)=true:=by
  rw[jC hlen];exact kt
 have hnew:List.foldl (λx1 x2=>x1++x2) #[] (kq (if its.toArray.isEmpty=true then 0 else k.toNat) its.toArray)=(kq k.toNat its).flatten.toArray:=by
  have f0:∀m:Nat,List.foldl (λx1 x2=>x1++x2) #[] (kq m its.toArray)=(kq m its).flatten.toArray:=λm=>by
   have:=foldl_rep its m [];rw[uY]at this;exact this
  rw[f0];cases its with
  |nil=>simp
  |cons a r'=>rw[if_neg (by simp)]
 refine wpAny_binaryOp_repeat_ref (T := "list") (U := "int") ⋯ ⟨_,e,rfl⟩ (λs'=>typeIs_int s' k t) noFill_list_mul F.fills_int_mul F.slot_int_rmul repeat_list F.slot_int_index.lookup
  (call_meets F.slot_int_rmul (typeIs_int s k t) F.entry_int_rmul (F.args_int_rmul_2 _ _) (int___rmul___int_list k t l its.toArray n)
   ⟨e,rfl,⟨_,e,rfl⟩,call_meets F.slot_list_mul ⟨_,e,rfl⟩ F.entry_list_mul (F.args_list_mul_2 _ _) (AutoListH.list___mul___list_int_3 l its.toArray n k t hfit hcap hlong) ⟨e,?_⟩⟩)
 rw[hnew];exact⟨.ref _,_,I.lnew (t':=s.toks) (r.rep k.toNat) (by rw[len_rep,Nat.mul_comm];exact hz),rfl,q _ I.fresh⟩
end
end _L2
namespace _Att
open PySem PySem.W PySem.Calls PyProof.Rows
theorem j1{P:Params}{h:Heap}:∀(ns:List Int)(vs:List Value),WellAll P h vs (ns.map WData.int)->IntsAre vs ns:=by
 intro ns
 induction ns with
 |nil =>
  intro vs w;rw[List.map_nil]at w;cases w;exact .nil
 |cons n ns ih =>
  intro vs w;rw[k8]at w;cases w with
  |cons a b =>
   cases a;exact .cons _ _ (ih _ b)
theorem Q5{l:OpenLaw}{n:Nat}(hn:l.most=some n){P:Params}{h:Heap}{args:List WData}{vals:List Value}
  (hpre:l.row.toRowW.claim.pre args=true)(hwl:WellAll P h vals args):
  ∃a vs ns,vals=[Value.ref a]/\args=[WData.list (ns.map WData.int)]/\h.get? a=some {cls:=.type "list",data:=.seq vs.toArray}/\IntsAre vs ns/\ns.length<=n:=by
 have hsh:WShape.hasAll [] args [.list .int]=true:=(pre_splitW hpre).1;have hc:l.pre.holds [] {args:=args}=true:=(pre_splitW hpre).2;obtain⟨d,r,rfl,h1,h2⟩:=hasAllW_cons hsh;obtain rfl:=hasAllW_nil h2;obtain⟨xs,rfl,h3⟩:=hasW_list h1;obtain⟨ns,rfl⟩:=items_int h3;have hlen:ns.length<=n:=by
  unfold OpenLaw.pre at hc;have h4:(WTm.not (.lt (.lit (.int (n:Int))) (.len (.arg 0)))).holds [] {args:=[.list (ns.map .int)]}=true:=by
   have h4:=(holds_andW hc).1;rw[hn]at h4;exact h4
  have h5:=condW_of h4 (w_not (w_lt w_lit (w_len_list (w_arg rfl))));rw[ka]at h5;refine Nat.le_of_not_lt λq=>?_;have q':(n:Int)<((ns.length:Nat):Int):=by omega
  first
   |(rw[decide_eq_true q']at h5;exact absurd h5 ⋯)
   |(simp at h5;omega)
 cases hwl with
 |cons w1 w2 =>
  cases w2;cases w1 with
  |list ho hall=>exact⟨_,_,ns,rfl,rfl,ho,j1 ns _ hall,hlen⟩
theorem Q6(l:OpenLaw)(args:List WData):l.row.toRowW.claim.post args (.bool true) args=true :=
 postW_of (r:=l.row.toRowW) (X:=(true==true))
  (show WShape.has [] (.bool true) .bool=true by first|rfl|decide|simp[WShape.has,WShape.arms,WShape.armsAll])
  (show(WTm.eq .res (.lit (.bool true))).value [] {args:=args,res:=some (.bool true),after:=args}=some (.bool (true==true))from w_eq_bool (w_res rfl) w_lit) rfl
theorem X9{l:OpenLaw}{n:Nat}{q:Program}{loose:List Str}{XP:(Str->Option Value)->Heap->Prop}{YP:World->Heap->Prop}{d:DefRec}
  (hn:l.most=some n)(hdf:d.params.defaults=[])
  (call:∀(w:World)(s₀ s₁:Shared)(mg mb:Str->Option Value)(fa:Addr)(o:Obj)(pm cd doc:Value)(a:Addr)(vs:List Value)(ns:List Int),
   Ground q loose [] XP w s₀ mg mb s₁.heap->YP w s₁.heap ->
   s₁.heap.get? fa=some o->o.data=.func (docDef d.name d.params d.body d.scope pm cd doc)->s₁.heap.CodeRec cd d.name->mg d.name=some (.ref fa) ->
   s₁.heap.get? a=some {cls:=.type "list",data:=.seq vs.toArray}->IntsAre vs ns->ns.length<=n->s₁.gens=#[] ->
   codeAny (model l.prog w) callerA (.call (.ref fa) ⟨[.ref a],[]⟩) (λr s'=>r=.ok (.ret (.bool true))/\OldK s₁.heap s'.heap/\s'.os=s₁.os/\AllBare s'.gens) s₁):
  WalkO q loose XP YP l.row.toRowW d [] (λf vs=>PySem.call f vs):=by
 intro w s₀ s₁ mg mb G Y fa o pm cd doc dV kV ho hd hcd hD hmg hg args vals as hpre hlay hrd hwl hlo;obtain rfl:dV=.none:=Dflts.none hD hdf;obtain rfl:kV=.none:=Dflts.noKw hD;obtain⟨a,vs,ns,rfl,rfl,hobj,hints,hlen⟩:=Q5 hn hpre hwl;refine enter_call (codeAny_mono (call w s₀ s₁ mg mb fa o pm cd doc a vs ns G Y ho (fd_plain hd) hcd hmg hobj hints hlen hg) λr s' hq=>?_);obtain⟨rfl,h2,h3,h4⟩:=hq;exact⟨.inl ⟨.bool true,.bool true,[],rfl,λ_=>rfl,.bool true,Q6 l _,λ_=>⟨List.Pairwise.nil,λ_ hm=>(nomatch hm)⟩⟩,h2,h3,h4⟩
end _Att
namespace _L2
open PySem PySem.Spec PyProof.Rows
theorem ZZ:∀{vs:List Value}{ns:List Int},IntsAre vs ns->Vals (ns.map V.int) vs
 |_,_,.nil=>.nil
 |_,_,.cons n t h=>.cons ⟨t,rfl⟩ (ZZ h)
def Only(H:Hp):Prop:=∀b,H b=none\/∃o xs,H b=some (.frz o (.lst xs))
theorem zaI{P:Program}{w:World}{K:Frag}{mg mb:Str->Option Value}{CX:CXT}{k:Nat}{fa a:Addr}{fd:FuncData}{x:Str}{sp:Sp}{s₁:Shared}{vs:List Value}{ns:List Int}
  (KX:K.In s₁.heap)(hns:s₁.heap.Ns mainGlobals mg)(hb:s₁.heap.Ns builtinsNs mb)(hbb:∀x:Str,x ≠ "__name__" -> mb x=bootBuiltins x)(hlim:s₁.heap.NoLimit)(hg:s₁.gens=#[])
  (ha:s₁.heap.get? a=some {cls:=.type "list",data:=.seq vs.toArray})(hi:IntsAre vs ns)(hl:ns.length<=sizeLine)(hr:Room k callerA)
  (F:∀base:Heap,K.In base->base.Ns mainGlobals mg->FnOk P w K mg base CX k fa fd [x] sp)(hbind:∀(s:Shared)(u:Value),BindsTo s fd ⟨[u],[]⟩ [(x,u)])
  (hsp:∀H:Hp,Only H->SqL K H a (ns.map V.int)->sp [.ref a] H (λv _=>v=.bl true) λ_ _ _=>False)
  (hCX:∀H e s',CX [] H s₁ (λ_ _ _=>False) e s'->False):
  codeAny (model P w) callerA (.call (.ref fa) ⟨[.ref a],[]⟩) (λr s'=>r=.ok (.ret (.bool true))/\OldK s₁.heap s'.heap/\s'.os=s₁.os/\AllBare s'.gens) s₁:=by
 have rv:=ZZ hi;have lenV:=hi.length
 -- from an abstract heap in which nothing but the script may be tracked
 have core:∀H:Hp,Only H->SqL K H a (ns.map V.int)->HOk P w H s₁.heap->(∀b,H b≠none->b=a)->(H a≠none->K.lookup a=none) ->
   codeAny (model P w) callerA (.call (.ref fa) ⟨[.ref a],[]⟩) (λr s'=>r=.ok (.ret (.bool true))/\OldK s₁.heap s'.heap/\s'.os=s₁.os/\AllBare s'.gens) s₁:=by
  intro H hO hS hok hA hK;have base_of:∀{b:Addr}{o:Obj},s₁.heap.get? b=some o->H b=none->(hidT s₁.heap H).get? b=some o:=λe n=>zaC e n;have noA:∀{b:Addr}{o:Obj}{es:Array DictEntry}{ep:Nat},s₁.heap.get? b=some o->o.data=.dict es ep->H b=none:=λ{b o es ep} e d=>by
   cases q:H b with
   |none=>rfl
   |some u =>
    have e':b=a:=hA b (by rw[q];simp);subst e';rw[ha]at e;cases e;have d':Data.seq vs.toArray _=Data.dict es ep:=d;cases d'
  have nsK:∀{b:Addr}{m:Str->Option Value},s₁.heap.Ns b m->(hidT s₁.heap H).Ns b m:=λ{b m} ⟨o,es,ep,e,d,r⟩=>⟨o,es,ep,base_of e (noA e d),d,r⟩;have hKb:K.In (hidT s₁.heap H):=λb o e=>base_of (KX b o e) (by
   cases q:H b with
   |none=>rfl
   |some u =>
    have e':b=a:=hA b (by rw[q];simp);subst e';rw[hK (by rw[q];simp)]at e;cases e)
  have hM:Mod K mg (hidT s₁.heap H):=⟨hKb,nsK hns,⟨mb,nsK hb,hbb⟩,let ⟨mc,h1,h2⟩:=hlim;⟨mc,nsK h1,h2⟩⟩;have e0:Env0 P w K mg (hidT s₁.heap H) callerA [] s₁ H:=⟨rfl,hM,λb o e=>zbS e,bc (QL _ _),trivial,λb hb=>absurd (show b∈([]:List Addr)from hb) (by simp),hok,.of_eq hg⟩;refine codeAny_mono ((F _ hKb (nsK hns)).run callerA [] s₁ H ⟨[.ref a],[]⟩ [.ref a] [.ref a] _ _ hr e0 (hbind s₁ (.ref a)) (.cons rfl .nil) (hsp H hO hS)) λr s' h=>?_;cases r with
  |error e=>exact(hCX H e s' h).elim
  |ok fl =>
   cases fl with
   |next=>exact False.elim h
   |brk=>exact False.elim h
   |cont=>exact False.elim h
   |ret u =>
    obtain⟨v,H',os,bare,un,hok',r',q⟩:=h;have q':v=.bl true:=q;subst q';obtain rfl:u=Value.bool true:=r';refine⟨rfl,OldK.of_keep λb o e=>?_,os,bare⟩;cases q:H b with
    |none=>exact un.keep b o e q (by intro z;exact absurd (show b∈([]:List Addr)from z) (by simp)) (by simp)
    |some u =>
     rcases hO b with z|⟨ob,xs,z⟩
     .rw [q]at z;cases z
     .have z2:=un.frzs b ob _ z;obtain⟨e1,_⟩:=hok b _ z;obtain⟨e2,_⟩:=hok' b _ z2;rw[e]at e1;cases e1;exact e2
 cases hk:K.lookup a with
 |some o =>
  -- the script is one of the module's own objects
  have e:=KX a o hk;rw[ha]at e;cases e;refine core (λ_=>none) (λ_=>.inl rfl) (.inr ⟨_,vs.toArray,_,hk,rfl,rfl,rfl,by rw[ko,lenV];exact hl,by simpa using rv⟩) (λb u z=>by have z':(none:Option HO)=some u:=z;cases z') (λb z=>absurd rfl z) λz=>absurd rfl z
 |none =>
  refine core (λb=>if b=a then some (.frz {cls:=.type "list",data:=.seq vs.toArray} (.lst (ns.map V.int)))else none) (λb=>?_) (.inl (.inr ⟨{cls:=.type "list",data:=.seq vs.toArray},if_pos rfl⟩)) (λb u z=>?_) (λb z=>?_) λ_=>hk
  .by_cases hb:b=a
   .exact .inr ⟨_,_,if_pos hb⟩
   .exact .inl (if_neg hb)
  .by_cases hb:b=a
   .have z':=(if_pos hb).symm.trans z;cases z';subst hb;exact⟨ha,by rw[ka];exact hl,vs,_,rv,ha⟩
   .have z':=(if_neg hb).symm.trans z;cases z'
  .by_cases hb:b=a
   .exact hb
   .exact absurd (if_neg hb) z
theorem zbZ{l:PySem.W.OpenLaw}{n k:Nat}{q:Program}{loose:List Str}{XP:(Str->Option Value)->Heap->Prop}{YP:World->Heap->Prop}{d:DefRec}{K:Params->Frag}{CX:World->CXT}{sp:World->Sp}{x:Str}
  (hn:l.most=some n)(hn2:n<=sizeLine)(hdf:d.params.defaults=[])(hr:Room k callerA)
  (hY:∀(w:World)(h:Heap),YP w h->(K w.params).In h)
  (F:∀(w:World)(mg:Str->Option Value)(fa:Addr)(h:Heap),(K w.params).In h->h.Ns mainGlobals mg->mg d.name=some (.ref fa) ->
   ∃fd:FuncData,(∀(s:Shared)(u:Value),BindsTo s fd ⟨[u],[]⟩ [(x,u)]) /\
    ∀base:Heap,(K w.params).In base->base.Ns mainGlobals mg->FnOk l.prog w (K w.params) mg base (CX w) k fa fd [x] (sp w))
  (hsp:∀(w:World)(H:Hp)(a:Addr)(ns:List Int),ns.length<=n->Only H->SqL (K w.params) H a (ns.map V.int)->sp w [.ref a] H (λv _=>v=.bl true) λ_ _ _=>False)
  (hCX:∀(w:World)(H:Hp)(s:Shared)(e:Value)(s':Shared),CX w [] H s (λ_ _ _=>False) e s'->False):
  PySem.W.WalkO q loose XP YP l.row.toRowW d [] (λf vs=>PySem.call f vs):=by
 refine _Att.X9 hn hdf λw s₀ s₁ mg mb fa o pm cd doc a vs ns G Y ho hd hcd hmg hobj hints hlen hg=>?_;have KX:=hY w _ Y;obtain⟨fd,hb,hF⟩:=F w mg fa _ KX G.T.g hmg;exact zaI KX G.T.g G.T.b G.T.builtins G.T.nolimit hg hobj hints (kn hlen hn2) hr hF hb (λH hO hS=>hsp w H a ns hlen hO hS) λH e s'=>hCX w H s₁ e s'
theorem zaJ{l:PySem.W.OpenLaw}{n k:Nat}{q:Program}{loose:List Str}{XP:(Str->Option Value)->Heap->Prop}{YP:World->Heap->Prop}{d:DefRec}{K:Params->Frag}{CX:CXT}{sp:Frag->Sp}{x:Str}
  (hn:l.most=some n)(hn2:n<=sizeLine)(hdf:d.params.defaults=[])(hr:Room k callerA)
  (hY:∀(w:World)(h:Heap),YP w h->(K w.params).In h)
  (F:∀(w:World)(mg:Str->Option Value)(fa:Addr)(h:Heap),(K w.params).In h->h.Ns mainGlobals mg->mg d.name=some (.ref fa) ->
   ∃fd:FuncData,(∀(s:Shared)(u:Value),BindsTo s fd ⟨[u],[]⟩ [(x,u)]) /\
    ∀base:Heap,(K w.params).In base->base.Ns mainGlobals mg->FnOk l.prog w (K w.params) mg base CX k fa fd [x] (sp (K w.params)))
  (hsp:∀(K:Frag)(H:Hp)(a:Addr)(ns:List Int),ns.length<=n->Only H->SqL K H a (ns.map V.int)->sp K [.ref a] H (λv _=>v=.bl true) λ_ _ _=>False)
  (hCX:∀(H:Hp)(s:Shared)(e:Value)(s':Shared),CX [] H s (λ_ _ _=>False) e s'->False):
  PySem.W.WalkO q loose XP YP l.row.toRowW d [] (λf vs=>PySem.call f vs) :=
 zbZ (K:=K) (CX:=λ_=>CX) (sp:=λw=>sp (K w.params)) hn hn2 hdf hr hY F (λw H a ns h1 h2 h3=>hsp (K w.params) H a ns h1 h2 h3) λ_ H s e s'=>hCX H s e s'
def xj(s:Stmt):Arguments:=match s with
 |.FunctionDef _ a _ _ _ _ _ _ _ _=>a
 |_=>{posonlyargs:=[],args:=[],vararg:=none,kwonlyargs:=[],kw_defaults:=[],kwarg:=none,defaults:=[]}
def yN(s:Stmt):List Stmt:=match s with
 |.FunctionDef _ _ b _ _ _ _ _ _ _=>b
 |_=>[]
def zj(s:Stmt):Scope:=match s with
 |.FunctionDef _ _ _ _ _ _ sc _ _ _=>sc
 |_=>{kind:=.function,names:=[],isGenerator:=false,isCoroutine:=false}
abbrev CX0:CXT:=λ_ _ _ _ _ _=>False
abbrev E0:XK:=λ_ _ _=>False
theorem zx{X:Cx}:qF CX0 X E0:=λ_ _ _ _ _ _ _ h=>h.elim
structure Fun(K:Frag)(x qual:Str)(st:Stmt)(f:Addr)(fd:FuncData):Prop where
 ex:∃(oc:Value)(od:Option Addr)(kV doc pm:Value)(an:Option Addr)(cdv ct:Value)(osl:Array (Option Value)),
  fd=uo x qual (xj st) (yN st) (zj st) .none kV doc pm an cdv ct/\K.lookup f=some ⟨oc,od,.func fd,osl⟩/\PySem.W.codeIn K cdv qual=true
 kp:ut K (.ref f)=true
section
variable{P:Program}{w:World}{K:Frag}{mg:Str->Option Value}{base:Heap}
theorem Fun.ok{x qual:Str}{st:Stmt}{f:Addr}{fd:FuncData}{N ps:List Str}{k:Nat}{sp:Sp}(F:Fun K x qual st f fd)(S:zn N ps (zj st))(len:∀vs H Q E,sp vs H Q E->vs.length=ps.length)
  (hbody:∀(cdv:Value)(A:Around)(outer:List Env)(s:Shared)(H:Hp)(vs:List V)(Q:VK)(E:XK),Room k (A.deeper (envOfC qual (zj st) s.heap.objs.size f cdv))->sp vs H Q E ->
   ∃t,PSs (cxOf CX0 P w K mg base N qual (zj st) f cdv A outer s H E).nox (yN st) t/\t {nx:=λ_ H'=>Q .non H',rt:=Q} (start N vs) H):FnOk P w K mg base CX0 (k+1) f fd ps sp:=by
 obtain⟨oc,od,kV,doc,pm,an,cdv,ct,osl,rfl,lk,hcd⟩:=F.ex;refine zbv lk hcd S len λA outer s H vs Q E hr hsp=>?_;obtain⟨t,h,q⟩:=hbody cdv A outer s H vs Q E hr hsp;exact⟨t,h.nox,q⟩
theorem Fun.binds{x qual:Str}{st:Stmt}{f:Addr}{fd:FuncData}{ps:List Str}(F:Fun K x qual st f fd)
  (h:∀(kV doc pm:Value)(an:Option Addr)(cdv ct:Value)(us:List Value),us.length=ps.length->bindArgs (uo x qual (xj st) (yN st) (zj st) .none kV doc pm an cdv ct) ⟨us,[]⟩=pure (ps.zip us)):Binds K fd ps []:=by
 obtain⟨oc,od,kV,doc,pm,an,cdv,ct,osl,rfl,lk,hcd⟩:=F.ex;exact .all (h kV doc pm an cdv ct)
theorem zB{x qual:Str}{st:Stmt}{f:Addr}{oc:Value}{od an:Option Addr}{osl:Array (Option Value)}{kV doc pm cdv ct:Value}(l:K.lookup f=some ⟨oc,od,.func (uo x qual (xj st) (yN st) (zj st) .none kV doc pm an cdv ct),osl⟩)
  (c:PySem.W.codeIn K cdv qual=true)(k:ut K (.ref f)=true):Fun K x qual st f (uo x qual (xj st) (yN st) (zj st) .none kV doc pm an cdv ct):=⟨⟨oc,od,kV,doc,pm,an,cdv,ct,osl,rfl,l,c⟩,k⟩
end
section
variable{X:Cx}
theorem pv(i:Nat){x:Str}{pos:Pos}(hN:X.N[i]?=some x:=by rfl)(hv:Vis X.env.scope x:=by first|exact Or.inl rfl|exact Or.inr (Or.inl rfl)|exact Or.inr (Or.inr rfl))(hd:(x==("__debug__" : Str))=false:=by decide)
  (hcd:(x==("__classdict__" : Str))=false:=by decide):PE X (.Name x pos) (tVar i):=zc2 hN hv hd hcd
end
theorem iteF{A B:Prop}(h:B):if false=true then A else B:=by
 rw[if_neg kt];exact h
theorem iteT{A B:Prop}(h:A):if true=true then A else B:=by
 rw[if_pos rfl];exact h
theorem ite2{c A B:Prop}[Decidable c](h1:c->A)(h2:¬c->B):if c then A else B:=by
 by_cases h:c
 .rw [if_pos h];exact h1 h
 .rw [if_neg h];exact h2 h
def Same(H H':Hp):Prop:=∀b o,H b=some o->H' b=some o
theorem Same.refl(H:Hp):Same H H:=λ_ _ h=>h
theorem Same.trans{H H1 H2:Hp}(a:Same H H1)(b:Same H1 H2):Same H H2:=λc o h=>b c o (a c o h)
theorem Same.free{H H':Hp}(e:Same H H'){l:Addr}(h:H' l=Option.none):H l=Option.none:=by
 cases q:H l with
 |none=>rfl
 |some o =>
  rw[e l o q]at h;cases h
theorem Same.seq{K:Frag}{H H':Hp}{a:Addr}{xs:List V}(e:Same H H')(h:SqL K H a xs):SqL K H' a xs:=by
 rcases h with(h|⟨o,h⟩)|h
 .exact .inl (.inl (e _ _ h))
 .exact .inl (.inr ⟨o,e _ _ h⟩)
 .exact .inr h
theorem PS.nox{X:Cx}{st:Stmt}{t:TS}(h:PS X.nox st t):PS X st t:=λpins s σ H D I hw =>
 wpAny_mono (h pins s σ H D (I.wish _) hw) (λ_ _ q=>q.unwish) λ_ _ z=>False.elim z
theorem yg.some_{P:Program}{w:World}{H:Hp}{h:Heap}{a:Addr}{o:HO}(x:yg P w H h a o):∃ob,h.get? a=some ob:=by
 cases o with
 |lst xs=>obtain⟨_,_,_,_,e⟩:=x;exact⟨_,e⟩
 |tup xs=>obtain⟨_,_,_,ob,e,_⟩:=x;exact⟨_,e⟩
 |dK kvs=>obtain⟨_,_,_,_,o,_,_,e,_⟩:=x;exact⟨_,e⟩
 |dT kvs=>obtain⟨_,_,_,_,o,_,_,e,_⟩:=x;exact⟨_,e⟩
 |set S n=>obtain⟨o,_,_,_,e,_⟩:=x;exact⟨_,e⟩
 |ins C dx fs=>obtain⟨_,_,_,e,_⟩:=x;exact⟨_,e⟩
 |own y=>obtain⟨_,e⟩:=x;exact⟨_,e⟩
 |xd fs=>obtain⟨_,⟨_,_,_,e,_⟩,_⟩:=x;exact⟨_,e⟩
 |rng lo hi=>obtain⟨_,_,_,e⟩:=x;exact⟨_,e⟩
 |frz ob u=>obtain⟨e,_⟩:=x;exact⟨_,e⟩
 |tbl ps=>exact⟨_,(show h.get? a=some _ from x)⟩
 |met f y=>exact⟨_,(show h.get? a=some _ from x)⟩
 |ext φ=>obtain⟨_,⟨_,e⟩,_⟩:=x;exact⟨_,e⟩
theorem Inv.there{X:Cx}{pins:List (Addr×Obj)}{σ:St}{H:Hp}{s:Shared}(I:Inv X pins σ H s){a:Addr}{o:HO}(e:H a=some o):∃ob,s.heap.get? a=some ob:=(I.hok a o e).some_
theorem Inv.none_of{X:Cx}{pins:List (Addr×Obj)}{σ:St}{H:Hp}{s:Shared}(I:Inv X pins σ H s){a:Addr}(e:s.heap.get? a=none):H a=none:=by
 cases q:H a with
 |none=>rfl
 |some o =>
  obtain⟨ob,z⟩:=I.there q;rw[e]at z;cases z
structure Fly(h0 h:Heap)(H:Hp)(C ea T:Addr):Prop where
 ob:∃(oe:Obj)(vs:Array Value)(a0:Value)(oT:Obj)(ts:Array Value),h.get? ea=some oe/\oe.cls=.ref C/\oe.data=.fields vs/\vs[0]?=some a0/\vs[1]?=some (.ref T)/\h.get? T=some oT/\oT.data=.fields ts/\ts[3]?=some .none
 ne:T≠ea
 fe:H ea=none
 fT:H T=none
 ne0:h0.get? ea=none
 nT0:h0.get? T=none
def CXE(P:Program)(w:World):CXT:=λouter H s E e s'=>∃(ea T C:Addr)(H':Hp),e=.ref ea/\s'.os=s.os/\AllBare s'.gens/\Un (frs outer) [] H H' s.heap s'.heap/\HOk P w H' s'.heap/\Fly s.heap s'.heap H' C ea T/\E (.ref C) none H'
theorem xU{P:Program}{w:World}{X:Cx}:qF (CXE P w) X E0:=λ_ _ _ _ _ _ _ ⟨_,_,_,_,_,_,_,_,_,_,z⟩=>z.elim
structure Exc(K:Frag)(mg:Str->Option Value)(x:Str)(C:Addr):Prop where
 bound:mg x=some (.ref C)
 ex:u5 K C [.type "ValueError",.type "Exception",.type "BaseException",.type "object"] "ValueError.__new__" = true
theorem zb0{K:Frag}{h:Heap}{C:Addr}{bmB:List Value}{newId:String}(X:K.In h)(q:u5 K C bmB newId=true):
  ∃bm N nm qn bs hdct sn sub ab col dd k0 k1 k2 k3 k5 mN,h.get? C=some (excClassObj nm qn C N bs bm hdct sn sub ab col dd k0 k1 k2 k3 k5 newId)/\h.Ns N mN/\mN "__init__"=none/\OwnTail h bmB bm:=by
 unfold u5 at q;split at q
 case h_2=>cases q
 case h_1 dd cd sl ho =>
  split at q
  case h_2=>cases q
  case h_1 C' bm k0 k1 k2 k3 n k5 hm hs =>
   simp only[vj,beq_iff_eq,bA]at q;obtain⟨⟨⟨⟨⟨e1,e2⟩,e3⟩,e4⟩,e5⟩,e6⟩:=q;subst e1 e2;cases cd with
   |mk nm bs mro ns qn hd sn sub ab col del =>
    have hsl:sl=#[k0,k1,k2,k3,some (.builtin n),k5]:=by rw[<-Array.toList_inj];exact hs
    simp only at hm e3 e5 e6;subst hm e3 hsl;exact⟨bm,ns,nm,qn,bs,hd,sn,sub,ab,col,dd,k0,k1,k2,k3,k5,_,X _ _ ho,.of_isNs (PySem.W.isNs_of_in X e5),PySem.W.nsMap_none_of_in X e5 e6,PySem.W.tail_of_in X e4⟩
def zc8(C:Addr)(t:TA)(E:XK):TS:=λ_ σ H=>t σ H λxs H1=>xs.length<=sizeLine/\E (.ref C) none H1
theorem Inv.hid{X:Cx}{pins:List (Addr×Obj)}{σ:St}{H:Hp}{s:Shared}(I:Inv X pins σ H s)(as:List Addr)(hs:∀b∈frs X.stack,b∈as):s.heap.FunFrames (PySem.W.hideAll s.heap as) X.stack :=
 PySem.W.funFrames_hide I.stack λenv he a hf=>hs a (List.mem_filterMap.mpr ⟨env,he,hf⟩)
section
variable{P:Program}{w:World}{K:Frag}{mg:Str->Option Value}{base:Heap}{N:List Str}{qual:Str}{scope:Scope}{f:Addr}{cd:Value}{A:Around}{outer:List Env}{s₀:Shared}{H₀:Hp}{E:XK}
theorem Wa{pins:List (Addr×Obj)}{σ:St}{H:Hp}{s:Shared}{C e:Addr}{vs:List Value}{h':Heap}(I:Inv (cxOf (CXE P w) P w K mg base N qual scope f cd A outer s₀ H₀ E) pins σ H s)
  (hx:Heap.MadeExcOf s.heap h' e (.ref C) vs)(q:E (.ref C) none H):(cxOf (CXE P w) P w K mg base N qual scope f cd A outer s₀ H₀ E).xe (.ref e) {s with heap:=h'}:=by
 have hin:∀b∈frs (envOfC qual scope s₀.heap.objs.size f cd::outer),b∈frs (envOfC qual scope s₀.heap.objs.size f cd::outer):=λ_ z=>z;have ff:=I.hid _ hin;show wpAny _ _ (leaving _ _) _ _ _;refine wpAny_leaves_madeW (base:=PySem.W.hideAll s.heap (frs (envOfC qual scope s₀.heap.objs.size f cd::outer))) (h:=s.heap) I.ok.frames rfl (λb o z=>PySem.W.of_hideAll _ z) ff hx λh2 t fl tt tn up=>?_;have inB:∀b o,b∉frs (envOfC qual scope s₀.heap.objs.size f cd::outer)->s.heap.get? b=some o->h2.get? b=some o:=λb o nb z=>fl.1 b o (bL _ z nb);have upS:∀b o,b∈frs (envOfC qual scope s₀.heap.objs.size f cd::outer)->s.heap.get? b=some o->∃sl,h2.get? b=some {o with slots:=sl}:=λb o nb z=>by
  obtain⟨_,o',z',hd⟩:=I.stack.mem nb;rw[z]at z';cases z';exact up b o (hx.keeps b o z) hd
 have notL:∀b o,s₀.heap.get? b=some o->b∉frs outer->b∉frs (envOfC qual scope s₀.heap.objs.size f cd::outer):=λb o z nb m=>by
  rcases kL.mp (I.stkSub b m)with z'|z'
  .have:=Heap.lt_size z;have z':b=s₀.heap.objs.size:=z';rw[z']at this;exact vF _ this
  .exact nb z'
 have thr:∀b o,s.heap.get? b=some o->∃o',h2.get? b=some o':=λb o z=>by
  by_cases hb:b∈frs (envOfC qual scope s₀.heap.objs.size f cd::outer)
  .obtain ⟨sl,z'⟩:=upS b o hb z;exact⟨_,z'⟩
  .exact ⟨o,inB b o hb z⟩
 obtain⟨_,_,_,oe,vs',T,oT,ts,a1,⟨a2,a3⟩,a4,a5,a6,a7,a8,a9,a10⟩:=fl;have noT:s.heap.get? T=none:=by
  cases z:s.heap.get? T with
  |none=>rfl
  |some o =>
   by_cases hb:T∈frs (envOfC qual scope s₀.heap.objs.size f cd::outer)
   .obtain ⟨_,o',z',hd⟩:=I.stack.mem hb;obtain⟨sl,z2⟩:=upS T o hb z;rw[z]at z';cases z';rw[a8]at z2;cases z2;exact absurd a9 (hd ts)
   .rw [bL _ z hb]at a6;cases a6
 have no0:∀b,s.heap.get? b=none->s₀.heap.get? b=none:=λb z=>by
  cases y:s₀.heap.get? b with
  |none=>rfl
  |some o =>
   obtain⟨o',z'⟩:=I.base.there b o y (λm=>nomatch m);rw[z]at z';cases z'
 refine⟨e,T,C,H,rfl,I.os,I.bare,⟨λb o z n nb _=>?_,λb o z n nb _=>?_,λb o z n _=>I.base.free b o z n (λm=>nomatch m),λb o z _=>?_,I.base.tups,I.base.frzs,I.base.tbls⟩,λa o z=>?_,
  ⟨⟨oe,vs',.ref t,oT,ts,a1,a2,a4,a3,a5,a8,a9,a10⟩,a7,I.none_of hx.new,I.none_of noT,no0 _ hx.new,no0 _ noT⟩,q⟩
 .exact inB b o (notL b o z nb) (I.base.keep b o z n nb (λm=>nomatch m))
 .obtain ⟨sl,z1⟩:=I.base.slot b o z n nb (λm=>nomatch m);obtain⟨sl',z2⟩:=upS b _ (by
   show b∈frs _;unfold frs;rw[uC];exact kg _ nb) z1
  exact⟨sl',z2⟩
 .obtain ⟨o',z'⟩:=I.base.there b o z (λm=>nomatch m);exact thr b o' z'
 .refine (I.hok a o z).stay (λb u hb r=>?_) (λ_ y=>y) λ_ _ y=>y;refine inB b u (λm=>?_) r;have:=I.stkFree b m;rcases hb with rfl|hb
  .rw [z]at this;cases this
  .rw [hb]at this;cases this
theorem y6{x:Str}{C:Addr}{e:Expr}{es:List Expr}{t:TA}{np cpos pos:Pos}(ex:Exc K mg x C)(hh:A.handled=none)(hg:Gl (cxOf (CXE P w) P w K mg base N qual scope f cd A outer s₀ H₀ E) x)
  (ha:PA (cxOf (CXE P w) P w K mg base N qual scope f cd A outer s₀ H₀ E) (e::es) t)
  (hs:starEach (e::es) (envOfC qual scope s₀.heap.objs.size f cd)=(false,eval e (envOfC qual scope s₀.heap.objs.size f cd))::starEach es (envOfC qual scope s₀.heap.objs.size f cd):=by rfl)
  (hpl:(backTo cpos (starEach es (envOfC qual scope s₀.heap.objs.size f cd))).any (·.1)=false:=by rfl)(hd:(x==("__debug__" : Str))=false:=by decide):
  PS (cxOf (CXE P w) P w K mg base N qual scope f cd A outer s₀ H₀ E) (.Raise (some (.Call (.Name x np) (e::es) [] cpos)) none pos) (zc8 C t E):=by
 intro pins s σ H D I h;obtain⟨bm,N',nm,qn,bs,hdct,sn,sub,ab,col,dd,k0,k1,k2,k3,k5,mN,hC,hN,hni,TL⟩:=zb0 (h:=base) I.mod.kin ex.ex;refine wpAny_Raise_call_subT (C:=C) (nm:=nm) (q:=qn) (N:=N') (bs:=bs) (bm:=bm) (hdct:=hdct) (sn:=sn) (sub:=sub) (ab:=ab) (col:=col) (dd:=dd) (k0:=k0) (k1:=k1) (k2:=k2) (k3:=k3) (k5:=k5)
  PySem.F.excBase_ValueError (mN:=mN) (TL.hasType PySem.F.excBase_ValueError.hasBase) hh (by
   show(backTo cpos (starEach (e::es) (envOfC qual scope s₀.heap.objs.size f cd))).any (·.1)=false;rw[hs];show(false||(backTo cpos (starEach es (envOfC qual scope s₀.heap.objs.size f cd))).any (·.1))=false;rw[hpl];rfl) hni (x5 I hg ex.bound ⟨rfl,?_⟩ hd)
 have h1:=ha cpos pins s σ H _ I h;show wpAny _ _ (evalArgs (.ref C) true (backTo cpos (starEach (e::es) (envOfC qual scope s₀.heap.objs.size f cd))) []) _ _ _;have h1:wpAny _ _ (spliced (backTo cpos (starEach (e::es) (envOfC qual scope s₀.heap.objs.size f cd)))) _ _ s:=h1;rw[hs]at h1 ⊢;refine Calls.evalArgs_plain (wpAny_mono h1 (λus s2 ⟨xs,H2,I2,r,z,q⟩=>⟨rfl,?_,I2.bk _ _ hC,hN.keeps I2.bk,TL.keeps I2.bk,λh' e' hx=>?_⟩) λ_ _ y=>y)
 .rw [<-r.length];exact z
 .exact Wa I2 hx q
end
theorem Fun.okE{P:Program}{w:World}{K:Frag}{mg:Str->Option Value}{base:Heap}{x qual:Str}{st:Stmt}{f:Addr}{fd:FuncData}{N ps:List Str}{k:Nat}{sp:Sp}(F:Fun K x qual st f fd)(S:zn N ps (zj st))(len:∀vs H Q E,sp vs H Q E->vs.length=ps.length)
  (hbody:∀(cdv:Value)(A:Around)(outer:List Env)(s:Shared)(H:Hp)(vs:List V)(Q:VK)(E:XK),Room k (A.deeper (envOfC qual (zj st) s.heap.objs.size f cdv))->A.handled=none->sp vs H Q E ->
   ∃t,PSs (cxOf (CXE P w) P w K mg base N qual (zj st) f cdv A outer s H E) (yN st) t/\t {nx:=λ_ H'=>Q .non H',rt:=Q} (start N vs) H):FnOk P w K mg base (CXE P w) (k+1) f fd ps sp:=by
 obtain⟨oc,od,kV,doc,pm,an,cdv,ct,osl,rfl,lk,hcd⟩:=F.ex;exact zbv lk hcd S len λA outer s H vs Q E hr hsp=>hbody cdv A outer s H vs Q E hr hr.hd hsp
theorem Inv.track{X:Cx}{pins:List (Addr×Obj)}{σ:St}{H:Hp}{s:Shared}{p:Addr}{o:HO}(I:Inv X pins σ H s)(hn:H p=none)(h0:X.s₀.heap.get? p=none)(hl:p≠X.env.locals)
  (hc:∀x c,X.env.cells.lookup x=some c->c≠p)(hp:∀q∈X.pn++pins,q.1≠p)(new:yg X.prog X.w (upd H p o) s.heap p o):Inv X pins σ (upd H p o) s where
 ok:=I.ok
 os:=I.os
 bare:=I.bare
 base:=⟨I.base.keep,I.base.slot,λb ob e n hx=>by
   rw[zr (λz=>by rw[z,h0]at e;cases e)];exact I.base.free b ob e n hx,I.base.there,
  λb xs e=>by rw[zr (zK (I.base.tups b xs e) hn)];exact I.base.tups b xs e,
  λb ob u e=>by rw[zr (zK (I.base.frzs b ob u e) hn)];exact I.base.frzs b ob u e,
  λb ps e=>by
   obtain⟨m,z⟩:=I.base.tbls b ps e;exact⟨m,by rw[zr (zK z hn)];exact z⟩⟩
 loc:=I.loc
 cell:=I.cell
 free:=by rw[zr hl.symm];exact I.free
 freeC:=λx c e=>by rw[zr (hc x c e)];exact I.freeC x c e
 pin:=λq m=>by
  obtain⟨a,b,c⟩:=I.pin q m;exact⟨a,by rw[zr (hp q m)];exact b,c⟩
 hok:=λb u e=>by
  by_cases hb:b=p
  .subst hb;rw[zc]at e;cases e;exact new
  .rw [zr hb]at e;exact(I.hok b u e).stay (λ_ _ _ q=>q) (λc q=>by rw[zr (zK q hn)];exact q) λc xs q=>by rw[zr (zK q hn)];exact q
 len:=I.len
theorem Inv.turned2{X:Cx}{pins:List (Addr×Obj)}{σ:St}{H:Hp}{s:Shared}{h':Heap}{t':Nat}{i j:Addr}(I:Inv X pins σ H s)(k:∀b o,b≠i->b≠j->s.heap.get? b=some o->h'.get? b=some o)(fi:FpOk X pins H i)(fj:FpOk X pins H j):
  Inv X pins σ H {s with heap:=h',toks:=t'}:=by
 obtain⟨a0,a1,a2,a3,a4,a5⟩:=fi;obtain⟨b0,b1,b2,b3,b4,b5⟩:=fj;have nit:∀b u,H b=some u->b≠i/\b≠j:=λb u e=>⟨(λz=>by rw[z,a0]at e;cases e),(λz=>by rw[z,b0]at e;cases e)⟩;have kk:∀b o,b∉[i,j]->s.heap.get? b=some o->h'.get? b=some o:=λb o m e=>k b o (λz=>m (by simp[z])) (λz=>m (by simp[z])) e;refine I.step (g':=s.gens) (d':=s.drawn) (ch:=[i,j]) (λb hb=>?_) (λb o _ _ m e _=>kk b o m e) (λb o _ _ m e _=>⟨o.slots,kk b o m e⟩) (λ_ _ _ _ n=>n) (λb o m e=>⟨o,kk b o m e⟩) (λ_ _ e=>e) (λ_ _ _ e=>e)
  (λb ps e=>⟨#[],by rw[e];simp⟩) (λm hm=>?_) (λb u e=>?_) I.bare
 .rcases kL.mp hb with rfl|hb
  .exact ⟨a3,a1,a4,a5⟩
  .obtain rfl:=kj.mp hb;exact⟨b3,b1,b4,b5⟩
 .obtain ⟨o,es,ep,ho,r⟩:=hm;exact⟨o,es,ep,k _ o a1.symm b1.symm ho,r⟩
 .refine (I.hok b u e).stay (λc v hc q=>k c v ?_ ?_ q) (λ_ q=>q) λ_ _ q=>q
  .rcases hc with z|z
   .rw [z];exact(nit b u e).1
   .exact (nit c _ z).1
  .rcases hc with z|z
   .rw [z];exact(nit b u e).2
   .exact (nit c _ z).2
theorem getD_at{α:Type}{xs:List α}{i:Nat}{d:α}(h:i<xs.length):xs.getD i d=xs[i]:=by
 rw[kE,kf h];rfl
section
variable{X:Cx}
theorem xI{ns:List Int}{its:List Value}(r:Vals (ns.map V.int) its):∀(i:Nat)(v:Value),its.toArray[i]?=some v->∃t,v=Value.int (ns.getD i 0) t:=by
 intro i v e;rw[bE]at e;have hl:=r.length;have hi:i<its.length:=(kh.mp e).1;rw[ka]at hl;have hx:(ns.map V.int)[i]?=some (.int (ns.getD i 0)):=by
  rw[k6,kf ()];simp[List.getD,show i<ns.length by lia]
 obtain⟨u,hu,ru⟩:=r.get hx;rw[e]at hu;cases hu;exact ru
theorem jD{ns:List Int}{k:Nat}(h:k<ns.length):ns.getD k 0∈ns:=by
 rw[getD_at h];exact vB h
theorem YQ{ns:List Int}{z:Int}(h:z∈ns):∃j,j<ns.length/\ns.getD j 0=z:=by
 obtain⟨j,hj,e⟩:=vT.mp h;exact⟨j,hj,by rw[getD_at hj];exact e⟩
def eqL(xs ys:List V):Bool:=xs.length==ys.length&&(vc xs.length).all λj=>eqV (xs.getD j .non) (ys.getD j .non)
def rEqL(K:Frag):R2:=λx y H Q=>∃a b xs ys,x=.ref a/\y=.ref b/\SqL K H a xs/\SqL K H b ys/\xs.all yJ=true/\ys.all yJ=true/\Q (.bl (eqL xs ys)) H
theorem yx{xs:List V}{us:List Value}(r:Vals xs us){j:Nat}(h1:j<us.length):RelV (xs.getD j .non) us[j]:=by
 have hl:=r.length;obtain⟨u,hu,ru⟩:=r.get (i:=j) (x:=xs.getD j .non) (by rw[kf (),getD_at ()]);rw[kf h1]at hu;cases hu;exact ru
theorem Wm{xs:List V}(f:xs.all yJ=true){j:Nat}(h:j<xs.length):yJ (xs.getD j .non)=true:=by
 rw[getD_at h];exact vP.mp f _ (vB h)
theorem zc9(hu:X.A.units<cLine):OpR X (compareOp .Eq) (rEqL X.K):=by
 intro pins s σ H x y v u Q I rx ry h;refine E_4 h λa b xs ys n8=>A_7 n8 λe9 n90 ha hb fx fy q=>?_;clear n8 h;subst e9;subst n90;cases rx;cases ry;obtain⟨i1,r1,p1,z1⟩:=I.list ha;obtain⟨i2,r2,p2,z2⟩:=I.list hb;have l1:=r1.length;have l2:=r2.length;by_cases hl:xs.length=ys.length
 .refine SeqAt.eq_listAt (e:=λj=>eqV (xs.getD j .non) (ys.getD j .non)) p1.isList p2.isList (by simp;lia) hu (λj h1 h2=>?_) ⟨.bl _,H,I,rfl,?_⟩
  .have h1':j<i1.length:=by simpa using h1
   have h2':j<i2.length:=by simpa using h2
   have e:=YJ (A:=X.A.in1) (s:=s) (yx r1 h1') (yx r2 h2') (Wm fx ()) (Wm fy ());simpa using e
  .have e:eqL xs ys=(vc i1.toArray.size).all λj=>eqV (xs.getD j .non) (ys.getD j .non):=by
    unfold eqL;rw[ko,<-l1,hl];simp
   rw[<-e];exact q
 .refine SeqAt.eq_list_lengthsAt p1.isList p2.isList (by simp;lia) hu ⟨.bl _,H,I,rfl,?_⟩;have e:eqL xs ys=false:=by
   unfold eqL;rw[beq_eq_false_iff_ne.mpr hl,Bool.false_and]
  rw[<-e];exact q
end
end _L2
namespace _Srt
open PySem.W PyProof.Rows
def Run(key:Nat->Int)(n:Nat){α:Type}(Q:α->Prop):KasT α->Prop
 |.ret a=>Q a
 |.ask i j k=>i<n/\j<n/\Run key n Q (k (decide (key i<key j)))
theorem Run.mono{key:Nat->Int}{n:Nat}{α:Type}{Q Q':α->Prop}(h:∀a,Q a->Q' a):∀(t:KasT α),Run key n Q t->Run key n Q' t
 |.ret a,x=>h a x
 |.ask _ _ k,⟨a,b,x⟩=>⟨a,b,Run.mono h _ x⟩
theorem Run.bind{key:Nat->Int}{n:Nat}{α β:Type}{Q:β->Prop}{f:α->KasT β}:∀(t:KasT α),Run key n (λa=>Run key n Q (f a)) t->Run key n Q (t.bind f)
 |.ret a,x=>x
 |.ask _ _ k,⟨a,b,x⟩=>⟨a,b,Run.bind _ x⟩
theorem n1{m f n:Nat}(h:m+(f+1)<=n):m<n:=kW (Nat.lt_add_of_pos_right (bf f)) h
theorem n2{m f n:Nat}(h:m+(f+1)<=n):m-1<n:=va (uB m 1) (n1 h)
theorem n3(m f:Nat):m+1+f=m+(f+1):=by rw[uE,Nat.add_comm 1 f]
theorem n3'{m f n:Nat}(h:m+(f+1)<=n):m+1+f<=n:=(n3 m f).symm ▸ h
theorem n4{i m:Nat}(h:i<m+1)(e:¬i=m):i<m:=uH (vY h) e
theorem n6{r m f:Nat}(h:r<=m+1+f):r<=m+(f+1):=n3 m f ▸ h
theorem n7{r m f:Nat}(h:r=m+1+f):r=m+(f+1):=n3 m f ▸ h
theorem n8{i m:Nat}(a:m<=i)(b:i<m+1):i=m:=bI (vY b) a
section
variable{key:Nat->Int}{n:Nat}
structure Ord(n:Nat)(p:Array Nat):Prop where
 sz:p.size=n
 pm:p.Perm (bB (vc n))
theorem Ord.lt{p:Array Nat}(o:Ord n p){i:Nat}(h:i<n):p.getD i 0<n:=by
 have hi:i<p.size:=by rw[o.sz];exact h
 have e:p.getD i 0=p[i]:=by simp[Array.getD,hi]
 have m:p[i]∈p:=Array.getElem_mem hi;have m2:p[i]∈(bB (vc n)):=(Array.Perm.mem_iff o.pm).mp m;rw[e];simpa using m2
def kv(key:Nat->Int)(p:Array Nat)(i:Nat):Int:=key (p.getD i 0)
theorem wu{p q:Array Nat}{i j:Nat}(h:p[i]?=q[j]?):kv key p i=kv key q j:=by
 unfold kv;rw[Array.getD_eq_getD_getElem?,Array.getD_eq_getD_getElem?,h]
theorem Ord.rev{p:Array Nat}(o:Ord n p)(i j:Nat):Ord n (kas_rev p i j):=⟨by unfold kas_rev;rw[mirror_size];exact o.sz,(mirror_perm _ _ _ _).trans o.pm⟩
theorem Ord.bub{p:Array Nat}(o:Ord n p)(i j:Nat):Ord n (bubble p i j):=⟨by rw[bubble_size];exact o.sz,(bubble_perm _ _ _).trans o.pm⟩
theorem j3{p:Array Nat}{i j:Nat}(hj:j<=p.size)(k:Nat):kv key (kas_rev p i j) k=if i<=k/\k<j then kv key p (i+j-1-k)else kv key p k:=by
 have e:=getElem?_mirror_all (i:=i) hj k;unfold kas_rev;by_cases h:i<=k/\k<j
 .rw [if_pos h]at e ⊢;exact wu e
 .rw [if_neg h]at e ⊢;exact wu e
theorem Q7{p:Array Nat}{src d:Nat}(hs:src<p.size)(hd:d<=src)(k:Nat):kv key (bubble p src d) k=if k=src-d then kv key p src else if src-d<k/\k<=src then kv key p (k-1)else kv key p k:=by
 have e:=getElem?_bubble hs d hd k;by_cases h1:k=src-d
 .rw [if_pos h1]at e ⊢;exact wu e
 .rw [if_neg h1]at e ⊢;by_cases h2:src-d<k/\k<=src
  .rw [if_pos h2]at e ⊢;exact wu e
  .rw [if_neg h2]at e ⊢;exact wu e
def Up(key:Nat->Int)(p:Array Nat)(m:Nat):Prop:=∀i,1<=i->i<m->kv key p (i-1)<=kv key p i
def Down(key:Nat->Int)(p:Array Nat)(m:Nat):Prop:=∀i,1<=i->i<m->kv key p i<=kv key p (i-1)
theorem Up.le{p:Array Nat}{m:Nat}(u:Up key p m):∀{i j:Nat},i<=j->j<m->kv key p i<=kv key p j:=by
 intro i j h hj
 induction j with
 |zero=>(have:i=0:=bx.mp h;subst this;exact vU _)
 |succ j ih =>
  by_cases e:i=j+1
  .subst e;exact vU _
  .exact uO (ih (vY (uH h e)) (Nat.lt_of_succ_lt hj)) (u (j+1) (vd (kR j)) hj)
theorem Down.le{p:Array Nat}{m:Nat}(u:Down key p m):∀{i j:Nat},i<=j->j<m->kv key p j<=kv key p i:=by
 intro i j h hj
 induction j with
 |zero=>(have:i=0:=bx.mp h;subst this;exact vU _)
 |succ j ih =>
  by_cases e:i=j+1
  .subst e;exact vU _
  .exact uO (u (j+1) (vd (kR j)) hj) (ih (vY (uH h e)) (Nat.lt_of_succ_lt hj))
theorem Zw{p:Array Nat}(o:Ord n p):∀(f m:Nat),1<=m->m+f<=n->Up key p m->Run key n (λr=>m<=r/\r<=m+f/\Up key p r/\(r=m+f\/(r<n/\kv key p r<kv key p (r-1)))) (kas_asc p f m)
 |0,m,h1,h2,u=>⟨kc _,kc _,u,.inl rfl⟩
 |f+1,m,h1,h2,u=>by
  refine⟨o.lt (n1 h2),o.lt (n2 h2),?_⟩;by_cases c:key (p.getD m 0)<key (p.getD (m-1) 0)
  .rw [decide_eq_true c];dsimp only;(try rw[if_pos rfl]);exact⟨kc _,v8 _ _,u,.inr ⟨n1 h2,c⟩⟩
  .rw [decide_eq_false c];dsimp only;(try rw[if_neg kt]);have u':Up key p (m+1):=λi i1 i2=>by
    by_cases e:i=m
    .subst e;exact Int.not_lt.mp c
    .exact u i i1 (n4 i2 e)
   refine Run.mono (λr ⟨a,b,d,e⟩=>⟨ud a,n6 b,d,?_⟩) _ (Zw o f (m+1) (vd (kR m)) (n3' h2) u');rcases e with e|e
   .exact .inl (n7 e)
   .exact .inr e
def Flat(key:Nat->Int)(p:Array Nat)(m q:Nat):Prop:=q+1<=m/\∀i,m-(q+1)<=i->i<m->kv key p i=kv key p (m-1)
theorem YR{p:Array Nat}{m q:Nat}(hm:m<=p.size)(f:Flat key p m q)(k:Nat):kv key (kas_rev p (m-(q+1)) m) k=kv key p k:=by
 rw[j3 hm];split
 .rename_i h;rw[f.2 k h.1 h.2,f.2 _ (by omega) (by omega)]
 .rfl
theorem w5:∀(f:Nat)(p:Array Nat)(m q:Nat),Ord n p->m+f<=n->Down key p m->Flat key p m q ->
  Run key n (λr=>Ord n r.1/\m<=r.2.1/\r.2.1<=n/\Down key r.1 r.2.1/\Flat key r.1 r.2.1 r.2.2) (kas_desc f p m q)
 |0,p,m,q,o,h,d,fl=>⟨o,kc _,h,d,fl⟩
 |f+1,p,m,q,o,h,d,fl=>by
  have h1:1<=m:=kn (vd (kR q)) fl.1;refine⟨o.lt (n1 h),o.lt (n2 h),?_⟩;by_cases c:key (p.getD m 0)<key (p.getD (m-1) 0)
  .rw [decide_eq_true c];dsimp only;(try rw[if_pos rfl]);by_cases hq:q>0
   .rw [if_pos hq];have kr:=YR (key:=key) (p:=p) (m:=m) (q:=q) (by rw[o.sz];exact vw (n1 h)) fl;refine Run.mono (λr h9=>by obtain⟨a,b,e⟩:=h9;exact(⟨a,ud b,e⟩)) _ (w5 f _ (m+1) 0 (o.rev _ _) (n3' h) (λi i1 i2=>?_) ⟨vd (kR m),λi i1 i2=>?_⟩)
    .rw [kr,kr];by_cases e:i=m
     .subst e;exact bQ c
     .exact d i i1 (n4 i2 e)
    .have:i=m:=n8 i1 i2;subst this;rfl
   .rw [if_neg hq];refine Run.mono (λr h9=>by obtain⟨a,b,e⟩:=h9;exact(⟨a,ud b,e⟩)) _ (w5 f _ (m+1) 0 o (n3' h) (λi i1 i2=>?_) ⟨vd (kR m),λi i1 i2=>?_⟩)
    .by_cases e:i=m
     .subst e;exact bQ c
     .exact d i i1 (n4 i2 e)
    .have:i=m:=n8 i1 i2;subst this;rfl
  .rw [decide_eq_false c];dsimp only;(try rw[if_neg kt]);refine⟨o.lt (n2 h),o.lt (n1 h),?_⟩;by_cases c2:key (p.getD (m-1) 0)<key (p.getD m 0)
   .rw [decide_eq_true c2];dsimp only;(try rw[if_pos rfl]);exact⟨o,kc _,vw (n1 h),d,fl⟩
   .rw [decide_eq_false c2];dsimp only;(try rw[if_neg kt]);have ee:kv key p m=kv key p (m-1):=bJ (Int.not_lt.mp c2) (Int.not_lt.mp c);refine Run.mono (λr h9=>by obtain⟨a,b,e⟩:=h9;exact(⟨a,ud b,e⟩)) _ (w5 f _ (m+1) (q+1) o (n3' h) (λi i1 i2=>?_) ⟨vd fl.1,λi i1 i2=>?_⟩)
    .by_cases e:i=m
     .subst e;rw[ee];exact vU _
     .exact d i i1 (n4 i2 e)
    .show kv key p i=kv key p m;by_cases e:i=m
     .subst e;rfl
     .rw [ee];exact fl.2 i (by rw[Nat.succ_sub_succ]at i1;exact i1) (n4 i2 e)
def Good(key:Nat->Int)(n:Nat)(r:Nat×Array Nat):Prop:=Ord n r.2/\1<=r.1/\r.1<=n/\Up key r.2 r.1
theorem Z1{p:Array Nat}{m:Nat}(o:Ord n p)(h1:1<=m)(h:m<=n)(d:Down key p m):Run key n (Good key n) (kas_tail3 m n p):=by
 have e9:m+(n-m)=n:=bh h;refine Run.bind _ (Run.mono (λr h9=>by obtain⟨a,b,e,_⟩:=h9;exact(⟨o.rev _ _,kn h1 a,kn b (bc e9),e⟩)) _ (Zw (o.rev 0 m) (n-m) m h1 (bc e9) λi i1 i2=>?_));have i3:i-1<m:=va (uB i 1) i2;rw[j3 (by rw[o.sz];exact h),j3 (by rw[o.sz];exact h),if_pos ⟨kR _,i3⟩,if_pos ⟨kR _,i2⟩];exact d.le (Nat.sub_le_sub_left (uB i 1) _) (va (uB _ _) (by rw[ur];exact Nat.sub_lt h1 bX))
theorem qG{p:Array Nat}{m:Nat}(o:Ord n p)(h1:1<=m)(h:m+1<=n)(d:Down key p (m+1)):Run key n (Good key n) (kas_descPart m n p):=by
 have fl0:Flat key p (m+1) 0:=⟨vd (kR m),λi i1 i2=>by
  have e:i=m:=n8 i1 i2;rw[e];rfl⟩
 refine Run.bind _ (Run.mono (λr ⟨a,b,c,e,f⟩=>?_) _ (w5 (n-(m+1)) p (m+1) 0 o (by rw[bh h];exact kc _) d fl0));by_cases q:r.2.2>0
 .rw [if_pos q];have kr:=YR (key:=key) (p:=r.1) (m:=r.2.1) (q:=r.2.2) (by rw[a.sz];exact c) f;exact Z1 (a.rev _ _) (kn (vd (kR m)) b) c λi i1 i2=>by rw[kr,kr];exact e i i1 i2
 .rw [if_neg q];exact Z1 a (kn (vd (kR m)) b) c e
theorem Q8{p:Array Nat}(o:Ord n p)(h:1<=n):Run key n (Good key n) (kas_count n p):=by
 refine Run.bind _ (Run.mono (λr ⟨a,b,c,e⟩=>?_) _ (Zw o (n-1) 1 (kc _) (by rw[bh h];exact kc _) λi i1 i2=>absurd i1 (Nat.not_le.mpr i2)));have h9:1+(n-1)=n:=bh h;rw[h9]at b e;by_cases q:(r==n)=true
 .rw [if_pos q];exact⟨o,a,b,c⟩
 .rw [if_neg q];have q':r≠n:=λz=>q (by rw[z];exact beq_self_eq_true n);have e':r<n/\kv key p r<kv key p (r-1):=by
   rcases e with e|e
   .exact absurd e q'
   .exact e
  split
  .rename_i hr;refine⟨o.lt h,o.lt (va (uB r 1) e'.1),?_⟩;by_cases c2:key (p.getD 0 0)<key (p.getD (r-1) 0)
   .rw [decide_eq_true c2];dsimp only;(try rw[if_pos rfl]);exact⟨o,a,b,c⟩
   .rw [decide_eq_false c2];dsimp only;(try rw[if_neg kt]);have fl:∀i,i<r->kv key p i=kv key p 0:=λi hi=>by
     have x1:=c.le (i:=0) (j:=i) (kR i) hi;have x2:=c.le (i:=i) (j:=r-1) (Nat.le_sub_one_of_lt hi) (Nat.sub_lt a bX);have x3:kv key p (r-1)<=kv key p 0:=Int.not_lt.mp c2;exact bJ (uO x2 x3) x1
    have kr:∀k,kv key (kas_rev p 0 r) k=kv key p k:=λk=>by
     rw[j3 (by rw[o.sz];exact b)];split
     .rename_i hk;rw[fl _ (va (uB _ k) (by rw[ur];exact Nat.sub_lt a bX)),fl k hk.2]
     .rfl
    refine qG (o.rev _ _) a e'.1 λi i1 i2=>?_;rw[kr,kr];by_cases z:i=r
    .subst z;exact bQ e'.2
    .rw [fl i (n4 i2 z),fl (i-1) (va (uB i 1) (n4 i2 z))];exact vU _
  .have hr:r=1:=()
   refine qG o a e'.1 λi i1 i2=>?_;have:i=r:=()
   subst this;exact bQ e'.2
theorem mid_{l r:Nat}(h:l<r):(l+r) / 2<r/\l<=(l+r) / 2:=()
theorem zex{l r f m:Nat}(a:m<r)(h:r-l<=f+1):m-l<=f:=()
theorem zey{l r f m:Nat}(a:l<=m)(h:r-l<=f+1):r-(m+1)<=f:=by omega
theorem qH{p:Array Nat}{k:Nat}(o:Ord n p)(hk:k<n)(u:Up key p k):∀(f l r:Nat),l<=r->r<=k->r-l<=f->(∀i,i<l->kv key p i<=kv key p k)->(∀i,r<=i->i<k->kv key p k<kv key p i) ->
  Run key n (λm=>m<=k/\(∀i,i<m->kv key p i<=kv key p k)/\(∀i,m<=i->i<k->kv key p k<kv key p i)) (kas_place p k f l r)
 |0,l,r,h1,h2,h3,a,b=>⟨kn h1 h2,a,λi i1 i2=>b i (kn (Nat.le_of_sub_eq_zero (bx.mp h3)) i1) i2⟩
 |f+1,l,r,h1,h2,h3,a,b=>by
  unfold kas_place;by_cases c:l≥r
  .rw [if_pos c];exact⟨kn h1 h2,a,λi i1 i2=>b i (kn c i1) i2⟩
  .rw [if_neg c];have hm:(l+r) / 2<r/\l<=(l+r) / 2:=mid_ (Nat.not_le.mp c);have hmk:=kW hm.1 h2;refine⟨o.lt hk,o.lt (Nat.lt_trans hmk hk),?_⟩;by_cases c2:key (p.getD k 0)<key (p.getD ((l+r) / 2) 0)
   .rw [decide_eq_true c2];dsimp only;(try rw[if_pos rfl]);refine qH o hk u f l _ hm.2 (vw hmk) (zex hm.1 h3) a λi i1 i2=>?_;exact Int.lt_of_lt_of_le c2 (u.le i1 i2)
   .rw [decide_eq_false c2];dsimp only;(try rw[if_neg kt]);refine qH o hk u f _ r hm.1 h2 (zey hm.2 h3) (λi i1=>?_) b;exact uO (u.le (j:=(l+r) / 2) (vY i1) hmk) (Int.not_lt.mp c2)
theorem Wp:∀(f:Nat)(p:Array Nat)(k:Nat),Ord n p->1<=k->k+f=n->Up key p k->Run key n (λr=>Ord n r/\Up key r n) (kas_bin f p k)
 |0,p,k,o,h1,h,u=>by
  have:k=n:=h;subst this;exact⟨o,u⟩
 |f+1,p,k,o,h1,h,u=>by
  have hk:k<n:=n1 (bc h);refine Run.bind _ (Run.mono (λm ⟨a,b,c⟩=>?_) _ (qH o hk u k 0 k (kR k) (kc _) (uB k 0) (λi hi=>absurd hi (uZ i)) λi i1 i2=>absurd i1 (Nat.not_le.mpr i2)));refine Wp f _ (k+1) (o.bub _ _) (vd (kR k)) ((n3 k f).trans h) λi i1 i2=>?_;rw[Q7 (by rw[o.sz];exact hk) (uB k m),Q7 (by rw[o.sz];exact hk) (uB k m),Nat.sub_sub_self a];have ik:i<=k:=vY i2;have il:i-1<i:=Nat.sub_lt i1 bX;rcases Nat.lt_trichotomy i m with q|q|q
  .rw [if_neg (ve (Nat.lt_trans il q)),if_neg (λz=>Nat.lt_asymm q (Nat.lt_trans z.1 il)),if_neg (ve q),if_neg (λz=>Nat.lt_asymm q z.1)];exact u i i1 (kW q a)
  .subst q;rw[if_neg (ve il),if_neg (λz=>Nat.lt_asymm il z.1),if_pos rfl];exact b _ il
  .rw [if_neg (show ¬i=m from uW q),if_pos (show m<i/\i<=k from⟨q,ik⟩)];by_cases z:i-1=m
   .rw [if_pos z,z];exact bQ (c m (kc _) (kW q ik))
   .have w:=uH (Nat.le_sub_one_of_lt q) (Ne.symm z);rw[if_neg z,if_pos ⟨w,vw (kW il ik)⟩];exact u (i-1) (kn (vd (kR m)) w) (kW il ik)
theorem zaK(h:1<=n):Run key n (λr=>Ord n r/\Up key r n) (kas_sort n):=by
 refine Run.bind _ (Run.mono (λr ⟨a,b,c,d⟩=>?_) _ (Q8 ⟨by simp,Array.Perm.refl _⟩ h));split
 .have e:max r.1 1=r.1:=()
  rw[e];exact Wp _ _ _ a b () d
 .have e:r.1=n:=()
  rw[e]at d;exact⟨a,d⟩
end
end _Srt
namespace _L2
open PySem PySem.Spec PyProof.Rows PySem.W
theorem Z2{key:Nat->Int}{n:Nat}{α:Type}{cmp:Nat->Nat->(Bool->Shared->Prop)->Shared->Prop}{s:Shared}{Q:α->Prop}
  (hc:∀i j C,i<n->j<n->C (decide (key i<key j)) s->cmp i j C s):∀(t:KasT α),_Srt.Run key n Q t->t.kasWp cmp (λa s'=>Q a/\s'=s) s
 |.ret a,x=>⟨x,rfl⟩
 |.ask i j k,⟨h1,h2,x⟩=>hc i j _ h1 h2 (Z2 hc _ x)
section
variable{X:Cx}{pins:List (Addr×Obj)}{σ:St}{H:Hp}{s:Shared}
structure j4(X:Cx)(pins:List (Addr×Obj))(b:Addr):Prop where
 lo:b≠X.env.locals
 fs:b∉X.fs
 ge:b∈X.ex\/X.s₀.heap.objs.size<=b
 ce:∀x c,X.env.cells.lookup x=some c->c≠b
 pi:∀p∈X.pn++pins,p.1≠b
theorem Inv.young(I:Inv X pins σ H s){b:Addr}(hb:s.heap.objs.size<=b):j4 X pins b:=by
 obtain⟨_,a1,a2,a3,a4,a5⟩:=I.fpOk (b:=b) hb (H':=λ_=>none) rfl;exact⟨a1,a2,a3,a4,a5⟩
theorem Inv.record(I:Inv X pins σ H s){b:Addr}{h':Heap}(y:j4 X pins b)(hn:H b=none)(hs:Heap.SameBut b s.heap h'):Inv X pins σ H {s with heap:=h'} :=
 I.turned (t':=s.toks) (λc o nc e=>(hs.2 c nc).trans e) hn y.lo y.ge y.ce y.pi
end
open Builtin.Getset_descriptor
def yr(ea C:Addr):Heap->Prop:=λh=>∃o,h.get? ea=some o/\o.cls=.ref C
theorem yr.ok{P:Program}{w:World}{H:Hp}{h:Heap}{ea C:Addr}(x:yr ea C h):yg P w H h ea (.ext (yr ea C)) :=
 ⟨x,let ⟨o,e,_⟩:=x;⟨o,e⟩,λ_ _ ⟨o,e,c⟩ k=>⟨o,k o e,c⟩⟩
theorem yr.ty{M:Model}{h:Heap}{ea C:Addr}(x:yr ea C h):Looks M h (typeOf (.ref ea)) (.ref C):=by
 obtain⟨o,e,c⟩:=x;rw[<-c];exact(Looks.ld e).andThen .now
section
variable{prog:Program}{w:World}{A:Around}{E:Value->Shared->Prop}{K:Frag}{x C:Addr}
theorem Yt{s:Shared}{tp:Value}{R:Result->Shared->Prop}(X:K.In s.heap)(J:yr x C s.heap)(hm:mroIn K C (.type "object")=some true)(q:R (.ok (.ret (.ref C))) s):
  codeAny (model prog w) A (.call (.builtin "getset_descriptor.__get__") ⟨[.builtin "object.__class__",.ref x,tp],[]⟩) R s:=by
 obtain⟨h0,g0,d0,t0,o0⟩:=s;have LT:=J.ty (M:=model prog w);have LM:=looks_mroIn (M:=model prog w) X hm;refine codeAny_call_builtin KF.slot_gs.plain KF.entry_gs ?_;refine KF.slot_gs.check _ _ _ _ _ _ _ _ KF.type_class (KF.args_gs _ _ _) ?_;unfold Builtin.«getset_descriptor.__get__»;unfold descrGet;rw[dga_obj];refine wpAny_bind ?_;refine wpAny_pure ?_;unfold descrGetter;unfold descrCheckInstance;unfold descrNameAndClass;unfold isInstance;simp only[KF.owner_class]
 repeat lk
 refine⟨Code.quiet_builtin _ (by decide +kernel),?_⟩;refine codeAny_builtin KF.entry_class ?_;unfold Builtin.«object.__class__»;unfold shownTypeOf
 repeat lk
 exact q
structure yU(K:Frag)(C:Addr):Prop where
 ga:findIn K (.ref C) "__getattribute__"=some (some (.builtin "BaseException.__getattribute__"))
 gn:findIn K (.ref C) "__getattr__"=some none
 ha:findIn K (.ref C) "__class__"=some (some (.builtin "object.__class__"))
 hn:specialIn K (.builtin "object.__class__") "__get__"=some (some (.builtin "getset_descriptor.__get__"))
 tk:takesIn K (.builtin "object.__class__")=some true
 mo:mroIn K C (.type "object")=some true
 mb:mroIn K C (.type "BaseException")=some true
 ty:typeIn K (.ref C)=some (.type "type")
 cl:(clsIn K C).isSome=true
theorem zaL{M:Model}{h:Heap}(X:K.In h)(J:yr x C h)(c:yU K C):Looks M h (Builtin.ObjectAttr.find (.ref x) (.ref C) "__class__") (.bind (.builtin "getset_descriptor.__get__") (.builtin "object.__class__")):=by
 have L1:=looks_findIn (M:=M) X c.ha;have _L2:Looks M h (Builtin.ObjectAttr.getOf (some (.builtin "object.__class__"))) (some (.builtin "getset_descriptor.__get__")):=looks_specialIn X c.hn;have L3:=looks_takesIn (M:=M) X c.tk;exact L1.andThen (_L2.andThen ((show Looks M h (Builtin.ObjectAttr.dataDescriptor? (some (.builtin "object.__class__")) (some (.builtin "getset_descriptor.__get__"))) (some (.builtin "getset_descriptor.__get__",.builtin "object.__class__"))from L3.andThen .now).andThen (Looks.tag .now)))
theorem Q9{s:Shared}{tk:Tok}{R:Result->Shared->Prop}(X:K.In s.heap)(J:yr x C s.heap)(c:yU K C)(q:R (.ok (.ret (.ref C))) s):
  codeAny (model prog w) A (.call (.builtin "BaseException.__getattribute__") ⟨[.ref x,.str "__class__" tk],[]⟩) R s:=by
 obtain⟨h0,g0,d0,t0,o0⟩:=s;have LT:=J.ty (M:=model prog w);have LF:=zaL (M:=model prog w) X J c;have LB:=looks_mroIn (M:=model prog w) X c.mb;refine codeAny_call_builtin PySem.F.attr_ValueError.ga.plain PySem.F.entry_bexc_ga ?_;have hk:builtinKind "BaseException.__getattribute__"=some .slot:=by decide +kernel
 have hsp:splitId "BaseException.__getattribute__"=some ("BaseException","__getattribute__"):=by decide +kernel
 have hao:=PySem.F.args_bexc_ga (.ref x) (.str "__class__" tk);simp only[checkBuiltinCall,hk,hsp];refine wpAny_bind ?_;unfold isInstance
 repeat (any_goals (first|assumption|with_reducible refine Looks.at (by assumption) ?_|wp_step))
 refine Yt X J c.mo ?_
 repeat (any_goals (first|assumption|wp_step))
theorem zaM{s:Shared}{Q:Option Value->Shared->Prop}(X:K.In s.heap)(J:yr x C s.heap)(c:yU K C)(q:Q (some (.ref C)) {s with toks:=s.toks+1}):wpAny (model prog w) A (getAttr? (.ref x) "__class__") Q E s:=by
 obtain⟨h0,g0,d0,t0,o0⟩:=s;have LT:=J.ty (M:=model prog w);have L1:=looks_findIn (M:=model prog w) X c.ga;have _L2:=looks_findIn (M:=model prog w) X c.gn;have f3:=PySem.F.attr_ValueError.ga.bind (.ref x);have hx2:(Value.builtin "BaseException.__getattribute__" == Value.builtin "object.__getattribute__")=false:=by decide +kernel
 have hx1:(onTheHeap (Value.ref C)&&Value.builtin "BaseException.__getattribute__" == Value.builtin "object.__getattribute__")=false:=by rw[hx2];rfl
 unfold getAttr? getAttrBy?
 repeat (any_goals (first|assumption|with_reducible refine Looks.at (by assumption) ?_|wp_step))
 refine Q9 X J c ?_
 repeat (any_goals (first|assumption|wp_step))
theorem jr{s:Shared}{P:Addr}{Q:Bool->Shared->Prop}(X:K.In s.heap)(J:yr x C s.heap)(c:yU K P)(hm:mroIn K C (.ref P)=some true)(q:Q true s):wpAny (model prog w) A (excMatches (.ref x) (.ref P)) Q E s:=by
 obtain⟨h0,g0,d0,t0,o0⟩:=s;have LT:=J.ty (M:=model prog w);have LP:=looks_typeIn (M:=model prog w) X c.ty;have LM:=looks_mroIn (M:=model prog w) X hm;have LB:=looks_mroIn (M:=model prog w) X c.mb;have LI:Looks (model prog w) h0 (isType (.ref P)) true:=by
  obtain⟨cd,hc⟩:=uR.mp c.cl;unfold clsIn at hc;split at hc
  .rename_i a1 a2 a3 a4 ho;intro A' Q' E' s' k z;unfold isType loadHead;exact wpAny_bind (wpAny_loadPart (k _ _ (X _ _ ho)) (wpAny_pure z))
  .cases hc
 have LN:Looks (model prog w) h0 (isSubtype (.type "type") (.type "tuple")) false:=Looks.of_pure tc_notTuple;unfold excMatches isInstance isExcClass
 repeat lk
 exact q
theorem zaN(c:yU K C):KitX K (.ref x) (.ref C) (yr x C) where
 ty:=λ_ _ _ J=>J.ty
 it:=λM h X _=>by
  obtain⟨cd,hc⟩:=uR.mp c.cl;unfold clsIn at hc;split at hc
  .rename_i a1 a2 a3 a4 ho;intro A' Q' E' s' k z;unfold isType loadHead;exact wpAny_bind (wpAny_loadPart (k _ _ (X _ _ ho)) (wpAny_pure z))
  .cases hc
 ne:=λh tp dd its n sl X htp=>by
  obtain⟨cd,hc⟩:=uR.mp c.cl;refine Bool.eq_false_iff.mpr λq=>?_;obtain rfl:C=tp:=Value.ref.inj (beq_iff_eq.mp q);unfold clsIn at hc;split at hc
  .rename_i a1 a2 a3 a4 ho;have z:=(X _ _ ho).symm.trans htp;cases z
  .cases hc
 ca:=λX J k=>zaM X J c k
end
structure zbw(X:Cx)(pins:List (Addr×Obj))(h:Heap)(H:Hp)(C ea T:Addr):Prop where
 ob:∃(oe:Obj)(vs:Array Value)(a0:Value)(oT:Obj)(ts:Array Value),h.get? ea=some oe/\oe.cls=.ref C/\oe.data=.fields vs/\vs[0]?=some a0/\vs[1]?=some (.ref T)/\h.get? T=some oT/\oT.data=.fields ts/\ts[3]?=some .none
 ne:T≠ea
 fe:H ea=none
 fT:H T=none
 s0:X.s₀.heap.get? ea=none/\X.s₀.heap.get? T=none
 lo:X.env.locals≠ea/\X.env.locals≠T
 ce:∀x c,X.env.cells.lookup x=some c->c≠ea/\c≠T
 pi:∀p∈X.pn++pins,p.1≠ea/\p.1≠T
theorem Inv.exc{X:Cx}{pins:List (Addr×Obj)}{σ:St}{H:Hp}{s:Shared}{h':Heap}{C ea T:Addr}(I:Inv X pins σ H s)(f:zbw X pins s.heap H C ea T)
  (k1:∀b o,b∉frs X.stack->b≠ea->b≠T->s.heap.get? b=some o->h'.get? b=some o)(k2:∀b o,b∈frs X.stack->s.heap.get? b=some o->∃sl,h'.get? b=some {o with slots:=sl}):
  Inv X pins σ H {s with heap:=h'}:=by
 have old:∀b o,X.s₀.heap.get? b=some o->b≠ea/\b≠T/\b≠X.env.locals:=λb o e =>
  ⟨(λz=>by rw[z,f.s0.1]at e;cases e),(λz=>by rw[z,f.s0.2]at e;cases e),ve (kW (Heap.lt_size e) I.ok.above)⟩
 have nst:∀b,b≠X.env.locals->b∉X.fs->b∉frs X.stack:=λb n1 n2 m=>(kL.mp (I.stkSub b m)).elim n1 n2;have sst:∀b,b∈X.fs->b∈frs X.stack:=λb m=>by
  rcases I.ok.stk with e|⟨e,hf⟩
  .rw [e];exact m
  .rw [e];unfold frs;rw[uC,hf];exact kg _ m
 have any:∀b o,b≠ea->b≠T->s.heap.get? b=some o->∃sl,h'.get? b=some {o with slots:=sl}:=λb o n1 n2 e=>by
  by_cases hb:b∈frs X.stack
  .exact k2 b o hb e
  .exact ⟨o.slots,k1 b o hb n1 n2 e⟩
 have cellK:∀x c,X.env.cells.lookup x=some c->∀v,s.heap.IsCell c v->h'.IsCell c v:=λx c e v ⟨o,ho,hd⟩=>by
  obtain⟨sl,z⟩:=any c o (f.ce x c e).1 (f.ce x c e).2 ho;exact⟨_,z,hd⟩
 refine⟨I.ok,I.os,I.bare,⟨λb o e n hb hx=>?_,λb o e n hb hx=>?_,I.base.free,λb o e hx=>?_,I.base.tups,I.base.frzs,I.base.tbls⟩,?_,λx c e=>?_,I.free,I.freeC,λp hp=>?_,λa o z=>?_,I.len⟩
 .obtain ⟨n1,n2,n3⟩:=old b o e;exact k1 b o (nst b n3 hb) n1 n2 (I.base.keep b o e n hb hx)
 .obtain ⟨sl,z⟩:=I.base.slot b o e n hb hx;obtain⟨sl',z'⟩:=k2 b _ (sst b hb) z;exact⟨sl',z'⟩
 .obtain ⟨o',z⟩:=I.base.there b o e hx;obtain⟨n1,n2,n3⟩:=old b o e;obtain⟨sl,z'⟩:=any b o' n1 n2 z;exact⟨_,z'⟩
 .obtain ⟨m,⟨o,es,ep,ho,hd,r⟩,hl⟩:=I.loc;obtain⟨sl,z⟩:=any _ o f.lo.1 f.lo.2 ho;refine⟨m,⟨_,es,ep,z,hd,r⟩,λi x v e1 e2 e3=>?_⟩;obtain⟨u,ru,l⟩:=hl i x v e1 e2 e3;refine⟨u,ru,?_⟩;rcases l with l|⟨k,c,e,y⟩
  .exact .inl l
  .exact .inr ⟨k,c,e,cellK x c e _ y⟩
 .obtain ⟨v,y⟩:=I.cell x c e;exact⟨v,cellK x c e v y⟩
 .obtain ⟨e,n,n1,n2,d⟩:=I.pin p hp;exact⟨k1 p.1 p.2 (nst p.1 n1 n2) (f.pi p hp).1 (f.pi p hp).2 e,n,n1,n2,d⟩
 .refine (I.hok a o z).stay (λb u hb r=>?_) (λ_ y=>y) λ_ _ y=>y;have hb':∃u',H b=some u':=by
   rcases hb with rfl|hb
   .exact ⟨_,z⟩
   .exact ⟨_,hb⟩
  obtain⟨u',hb'⟩:=hb';refine k1 b u (λm=>?_) (λy=>?_) (λy=>?_) r
  .rw [I.stkFree b m]at hb';cases hb'
  .rw [y,f.fe]at hb';cases hb'
  .rw [y,f.fT]at hb';cases hb'
def Cx.tr(X:Cx)(pl:List (Addr×Obj))(Ec:Addr->St->Hp->Prop):Cx :=
 {X with pn:=X.pn++pl,xe:=λe s'=>∃ea T C σ H,e=.ref ea/\Inv X pl σ H s'/\zbw X pl s'.heap H C ea T/\Ec C σ H}
theorem Inv.tr{X:Cx}{pl:List (Addr×Obj)}{σ:St}{H:Hp}{s:Shared}(I:Inv X pl σ H s)(Ec:Addr->St->Hp->Prop):Inv (X.tr pl Ec) [] σ H s :=
 ⟨⟨I.ok.mod,I.ok.kind,I.ok.glob,I.ok.blt,I.ok.above,I.ok.inj,I.ok.has,I.ok.cab,I.ok.hd,I.ok.frames,I.ok.stk,I.ok.exf,I.ok.bs,I.ok.bsz,I.ok.noex,I.ok.exfs,I.ok.funs,I.ok.frf⟩,I.os,I.bare,I.base,I.loc,I.cell,I.free,I.freeC,
  λp hp=>I.pin p (by simpa[Cx.tr]using hp),I.hok,I.len⟩
theorem Inv.untr{X:Cx}{pl pins:List (Addr×Obj)}{σ:St}{H:Hp}{s:Shared}{Ec:Addr->St->Hp->Prop}(I:Inv (X.tr pl Ec) pins σ H s):Inv X pl σ H s :=
 ⟨⟨I.ok.mod,I.ok.kind,I.ok.glob,I.ok.blt,I.ok.above,I.ok.inj,I.ok.has,I.ok.cab,I.ok.hd,I.ok.frames,I.ok.stk,I.ok.exf,I.ok.bs,I.ok.bsz,I.ok.noex,I.ok.exfs,I.ok.funs,I.ok.frf⟩,I.os,I.bare,I.base,I.loc,I.cell,I.free,I.freeC,
  λp hp=>I.pin p (kU _ hp),I.hok,I.len⟩
def zda(sp:Sp)(dvs:List V)(Ec:Addr->St->Hp->Prop)(t:TA):TE:=λσ H Q=>t σ H λvs H1=>sp (vs++dvs) H1 Q λc _ H2=>∃C,c=.ref C/\Ec C σ H2
theorem YS{X:Cx}{pl:List (Addr×Obj)}{Ec:Addr->St->Hp->Prop}{k:Nat}{f:Addr}{fd:FuncData}{ps:List Str}{sp:Sp}{dvs:List V}{ds:List Value}{x:Str}{p pos:Pos}{e:Expr}{es:List Expr}{t:TA}
  (F:FnOk X.prog X.w X.K X.mg X.base (CXE X.prog X.w) k f fd ps sp)(hr:Room k X.A)(hg:Gl X x)(hm:X.mg x=some (.ref f))(hk:ut X.K (.ref f)=true)(hb:Binds X.K fd ps ds)(hd:Vals dvs ds)(hex:X.ex=[])
  (ha:PA (X.tr pl Ec) (e::es) t)(hdb:(x==("__debug__" : Str))=false:=by decide)(he:starEach (e::es) X.env=(false,eval e X.env)::starEach es X.env:=by rfl)(hpl:(backTo pos (starEach es X.env)).any (·.1)=false:=by rfl):
  PE (X.tr pl Ec) (.Call (.Name x p) (e::es) [] pos) (zda sp dvs Ec t):=by
 intro pins s σ H Q I h;refine wpAny_Call_Name_kw (x5 (X:=X.tr pl Ec) I hg hm ?_ hdb);refine PySem.W.callWith_K (h₀:=X.base) I.ok.mod.kin hk (thn (ha pos pins s σ H _ I h) λus s1 ⟨vs,H1,I1,r,q⟩=>⟨I1.kIn,?_⟩) he hpl;have r2:Vals (vs++dvs) (us++ds):=r.append hd;have hl:(us++ds).length=ps.length:=by rw[<-r2.length];exact F.len _ _ _ _ q
 refine wpAny_call (codeAny_mono (F.run X.A X.stack s1 H1 ⟨us,[]⟩ (us++ds) (vs++dvs) Q _ hr I1.env0 (hb s1 us I1.kIn hl) r2 q) λr s' hq=>?_);cases r with
 |ok fl =>
  cases fl with
  |ret u=>exact I1.after hq
  |next=>exact False.elim hq
  |brk=>exact False.elim hq
  |cont=>exact False.elim hq
 |error e' =>
  obtain⟨ea,T,C,H',rfl,os,bare,un,hok,fl,C',eC,z⟩:=hq;cases eC;have I2:Inv (X.tr pl Ec) pins σ H' s':=I1.call' (ch:=[]) os un hok bare (λb z=>nomatch z);have lo:∀b o,s1.heap.get? b=some o->b≠ea/\b≠T:=λb o e=>⟨(λy=>by rw[y,fl.ne0]at e;cases e),(λy=>by rw[y,fl.nT0]at e;cases e)⟩;have s0n:∀b,s1.heap.get? b=none->X.s₀.heap.get? b=none:=λb e=>by
   cases y:X.s₀.heap.get? b with
   |none=>rfl
   |some o =>
    obtain⟨o',y'⟩:=I1.base.there b o y (by show b∉X.ex;rw[hex];exact λz=>nomatch z);rw[e]at y';cases y'
  refine I_5 ea T C σ H' ⟨rfl,I2.untr,⟨fl.ob,fl.ne,fl.fe,fl.fT,⟨s0n _ fl.ne0,s0n _ fl.nT0⟩,?_,λx c e=>?_,λp hp=>?_⟩,z⟩
  .obtain ⟨m,⟨o,_,_,ho,_⟩,_⟩:=I1.loc;exact lo _ o ho
  .obtain ⟨v,o,ho,_⟩:=I1.cell x c e;exact lo c o ho
  .exact lo _ _ (I1.pin p (kU _ hp)).1
def Cx.su(X:Cx)(e:Value):Cx:={X with A:=X.A.mark (some e),calm:=false,xe:=λ_ _=>False}
theorem Inv.su{X:Cx}{pins:List (Addr×Obj)}{σ:St}{H:Hp}{s:Shared}(I:Inv X pins σ H s)(e:Value):Inv (X.su e) pins σ H s :=
 ⟨⟨I.ok.mod,I.ok.kind,I.ok.glob,I.ok.blt,I.ok.above,I.ok.inj,I.ok.has,I.ok.cab,(λz=>nomatch z),I.ok.frames,I.ok.stk,I.ok.exf,I.ok.bs,I.ok.bsz,I.ok.noex,I.ok.exfs,I.ok.funs,I.ok.frf⟩,I.os,I.bare,I.base,I.loc,I.cell,I.free,I.freeC,I.pin,I.hok,I.len⟩
theorem Inv.unsu{X:Cx}{pins:List (Addr×Obj)}{σ:St}{H:Hp}{s:Shared}{e:Value}(ok:X.Ok)(I:Inv (X.su e) pins σ H s):Inv X pins σ H s :=
 ⟨ok,I.os,I.bare,I.base,I.loc,I.cell,I.free,I.freeC,I.pin,I.hok,I.len⟩
theorem Inv.unname{X:Cx}{pins:List (Addr×Obj)}{σ:St}{H:Hp}{s:Shared}{h':Heap}{t':Nat}{i:Nat}{n:Str}{v:Option Value}{m:Str->Option Value}(I:Inv X pins σ H s)(hN:X.N.Nodup)(hi:X.N[i]?=some n)
  (hn:s.heap.Ns X.env.locals m)(hl:∀(j:Nat)(x:Str)(w:V),X.N[j]?=some x->σ[j]?=some (some w)->Vis X.env.scope x->∃u,RelV w u/\Look X.env s.heap m x u)(hn':h'.Ns X.env.locals λy=>if y=n then v else m y)
  (hs:Heap.SameBut X.env.locals s.heap h'):Inv X pins (σ.set i none) H {s with heap:=h',toks:=t'}:=by
 have old:∀b o,X.s₀.heap.get? b=some o->b≠X.env.locals:=λb o e=>ve (kW (Heap.lt_size e) I.ok.above);refine⟨I.ok,I.os,I.bare,⟨λb o e n hb hx=>(hs.2 b (old b o e)).trans (I.base.keep b o e n hb hx),λb o e n hb hx=>?_,I.base.free,λb o e hx=>?_,I.base.tups,I.base.frzs,I.base.tbls⟩,⟨_,hn',λj y w e1 e2 e3=>?_⟩,λy c e=>?_,I.free,I.freeC,λp hp=>?_,λb ob e=>?_,by simpa using I.len⟩
 .obtain ⟨sl,z⟩:=I.base.slot b o e n hb hx;exact⟨sl,(hs.2 b (old b o e)).trans z⟩
 .obtain ⟨o',z⟩:=I.base.there b o e hx;exact⟨o',(hs.2 b (old b o e)).trans z⟩
 .by_cases hj:j=i
  .subst hj;rw[List.getElem?_set]at e2;split at e2
   .split at e2<;>cases e2
   .exact absurd rfl (by assumption)
  .rw [bH (Ne.symm hj)]at e2;obtain⟨u,ru,l⟩:=hl j y w e1 e2 e3;have yn:y≠n:=λz=>hj (jy hN e1 (z ▸ hi));refine⟨u,ru,?_⟩;rcases l with⟨k,z⟩|⟨k,c,e,z⟩
   .exact .inl ⟨k,by show(if y=n then v else m y)=some u;rw[if_neg yn];exact z⟩
   .exact .inr ⟨k,c,e,z.sameBut hs (I.cne y c e)⟩
 .obtain ⟨w,z⟩:=I.cell y c e;exact⟨w,z.sameBut hs (I.cne y c e)⟩
 .obtain ⟨e,a,b,c,d⟩:=I.pin p hp;exact⟨(hs.2 p.1 b).trans e,a,b,c,d⟩
 .refine (I.hok b ob e).stay (λc w hc q=>(hs.2 c ?_).trans q) (λ_ q=>q) λ_ _ q=>q;intro z;rcases hc with rfl|hc
  .rw [z,I.free]at e;cases e
  .rw [z,I.free]at hc;cases hc
def tTry(i:Nat)(CP:Addr->Prop)(tb:(Addr->St->Hp->Prop)->TS)(ts:TS):TS:=λD σ H =>
 tb (λC σ1 H1=>CP C/\∀ea,H1 ea=none->ts {nx:=λσ2 H2=>D.nx (σ2.set i none) H2,rt:=D.rt,bk:=λσ2 H2=>D.bk (σ2.set i none) H2,ct:=λσ2 H2=>D.ct (σ2.set i none) H2} (σ1.set i (some (.ref ea))) (upd H1 ea (.ext (yr ea C)))) D σ H
theorem SP.untr{X:Cx}{pl pins:List (Addr×Obj)}{Ec:Addr->St->Hp->Prop}{D:Ends}{f:Flow}{s':Shared}(h:SP (X.tr pl Ec) pins D f s'):SP X pl D f s':=by
 cases f with
 |next=>obtain⟨σ',H',I,q⟩:=h;exact⟨σ',H',I.untr,q⟩
 |brk=>obtain⟨σ',H',I,q⟩:=h;exact⟨σ',H',I.untr,q⟩
 |cont=>obtain⟨σ',H',I,q⟩:=h;exact⟨σ',H',I.untr,q⟩
 |ret u=>obtain⟨v,σ',H',I,r,q⟩:=h;exact⟨v,σ',H',I.untr,r,q⟩
theorem zdb{X:Cx}{i:Nat}{n x:Str}{P:Addr}{body:List Stmt}{b₀:Stmt}{suite:List Stmt}{tb:(Addr->St->Hp->Prop)->TS}{ts:TS}{np hpos pos:Pos}(hst:X.stack=X.env::X.outer)(hf:X.env.frame=some X.env.locals)
  (hN:X.N.Nodup)(hi:X.N[i]?=some n)(hlo:X.env.scope.names.lookup n=some .local)(hg:Gl X x)(hm:X.mg x=some (.ref P))(cP:yU X.K P)(hb:∀pl Ec,PSs (X.tr pl Ec) body (tb Ec))(hs:∀e,PSs (X.su e) (b₀::suite) ts)
  (hd:(x==("__debug__" : Str))=false:=by decide):
  PS X (.Try body [.ExceptHandler (some (.Name x np)) (some n) (b₀::suite) hpos] [] [] pos) (tTry i (λC=>mroIn X.K C (.ref P)=some true) tb ts):=by
 intro pins s σ H D I h;refine wpAny_Try_except ?_;have hB:=hb pins _ [] s σ H D (I.tr _) h;refine wpAny_mono hB (λf s1 q=>?_) λe s1 q=>?_
 .have q':=q.untr;cases f with
  |next =>
   obtain⟨σ',H',I',z⟩:=q';exact wpAny_execs_nil ⟨σ',H',I',z⟩
  |brk=>exact q'
  |cont=>exact q'
  |ret u=>exact q'
 revert q;intro n7;refine E_5 n7 λea T C σ1 H1 n8=>A_5 n8 λe9 I1 fly hC q=>?_;clear n8 n7;subst e9;obtain⟨oe,vs,a0,oT,ts',e1,e2,e3,e4,e5,e6,e7,e8⟩:=fly.ob;have frN:∀b∈frs X.stack,b≠ea/\b≠T:=λb hb=>by
  obtain⟨_,o,ho,hnf⟩:=I1.stack.mem hb;exact⟨(λz=>by rw[z,e1]at ho;cases ho;exact hnf vs e3),(λz=>by rw[z,e6]at ho;cases ho;exact hnf ts' e7)⟩
 -- the heap without the frames and the exception's records
 have ff:s1.heap.FunFrames (hideAll s1.heap (ea::T::frs X.stack)) X.stack:=I1.hid _ λb hb=>kg _ (kg _ hb);have fl:Heap.FlyingW (hideAll s1.heap (ea::T::frs X.stack)) X.stack ea (.ref C) a0 s1.heap :=
  ⟨λb o z=>of_hideAll _ z,hideAll_none _ ke,ff,oe,vs,T,oT,ts',e1,⟨e2,e4⟩,e3,e5,hideAll_none _ (kg _ ke),fly.ne,e6,e7,e8⟩
 have frA:X.A.frames=some (X.env::X.outer):=by rw[<-hst];exact I.ok.frames
 have back:∀{h':Heap},Heap.StaysIn (hideAll s1.heap (ea::T::frs X.stack)) h'->s1.heap.UpToSlots h'->Inv X pins σ1 H1 {s1 with heap:=h'}:=λ{h'} st up=>by
  refine I1.exc fly (λb o n1 n2 n3 z=>st b o (hideAll_get _ z ?_)) λb o n1 z=>?_
  .intro m;rcases kL.mp m with m|m
   .exact n2 m
   .rcases kL.mp m with m|m
    .exact n3 m
    .exact n1 m
  .obtain ⟨_,o',ho,hnf⟩:=I1.stack.mem n1;rw[z]at ho;cases ho;exact up b o z hnf
 rw[hst]at fl back;refine wpAny_looks_onW frA hf fl λh4 held4 up4=>?_;refine wpAny_landsW held4 λh5 fl5 up5=>?_;have I5:Inv X pins σ1 H1 {s1 with heap:=h5}:=back fl5.1 (up4.trans up5);have J5:yr ea C h5:=by
  obtain⟨o,z1,z2⟩:=fl5.there;exact⟨o,z1,z2⟩
 refine wpAny_handleBy_cons (codeAny_handlers_test (x5 (X:=X.su (.ref ea)) (I5.su _) hg hm ?_ hd)) (by intro z;cases z);refine jr (K:=X.K) (P:=P) I5.kIn J5 cP hC ?_;refine codeAny_handlers_suite_as ?_;refine lands_againW fl5 λh6 fl6 up6=>?_;have I6:Inv X pins σ1 H1 {s1 with heap:=h6}:=back fl6.1 ((up4.trans up5).trans up6);have J6:yr ea C h6:=by
  obtain⟨o,z1,z2⟩:=fl6.there;exact⟨o,z1,z2⟩
 have I7:Inv X pins σ1 (upd H1 ea (.ext (yr ea C))) {s1 with heap:=h6}:=I6.track fly.fe fly.s0.1 fly.lo.1.symm (λx c e=>(fly.ce x c e).1) (λp hp=>(fly.pi p hp).1) J6.ok;refine wX (X:=X.su (.ref ea)) (I7.su _) hN hi (Or.inl hlo) (v:=.ref ea) rfl (λs8 I8=>?_) (Or.inr hlo);refine wpAny_mono (hs _ pins s8 _ _ _ I8 (q ea fly.fe)) (λf s9 q9=>?_) λ_ _ z=>False.elim z;have hcls:(X.env.scope.kind==.class||(X.env.scope.kind==.module&&X.env.locals != X.env.globals))=false:=by rw[I.ok.kind];rfl
 have fin:∀{σ9:St}{H9:Hp}{R:Unit->Shared->Prop},Inv (X.su (.ref ea)) pins σ9 H9 s9->(∀s10,Inv X pins (σ9.set i none) H9 s10->R Unit.unit s10) ->
   wpAny (model X.prog X.w) X.A (do bindName X.env n .none;unbindBehindTheSuite X.env n hpos) R X.xe s9:=λ{σ9 H9 R} I9 k=>by
  obtain⟨m,hn,hl⟩:=I9.loc;exact wpAny_nameGoes_keeps hlo hn hcls λh' v hn' hs'=>k _ ((I9.unsu I.ok).unname hN hi hn hl hn' hs')
 cases f with
 |next =>
  obtain⟨σ9,H9,I9,z⟩:=q9;exact fin I9 λs10 I10=>⟨_,H9,I10,z⟩
 |brk =>
  obtain⟨σ9,H9,I9,z⟩:=q9;exact fin I9 λs10 I10=>⟨_,H9,I10,z⟩
 |cont =>
  obtain⟨σ9,H9,I9,z⟩:=q9;exact fin I9 λs10 I10=>⟨_,H9,I10,z⟩
 |ret u =>
  obtain⟨v,σ9,H9,I9,r,z⟩:=q9;exact fin I9 λs10 I10=>⟨v,_,H9,I10,r,z⟩
end _L2
namespace _L2
open PySem PySem.Spec PyProof.Rows
def Evl(t:TE)(σ:St)(H:Hp)(v:V):Prop:=∀Q:VK,Q v H->t σ H Q
def Tst(t:TT)(σ:St)(H:Hp)(p:Prop)[Decidable p]:Prop:=∀Q:Bool->Hp->Prop,Q (decide p) H->t σ H Q
section
variable{σ:St}{H:Hp}{ta tb tc:TE}{x y v:V}{i j k:Int}{K:Frag}{D:Ends}{n m:Nat}
theorem zp{i:Nat}(h:σ[i]?=some (some v)):Evl (tVar i) σ H v:=λQ q=>⟨v,h,q⟩
theorem zM:Evl (tC v) σ H v:=λQ q=>q
theorem z5{g:Int->Int->V}(a:Evl ta σ H (.int i))(b:Evl tb σ H (.int j)):Evl (tOp (rI0 g) ta tb) σ H (g i j):=λQ q=>a _ (b _ ⟨i,j,rfl,rfl,q⟩)
theorem zbx{C:Int->Int->Prop}{g:Int->Int->V}(a:Evl ta σ H (.int i))(b:Evl tb σ H (.int j))(c:C i j):Evl (tOp (rI C g) ta tb) σ H (g i j):=λQ q=>a _ (b _ ⟨i,j,rfl,rfl,c,q⟩)
theorem zez{g:Int->V}(a:Evl ta σ H (.int i)):Evl (tUn (rU g) ta) σ H (g i):=λQ q=>a _ ⟨i,rfl,q⟩
theorem wN(a:Evl ta σ H (.int i))(b:Evl tb σ H (.int j)):Evl (tOp rEq ta tb) σ H (.bl (decide (i=j))):=λQ q=>a _ (b _ ⟨rfl,by
 have e:decide (V.int i=V.int j)=decide (i=j):=by
  rw[decide_eq_decide];exact⟨λz=>V.int.inj z,λz=>by rw[z]⟩
 rw[e];exact q⟩)
theorem yk{p:Addr}{xs:List V}(a:Evl ta σ H (.ref p))(b:Evl tb σ H (.int i))(h:SqT K H p xs)(e:atI xs i=some v):Evl (tOp (rIxT K) ta tb) σ H v:=λQ q=>a _ (b _ ⟨p,xs,i,v,rfl,rfl,h,e,q⟩)
theorem xB{p:Addr}{xs:List V}(a:Evl ta σ H (.ref p))(b:Evl tb σ H (.int i))(h:SqL K H p xs)(e:atI xs i=some v):Evl (tOp (rIxL K) ta tb) σ H v:=λQ q=>a _ (b _ ⟨p,xs,i,v,rfl,rfl,h,e,q⟩)
theorem yI{p:Addr}{ys:List V}(a:Evl ta σ H (.ref p))(h:SqL K H p ys):Evl (tCB (λxs H Q=>∃p ys,xs=[.ref p]/\(SqL K H p ys\/SqT K H p ys)/\Q (.int ys.length) H) (xr ta tNil)) σ H (.int ys.length):=λQ q=>a _ ⟨p,ys,rfl,.inl h,q⟩
theorem Ja{g:Int->Int->V}(a:Evl ta σ H (.int i))(b:Evl tb σ H (.int j)):Evl (tCB (λxs H Q=>∃i j,xs=[.int i,.int j]/\Q (g i j) H) (xr ta (xr tb tNil))) σ H (g i j):=λQ q=>a _ (b _ ⟨i,j,rfl,q⟩)
theorem Jb{f g:Int->Int->Bool}(a:Evl ta σ H (.int i))(b:Evl tb σ H (.int j))(c:Evl tc σ H (.int k)):Evl (YE (rI0 λi j=>.bl (f i j)) (rI0 λi j=>.bl (g i j)) ta tb tc) σ H (.bl (f i j&&g j k)):=λQ q=>a _ (b _ ⟨i,j,rfl,rfl,_,rfl,by
 cases e:f i j with
 |true =>
  rw[if_pos rfl];rw[e,bZ]at q;exact c _ ⟨j,k,rfl,rfl,q⟩
 |false =>
  rw[if_neg kt];rw[e,Bool.false_and]at q;exact q⟩)
theorem z8{p:Prop}[Decidable p](a:Evl ta σ H (.bl (decide p))):Tst (jY ta) σ H p:=λQ q=>a _ ⟨_,rfl,q⟩
theorem zb1{t u:TT}{p q:Prop}[Decidable p][Decidable q](a:Tst t σ H p)(b:Tst u σ H q):Tst (tAnd t u) σ H (p/\q):=λQ z=>a _ (by
 by_cases h:p
 .rw [decide_eq_true h,if_pos rfl];refine b _ ?_;have e:decide (p/\q)=decide q:=by rw[decide_eq_decide];exact⟨λz=>z.2,λz=>⟨h,z⟩⟩
  rw[<-e];exact z
 .rw [decide_eq_false h,if_neg kt];have e:decide (p/\q)=false:=decide_eq_false λz=>h z.1;rw[<-e];exact z)
theorem Jc{t u:TT}{p q:Prop}[Decidable p][Decidable q](a:Tst t σ H p)(b:Tst u σ H q):Tst (tOr t u) σ H (p\/q):=λQ z=>a _ (by
 by_cases h:p
 .rw [decide_eq_true h,if_pos rfl];have e:decide (p\/q)=true:=decide_eq_true (.inl h);rw[<-e];exact z
 .rw [decide_eq_false h,if_neg kt];refine b _ ?_;have e:decide (p\/q)=decide q:=by rw[decide_eq_decide];exact⟨λz=>z.resolve_left h,.inr⟩
  rw[<-e];exact z)
theorem zb2{t:TT}{p:Prop}[Decidable p](a:Tst t σ H p):Tst (tNot t) σ H (¬p):=λQ z=>a _ (by
 have e:(!decide p)=decide (¬p):=by simp
 show Q (!decide p) H;rw[e];exact z)
theorem xV{t:TT}{a b:TS}{p:Prop}[Decidable p](h:Tst t σ H p)(h1:p->a D σ H)(h2:¬p->b D σ H):tIfS t a b D σ H:=h _ (by
 by_cases c:p
 .rw [decide_eq_true c,if_pos rfl];exact h1 c
 .rw [decide_eq_false c,if_neg kt];exact h2 c)
theorem YT{t:TT}{a b u:TS}{p:Prop}[Decidable p](h:Tst t σ H p)(h1:p->a {D with nx:=u D} σ H)(h2:¬p->b {D with nx:=u D} σ H):tSeq (tIfS t a b) u D σ H:=xV h h1 h2
theorem x8{i:Nat}{u:TS}(h:Evl ta σ H v)(q:u D (σ.set i (some v)) H):tSeq (tAsg ta (zU i)) u D σ H:=h _ q
theorem YU{t1 t2 t3 t4:TE}{v1 v2 v3 v4:V}{Q:VK}(h1:Evl t1 σ H v1)(h2:Evl t2 σ H v2)(h3:Evl t3 σ H v3)(h4:Evl t4 σ H v4)(q:∀p,H p=none->Q (.ref p) (upd H p (.tup [v1,v2,v3,v4]))):
  tTup (xr t1 (xr t2 (xr t3 (xr t4 tNil)))) σ H Q:=h1 _ (h2 _ (h3 _ (h4 _ ⟨Zz4,q⟩)))
theorem zV(h:D.nx σ H):zbu D σ H:=h
theorem run_seq{t u:TS}(h:t {D with nx:=u D} σ H):tSeq t u D σ H:=h
end
open PySem.W
inductive TyX(K:Frag)(H:Hp):V->Value->Prop where
 |of{x:V}{t:Value}(h:TyOf K H x t):TyX K H x t
 |exc{ea C:Addr}(e:H ea=some (.ext (yr ea C)))(c:yU K C):TyX K H (.ref ea) (.ref C)
def clsV:V->Value
 |.ref a=>.ref a
 |.ty n=>.type n
 |_=>.none
def WZ:V->Bool
 |.ref _=>true
 |.ty _=>true
 |_=>false
theorem zaO:∀{c:V}{u:Value},WZ c=true->RelV c u->u=clsV c
 |.ref _,_,_,r=>r
 |.ty _,_,_,r=>r
section
variable{X:Cx}
theorem zb3{pins:List (Addr×Obj)}{σ:St}{H:Hp}{s:Shared}{x:V}{u t:Value}(I:Inv X pins σ H s)(rx:RelV x u)(ty:TyX X.K H x t):∃J,KitX X.K u t J/\J s.heap/\u≠.builtin "__main__.__loader__#opaque" := by
 cases ty with
 |exc e c =>
  cases (show u=Value.ref _ from rx);obtain⟨J,_⟩:=I.hok _ _ e;exact⟨_,zaN c,J,λz=>nomatch z⟩
 |of ty =>
  cases ty with
  |non=>cases (show u=Value.none from rx);exact⟨_,kitx_none,trivial,λz=>nomatch z⟩
  |bl y=>cases (show u=Value.bool y from rx);exact⟨_,kitx_bool,trivial,λz=>nomatch z⟩
  |int i=>obtain⟨t,q⟩:=(show ∃t,u=Value.int i t from rx);cases q;exact⟨_,kitx_int,trivial,λz=>nomatch z⟩
  |str y=>obtain⟨t,q⟩:=(show ∃t,u=Value.str y t from rx);cases q;exact⟨_,kitx_str,trivial,λz=>nomatch z⟩
  |flt y=>obtain⟨t,q⟩:=(show ∃t,u=Value.float y t from rx);cases q;exact⟨_,kitx_float,trivial,λz=>nomatch z⟩
  |@lst a xs ea =>
   cases (show u=Value.ref a from rx);obtain⟨_,_,n,_,h1⟩:=(show yg X.prog X.w H s.heap a (.lst xs)from I.hok a _ ea);exact⟨_,kitx_list,⟨_,h1,rfl⟩,λz=>nomatch z⟩
  |@frz a ob xs ea =>
   cases (show u=Value.ref a from rx);obtain⟨_,_,_,n,_,h1⟩:=(show yg X.prog X.w H s.heap a (.frz ob (.lst xs))from I.hok a _ ea);exact⟨_,kitx_list,⟨_,h1,rfl⟩,λz=>nomatch z⟩
  |@tup a xs ea =>
   cases (show u=Value.ref a from rx);obtain⟨_,_,_,p⟩:=(show yg X.prog X.w H s.heap a (.tup xs)from I.hok a _ ea);obtain⟨o,h1,h2,_⟩:=p;exact⟨_,kitx_tuple,⟨o,h1,h2⟩,λz=>nomatch z⟩
  |@dK a kvs ea =>
   cases (show u=Value.ref a from rx);obtain⟨_,_,vs,_,p⟩:=(show yg X.prog X.w H s.heap a (.dK kvs)from I.hok a _ ea);obtain⟨o,es,ep,h1,h2,_⟩:=p;exact⟨_,kitx_dict,⟨o,h1,h2.1⟩,λz=>nomatch z⟩
  |@dT a kvs ea =>
   cases (show u=Value.ref a from rx);obtain⟨_,_,xs,_,o,es,ep,h1,h2,_⟩:=(show yg X.prog X.w H s.heap a (.dT kvs)from I.hok a _ ea);exact⟨_,kitx_dict,⟨o,h1,h2.1⟩,λz=>nomatch z⟩
  |@ins a C dx fs ea cl ha hn htk hm =>
   cases (show u=Value.ref a from rx);obtain⟨mA,O,_⟩:=zbU I.hok ea;obtain⟨od,J,_⟩:=O.look;exact⟨_,kitx_own (cl.get _) cl.hd ha hn htk hm,J,λz=>nomatch z⟩
theorem yG:yz X (.builtin "isinstance") (λxs H Q=>∃x c t b,xs=[x,c]/\WZ c=true/\TyX X.K H x t/\kitOne X.K t (clsV c)=some b/\Q (.bl b) H):=by
 intro pins s σ H xs us Q I r h;refine E_4 h λx c t b n8=>A_5 n8 λe9 hc ty e q=>?_;clear n8 h;subst e9;obtain⟨u,v,rfl,r1,r2⟩:=vals2 r;rw[zaO hc r2];obtain⟨J,Z,hJ,hx⟩:=zb3 I r1 ty;exact kia_one Z I.kIn hJ e hx λtk=>⟨.bl b,H,I.tok tk,rfl,q⟩
end
section
variable{X:Cx}
theorem Jd{pins:List (Addr×Obj)}{σ:St}{H:Hp}{s:Shared}{a:Addr}{its:List Value}(I:Inv X pins σ H s)(tp:s.heap.IsList a its.toArray)(hc:X.calm=true){Q:Value->Shared->Prop}
  (q:∀s2:Shared,s2={s with heap:=s.heap.push {cls:=.type "list_iterator",data:=.fields #[.ref a,.int 0 0]}}->Walks X.prog X.w X.A.in1 s.heap.objs.size [s.heap.objs.size,a] [s.heap.objs.size] its.toArray.size (λi v=>its.toArray[i]?=some v) (λi h=>h.IsListIter s.heap.objs.size a i/\h.IsList a its.toArray) ->
   (s2.heap.IsListIter s.heap.objs.size a 0/\s2.heap.IsList a its.toArray)->(∀b∈[s.heap.objs.size,a],b<s2.heap.objs.size)->Q (.ref s.heap.objs.size) s2):wpAny (model X.prog X.w) X.A.in1 (pyIter (.ref a)) Q X.xe s:=by
 have hlt:a<s.heap.objs.size:=by obtain⟨_,e,_⟩:=tp;exact Heap.lt_size e
 refine wpAny_pyIter_list tp (q _ rfl (Walks.list (by exact I.ok.hd hc) _ _ (ve hlt) _) ⟨⟨_,Heap.get?_push_size _ rfl,rfl,rfl⟩,?_⟩ λb hb=>?_)
 .obtain ⟨o,e,r⟩:=tp;exact⟨o,Heap.get?_push_of_some _ e,r⟩
 .show b<(s.heap.push _).objs.size;rw[Heap.size_push];rcases kL.mp hb with rfl|hb
  .exact v9 _
  .rw [kj.mp hb];exact ux hlt
theorem js(ns:List Int):∀k,k<=ns.length->preSum (λi=>ns.getD i 0) k=(ns.take k).sum
 |0,_=>rfl
 |k+1,h=>by
  show preSum _ k+ns.getD k 0=_;rw[js ns k (),<-kF (by assumption:k<ns.length),vO,getD_at (by assumption)];simp
end
theorem zb4{A B:Prop}(h:if false=true then A else B):B:=by rwa [if_neg kt]at h
theorem zb5{A B:Prop}(h:if true=true then A else B):A:=by rwa [if_pos rfl]at h
def yc(X:Cx)(Nc:List Str)(scope:Scope)(cl:List (Str×Addr))(s:Shared)(H:Hp)(C:Addr)(fp:List Addr):Cx :=
 {X with N:=Nc,s₀:=s,H₀:=H,env:=compEnvC scope cl C X.env,outer:=X.stack,ex:=fp,fn:=λ_=>false,pn:=[],xe:=λ_ _=>False}
def seen(ix:List (Option Nat))(σ:St):St:=ix.map λo=>match o with
 |some j=>(σ[j]?).getD none
 |none=>none
theorem W1{scope:Scope}{env:Env}(h:∀x∈scope.names,x.2=.free->∃c,env.cells.lookup x.1=some c):
  ∃cl,closureFor scope env=pure cl/\(∀x c,cl.lookup x=some c->env.cells.lookup x=some c)/\∀x∈scope.names,x.2=.free->∃c,cl.lookup x.1=some c:=by
 have go:∀(ns:List (Str×NameKind))(cs:List (Str×Addr)),(∀x∈ns,x.2=.free->∃c,env.cells.lookup x.1=some c)->(∀x c,cs.lookup x=some c->env.cells.lookup x=some c) ->
   ∃cl,(forIn ns cs λ(x:Str×NameKind)(r:List (Str×Addr))=>(if(x.2==.free)=true then(do let c <-cellOf env x.1;pure (ForInStep.yield ((x.1,c)::r)))else pure (ForInStep.yield r):Sem _))=pure cl /\
    (∀x c,cl.lookup x=some c->env.cells.lookup x=some c)/\(∀x∈ns,x.2=.free->∃c,cl.lookup x.1=some c)/\∀x c,cs.lookup x=some c->∃c',cl.lookup x=some c':=by
  intro ns
  induction ns with
  |nil=>intro cs _ h2;exact⟨cs,rfl,h2,λx hx=>(nomatch hx),λx c e=>⟨c,e⟩⟩
  |cons p r ih =>
   obtain⟨n,k⟩:=p;intro cs h1 h2;by_cases hk:k=.free
   .subst hk;obtain⟨c,hc⟩:=h1 (n,.free) ke rfl;have hcs:∀x c',bY x ((n,c)::cs)=some c'->env.cells.lookup x=some c':=λx c' e=>by
     rw[vJ]at e;cases hx:x==n with
     |true=>rw[hx]at e;cases e;rw[eq_of_beq hx];exact hc
     |false=>rw[hx]at e;exact h2 x c' e
    obtain⟨cl,e1,e2,e3,e4⟩:=ih ((n,c)::cs) (λx hx=>h1 x (kg _ hx)) hcs;refine⟨cl,?_,e2,λx hx hf=>?_,λx c' e=>?_⟩
    .rw [bK];have:cellOf env n=pure c:=by unfold cellOf;rw[hc]
     simp only[beq_self_eq_true,if_true,this,pure_bind];exact e1
    .rcases kL.mp hx with rfl|hx
     .exact e4 n c (by rw[vJ,beq_self_eq_true])
     .exact e3 x hx hf
    .cases hx:x==n with
     |true=>exact e4 x c (by rw[vJ,hx])
     |false=>exact e4 x c' (by rw[vJ,hx];exact e)
   .obtain ⟨cl,e1,e2,e3,e4⟩:=ih cs (λx hx=>h1 x (kg _ hx)) h2;refine⟨cl,?_,e2,λx hx hf=>?_,e4⟩
    .rw [bK];have hb:(k==NameKind.free)=false:=by simpa using hk
     simp only[hb,bu,if_false,pure_bind];exact e1
    .rcases kL.mp hx with rfl|hx
     .exact absurd hf hk
     .exact e3 x hx hf
 obtain⟨cl,e1,e2,e3,_⟩:=go scope.names [] h (λx c e=>by cases e);refine⟨cl,?_,e2,e3⟩;unfold closureFor;simp only[bind_pure];exact e1
def PTs(X:Cx)(ifs:List Expr)(t:TT):Prop :=
 ∀(pins:List (Addr×Obj))(s:Shared)(σ:St)(H:Hp)(Q:Bool->Hp->Prop),Inv X pins σ H s->t σ H Q ->
  wpAny (model X.prog X.w) X.A (forIn ifs true λc r=>if r=true then do let ok <-isTrue c X.env (eval c X.env);pure (ForInStep.yield ok)else pure (ForInStep.yield r)) (TP X pins σ Q) X.xe s
def tYes:TT:=λ_ H Q=>Q true H
theorem zS{X:Cx}:PTs X [] tYes:=λ_ _ _ H _ I h=>wpAny_tests_nil ⟨H,I,h⟩
theorem wO{X:Cx}{c:Expr}{t:TT}(h:PT X c t):PTs X [c] t:=λpins s σ H Q I q=>wpAny_tests_one (h pins s σ H Q I q)
def YV(wi:TI)(ix:List (Option Nat))(g:TG)(tc:TT)(te:TE)(σ:St)(H:Hp)(R:List V->Hp->Prop):Prop:=wi σ H λJ H1=>∃W:Nat->Nat->List V->St->Hp->Prop,(∃m,W 0 m [] (seen ix σ) H1)/\∀i m ys σ' H',W i m ys σ' H' ->
 (J.stop i H'/\ys.length<=sizeLine/\R ys H') \/
 (J.go i H'/\ys.length<=sizeLine/\∃N:List V->St->Hp->Prop,(∀ys' σ2 H2,N ys' σ2 H2->∃m',m'<m/\W (i+1) m' ys' σ2 H2) /\
  ∀x H2,J.yld i H' x H2->g x σ' H2 λσ2 H3=>tc σ2 H3 λb H4=>if b=true then te σ2 H4 λy H5=>N (ys++[y]) σ2 H5 else N ys σ2 H4)
def zeA(wi:TI)(ix:List (Option Nat))(g:TG)(tc:TT)(te:TE):TE:=λσ H Q=>YV wi ix g tc te σ H λys H'=>∀l,H' l=none->Q (.ref l) (upd H' l (.lst ys))
def j5(scope outer:Scope)(N Nc:List Str)(ix:List (Option Nat)):Bool :=
 scope.names.all (λy=>y.2 != .cell)&&scope.kind==.function&&scope.names.all (λy=>y.2 != .local||scope.names.lookup y.1==some .local) &&
 scope.names.all (λy=>y.2 != .free||outer.names.lookup y.1==some .cell||outer.names.lookup y.1==some .free)&&ix.length==Nc.length &&
 (vc Nc.length).all λi=>match ix[i]?,Nc[i]? with
  |some (some j),some x=>N[j]? == some x&&(outer.names.lookup x==some .cell||outer.names.lookup x==some .free)&&scope.names.lookup x==some .free
  |_,_=>true
theorem w6{env:Env}:∀{names:List (Str×NameKind)}{y:Str}{k:NameKind},(∀z∈names,z.2≠.cell) ->
  (names.map λ(n,k)=>if(k==NameKind.free&&env.scope.kind==.function&&env.kindOf n==some .cell)then(n,NameKind.cell)else (n,k)).lookup y=some k->k=.cell\/k=.free->∃z∈names,z.1=y/\z.2=.free
 |[],_,_,_,h,_=>by simp at h
 |(n,k0)::r,y,k,hc,h,hk=>by
  rw[k8]at h;have h:bY y ((if(k0==NameKind.free&&env.scope.kind==.function&&env.kindOf n==some .cell)=true then(n,NameKind.cell)else (n,k0))::_)=some k:=h;cases hx:y==n with
  |true =>
   by_cases hb:(k0==NameKind.free&&env.scope.kind==.function&&env.kindOf n==some .cell)=true
   .simp only[vj,beq_iff_eq]at hb;exact⟨(n,k0),ke,(eq_of_beq hx).symm,hb.1.1⟩
   .rw [if_neg hb,vJ,hx]at h;cases h;rcases hk with rfl|rfl
    .exact absurd rfl (hc (n,.cell) ke)
    .exact ⟨(n,.free),ke,(eq_of_beq hx).symm,rfl⟩
  |false =>
   have h':bY y (r.map λ(n,k)=>if(k==NameKind.free&&env.scope.kind==.function&&env.kindOf n==some .cell)then(n,NameKind.cell)else (n,k))=some k:=by
    by_cases hb:(k0==NameKind.free&&env.scope.kind==.function&&env.kindOf n==some .cell)=true
    .rw [if_pos hb,vJ,hx]at h;exact h
    .rw [if_neg hb,vJ,hx]at h;exact h
   obtain⟨z,hz,e1,e2⟩:=w6 (λz hz=>hc z (kg _ hz)) h' hk;exact⟨z,kg _ hz,e1,e2⟩
theorem wv{env:Env}:∀{names:List (Str×NameKind)}{y:Str},names.lookup y=some .free ->
  (names.map λ(n,k)=>if(k==NameKind.free&&env.scope.kind==.function&&env.kindOf n==some .cell)then(n,NameKind.cell)else (n,k)).lookup y=some .cell \/
  (names.map λ(n,k)=>if(k==NameKind.free&&env.scope.kind==.function&&env.kindOf n==some .cell)then(n,NameKind.cell)else (n,k)).lookup y=some .free
 |[],_,h=>by simp at h
 |(n,k0)::r,y,h=>by
  rw[k8];show bY y ((if(k0==NameKind.free&&env.scope.kind==.function&&env.kindOf n==some .cell)=true then(n,NameKind.cell)else (n,k0))::_)=_\/bY y ((if(k0==NameKind.free&&env.scope.kind==.function&&env.kindOf n==some .cell)=true then(n,NameKind.cell)else (n,k0))::_)=_;cases hx:y==n with
  |true =>
   rw[vJ,hx]at h;cases h;by_cases hb:((NameKind.free==NameKind.free)&&env.scope.kind==.function&&env.kindOf n==some .cell)=true
   .rw [if_pos hb,vJ,hx];exact .inl rfl
   .rw [if_neg hb,vJ,hx];exact .inr rfl
  |false =>
   rw[vJ,hx]at h;by_cases hb:(k0==NameKind.free&&env.scope.kind==.function&&env.kindOf n==some .cell)=true
   .rw [if_pos hb,vJ,hx];exact wv h
   .rw [if_neg hb,vJ,hx];exact wv h
theorem Z3{X:Cx}{elt tg iter:Expr}{ifs:List Expr}{scope:Scope}{pos ipos:Pos}{Nc:List Str}{ix:List (Option Nat)}{wi:TI}{g:TG}{tc:TT}{te:TE}{use:Option (Value->Sem Unit)}{Q':Value->Shared->Prop}{R:List V->Hp->Prop}
  {pins:List (Addr×Obj)}{σ:St}{H:Hp}{s:Shared}(hc:X.calm=true)
  (hcell:∀y∈scope.names,y.2≠.cell)(hkind:scope.kind=.function)(hnames:∀y∈scope.names,y.2=.local->scope.names.lookup y.1=some .local)
  (hfree:∀y∈scope.names,y.2=.free->X.env.kindOf y.1=some .cell\/X.env.kindOf y.1=some .free)(hvis:∀y k,(relabel scope X.env).names.lookup y=some k->k=.cell\/k=.free->∃z∈scope.names,z.1=y/\z.2=.free)
  (hlen:ix.length=Nc.length)(hix:∀(i:Nat)(x:Str)(j:Nat),Nc[i]?=some x->ix[i]?=some (some j)->X.N[j]?=some x/\Vis X.env.scope x/\(X.env.kindOf x=some .local->False)/\((relabel scope X.env).names.lookup x=some .cell\/(relabel scope X.env).names.lookup x=some .free))
  (hi:PI X tg iter wi)(hg:∀cl s H C fp,PG (yc X Nc scope cl s H C fp) tg g)(hifs:∀cl s H C fp,PTs (yc X Nc scope cl s H C fp) ifs tc)(he:∀cl s H C fp,PE (yc X Nc scope cl s H C fp) elt te)
  (hs:∀x,foldedSetIterable iter X.env x=pure x)(I:Inv X pins σ H s)(h:YV wi ix g tc te σ H R)
  (fin:∀(D C:Addr)(oC:Obj)(ys:List V)(H3:Hp)(s4:Shared),(∃m,∀h':Heap,h'.get? C=some oC->h'.Ns C m)->H3 D=none->(upd H3 D (.lst ys)) C=none->j4 X pins C->Inv X (pins++[(C,oC)]) σ (upd H3 D (.lst ys)) s4->R ys H3 ->
   compPost (model X.prog X.w) X.A X.xe use Q' (.ref D) C (.ok .next) s4):
  wpAny (model X.prog X.w) X.A (comprehension (.ListComp elt [⟨tg,iter,ifs,0⟩] scope pos) scope X.env ipos (newList []) false (eval iter X.env) use) Q' X.xe s:=by
 obtain⟨cl,hclos,clX,clF⟩:=W1 (scope:=scope) (env:=X.env) λx hx hf=>I.ok.has x.1 (hfree x hx hf);refine wpAny_comprehension_free (use:=use) rfl hs hclos hkind hnames (thn (hi pins s σ H _ I h) λv s1 h1=>thn h1 λitv s2 h2=>?_);obtain⟨it,fp,tn,J,H1,rfl,I1,T,t0,hfp,W,⟨m0,w0⟩,turn⟩:=h2;refine wpAny_newObj_type (wpAny_newFunctionEnv hcell (by intro y hy;simp at hy) (λh₁ hns₁ hsb₁=>?_) hkind);dsimp only at hns₁ hsb₁ ⊢;generalize hH2:s2.heap.push {cls:=.type "list",dict:=none,data:=.seq ([]:List Value).toArray}=H2 at hns₁ hsb₁ ⊢;have hC:H2.objs.size=s2.heap.objs.size+1:=by rw[<-hH2,Heap.size_push]
 have hDC:s2.heap.objs.size≠H2.objs.size:=by rw[hC];exact ve (v9 _)
 have old:∀b o,s2.heap.get? b=some o->h₁.get? b=some o:=λb o e=>by
  have hb:=Heap.lt_size e;exact hsb₁.extBut b o (by rw[hC];exact ve (ux hb)) (Heap.get?_push_of_some _ (hH2 ▸ Heap.get?_push_of_some _ e))
 obtain⟨e0,hacc⟩:∃e0,h₁.get? s2.heap.objs.size=some (seqObj "list" ([]:List Value).toArray e0):=⟨_,hsb₁.extBut _ _ hDC (Heap.get?_push_of_some _ (hH2 ▸ Heap.get?_push_size _ rfl))⟩;generalize hCC:H2.objs.size=C at hns₁ hsb₁ hDC hC ⊢;generalize hDD:s2.heap.objs.size=D at hDC hC hacc ⊢;have hDle:s2.heap.objs.size<=D:=bc hDD;have hCle:s2.heap.objs.size<=C:=by rw[hC,<-hDD];exact v7 _
 have yD:=I1.young hDle;have nD:H1 D=none:=I1.hok.fresh hDle;have nC:H1 C=none:=I1.hok.fresh hCle;have fpLt:∀b∈fp,b<s2.heap.objs.size:=λb hb=>by
  obtain⟨o,e,_⟩:=T.obj 0 _ t0 b hb;exact Heap.lt_size e
 have fpD:D∉fp:=λhm=>absurd (fpLt _ hm) (bG.mpr hDle);have fpC:C∉fp:=λhm=>absurd (fpLt _ hm) (bG.mpr hCle);have frN:∀b∈frs X.stack,b<s2.heap.objs.size:=λb hb=>by
  obtain⟨_,o,ho,_⟩:=I1.stack.mem hb;exact Heap.lt_size ho
 have frFp:∀b∈fp,b∉frs X.stack:=λb hb hm=>by
  rcases kL.mp (I1.stkSub b hm)with z|z
  .exact (hfp b hb).2.1 z
  .exact (hfp b hb).2.2.1 z
 -- the block's context
 have ok:(yc X Nc scope cl s2 H1 C fp).Ok :=
  ⟨I.ok.mod,(by show(relabel scope X.env).kind=_;exact hkind),I.ok.glob,I.ok.blt,hCle,(λx y c e1 e2=>I.ok.inj x y c (clX x c e1) (clX y c e2)),
   (λx hx=>by
    obtain⟨z,hz,rfl,hf⟩:∃z∈scope.names,z.1=x/\z.2=.free:=by
     rcases hx with hx|hx
     .exact hvis x _ hx (.inl rfl)
     .exact hvis x _ hx (.inr rfl)
    exact clF z hz hf),(λx c z=>nomatch z),I.ok.hd,I.ok.frames,.inl rfl,
   (λb hb=>⟨λz=>fpC ((show b=C from z) ▸ hb),λx c e=>(hfp b hb).2.2.2.2.1 x c (clX x c e)⟩),(λb o e=>I1.bs b o e),kn I.ok.bsz I1.sz,
   (λb o e hb=>by
    rcases(hfp b hb).2.2.2.1 with z|z
    .exact I.ok.noex b o e z
    .have:=Heap.lt_size (I.ok.bs b o e).1;exact absurd this (bG.mpr z)),
   frFp,I1.stack,I1.stkFree⟩
 have start:∀tk,Inv (yc X Nc scope cl s2 H1 C fp) [(D,seqObj "list" ([]:List Value).toArray e0)] (seen ix σ) H1 {s2 with heap:=h₁,toks:=tk}:=λtk=>by
  refine⟨ok,rfl,I1.bare,Un.kept old,⟨_,hns₁,λi x v e1 e2 e3=>?_⟩,λx c e=>?_,nC,λx c e=>I1.freeC x c (clX x c e),λp hp=>?_,I1.hok.kept old,by show(seen ix σ).length=Nc.length;unfold seen;rw[ka];exact hlen⟩
  .unfold seen at e2;rw[k6]at e2;cases ei:ix[i]? with
   |none=>rw[ei]at e2;cases e2
   |some o =>
    rw[ei]at e2;cases o with
    |none=>cases e2
    |some j =>
     have e2':(σ[j]?).getD none=some v:=Option.some.inj e2;have e2'':σ[j]?=some (some v):=by
      cases ej:σ[j]? with
      |none=>rw[ej]at e2';cases e2'
      |some z=>rw[ej]at e2';exact congrArg some e2'
     obtain⟨n1,n2,n3,n4⟩:=hix i x j e1 ei;obtain⟨m,hm,hl⟩:=I1.loc;obtain⟨u,ru,lk⟩:=hl j x v n1 e2'' n2;refine⟨u,ru,.inr ⟨n4,?_⟩⟩;rcases lk with⟨k,_⟩|⟨_,c,ec,hc'⟩
     .exact (n3 k).elim
     .obtain ⟨z,hz,rfl,hf⟩:∃z∈scope.names,z.1=x/\z.2=.free:=by
       rcases n4 with hx|hx
       .exact hvis x _ hx (.inl rfl)
       .exact hvis x _ hx (.inr rfl)
      obtain⟨c',ec'⟩:=clF z hz hf;have:c'=c:=Option.some.inj ((clX _ _ ec').symm.trans ec);subst this;obtain⟨o,ho,hd⟩:=hc';exact⟨c',ec',o,old _ o ho,hd⟩
  .obtain ⟨v,o,ho,hd⟩:=I1.cell x c (clX x c e);exact⟨v,o,old _ o ho,hd⟩
  .have hp':p=(D,seqObj "list" ([]:List Value).toArray e0):=by simpa[yc]using hp
   subst hp';exact⟨hacc,nD,hDC,λhm=>absurd (frN _ hm) (bG.mpr hDle),λv z=>by cases z⟩
 have stat:∀{ks:List Value}{e:Nat}{H':Hp},(∀b∈fp,H' b=none)->∀b∈fp,FpOk (yc X Nc scope cl s2 H1 C fp) [(D,seqObj "list" ks.toArray e)] H' b:=λ{ks e H'} hn b hb =>
  ⟨hn b hb,λz=>fpC ((show b=C from z) ▸ hb),frFp b hb,.inl hb,λx c ec=>(hfp b hb).2.2.2.2.1 x c (clX x c ec),λp hp z=>by
   have hp':p=(D,seqObj "list" ks.toArray e):=by simpa[yc]using hp
   subst hp';exact fpD ((show b=D from z.symm) ▸ hb)⟩
 have loop:∀tk,codeAny (model X.prog X.w) X.A (.compLoop (.ListComp elt [⟨tg,iter,ifs,0⟩] scope pos) 0 (.ref it) (.ref D) (compEnvC scope cl C X.env)) (compPost (model X.prog X.w) X.A X.xe use Q' (.ref D) C) {s2 with heap:=h₁,toks:=tk}:=λtk=>by
  refine codeAny_loop rfl (λn s'=>∃i ys ks e σ' H',Inv (yc X Nc scope cl s2 H1 C fp) [(D,seqObj "list" ks.toArray e)] σ' H' s'/\Vals ys ks/\tn i s'.heap/\(∀b∈fp,H' b=none)/\W i n ys σ' H') ?_ m0
   ⟨0,[],[],e0,_,H1,start tk,.nil,T.keep _ _ _ t0 λb _ o e=>old b o e,λb hb=>(hfp b hb).1,w0⟩
  rintro n s3 ⟨i,ys,ks,e,σ3,H3,I3,rv,st3,fr3,w3⟩;show wpAny _ X.A ((compTurn (.ListComp elt [⟨tg,iter,ifs,0⟩] scope pos) 0 (.ref it) (.ref D) (compEnvC scope cl C X.env)).onRaise (λx=>do noteFrame x (compEnvC scope cl C X.env);theTreesLotGoes x)) _ _ s3;refine wpAny_noted ?_;rw[compTurn_list];refine wpAny_bind (wpAny_standAt ?_);have lk:=rv.length;rcases turn i n ys σ3 H3 w3 with⟨stop,sz,q⟩|⟨go,sz,N,hN,step⟩
  .refine wpAny_bind (thn (T.done (yc X Nc scope cl s2 H1 C fp) rfl rfl rfl hc i _ s3 σ3 H3 _ I3 (stat fr3) st3 stop) λr s4 h9=>?_);obtain⟨hr,I4⟩:=h9;subst hr;refine wpAny_pure ?_;obtain⟨m,⟨oC,esC,epC,hoC,hdC,rC⟩,_⟩:=I4.loc;have hoC:s4.heap.get? C=some oC:=hoC;have pD:=I4.pin (D,seqObj "list" ks.toArray e) (kG _ ke);have nC4:H3 C=none:=I4.free;have yC:=I1.young hCle;have I5:Inv X pins σ H3 s4:=I1.call' (ch:=fp) I4.os (show Un (frs X.stack) fp H1 H3 s2.heap s4.heap from I4.base) I4.hok I4.bare λb hb=>⟨(hfp b hb).2.2.2.1,(hfp b hb).2.1,(hfp b hb).2.2.2.2.1,(hfp b hb).2.2.2.2.2⟩;have I6:=I5.track (p:=D) (o:=.lst ys) pD.2.1 (Heap.get?_none_of_le (kn I1.sz hDle)) yD.lo yD.ce yD.pi ⟨sz,ks,e,rv,pD.1⟩;have nC6:(upd H3 D (.lst ys)) C=none:=by rw[zr hDC.symm];exact nC4
   have I7:Inv X (pins++[(C,oC)]) σ (upd H3 D (.lst ys)) s4:=I6.pins_of λp hp=>by
    rcases kQ.mp hp with hp|hp
    .exact I6.pin p (kG _ hp)
    .obtain rfl:=kj.mp hp;exact⟨hoC,nC6,yC.lo,yC.fs,λv z=>by rw[hdC]at z;cases z⟩
   exact fin D C oC ys H3 s4 ⟨m,λh' e'=>⟨oC,esC,epC,e',hdC,rC⟩⟩ pD.2.1 nC6 yC I7 q
  .refine wpAny_bind (thn (T.item (yc X Nc scope cl s2 H1 C fp) rfl rfl rfl hc i _ s3 σ3 H3 _ I3 (stat fr3) st3 go) λr s4 h9=>?_);obtain⟨u,hr,h4⟩:=h9;subst hr;refine wpAny_bind (thn h4 λ_ s5 h9=>?_);obtain⟨x,H5,I5,r5,y5,st5,fr5⟩:=h9;have I5':=I5.pinned (stat fr5) (T.obj _ _ st5);refine wpAny_bind (wpAny_mono (hg cl s2 H1 C fp _ s5 σ3 H5 x u _ I5' r5 (step x H5 y5)) (λ_ s6 ⟨σ6,H6,I6,q6⟩=>?_) λ_ _ z=>False.elim z);refine wpAny_bind (wpAny_mono (hifs cl s2 H1 C fp _ s6 σ6 H6 _ I6 q6) (λok s7 ⟨H7,I7,q7⟩=>?_) λ_ _ z=>False.elim z);have fin:∀{ks':List Value}{e':Nat}{ys':List V}{σ8:St}{H8:Hp}{s8:Shared},Inv (yc X Nc scope cl s2 H1 C fp) ([(D,seqObj "list" ks'.toArray e')]++xT fp s5.heap) σ8 H8 s8->Vals ys' ks'->N ys' σ8 H8 ->
     ∃m,m<n/\∃i ys ks e σ' H',Inv (yc X Nc scope cl s2 H1 C fp) [(D,seqObj "list" ks.toArray e)] σ' H' s8/\Vals ys ks/\tn i s8.heap/\(∀b∈fp,H' b=none)/\W i m ys σ' H':=λ{ks' e' ys' σ8 H8 s8} I8 rv' n8=>by
    obtain⟨m',hm,w8⟩:=hN _ σ8 H8 n8;refine⟨m',hm,i+1,ys',ks',e',σ8,H8,I8.unpinned,rv',T.keep _ _ _ st5 λb hb o eo=>(I8.pin (b,o) (kG _ (kG _ (xY hb eo)))).1,λb hb=>?_,w8⟩;obtain⟨o,eo,d⟩:=T.obj _ _ st5 b hb;exact(I8.pin (b,o) (kG _ (kG _ (xY hb eo)))).2.1
   cases ok with
   |false =>
    have q7:=zb4 q7;exact wpAny_pure ⟨rfl,fin I7 rv q7⟩
   |true =>
    have q7:=zb5 q7;refine wpAny_bind (wpAny_bind (wpAny_mono (he cl s2 H1 C fp _ s7 σ6 H7 _ I7 q7) (λy s8 ⟨vy,H8,I8,ry,n8⟩=>?_) λ_ _ z=>False.elim z));have pD:=I8.pin (D,seqObj "list" ks.toArray e) (kG _ (kU _ ke));refine wpAny_bind (wpAny_list_append_plain (hsz:=by rw[ko,<-lk];exact sz) ⟨e,pD.1⟩ λh9 hl9 hs9=>?_);refine wpAny_pure (wpAny_pure ⟨rfl,?_⟩);obtain⟨e9,hl9⟩:=hl9;have ea:ks.toArray.push y=(ks++[y]).toArray:=by simp
    rw[ea]at hl9;refine fin (ks':=ks++[y]) (e':=e9) (ys':=ys++[vy]) ?_ (Vals.append rv (.cons ry .nil)) n8;have ne9:∀p∈xT fp s5.heap,p.1≠D:=λp hp z=>fpD (z ▸ (ZT hp).1);have yDb:j4 (yc X Nc scope cl s2 H1 C fp) (xT fp s5.heap) D:=⟨hDC,λhm=>absurd (frN _ hm) (bG.mpr hDle),.inr hDle,λx c ec=>yD.ce x c (clX x c ec),λp hp=>ne9 p (by simpa[yc]using hp)⟩;have I8a:Inv (yc X Nc scope cl s2 H1 C fp) (xT fp s5.heap) σ6 H8 s8:=I8.pins_of λp hp=>I8.pin p (kG _ (kG _ hp));have I8b:=I8a.record yDb pD.2.1 hs9;exact I8b.pins_of λp hp=>by
     rcases kQ.mp hp with hp|hp
     .obtain rfl:=kj.mp hp;exact⟨hl9,pD.2.1,yDb.lo,yDb.fs,λv z=>by cases z⟩
     .exact I8b.pin p (kG _ hp)
 exact codeAny_compStart_list (loop _) (T.self _ 0 _ _ _ (T.keep _ _ _ t0 λb _ o e=>old b o e) (loop _))
theorem j6{X:Cx}{scope:Scope}{Nc:List Str}{ix:List (Option Nat)}(h:j5 scope X.env.scope X.N Nc ix=true):(∀y∈scope.names,y.2≠.cell)/\scope.kind=.function/\(∀y∈scope.names,y.2=.local->scope.names.lookup y.1=some .local) /\
  (∀y∈scope.names,y.2=.free->X.env.kindOf y.1=some .cell\/X.env.kindOf y.1=some .free)/\ix.length=Nc.length /\
  ∀(i:Nat)(x:Str)(j:Nat),Nc[i]?=some x->ix[i]?=some (some j)->X.N[j]?=some x/\Vis X.env.scope x/\(X.env.kindOf x=some .local->False)/\((relabel scope X.env).names.lookup x=some .cell\/(relabel scope X.env).names.lookup x=some .free):=by
 unfold j5 at h;simp only[vj,beq_iff_eq,vP,bp,bne_iff_ne]at h;obtain⟨⟨⟨⟨⟨h1,h2⟩,h3⟩,h4⟩,h5⟩,h6⟩:=h;refine⟨h1,h2,λy hy e=>?_,λy hy e=>?_,h5,λi x j e1 e2=>?_⟩
 .rcases h3 y hy with z|z
  .exact absurd e z
  .exact z
 .rcases h4 y hy with(z|z)|z
  .exact absurd e z
  .exact .inl z
  .exact .inr z
 .have q:=h6 i (vR.mpr (kh.mp e1).1);rw[e1,e2]at q;simp only[vj,beq_iff_eq,bp]at q;obtain⟨⟨q1,q2⟩,q3⟩:=q;refine⟨q1,?_,λz=>?_,wv q3⟩
  .rcases q2 with z|z
   .exact .inr (.inl z)
   .exact .inr (.inr z)
  .have z':X.env.scope.names.lookup x=some .local:=z;rcases q2 with y|y
   .rw [y]at z';cases z'
   .rw [y]at z';cases z'
theorem zP{X:Cx}{elt tg iter:Expr}{ifs:List Expr}{scope:Scope}{pos:Pos}{Nc:List Str}{ix:List (Option Nat)}{wi:TI}{g:TG}{tc:TT}{te:TE}(hc:X.calm=true)(hok:j5 scope X.env.scope X.N Nc ix=true)
  (hi:PI X tg iter wi)(hg:∀cl s H C fp,PG (yc X Nc scope cl s H C fp) tg g)(hifs:∀cl s H C fp,PTs (yc X Nc scope cl s H C fp) ifs tc)(he:∀cl s H C fp,PE (yc X Nc scope cl s H C fp) elt te)
  (hs:∀x,foldedSetIterable iter X.env x=pure x:=by intro _;rfl):PE X (.ListComp elt [⟨tg,iter,ifs,0⟩] scope pos) (zeA wi ix g tc te):=by
 intro pins s σ H Q I h;obtain⟨h1,h2,h3,h4,h5,h6⟩:=j6 hok;rw[eval_ListComp];refine Z3 (Q':=EP X pins σ Q) hc h1 h2 h3 h4 (λy k e hk=>w6 h1 e hk) h5 h6 hi hg hifs he hs I h λD C oC ys H3 s4 hN nD nC yC I4 q=>?_;have pC:=I4.pin (C,oC) (kG _ (kG _ ke));obtain⟨m,hm⟩:=hN;exact⟨m,hm _ pC.1,λh' hsb=>⟨.ref D,_,I4.unpinned.record yC nC hsb,rfl,q D nD⟩⟩
def zeB(i:Nat)(wi:TI)(ix:List (Option Nat))(g:TG)(tc:TT)(te:TE):TS:=λD σ H=>YV wi ix g tc te σ H λys H'=>∀l,H' l=none->D.nx (σ.set i (some (.ref l))) (upd H' l (.lst ys))
theorem Zx{X:Cx}{i:Nat}{y:Str}{elt tg iter:Expr}{ifs:List Expr}{scope:Scope}{pos spos py:Pos}{Nc:List Str}{ix:List (Option Nat)}{wi:TI}{g:TG}{tc:TT}{te:TE}(hN:X.N.Nodup)(hi':X.N[i]?=some y)(hx:Loc X.env.scope y)(hc:X.calm=true)(hok:j5 scope X.env.scope X.N Nc ix=true)
  (hi:PI X tg iter wi)(hg:∀cl s H C fp,PG (yc X Nc scope cl s H C fp) tg g)(hifs:∀cl s H C fp,PTs (yc X Nc scope cl s H C fp) ifs tc)(he:∀cl s H C fp,PE (yc X Nc scope cl s H C fp) elt te)
  (hs:∀x,foldedSetIterable iter X.env x=pure x:=by intro _;rfl)(hsw:swapsWith (.ListComp elt [⟨tg,iter,ifs,0⟩] scope pos) (some (.Name y py)) spos.line X.env=pure true:=by rfl)
  (hf:X.fn y=true\/X.env.scope.names.lookup y=some .local:=by first|exact .inl rfl|exact .inr rfl|assumption):PS X (.Assign [.Name y py] (.ListComp elt [⟨tg,iter,ifs,0⟩] scope pos) spos) (zeB i wi ix g tc te):=by
 intro pins s σ H D I h;obtain⟨h1,h2,h3,h4,h5,h6⟩:=j6 hok;rw[exec_Assign_Name_used _ _ _ _ hsw];refine wpAny_bind (wpAny_standAt (wpAny_bind ?_));show wpAny _ X.A (do let _ <-comprehension (.ListComp elt [⟨tg,iter,ifs,0⟩] scope pos) scope X.env _ (newList []) false (eval iter X.env) (some (assign (.Name y py) X.env))) _ _ s;refine wpAny_bind (wpAny_mono (Z3 (Q':=λ_ s'=>SP X pins D .next s') hc h1 h2 h3 h4 (λy k e hk=>w6 h1 e hk) h5 h6 hi hg hifs he hs I h λDa C oC ys H3 s4 hN' nD nC yC I4 q=>?_)
  (λ_ s' hq=>wpAny_pure (wpAny_pure hq)) λ_ _ e=>e)
 show wpAny _ _ (assign (.Name y py) X.env (.ref Da)) _ _ s4;refine thn (zt (i:=i) hN hi' hx hf _ s4 σ _ (.ref Da) (.ref Da) (λσ' H'=>σ'=σ.set i (some (.ref Da))/\H'=upd H3 Da (.lst ys)) I4 rfl ⟨rfl,rfl⟩) λ_ s5 h9=>?_;obtain⟨σ5,H5,I5,e1,e2⟩:=h9;subst e1 e2;have pC:=I5.pin (C,oC) (kG _ (kG _ ke));obtain⟨m,hm⟩:=hN';exact⟨m,hm _ pC.1,λh' hsb=>⟨_,_,I5.unpinned.record yC nC hsb,q Da nD⟩⟩
section
variable{X:Cx}
theorem ww{pins:List (Addr×Obj)}{σ:St}{H:Hp}{s:Shared}{a:Addr}{its:List Value}(I:Inv X pins σ H s)(tp:s.heap.IsList a its.toArray)(hc:X.calm=true){Q:Value->Shared->Prop}
  (q:∀s2:Shared,s2={s with heap:=s.heap.push {cls:=.type "list_iterator",data:=.fields #[.ref a,.int 0 0]}}->Walks X.prog X.w X.A.in1 s.heap.objs.size [s.heap.objs.size,a] [s.heap.objs.size] its.toArray.size (λi v=>its.toArray[i]?=some v) (λi h=>h.IsListIter s.heap.objs.size a i/\h.IsList a its.toArray) ->
   (s2.heap.IsListIter s.heap.objs.size a 0/\s2.heap.IsList a its.toArray)->(∀b∈[s.heap.objs.size,a],b<s2.heap.objs.size)->Q (.ref s.heap.objs.size) s2):wpAny (model X.prog X.w) X.A.in1 (pyIter (.ref a)) Q X.xe s:=by
 have hlt:a<s.heap.objs.size:=by obtain⟨_,e,_⟩:=tp;exact Heap.lt_size e
 refine wpAny_pyIter_list tp (q _ rfl (Walks.list (by exact I.ok.hd hc) _ _ (ve hlt) _) ⟨⟨_,Heap.get?_push_size _ rfl,rfl,rfl⟩,?_⟩ λb hb=>?_)
 .obtain ⟨o,e,r⟩:=tp;exact⟨o,Heap.get?_push_of_some _ e,r⟩
 .show b<(s.heap.push _).objs.size;rw[Heap.size_push];rcases kL.mp hb with rfl|hb
  .exact v9 _
  .rw [kj.mp hb];exact ux hlt
theorem YW{bs:List Bool}{its:List Value}(r:Vals (bs.map V.bl) its):∀(i:Nat)(v:Value),its.toArray[i]?=some v->v=Value.bool (bs.getD i false):=by
 intro i v e;rw[bE]at e;have hl:=r.length;have hi:i<its.length:=(kh.mp e).1;rw[ka]at hl;have hx:(bs.map V.bl)[i]?=some (.bl (bs.getD i false)):=by
  rw[k6,kf ()];simp[List.getD,show i<bs.length by lia]
 obtain⟨u,hu,ru⟩:=r.get hx;rw[e]at hu;cases hu;exact ru
theorem all_range(bs:List Bool):(vc bs.length).all (λi=>bs.getD i false)=bs.all id:=by
 rw[vW,vP,vP];constructor
 .intro h b hb;obtain⟨i,hi,rfl⟩:=vT.mp hb;have:=h i (vR.mpr hi)
  rwa [getD_at hi]at this
 .intro h i hi;have hi:=vR.mp hi;rw[getD_at hi];exact h _ (vB hi)
theorem any_range(bs:List Bool):(vc bs.length).any (λi=>bs.getD i false)=bs.any id:=by
 rw[vW,List.any_eq_true,List.any_eq_true];constructor
 .rintro ⟨i,hi,h⟩;have hi:=vR.mp hi;rw[getD_at hi]at h;exact⟨_,vB hi,h⟩
 .rintro ⟨b,hb,h⟩;obtain⟨i,hi,rfl⟩:=vT.mp hb;exact⟨i,vR.mpr hi,by rw[getD_at hi];exact h⟩
theorem xW(hc:X.calm=true):yz X (.builtin "all") (λxs H Q=>∃(a:Addr)(bs:List Bool),xs=[.ref a]/\SqL X.K H a (bs.map V.bl)/\Q (.bl (bs.all id)) H):=by
 intro pins s σ H xs us Q I r h;refine E_2 h λa bs n8=>A_3 n8 λe9 hq q=>?_;clear n8 h;subst e9;obtain⟨u,rfl,ru⟩:=vals1 r;cases ru;obtain⟨its,rv,tp,hz⟩:=I.list hq;have hl:=rv.length;rw[ka]at hl;refine call_all_walk (ww I tp.isList hc λs2 e W st hfp=>?_);subst e;refine⟨_,_,_,_,_,_,λi=>bs.getD i false,rfl,W,st,λi v A' Q' E' hP hQ=>?_,λh' tk hk=>?_⟩
 .have:=YW rv i v hP;subst this;exact wpAny_truthy_bool hQ
 .refine ⟨.bl _,H,I.kept (t':=tk) λb o e=>hk b o (λm=>?_) (Heap.get?_push_of_some _ e),?_,q⟩
  .have:=Heap.lt_size e;rw[kj.mp m]at this;exact vF _ this
  .show Value.bool _=Value.bool _;rw[ko,<-hl,all_range]
theorem Z4(hc:X.calm=true):yz X (.builtin "any") (λxs H Q=>∃(a:Addr)(bs:List Bool),xs=[.ref a]/\SqL X.K H a (bs.map V.bl)/\Q (.bl (bs.any id)) H):=by
 intro pins s σ H xs us Q I r h;refine E_2 h λa bs n8=>A_3 n8 λe9 hq q=>?_;clear n8 h;subst e9;obtain⟨u,rfl,ru⟩:=vals1 r;cases ru;obtain⟨its,rv,tp,hz⟩:=I.list hq;have hl:=rv.length;rw[ka]at hl;refine call_any_walk (ww I tp.isList hc λs2 e W st hfp=>?_);subst e;refine⟨_,_,_,_,_,_,λi=>bs.getD i false,rfl,W,st,λi v A' Q' E' hP hQ=>?_,λh' tk hk=>?_⟩
 .have:=YW rv i v hP;subst this;exact wpAny_truthy_bool hQ
 .refine ⟨.bl _,H,I.kept (t':=tk) λb o e=>hk b o (λm=>?_) (Heap.get?_push_of_some _ e),?_,q⟩
  .have:=Heap.lt_size e;rw[kj.mp m]at this;exact vF _ this
  .show Value.bool _=Value.bool _;rw[ko,<-hl,any_range]
theorem Je(hc:X.calm=true):yz X (.builtin "min") (λxs H Q=>∃(a:Addr)(ns:List Int),xs=[.ref a]/\SqL X.K H a (ns.map V.int)/\0<ns.length/\∀M,M∈ns->(∀z∈ns,M<=z)->Q (.int M) H):=by
 intro pins s σ H xs us Q I r h;refine E_2 h λa ns n8=>A_4 n8 λe9 hq hn q=>?_;clear n8 h;subst e9;obtain⟨u,rfl,ru⟩:=vals1 r;cases ru;obtain⟨its,rv,tp,hz⟩:=I.list hq;have hl:=rv.length;rw[ka]at hl;refine call_min_walk (ww I tp.isList hc λs2 e W st hfp=>?_);subst e;refine I_7 _ _ _ _ _ _ _ ⟨rfl,W,st,hfp,by simp;lia,CmpOf.ints_lt (λi=>ns.getD i 0) (xI rv),λv h' tk hP hk=>?_⟩;obtain⟨t,rfl⟩:=xI rv _ _ hP;obtain⟨b1,b2⟩:=argBest_lt (λi=>ns.getD i 0) (its.toArray.size-1);rw[ko]at b1 b2;refine⟨.int _,H,I.kept (t':=tk) λb o e=>hk b o (λm=>?_) (Heap.get?_push_of_some _ e),⟨t,rfl⟩,q _ (jD ?_) λz hz=>?_⟩
 .have:=Heap.lt_size e;rw[kj.mp m]at this;exact vF _ this
 .rw [ko];omega
 .obtain ⟨j,hj,e⟩:=YQ hz;rw[<-e,ko];exact b2 j ()
theorem Jf(hc:X.calm=true):yz X (.builtin "max") (λxs H Q=>∃(a:Addr)(ns:List Int),xs=[.ref a]/\SqL X.K H a (ns.map V.int)/\0<ns.length/\∀M,M∈ns->(∀z∈ns,z<=M)->Q (.int M) H):=by
 intro pins s σ H xs us Q I r h;refine E_2 h λa ns n8=>A_4 n8 λe9 hq hn q=>?_;clear n8 h;subst e9;obtain⟨u,rfl,ru⟩:=vals1 r;cases ru;obtain⟨its,rv,tp,hz⟩:=I.list hq;have hl:=rv.length;rw[ka]at hl;refine call_max_walk (ww I tp.isList hc λs2 e W st hfp=>?_);subst e;refine I_7 _ _ _ _ _ _ _ ⟨rfl,W,st,hfp,by simp;lia,CmpOf.ints_gt (λi=>ns.getD i 0) (xI rv),λv h' tk hP hk=>?_⟩;obtain⟨t,rfl⟩:=xI rv _ _ hP;obtain⟨b1,b2⟩:=argBest_gt (λi=>ns.getD i 0) (its.toArray.size-1);rw[ko]at b1 b2;refine⟨.int _,H,I.kept (t':=tk) λb o e=>hk b o (λm=>?_) (Heap.get?_push_of_some _ e),⟨t,rfl⟩,q _ (jD ?_) λz hz=>?_⟩
 .have:=Heap.lt_size e;rw[kj.mp m]at this;exact vF _ this
 .rw [ko];omega
 .obtain ⟨j,hj,e⟩:=YQ hz;rw[<-e,ko];exact b2 j ()
end
inductive EqR(K:Frag)(H:Hp):Nat->V->V->Bool->Prop where
 |flat{n:Nat}{x y:V}(fx:yJ x=true)(fy:yJ y=true):EqR K H n x y (eqV x y)
 |tups{n:Nat}{a b:Addr}{xs ys:List V}{e:Nat->Bool}(ha:SqT K H a xs)(hb:SqT K H b ys)(he:∀j,j<xs.length->j<ys.length->EqR K H n (xs.getD j .non) (ys.getD j .non) (e j)):
   EqR K H (n+1) (.ref a) (.ref b) ((vc (min xs.length ys.length)).all e&&xs.length==ys.length)
 |lsts{n:Nat}{a b:Addr}{xs ys:List V}{e:Nat->Bool}(ha:SqL K H a xs)(hb:SqL K H b ys)(hl:xs.length=ys.length)(he:∀j,j<xs.length->EqR K H n (xs.getD j .non) (ys.getD j .non) (e j)):
   EqR K H (n+1) (.ref a) (.ref b) ((vc xs.length).all e)
 |lens{n:Nat}{a b:Addr}{xs ys:List V}(ha:SqL K H a xs)(hb:SqL K H b ys)(hl:xs.length≠ys.length):EqR K H (n+1) (.ref a) (.ref b) false
theorem YX:∀{x:V},yJ x=true->eqV x x=true
 |.non,_=>rfl
 |.bl b,_=>beq_self_eq_true b
 |.int i,_=>beq_self_eq_true i
 |.str s,_=>beq_self_eq_true s
section
variable{X:Cx}{pins:List (Addr×Obj)}{σ:St}{H:Hp}{s:Shared}
theorem EqR.refl(I:Inv X pins σ H s){n:Nat}{x y:V}{b:Bool}(h:EqR X.K H n x y b):x=y->b=true:=by
 induction h with
 |flat fx fy=>intro e;subst e;exact YX fx
 |@tups n a b xs ys e ha hb he ih =>
  intro z;cases z;have:=I.tuple_inj ha hb;subst this;rw[beq_self_eq_true,Bool.and_true,vP];intro j hj;have hj:=vR.mp hj;exact ih j () () rfl
 |@lsts n a b xs ys e ha hb hl he ih =>
  intro z;cases z;have:=I.list_inj ha hb;subst this;rw[vP];intro j hj;exact ih j (vR.mp hj) rfl
 |@lens n a b xs ys ha hb hl =>
  intro z;cases z;exact absurd (by rw[I.list_inj ha hb]) hl
theorem EqR.at(I:Inv X pins σ H s){n:Nat}{x y:V}{b:Bool}(h:EqR X.K H n x y b):∀{A:Around}{u v:Value},RelV x u->RelV y v->A.units+n<cLine->SeqAt.EqAt A s u v b:=by
 induction h with
 |flat fx fy=>intro A u v ru rv _;exact YJ ru rv fx fy
 |@tups n a b xs ys e ha hb he ih =>
  intro A u v ru rv hu;cases ru;cases rv;by_cases hab:a=b
  .have:=EqR.refl I (EqR.tups (n:=n) ha hb he) (by rw[hab]);rw[this,hab];exact SeqAt.EqAt.same _
  .obtain ⟨i1,r1,p1,z1⟩:=I.tuple ha;obtain⟨i2,r2,p2,z2⟩:=I.tuple hb;have l1:=r1.length;have l2:=r2.length;have:=SeqAt.RcAt.tuples (A:=A) (e:=e) (show s.heap.IsTuple a i1.toArray from p1) (show s.heap.IsTuple b i2.toArray from p2) () λj h1 h2=>by
    have h1':j<i1.length:=by simpa using h1
    have h2':j<i2.length:=by simpa using h2
    have q:=ih j () () (A:=A.in1) (yx r1 h1') (yx r2 h2') (by show A.units+1+n<cLine;lia);simpa using q
   rw[ko,ko,<-l1,<-l2]at this;exact SeqAt.EqAt.of_refs hab this
 |@lsts n a b xs ys e ha hb hl he ih =>
  intro A u v ru rv hu;cases ru;cases rv;by_cases hab:a=b
  .have:=EqR.refl I (EqR.lsts (n:=n) ha hb hl he) (by rw[hab]);rw[this,hab];exact SeqAt.EqAt.same _
  .obtain ⟨i1,r1,p1,z1⟩:=I.list ha;obtain⟨i2,r2,p2,z2⟩:=I.list hb;have l1:=r1.length;have l2:=r2.length;have:=SeqAt.RcAt.lists (A:=A) (e:=e) p1.isList p2.isList (by simp;lia) () λj h1 h2=>by
    have h1':j<i1.length:=by simpa using h1
    have h2':j<i2.length:=by simpa using h2
    have q:=ih j () (A:=A.in1) (yx r1 h1') (yx r2 h2') (by show A.units+1+n<cLine;lia);simpa using q
   rw[ko,<-l1]at this;exact SeqAt.EqAt.of_refs hab this
 |@lens n a b xs ys ha hb hl =>
  intro A u v ru rv hu;cases ru;cases rv;obtain⟨i1,r1,p1,z1⟩:=I.list ha;obtain⟨i2,r2,p2,z2⟩:=I.list hb;have l1:=r1.length;have l2:=r2.length;have hab:a≠b:=λz=>by subst z;exact hl (by rw[I.list_inj ha hb])
  exact SeqAt.EqAt.of_refs hab (SeqAt.RcAt.lists_lengths p1.isList p2.isList (by simp;lia) ())
def rEqR(K:Frag)(neg:Bool):R2:=λx y H Q=>∃(a c:Addr)(n:Nat)(b:Bool),x=.ref a/\y=.ref c/\EqR K H n x y b/\n<=50/\Q (.bl (if neg then !b else b)) H
theorem Jg(hu:X.A.units+64<cLine):OpR X (compareOp .Eq) (rEqR X.K false):=by
 intro pins s σ H x y v u Q I rx ry h;refine E_4 h λa c n b n8=>A_5 n8 λe9 n90 e hn q=>?_;clear n8 h;subst e9;subst n90;cases rx;cases ry;have fin:∀{k:Bool},k=b->EP X pins σ Q (.bool k) s:=λz=>⟨.bl b,H,I,by rw[z];rfl,q⟩;cases e with
 |flat fx fy=>exact absurd (show false=true from fx) kt
 |@tups n _ _ xs ys e ha hb he =>
  obtain⟨i1,r1,p1,z1⟩:=I.tuple ha;obtain⟨i2,r2,p2,z2⟩:=I.tuple hb;have l1:=r1.length;have l2:=r2.length;refine SeqAt.eq_tupleAt (e:=e) (show s.heap.IsTuple a i1.toArray from p1) (show s.heap.IsTuple c i2.toArray from p2) () (λj h1 h2=>?_) (fin ?_)
  .have h1':j<i1.length:=by simpa using h1
   have h2':j<i2.length:=by simpa using h2
   have q:=(he j () ()).at I (A:=X.A.in1) (yx r1 h1') (yx r2 h2') (by show X.A.units+1+n<cLine;lia);simpa using q
  .rw [ko,ko,<-l1,<-l2]
 |@lsts n _ _ xs ys e ha hb hl he =>
  obtain⟨i1,r1,p1,z1⟩:=I.list ha;obtain⟨i2,r2,p2,z2⟩:=I.list hb;have l1:=r1.length;have l2:=r2.length;refine SeqAt.eq_listAt (e:=e) p1.isList p2.isList (by simp;lia) () (λj h1 h2=>?_) (fin ?_)
  .have h1':j<i1.length:=by simpa using h1
   have h2':j<i2.length:=by simpa using h2
   have q:=(he j ()).at I (A:=X.A.in1) (yx r1 h1') (yx r2 h2') (by show X.A.units+1+n<cLine;lia);simpa using q
  .rw [ko,<-l1]
 |@lens n _ _ xs ys ha hb hl =>
  obtain⟨i1,r1,p1,z1⟩:=I.list ha;obtain⟨i2,r2,p2,z2⟩:=I.list hb;have l1:=r1.length;have l2:=r2.length;exact SeqAt.eq_list_lengthsAt p1.isList p2.isList (by simp;lia) () (fin rfl)
theorem YY(hu:X.A.units+64<cLine):OpR X (compareOp .NotEq) (rEqR X.K true):=by
 intro pins s σ H x y v u Q I rx ry h;refine E_4 h λa c n b n8=>A_5 n8 λe9 n90 e hn q=>?_;clear n8 h;subst e9;subst n90;cases rx;cases ry;have fin:∀{k:Bool},k=b->EP X pins σ Q (.bool (!k)) s:=λz=>⟨.bl (!b),H,I,by rw[z];rfl,q⟩;cases e with
 |flat fx fy=>exact absurd (show false=true from fx) kt
 |@tups n _ _ xs ys e ha hb he =>
  obtain⟨i1,r1,p1,z1⟩:=I.tuple ha;obtain⟨i2,r2,p2,z2⟩:=I.tuple hb;have l1:=r1.length;have l2:=r2.length;refine SeqAt.RcNeAt.tuples (e:=e) (show s.heap.IsTuple a i1.toArray from p1) (show s.heap.IsTuple c i2.toArray from p2) () (λj h1 h2=>?_) _ _ _ _ (fin ?_)
  .have h1':j<i1.length:=by simpa using h1
   have h2':j<i2.length:=by simpa using h2
   have q:=(he j () ()).at I (A:=X.A.in1) (yx r1 h1') (yx r2 h2') (by show X.A.units+1+n<cLine;lia);simpa using q
  .rw [ko,ko,<-l1,<-l2]
 |@lsts n _ _ xs ys e ha hb hl he =>
  obtain⟨i1,r1,p1,z1⟩:=I.list ha;obtain⟨i2,r2,p2,z2⟩:=I.list hb;have l1:=r1.length;have l2:=r2.length;refine SeqAt.RcNeAt.lists (e:=e) p1.isList p2.isList (by simp;lia) () (λj h1 h2=>?_) _ _ _ _ (fin ?_)
  .have h1':j<i1.length:=by simpa using h1
   have h2':j<i2.length:=by simpa using h2
   have q:=(he j ()).at I (A:=X.A.in1) (yx r1 h1') (yx r2 h2') (by show X.A.units+1+n<cLine;lia);simpa using q
  .rw [ko,<-l1]
 |@lens n _ _ xs ys ha hb hl =>
  obtain⟨i1,r1,p1,z1⟩:=I.list ha;obtain⟨i2,r2,p2,z2⟩:=I.list hb;have l1:=r1.length;have l2:=r2.length;exact SeqAt.RcNeAt.lists_lengths p1.isList p2.isList (by simp;lia) () _ _ _ _ (fin (k:=false) rfl)
end
open PySem.W
section
variable{g:TG}{tc:TT}{te:TE}{σ0:St}{H0:Hp}{R:List V->Hp->Prop}{K:Frag}{a:Addr}{xs:List V}
theorem x9{J:It}{n:Nat}(Pv:Nat->List V->St->Hp->Prop)(h0:Pv 0 [] σ0 H0)(hz:∀i ys σ H,i<=n->Pv i ys σ H->ys.length<=sizeLine)(hst:∀ys σ H,Pv n ys σ H->J.stop n H/\R ys H)
  (hgo:∀i ys σ H,i<n->Pv i ys σ H->J.go i H/\∀x H2,J.yld i H x H2->g x σ H2 λσ2 H3=>tc σ2 H3 λb H4=>if b=true then te σ2 H4 λy H5=>Pv (i+1) (ys++[y]) σ2 H5 else Pv (i+1) ys σ2 H4):
  ∃W:Nat->Nat->List V->St->Hp->Prop,(∃m,W 0 m [] σ0 H0)/\∀i m ys σ' H',W i m ys σ' H' ->
   (J.stop i H'/\ys.length<=sizeLine/\R ys H') \/
   (J.go i H'/\ys.length<=sizeLine/\∃N:List V->St->Hp->Prop,(∀ys' σ2 H2,N ys' σ2 H2->∃m',m'<m/\W (i+1) m' ys' σ2 H2) /\
    ∀x H2,J.yld i H' x H2->g x σ' H2 λσ2 H3=>tc σ2 H3 λb H4=>if b=true then te σ2 H4 λy H5=>N (ys++[y]) σ2 H5 else N ys σ2 H4):=by
 refine⟨λi m ys σ H=>m=n-i/\i<=n/\Pv i ys σ H,⟨n,by simp,kR _,h0⟩,?_⟩;rintro i m ys σ H ⟨rfl,hi,p⟩;by_cases hlt:i<n
 .obtain ⟨go,turn⟩:=hgo i ys σ H hlt p;exact .inr ⟨go,hz i ys σ H hi p,Pv (i+1),λys' σ' H' p'=>⟨n-(i+1),by omega,rfl,hlt,p'⟩,turn⟩
 .have e:i=n:=()
  subst e;obtain⟨st,r⟩:=hst ys σ H p;exact .inl ⟨st,hz i ys σ H hi p,r⟩
theorem ye(Pv:Nat->List V->St->Hp->Prop)(h0:Pv 0 [] σ0 H0)(hz:∀i ys σ H,i<=xs.length->Pv i ys σ H->ys.length<=sizeLine/\SqL K H a xs)(hst:∀ys σ H,Pv xs.length ys σ H->R ys H)
  (hgo:∀i x ys σ H,xs[i]?=some x->Pv i ys σ H->g x σ H λσ2 H3=>tc σ2 H3 λb H4=>if b=true then te σ2 H4 λy H5=>Pv (i+1) (ys++[y]) σ2 H5 else Pv (i+1) ys σ2 H4):
  ∃W:Nat->Nat->List V->St->Hp->Prop,(∃m,W 0 m [] σ0 H0)/\∀i m ys σ' H',W i m ys σ' H' ->
   ((Itl K a).stop i H'/\ys.length<=sizeLine/\R ys H') \/
   ((Itl K a).go i H'/\ys.length<=sizeLine/\∃N:List V->St->Hp->Prop,(∀ys' σ2 H2,N ys' σ2 H2->∃m',m'<m/\W (i+1) m' ys' σ2 H2) /\
     ∀x H2,(Itl K a).yld i H' x H2->g x σ' H2 λσ2 H3=>tc σ2 H3 λb H4=>if b=true then te σ2 H4 λy H5=>N (ys++[y]) σ2 H5 else N ys σ2 H4) :=
 x9 (n:=xs.length) Pv h0 (λi ys σ H hi p=>(hz i ys σ H hi p).1) (λys σ H p=>⟨⟨xs,(hz _ ys σ H (kc _) p).2,kc _⟩,hst ys σ H p⟩)
  λi ys σ H hi p=>⟨⟨xs,xs[i],(hz i ys σ H (vw hi) p).2,by simp[hi]⟩,λx H2 y=>by
   obtain⟨e,y⟩:=y;subst e;exact hgo i x ys σ _ (y xs (hz i ys σ _ (vw hi) p).2) p⟩
theorem wb(Pv:Nat->List V->St->Hp->Prop)(h0:Pv 0 [] σ0 H0)(hz:∀i ys σ H,i<=xs.length->Pv i ys σ H->ys.length<=sizeLine/\SqT K H a xs)(hst:∀ys σ H,Pv xs.length ys σ H->R ys H)
  (hgo:∀i x ys σ H,xs[i]?=some x->Pv i ys σ H->g x σ H λσ2 H3=>tc σ2 H3 λb H4=>if b=true then te σ2 H4 λy H5=>Pv (i+1) (ys++[y]) σ2 H5 else Pv (i+1) ys σ2 H4):
  ∃W:Nat->Nat->List V->St->Hp->Prop,(∃m,W 0 m [] σ0 H0)/\∀i m ys σ' H',W i m ys σ' H' ->
   ((Itt K a).stop i H'/\ys.length<=sizeLine/\R ys H') \/
   ((Itt K a).go i H'/\ys.length<=sizeLine/\∃N:List V->St->Hp->Prop,(∀ys' σ2 H2,N ys' σ2 H2->∃m',m'<m/\W (i+1) m' ys' σ2 H2) /\
     ∀x H2,(Itt K a).yld i H' x H2->g x σ' H2 λσ2 H3=>tc σ2 H3 λb H4=>if b=true then te σ2 H4 λy H5=>N (ys++[y]) σ2 H5 else N ys σ2 H4) :=
 x9 (n:=xs.length) Pv h0 (λi ys σ H hi p=>(hz i ys σ H hi p).1) (λys σ H p=>⟨⟨xs,(hz _ ys σ H (kc _) p).2,kc _⟩,hst ys σ H p⟩)
  λi ys σ H hi p=>⟨⟨xs,xs[i],(hz i ys σ H (vw hi) p).2,by simp[hi]⟩,λx H2 y=>by
   obtain⟨e,y⟩:=y;subst e;exact hgo i x ys σ _ (y xs (hz i ys σ _ (vw hi) p).2) p⟩
theorem Jh{lo:Int}{n:Nat}(Pv:Nat->List V->St->Hp->Prop)(h0:Pv 0 [] σ0 H0)(hz:∀i ys σ H,i<=n->Pv i ys σ H->ys.length<=sizeLine)(hst:∀ys σ H,Pv n ys σ H->R ys H)
  (hgo:∀i ys σ H,i<n->Pv i ys σ H->g (.int (lo+i)) σ H λσ2 H3=>tc σ2 H3 λb H4=>if b=true then te σ2 H4 λy H5=>Pv (i+1) (ys++[y]) σ2 H5 else Pv (i+1) ys σ2 H4):
  ∃W:Nat->Nat->List V->St->Hp->Prop,(∃m,W 0 m [] σ0 H0)/\∀i m ys σ' H',W i m ys σ' H' ->
   ((Itr lo n).stop i H'/\ys.length<=sizeLine/\R ys H') \/
   ((Itr lo n).go i H'/\ys.length<=sizeLine/\∃N:List V->St->Hp->Prop,(∀ys' σ2 H2,N ys' σ2 H2->∃m',m'<m/\W (i+1) m' ys' σ2 H2) /\
     ∀x H2,(Itr lo n).yld i H' x H2->g x σ' H2 λσ2 H3=>tc σ2 H3 λb H4=>if b=true then te σ2 H4 λy H5=>N (ys++[y]) σ2 H5 else N ys σ2 H4) :=
 x9 (n:=n) Pv h0 hz (λys σ H p=>⟨kc _,hst ys σ H p⟩) λi ys σ H hi p=>⟨hi,λx H2 y=>by
  obtain⟨e,y⟩:=y;subst e y;exact hgo i ys σ _ hi p⟩
end
open PySem.W
section
variable{X:Cx}{pins:List (Addr×Obj)}{σ:St}{H:Hp}{s:Shared}
theorem YZ{E:Value->Shared->Prop}{Q:Value->Shared->Prop}(I:Inv X pins σ H s){l:Addr}{xs:List V}(hl:SqL X.K H l xs)(h64:xs.length<64)(key:Nat->Int)(κ:SortKind)
  (kind:2<=xs.length->∀(vs:List Value)(s':Shared)(pins':List (Addr×Obj))(C:SortKind->Shared->Prop),Vals xs vs->Inv X pins' σ H s'->C κ s'->wpAny (model X.prog X.w) X.A.in1.in1 (keyKind' vs.toArray) C E s')
  (less:∀(vs:List Value)(s':Shared)(pins':List (Addr×Obj))(i j:Nat)(C:Bool->Shared->Prop),i<xs.length->j<xs.length->Vals xs vs->Inv X pins' σ H s'->C (decide (key i<key j)) s' ->
   wpAny (model X.prog X.w) X.A.in1.in1 (keyLt' κ (vs.getD i Value.none) (vs.getD j Value.none)) C (λ_ _=>False) s')
  (q:∀(D:Addr)(p:Array Nat)(s':Shared),H D=none->_Srt.Ord xs.length p->_Srt.Up key p xs.length->Inv X pins σ (upd H D (.lst (p.toList.map λi=>xs.getD i .non))) s'->Q (.ref D) s'):
  wpAny (model X.prog X.w) X.A (call (.builtin "sorted") [.ref l]) Q E s:=by
 obtain⟨vs,rv,pl,hz⟩:=I.list hl;have lv:=rv.length;have hsm:vs.length<=sizeLine:=()
 refine Calls.call_function_entry kind_sorted plain_sorted entry_sorted (args_sorted1 _) ?_;unfold Builtin.«sorted»;refine wpAny_bind (m:=checkCount "sorted" 1 1 _) (wpAny_pure ?_);refine wpAny_bind (collect_list pl.isList ?_ hsm);refine wpAny_bind (wpAny_newList ?_ hsm);have z1:((s.heap.push (seqObj "list" #[] 0)).update s.heap.objs.size (Obj.mapSeq (·++vs.toArray))).objs.size=s.heap.objs.size+1:=by rw[Heap.size_update,size_push']
 have keep1:∀b o,s.heap.get? b=some o->(((s.heap.push (seqObj "list" #[] 0)).update s.heap.objs.size (Obj.mapSeq (·++vs.toArray))).push (seqObj "list" vs.toArray 0)).get? b=some o:=λb o e=>by
  have hlt:b<s.heap.objs.size:=Heap.lt_size e;rw[Heap.get?_push_ne _ _ _ (by rw[z1];exact ve (ux hlt)),Heap.get?_update_ne _ _ _ _ (ve hlt),Heap.get?_push_ne _ _ _ (ve hlt)];exact e
 generalize hh1:((s.heap.push (seqObj "list" #[] 0)).update s.heap.objs.size (Obj.mapSeq (·++vs.toArray))).push (seqObj "list" vs.toArray 0)=h1' at keep1 ⊢;have hD1:h1'.get? (s.heap.objs.size+1)=some (seqObj "list" vs.toArray 0):=by
  rw[<-hh1,<-z1];exact Heap.get?_push_size _ rfl
 show wpAny _ _ _ _ _ {s with heap:=h1'};rw[z1];clear hh1;have yD:j4 X pins (s.heap.objs.size+1):=I.young (v7 _);have nD0:H (s.heap.objs.size+1)=none:=I.hok.fresh (v7 _);generalize hDD:s.heap.objs.size+1=D at hD1 yD nD0 ⊢;have I1:Inv X pins σ H {s with heap:=h1'}:=I.kept (t':=s.toks) keep1;refine wpAny_bind (wpAny_holding (wpAny_call_entry slot_list_sort ⟨_,hD1,rfl⟩ entry_list_sort ?body (args_list_sort _)))
 case body =>
  rw[list_sort_plain];refine wpAny_bind (listItems_at hD1 rfl ?_);refine wpAny_bind (listUpdate_at hD1 rfl ?_ (by rw[ko];omega) (kR _));have sb:=Heap.SameBut.update h1' D (Obj.mapSeq λ_=>(#[]:Array Value));obtain⟨e1,hD2⟩:∃e1,(h1'.update D (Obj.mapSeq λ_=>(#[]:Array Value))).get? D=some (seqObj "list" #[] e1):=⟨_,get?_update_seq hD1 λ_=>#[]⟩;have I2:=I1.record (h':=h1'.update D (Obj.mapSeq λ_=>(#[]:Array Value))) yD nD0 sb;generalize h1'.update D (Obj.mapSeq λ_=>(#[]:Array Value))=h2' at hD2 I2 ⊢;refine wpAny_bind (seqEpoch_at hD2 rfl ?_);refine wpAny_bind (wpAny_newTuple ?_ hsm);refine wpAny_bind (wpAny_newList ?_ (kR _));refine wpAny_holding ?_;have I3:Inv X pins σ H {s with heap:=(h2'.push {cls:=.type "tuple",data:=.seq vs.toArray}).push {cls:=.type "list",data:=.seq ([]:List Value).toArray}} :=
   I2.kept (t':=s.toks) λb o e=>Heap.get?_push_of_some _ (Heap.get?_push_of_some _ e)
  have hD3:((h2'.push {cls:=.type "tuple",data:=.seq vs.toArray}).push {cls:=.type "list",data:=.seq ([]:List Value).toArray}).get? D=some (seqObj "list" #[] e1):=Heap.get?_push_of_some _ (Heap.get?_push_of_some _ hD2);dsimp only;show wpAny _ _ _ _ _ {s with heap:=(h2'.push {cls:=.type "tuple",data:=.seq vs.toArray}).push {cls:=.type "list",data:=.seq ([]:List Value).toArray}};generalize (h2'.push {cls:=.type "tuple",data:=.seq vs.toArray}).push {cls:=.type "list",data:=.seq ([]:List Value).toArray}=h3' at I3 hD3 ⊢;have tail:∀(st:SortSt)(p:Array Nat),arrOf st=p.map (kas_item (vs.toArray.zip vs.toArray))->failedOf st=none->_Srt.Ord xs.length p->_Srt.Up key p xs.length ->
    wpAny (model X.prog X.w) X.A.in1.in1 (do
     let sorted:=(arrOf st).map (·.2)
     let touched:=(<-seqEpoch D) != e1
     Builtin.List.listUpdate (.ref D) λ_=>sorted
     if let some e:=failedOf st then rule "list.sort.comparison-raised"; throw e
     if touched then rule "list.sort.modified"; raiseError "ValueError" "list modified during sort"
     ret .none) (λfin s''=>∃v,fin=.done (.ret v)/\wpAny (model X.prog X.w) X.A.in1 (ret (.ref D)) (λfin s3=>∃v,fin=.done (.ret v)/\Q v s3) E s'') E {s with heap:=h3'}:=by
   intro st p ha hf po pu;have out:=kat_snds (ks:=vs) (vs:=vs) rfl ha;dsimp only;rw[out,hf];have plen:(p.toList.map λi=>vs.getD i Value.none).length=vs.length:=by rw[ka,Array.length_toList,po.sz,lv]
   refine wpAny_bind (seqEpoch_at hD3 rfl ?_);refine wpAny_bind (listUpdate_at hD3 rfl ?_ (kR _) (by rw[ko,plen];lia));have sb2:=Heap.SameBut.update h3' D (Obj.mapSeq λ_=>(p.toList.map λi=>vs.getD i Value.none).toArray);have J2:=I3.record yD nD0 sb2;obtain⟨c3,hD5⟩:∃c3,(h3'.update D (Obj.mapSeq λ_=>(p.toList.map λi=>vs.getD i Value.none).toArray)).get? D=some (seqObj "list" (p.toList.map λi=>vs.getD i Value.none).toArray c3):=⟨_,get?_update_seq hD3 _⟩;generalize h3'.update D (Obj.mapSeq λ_=>(p.toList.map λi=>vs.getD i Value.none).toArray)=h6 at J2 hD5 ⊢;simp only[bne_self_eq_false,bu,if_false];have rel:Vals (p.toList.map λi=>xs.getD i .non) (p.toList.map λi=>vs.getD i Value.none):=by
    have:∀(ls:List Nat),(∀i∈ls,i<xs.length)->Vals (ls.map λi=>xs.getD i .non) (ls.map λi=>vs.getD i Value.none):=by
     intro ls
     induction ls with
     |nil=>intro _;exact .nil
     |cons a r ih =>
      intro h;refine .cons ?_ (ih λi hi=>h i (kg _ hi));have ha:=h a ke;have:=yx rv (j:=a) ();show RelV (xs.getD a .non) (vs.getD a Value.none);rw[getD_at (xs:=vs) (by lia:a<vs.length)];exact this
    refine this _ λi hi=>?_;have m:i∈p:=by simpa using hi
    have m2:i∈(bB (vc xs.length)):=(Array.Perm.mem_iff po.pm).mp m;simpa using m2
   have J3:=J2.track (p:=D) (o:=.lst (p.toList.map λi=>xs.getD i .non)) nD0 (Heap.get?_none_of_le (by rw[<-hDD];have:=I.sz;lia)) yD.lo yD.ce yD.pi
    ⟨by rw[ka,Array.length_toList,po.sz];omega,_,c3,rel,hD5⟩
   exact wpAny_pure ⟨_,rfl,wpAny_pure ⟨_,rfl,q D p _ nD0 po pu J3⟩⟩
  by_cases h2:vs.toArray.size<2
  .rw [if_pos h2,if_pos h2];rw[ko]at h2;refine wpAny_bind (wpAny_pure ?_);rw[StateT.run_pure];refine wpAny_bind (wpAny_pure ?_);dsimp only;refine tail _ (bB (vc xs.length)) ?_ rfl ⟨by simp,Array.Perm.refl _⟩ λi i1 i2=>()
   show vs.toArray.zip vs.toArray=_;have e:=kas_range (vs.toArray.zip vs.toArray);rw[show(vs.toArray.zip vs.toArray).size=xs.length by simp;lia]at e;exact e.symm
  .rw [if_neg h2,if_neg h2];rw[ko]at h2;refine wpAny_bind (kind () vs _ pins _ rv I3 ?_);have run:=Z2 (key:=key) (n:=vs.length) (cmp:=kas_ask X.prog X.w X.A.in1.in1 κ vs) (s:={s with heap:=h3'}) (Q:=λr=>_Srt.Ord vs.length r/\_Srt.Up key r vs.length) (λi j C hi hj hC=>?_) _ (_Srt.zaK (n:=vs.length) ())
   .refine wpAny_bind (wpAny_mono (kat_run (Q:=λst' s''=>∃p,arrOf st'=p.map (kas_item (vs.toArray.zip vs.toArray))/\failedOf st'=none/\(_Srt.Ord vs.length p/\_Srt.Up key p vs.length)/\s''={s with heap:=h3'}) rfl () ()
     (λp st' s'' a1 a2 a3 a4=>⟨p,a2,a3,a4.1,a4.2⟩) run) ?_ λ_ _ x=>x)
    rintro⟨⟨⟩,st'⟩ s'' ⟨p,a2,a3,⟨a4,a5⟩,rfl⟩;dsimp only;rw[<-lv]at a4 a5;exact tail st' p a2 a3 a4 a5
   .exact less vs _ pins i j C () () rv I3 hC
end
def zdc(K:Frag)(tl:TE):TE:=λσ H Q=>tl σ H λx H1=>∃(l:Addr)(xs:List V)(ns:List Int)(rest:List (List V)),x=.ref l/\SqL K H1 l xs/\xs.length<64/\ns.length=xs.length/\rest.length=xs.length/\ns.Nodup /\
 (∀(i:Nat)(x:V)(n:Int)(r:List V),xs[i]?=some x->ns[i]?=some n->rest[i]?=some r->∃p,x=.ref p/\H1 p=some (.tup (.int n::r))/\r.length=1) /\
 ∀(D:Addr)(p:Array Nat),H1 D=none->_Srt.Ord xs.length p->_Srt.Up (λi=>ns.getD i 0) p xs.length->Q (.ref D) (upd H1 D (.lst (p.toList.map λi=>xs.getD i .non)))
theorem zaP{X:Cx}{l:Expr}{tl:TE}{p pos:Pos}(hg:Gl X "sorted")(hm:X.mg "sorted"=none)(hl:PE X l tl)(hs:starEach [l] X.env=[(false,eval l X.env)]:=by rfl):PE X (.Call (.Name "sorted" p) [l] [] pos) (zdc X.K tl):=by
 intro pins s σ H Q I h;refine wpAny_Call_Name_kw (yT I hg hm boot_sorted ?_ ⋯ ⋯);refine bF (thn ((za hl zb hs) pos pins s σ H (λvs H1=>match vs with
  |[x]=>∃(l:Addr)(xs:List V)(ns:List Int)(rest:List (List V)),x=.ref l/\SqL X.K H1 l xs/\xs.length<64/\ns.length=xs.length/\rest.length=xs.length/\ns.Nodup /\
   (∀(i:Nat)(x:V)(n:Int)(r:List V),xs[i]?=some x->ns[i]?=some n->rest[i]?=some r->∃p,x=.ref p/\H1 p=some (.tup (.int n::r))/\r.length=1) /\
   ∀(D:Addr)(p:Array Nat),H1 D=none->_Srt.Ord xs.length p->_Srt.Up (λi=>ns.getD i 0) p xs.length->Q (.ref D) (upd H1 D (.lst (p.toList.map λi=>xs.getD i .non)))
  |_=>False) I h) λus s1 ⟨vs,H1,I1,r1,q1⟩=>?_) (by rw[hs];rfl) (by rfl)
 match vs,q1 with
 |[x],q1 =>
 obtain⟨u,rfl,ru⟩:=vals1 r1;refine E_4 q1 λla xs ns rest n8=>A_8 n8 λe9 hL h64 hns hrs nd items q=>?_;clear n8 q1;subst e9;cases (show u=Value.ref la from ru);have tupAt:∀{pins':List (Addr×Obj)}{s':Shared}{vs:List Value},Vals xs vs->Inv X pins' σ H1 s'->∀i,i<xs.length->∃(p:Addr)(o:Obj)(m:Nat)(t:Tok)(w:Value),vs.getD i Value.none=.ref p/\s'.heap.get? p=some o/\o.cls=.type "tuple" /\ o.data=.seq #[.int (ns.getD i 0) t,w] m:=by
  intro pins' s' vs rv I' i hi;have e1:xs[i]?=some xs[i]:=kf hi;have e2:ns[i]?=some ns[i]:=kf ();have e3:rest[i]?=some rest[i]:=kf ();obtain⟨p,hp,hH,hr⟩:=items i _ _ _ e1 e2 e3;obtain⟨_,its,r,⟨o,e,c,m,d⟩⟩:=I'.hok p _ hH;have lv:=rv.length;have ev:=yx rv (j:=i) ();rw[getD_at hi,hp]at ev;cases r with
  |cons r1 rr =>
   refine E_1 r1 λt e9=>?_;clear r1;subst e9;generalize rest[i]=rs at rr hr;cases rr with
   |nil=>simp at hr
   |@cons a b c' d' r2 rr =>
    cases rr with
    |nil =>
     refine⟨p,o,m,t,b,?_,e,c,?_⟩
     .rw [getD_at (by lia:i<vs.length)];exact ev
     .rw [d,getD_at (by lia:i<ns.length)]
    |cons _ _=>simp at hr
 refine YZ I1 hL h64 (λi=>ns.getD i 0) (tuples' true) (λh2 vs s' pins' C rv I' hC=>?_) (λvs s' pins' i j C hi hj rv I' hC=>?_) λD p s' hD po pu I'=>⟨.ref D,_,I',rfl,q D p hD po pu⟩
 .have lv:=rv.length;have KT:∀(k:Nat),k<=vs.length->∃fs:List Value,fs.length=vs.length-k/\KatTups s'.heap (vs.drop k) fs/\∀v∈fs,∃i t,v=Value.int i t:=by
   intro k hk;generalize hd:vs.length-k=d
   induction d generalizing k with
   |zero =>
    refine⟨[],rfl,?_,λv hv=>nomatch hv⟩;rw[List.drop_of_length_le ()];exact KatTups.nil
   |succ d ih =>
    obtain⟨fs,f1,f2,f3⟩:=ih (k+1) () (by omega);obtain⟨p,o,m,t,w,g1,g2,g3,g4⟩:=tupAt rv I' k ();rw[getD_at (by lia:k<vs.length)]at g1;refine⟨.int (ns.getD k 0) t::fs,by rw[kz,f1],?_,λv hv=>?_⟩
    .rw [<-List.getElem_cons_drop (show k<vs.length by lia),g1];exact KatTups.cons g2 g3 g4 rfl f2
    .rcases kL.mp hv with rfl|hv
     .exact ⟨_,_,rfl⟩
     .exact f3 v hv
  obtain⟨fs,f1,f2,f3⟩:=KT 0 (kR _);rw[bU]at f2;refine kat_kind f2 () (T:=.type "int") (λv hv=>?_) ⋯ ?_
  .obtain ⟨i,t,rfl⟩:=f3 v hv;exact Looks.of_pure rfl
  have hkind:(Value.type "int" != Value.type "tuple")=true:=⋯
  rw[hkind];exact hC
 .obtain ⟨p1,o1,m1,t1,w1,a1,a2,_,a4⟩:=tupAt rv I' i hi;obtain⟨p2,o2,m2,t2,w2,b1,b2,_,b4⟩:=tupAt rv I' j hj;rw[a1,b1];refine kat_lt a2 a4 b2 b4 ?_;show KatLex _ _ _ true _ _ [(Value.int (ns.getD i 0) t1,Value.int (ns.getD j 0) t2),(w1,w2)] 0 s';refine kat_cons (wpAny_eqBool_int ?_);by_cases e:ns.getD i 0=ns.getD j 0
  .have hij:i=j:=by
    have e':=e;rw[getD_at (by lia:i<ns.length),getD_at (by lia:j<ns.length)]at e';exact(List.getElem_inj nd).mp e'
   subst hij;rw[a1]at b1;cases b1;rw[a2]at b2;cases b2;rw[a4]at b4;injection b4 with b4 _;have b5:[Value.int (ns.getD i 0) t1,w1]=[Value.int (ns.getD i 0) t2,w2]:=congrArg Array.toList b4;injection b5 with b6 b7;injection b7 with b8 _;subst b8;rw[beq_self_eq_true];refine kat_yes (kat_cons (SeqAt.EqAt.same w1 _ _ _ _ ?_));refine kat_yes (kat_nil ?_);have z:decide (ns.getD i 0<ns.getD i 0)=false:=decide_eq_false ();rw[z]at hC;exact hC
  .rw [beq_eq_false_iff_ne.mpr e];exact kat_no (oneLt_int hC)
def txt(l:List Nat):Str:=⟨l.toArray⟩
theorem zI(l:List Nat):(txt l).length=l.length:=by simp[txt,Str.length]
theorem Zy{a b:List Nat}(h:txt a=txt b):a=b:=by
 have:(txt a).cps.toList=(txt b).cps.toList:=by rw[h]
 simpa[txt]using this
theorem Z5(c:Nat):∀(n:Nat)(acc:Array Nat),(kq n (#[c]:Array Nat)).foldl (·++·) acc=acc++(kq n c).toArray
 |0,acc=>by simp
 |n+1,acc=>by
  rw[vf,uN,Z5 c n (acc++#[c])];apply Array.toList_inj.mp;simp[vf]
theorem Xa{c:Nat}{n:Int}(h0:0<=n):Txt.mul (txt [c]) n=txt (kq n.toNat c):=by
 unfold Txt.mul;by_cases h1:n<1
 .rw [if_pos h1];have e:n.toNat=0:=()
  rw[e];rfl
 .rw [if_neg h1];by_cases h2:n=1
  .subst h2;rfl
  .have e:(n==1||(txt [c]).length==0)=false:=by
    rw[beq_eq_false_iff_ne.mpr h2];rfl
   rw[e,if_neg kt];have:=Z5 c n.toNat #[];show(⟨(kq n.toNat (#[c]:Array Nat)).foldl (·++·) #[]⟩:Str)=_;rw[this];simp[txt]
section
variable{X:Cx}
theorem zb6:OpR X (binaryOp .Mult) (λx y H Q=>∃(c:Nat)(n:Int),x=.str (txt [c])/\y=.int n/\0<=n/\n<=1000000/\Q (.str (txt (kq n.toNat c))) H):=by
 intro pins s σ H x y v u Q I rx ry h;refine E_2 h λc n n8=>A_5 n8 λe9 n90 h0 h1 q=>?_;clear n8 h;subst e9;subst n90;refine E_1 rx λt e9=>?_;clear rx;subst e9;refine E_1 ry λt' e9=>?_;clear ry;subst e9;have hl:(txt [c]).length=1:=rfl;refine SB.mul ⟨?_,λ_ _=>?_,λ_ _=>?_⟩ λtk k=>⟨.str _,H,I.tok k,⟨tk,by rw[Xa h0]⟩,q⟩
 .rw [decide_eq_false (),decide_eq_false ()];rfl
 .rw [hl];have hn:0<n:=by omega
  intro z;have z':(2^63-1) / n<1:=by simpa using z
  have:=(Int.ediv_lt_iff_lt_mul hn).mp z';lia
 .rw [hl];unfold Builtin.Str.tooLong sizeLine;rw[decide_eq_false_iff_not];lia
theorem qI:∀{zs:List Str}{us:List Value},Vals (zs.map V.str) us->StrsAre us zs
 |[],_,.nil=>.nil
 |z::zs,_,.cons ⟨t,e⟩ r=>by
  subst e;exact .cons z t (qI r)
theorem Z6:∀(ls:List (List Nat)),Str.join Str.empty (ls.map txt)=txt ls.flatten
 |[]=>rfl
 |[a]=>by
  show txt a=txt (a++[]);rw[vq]
 |a::b::r=>by
  have ih:=Z6 (b::r);show txt a++Str.empty++Str.join Str.empty ((b::r).map txt)=_;rw[ih,Str.append_empty];refine Str.ext' ?_;rw[Str.cps_append];apply Array.toList_inj.mp;simp[txt]
theorem jE:MtR X "str.join" (λx vs H Q=>∃(a:Addr)(ls:List (List Nat)),x=.str "" /\ vs=[.ref a]/\SqL X.K H a (ls.map λl=>V.str (txt l))/\(ls.map List.length).sum<=1000000/\Q (.str (txt ls.flatten)) H):=by
 intro pins s σ H x xs v us Q I rx rxs h;refine E_2 h λa ls n8=>A_5 n8 λe9 n90 hq hn q=>?_;clear n8 h;subst e9;subst n90;refine E_1 rx λt e9=>?_;clear rx;subst e9;obtain⟨u,rfl,ru⟩:=vals1 rxs;cases ru;obtain⟨its,rv,tp,hz⟩:=I.list hq;have rv':Vals ((ls.map txt).map V.str) its:=by rw[vE];exact rv
 refine join_list (ys:=ls.map txt) tp.isList (by simpa using qI rv') ?_ λt' k=>⟨.str _,H,I.tok k,⟨t',?_⟩,q⟩
 .rw [vE];have e1:(ls.map ((λx=>x.length)∘txt))=ls.map List.length:=vS λl _=>zI l;rw[e1];have e2:("" : Str).length=0:=rfl;rw[e2,Nat.mul_zero];lia
 .show Value.str (Txt.join "" (ls.map txt)) t'=_;have e:Txt.join "" (ls.map txt)=txt ls.flatten:=by
   unfold Txt.join;rw[StrLaws.glued_eq_join];exact Z6 ls
  rw[e]
def rIxC:R2:=λx y H Q=>∃(l:List Nat)(i:Int)(c:Nat),x=.str (txt l)/\y=.int i/\l.length<=1000000/\atI l i=some c/\Q (.str (txt [c])) H
theorem Zz:IxR X rIxC:=by
 intro value slice pins s σ H x y v u Q I rx ry h hs;refine E_3 h λl i c n8=>A_5 n8 λe9 n90 hl hc q=>?_;clear n8 h;subst e9;subst n90;exact zc6 value slice pins s σ H _ _ v u Q I rx ry ⟨txt l,i,c,rfl,rfl,by rw[zI];exact kn hl ⋯,by simpa[txt]using hc,q⟩ hs
end
section
variable{X:Cx}{K:Frag}
theorem yA(hK:X.K=K):IxR X (rIxT K):=by subst hK;exact zG
theorem wP{es:List Expr}{k:Nat}{t:TGs}{n:Nat}{pos:Pos}(hK:X.K=K)(hc:X.calm=true)(h:PGs X es t)
  (hn:(assignEach es X.env).length=n:=by rfl)(hs:(assignEach es X.env).findIdx? (·.1)=none:=by rfl):PG X (.Tuple es k pos) (gTup K n t):=by
 subst hK;exact jW hc h hn hs
end
end _L2
namespace _Lin
abbrev W:=List Nat
def glue:List W->W
 |[]=>[]
 |[a]=>a
 |a::b::r=>a++32::glue (b::r)
theorem Z7:∀(ws:List W)(w:W),ws≠[]->glue (ws++[w])=glue ws++32::w
 |[],_,h=>absurd rfl h
 |[a],w,_=>rfl
 |a::b::r,w,_=>by
  have ih:glue (b::(r++[w]))=glue (b::r)++32::w:=Z7 (b::r) w (by simp);show a++32::glue (b::(r++[w]))=(a++32::glue (b::r))++32::w;rw[ih];simp
theorem snoc_ind{P:List W->Prop}(h0:P [])(h1:∀ws w,P ws->P (ws++[w])):∀(n:Nat)(ws:List W),ws.length=n->P ws
 |0,ws,h=>by rw[vm.mp h];exact h0
 |n+1,ws,h=>by
  have hn:ws≠[]:=λz=>by rw[z]at h;cases h
  rw[<-vZ hn];exact h1 _ _ (snoc_ind h0 h1 n _ (by rw[bb,h];rfl))
def put(wide:Int)(rows:List W)(w:W):List W :=
 match rows.getLast? with
 |some r=>if(r.length:Int)+1+w.length<=wide then rows.dropLast++[r++32::w]else rows++[w]
 |none=>[w]
def taken(wide:Int)(ws:List W):List W:=ws.foldl (put wide) []
theorem xk(wide:Int)(ws:List W)(w:W):taken wide (ws++[w])=put wide (taken wide ws) w:=by
 unfold taken;rw[List.foldl_append];rfl
theorem w9{rows:List W}{r:W}(h:rows.getLast?=some r):rows=rows.dropLast++[r]:=by
 have hn:rows≠[]:=λz=>by rw[z]at h;cases h
 rw[List.getLast?_eq_some_getLast hn]at h;rw[<-Option.some.inj h];exact(vZ hn).symm
theorem zdd{wide:Int}{rows:List W}{w:W}(h:∀r∈rows,(r.length:Int)<=wide)(hw:(w.length:Int)<=wide):∀r∈put wide rows w,(r.length:Int)<=wide:=by
 intro r hr;unfold put at hr;split at hr
 .rename_i q e;split at hr
  .rename_i c;rcases kQ.mp hr with m|m
   .exact h r (List.dropLast_subset _ m)
   .rw [kj.mp m,ki,kz];lia
  .rcases kQ.mp hr with m|m
   .exact h r m
   .rw [kj.mp m];exact hw
 .rw [kj.mp hr];exact hw
theorem zaQ{wide:Int}(ws:List W):(∀w∈ws,(w.length:Int)<=wide)->∀r∈taken wide ws,(r.length:Int)<=wide :=
 snoc_ind (P:=λws=>(∀w∈ws,(w.length:Int)<=wide)->∀r∈taken wide ws,(r.length:Int)<=wide) (λ_ r hr=>(kN hr).elim)
  (λws w ih h=>by
   rw[xk];exact zdd (ih λv hv=>h v (kU _ hv)) (h w (by simp))) _ ws rfl
theorem W2(wide:Int)(rows:List W)(w:W):(put wide rows w).length<=rows.length+1:=by
 unfold put;split
 .rename_i r e;split
  .have:=w9 e;have e2:rows.length=rows.dropLast.length+1:=by
    conv=>lhs;rw[this,ki]
    rfl
   rw[ki,vG];lia
  .simp
 .simp
theorem qJ(wide:Int)(ws:List W):(taken wide ws).length<=ws.length :=
 snoc_ind (P:=λws=>(taken wide ws).length<=ws.length) (kc _) (λws w ih=>by
  rw[xk,ki,vG];exact kn (W2 _ _ _) (vd ih)) _ ws rfl
def pos(ws:List W)(k:Nat):Int:=((ws.take k).map (λw=>(w.length:Int)+1)).sum
theorem jF(ws:List W):pos ws 0=0:=rfl
theorem pos_succ{ws:List W}{k:Nat}{w:W}(h:ws[k]?=some w):pos ws (k+1)=pos ws k+w.length+1:=by
 obtain⟨hk,e⟩:=kh.mp h;unfold pos;rw[<-kF hk,kD,vO,e];show _+(((w.length:Int)+1)+0)=_;lia
theorem zaR(ws:List W)(k:Nat):pos ws k<=pos ws (k+1):=by
 by_cases h:k<ws.length
 .rw [pos_succ (kf h)];lia
 .unfold pos;rw[vK (),vK ()];exact vU _
theorem wx(ws:List W){i:Nat}:∀{j:Nat},i<=j->pos ws i<=pos ws j
 |0,h=>by rw[bx.mp h];exact vU _
 |j+1,h=>by
  rcases Nat.lt_or_ge i (j+1)with z|z
  .exact uO (wx ws (vY z)) (zaR ws j)
  .rw [bI h z];exact vU _
def gr(ws:List W)(wide:Int):Nat->Nat×Nat
 |0=>(0,0)
 |k+1=>if(gr ws wide k).1≠0/\pos ws (k+1)-pos ws (gr ws wide k).2-1<=wide then gr ws wide k else ((gr ws wide k).1+1,k)
section
variable{ws:List W}{wide:Int}
theorem wQ{k:Nat}(h:(gr ws wide k).1≠0/\pos ws (k+1)-pos ws (gr ws wide k).2-1<=wide):gr ws wide (k+1)=gr ws wide k:=by
 conv=>lhs;unfold gr
 rw[if_pos h]
theorem qa{k:Nat}(h:¬((gr ws wide k).1≠0/\pos ws (k+1)-pos ws (gr ws wide k).2-1<=wide)):gr ws wide (k+1)=((gr ws wide k).1+1,k):=by
 conv=>lhs;unfold gr
 rw[if_neg h]
theorem Ji:∀{k:Nat},0<k->0<(gr ws wide k).1
 |k+1,_=>by
  by_cases h:(gr ws wide k).1≠0/\pos ws (k+1)-pos ws (gr ws wide k).2-1<=wide
  .rw [wQ h];lia
  .rw [qa h];exact bf _
theorem zb7(k:Nat):(gr ws wide k).1<=(gr ws wide (k+1)).1/\(gr ws wide (k+1)).1<=(gr ws wide k).1+1:=by
 by_cases h:(gr ws wide k).1≠0/\pos ws (k+1)-pos ws (gr ws wide k).2-1<=wide
 .rw [wQ h];lia
 .rw [qa h];exact⟨v7 _,kc _⟩
theorem zby:∀k:Nat,(gr ws wide k).1<=k
 |0=>kc _
 |k+1=>kn (zb7 k).2 (vd (zby k))
theorem Xb:∀{k:Nat},0<k->(gr ws wide k).2<k/\(gr ws wide k).1=(gr ws wide (gr ws wide k).2).1+1
 |k+1,_=>by
  by_cases h:(gr ws wide k).1≠0/\pos ws (k+1)-pos ws (gr ws wide k).2-1<=wide
  .rw [wQ h];have hk:0<k:=uX λz=>by
    rw[z]at h;exact h.1 rfl
   have:=Xb hk;exact⟨ux this.1,this.2⟩
  .rw [qa h];exact⟨v9 _,rfl⟩
theorem zde(hw:∀w∈ws,(w.length:Int)<=wide):∀{k:Nat},0<k->k<=ws.length->pos ws k-pos ws (gr ws wide k).2-1<=wide
 |k+1,_,hk=>by
  by_cases h:(gr ws wide k).1≠0/\pos ws (k+1)-pos ws (gr ws wide k).2-1<=wide
  .rw [wQ h];exact h.2
  .rw [qa h];have:=pos_succ (kf (show k<ws.length by assumption));have:=hw _ (vB (show k<ws.length by assumption));dsimp only;lia
theorem qK{f k:Nat}(hf:pos ws k-pos ws f-1<=wide):∀j,f<=j->j<=k->(gr ws wide j).1=(gr ws wide f).1\/((gr ws wide j).1=(gr ws wide f).1+1/\f<=(gr ws wide j).2)
 |0,h,_=>by rw[bx.mp h];exact .inl rfl
 |j+1,h,hk=>by
  rcases Nat.lt_or_ge j f with z|z
  .rw [show f=j+1 by lia];exact .inl rfl
  .by_cases c:(gr ws wide j).1≠0/\pos ws (j+1)-pos ws (gr ws wide j).2-1<=wide
   .rw [wQ c];exact qK hf j z (ud hk)
   .rcases qK hf j z (ud hk)with a|⟨a,b⟩
    .rw [qa c];exact .inr ⟨by rw[a],z⟩
    .exfalso;apply c;refine⟨(),?_⟩;have:=wx ws hk;have:=wx ws b;lia
theorem zbz{f k:Nat}(hk:f<=k)(hf:pos ws k-pos ws f-1<=wide):(gr ws wide k).1<=(gr ws wide f).1+1:=by
 rcases qK hf k hk (kc _)with a|⟨a,_⟩<;>lia
theorem Xc:∀{k:Nat},k<=ws.length->(taken wide (ws.take k)).length=(gr ws wide k).1/\(0<k->∃r,(taken wide (ws.take k)).getLast?=some r/\(r.length:Int)=pos ws k-pos ws (gr ws wide k).2-1)
 |0,_=>⟨rfl,λh=>absurd h (vF _)⟩
 |k+1,hk=>by
  have hk':k<ws.length:=hk;obtain⟨l,g⟩:=Xc (k:=k) (vw hk');have ps:=pos_succ (kf hk');rw[<-kF hk',xk];generalize ws[k]=w at ps;by_cases h0:k=0
  .subst h0;have e:gr ws wide 1=(1,0):=by
    rw[qa (λz=>z.1 rfl)];rfl
   rw[e];refine⟨rfl,λ_=>⟨w,rfl,?_⟩⟩;rw[jF]at ps;have ps:pos ws 1=0+(w.length:Int)+1:=ps;show(w.length:Int)=pos ws 1-0-1;lia
  .obtain ⟨r,er,lr⟩:=g ();have sp:=w9 er;have n0:(gr ws wide k).1≠0:=uW (Ji ());unfold put;rw[er];dsimp only;by_cases c:(r.length:Int)+1+w.length<=wide
   .rw [if_pos c,wQ ⟨n0,()⟩];refine⟨?_,λ_=>⟨r++32::w,by simp,?_⟩⟩
    .rw [<-l]
     conv=>rhs;rw[sp]
     simp
    .rw [ki,kz];lia
   .rw [if_neg c,qa (λz=>c ())];refine⟨by rw[ki,l];rfl,λ_=>⟨w,by simp,?_⟩⟩;dsimp only;lia
end
end _Lin
namespace _L2
open PySem PySem.Spec PyProof.Rows PySem.W
theorem wc(a b:List Nat):txt a++txt b=txt (a++b):=by
 refine Str.ext' ?_;rw[Str.cps_append];simp[txt]
def Its(l:List Nat):It:=⟨λi _=>i<l.length,λi H x H'=>H'=H/\∃c,l[i]?=some c/\x=.str (txt [c]),λi _=>l.length<=i⟩
theorem W3{P:Program}{w:World}{K:Frag}{tg:Expr}(it:Addr)(l:List Nat)(t:Tok):Turn P w K tg (Its l) [it] it (λi h=>h.IsStrIter it "str_ascii_iterator" (txt l) t i) where
 mem:=by simp
 obj:=λi h st b hb=>by
  have e:b=it:=by simpa using hb
  subst e;obtain⟨o,e,c,d⟩:=st;exact⟨o,e,λv z=>by rw[d]at z;cases z⟩
 keep:=λi h h' st k=>let ⟨o,ho,r⟩:=st;⟨o,k it (by simp) o ho,r⟩
 item:=by
  intro X hP hw hK hc i pins s σ H E I hf st hg;subst hP hw hK;obtain⟨f0,f1,f2,f3,f4,f5⟩:=hf it (by simp);have hg:i<l.length:=hg;refine wpAny_pyNext_ascii_item st (c:=l[i]) (by simp[txt,hg]) λh' st' sb=>?_;have I1:Inv X pins σ H {s with heap:=h',toks:=s.toks+1}:=I.turned (t':=s.toks+1) (λb o hb e=>(sb.2 b hb).trans e) f0 f1 f3 f4 f5;obtain⟨o,e,c,d⟩:=id st';exact⟨_,rfl,jX (s:={s with heap:=h',toks:=s.toks+1}) e c d ⋯ ⟨.str (txt [l[i]]),H,I1,⟨_,rfl⟩,⟨rfl,l[i],kf hg,rfl⟩,st',λb hb=>(hf b hb).1⟩⟩
 done:=by
  intro X hP hw hK hc i pins s σ H E I hf st hg;subst hP hw hK;obtain⟨f0,f1,f2,f3,f4,f5⟩:=hf it (by simp);have hg:l.length<=i:=hg;exact wpAny_pyNext_ascii_end (I.ok.hd hc) st (by simp[txt,hg]) λh' eb=>⟨rfl,I.turned (t':=s.toks) (λb o hb e=>eb b o hb e) f0 f1 f3 f4 f5⟩
 self:=λ_ _ _ _ _ st h=>wpAny_pyIter_striter_ascii st h
section
variable{X:Cx}{tg:Expr}
def iTxt(tl:TE):TI:=λσ H R=>tl σ H λx H1=>∃l:List Nat,x=.str (txt l)/\(∀c∈l,c<128)/\R (Its l) H1
theorem Jj{l:Expr}{tl:TE}(hl:PE X l tl):PI X tg l (iTxt tl):=by
 intro pins s σ H R I h;refine thn (hl pins s σ H _ I h) λv s1 h9=>?_;obtain⟨x,H1,I1,r1,q1⟩:=h9;obtain⟨l,e,ha,q⟩:=q1;subst e;refine E_1 r1 λt e9=>?_;clear r1;subst e9;refine wpAny_pyIter_ascii (by simpa[txt]using ha) ?_;refine I_5 s1.heap.objs.size [s1.heap.objs.size] _ _ H1 ⟨rfl,I1.kept (t':=s1.toks) λb o e=>Heap.get?_push_of_some _ e,W3 _ l t,⟨_,Heap.get?_push_size _ rfl,rfl,rfl⟩,λb hb=>?_,q⟩;have e:b=s1.heap.objs.size:=by simpa using hb
 subst e;exact I1.fpOk (kc _) (I1.hok.fresh (kc _))
theorem Z8:OpR X (compareOp .LtE) (λx y H Q=>∃i j,x=.str i/\y=.str j/\Q (.bl (!decide (j.cps.toList<i.cps.toList))) H):=by
 intro pins s σ H x y v u Q I rx ry h;refine E_2 h λi j n8=>A_3 n8 λe9 n90 q=>?_;clear n8 h;subst e9;subst n90;refine E_1 rx λt e9=>?_;clear rx;subst e9;refine E_1 ry λt' e9=>?_;clear ry;subst e9;exact PySem.P.le_str (zN I q rfl)
theorem wE:∀(ls:List (List Nat)),Str.join (txt [32]) (ls.map txt)=txt (_Lin.glue ls)
 |[]=>rfl
 |[a]=>rfl
 |a::b::r=>by
  have ih:=wE (b::r);show txt a++txt [32]++Str.join (txt [32]) ((b::r).map txt)=_;rw[ih,wc,wc];simp[_Lin.glue]
theorem zaS:MtR X "str.join" (λx vs H Q=>∃(a:Addr)(ls:List (List Nat)),x=.str " " /\ vs=[.ref a]/\SqL X.K H a (ls.map λl=>V.str (txt l))/\(ls.map List.length).sum+ls.length<=1000000/\Q (.str (txt (_Lin.glue ls))) H):=by
 intro pins s σ H x xs v us Q I rx rxs h;refine E_2 h λa ls n8=>A_5 n8 λe9 n90 hq hn q=>?_;clear n8 h;subst e9;subst n90;refine E_1 rx λt e9=>?_;clear rx;subst e9;obtain⟨u,rfl,ru⟩:=vals1 rxs;cases ru;obtain⟨its,rv,tp,hz⟩:=I.list hq;have rv':Vals ((ls.map txt).map V.str) its:=by rw[vE];exact rv
 refine join_list (ys:=ls.map txt) tp.isList (by simpa using qI rv') ?_ λt' k=>⟨.str _,H,I.tok k,⟨t',?_⟩,q⟩
 .rw [vE];have e1:(ls.map ((λx=>x.length)∘txt))=ls.map List.length:=vS λl _=>zI l;rw[e1];have e2:(" " : Str).length=1:=rfl;rw[e2,ka];lia
 .show Value.str (Txt.join " " (ls.map txt)) t'=_;have e:Txt.join " " (ls.map txt)=txt (_Lin.glue ls):=by
   unfold Txt.join;rw[StrLaws.glued_eq_join];exact wE ls
  rw[e]
end
section
variable{g:TG}{tc:TT}{te:TE}{σ0:St}{H0:Hp}{R:List V->Hp->Prop}{l:List Nat}
theorem Wq(Pv:Nat->List V->St->Hp->Prop)(h0:Pv 0 [] σ0 H0)(hz:∀i ys σ H,i<=l.length->Pv i ys σ H->ys.length<=sizeLine)(hst:∀ys σ H,Pv l.length ys σ H->R ys H)
  (hgo:∀i c ys σ H,l[i]?=some c->Pv i ys σ H->g (.str (txt [c])) σ H λσ2 H3=>tc σ2 H3 λb H4=>if b=true then te σ2 H4 λy H5=>Pv (i+1) (ys++[y]) σ2 H5 else Pv (i+1) ys σ2 H4):
  ∃W:Nat->Nat->List V->St->Hp->Prop,(∃m,W 0 m [] σ0 H0)/\∀i m ys σ' H',W i m ys σ' H' ->
   ((Its l).stop i H'/\ys.length<=sizeLine/\R ys H') \/
   ((Its l).go i H'/\ys.length<=sizeLine/\∃N:List V->St->Hp->Prop,(∀ys' σ2 H2,N ys' σ2 H2->∃m',m'<m/\W (i+1) m' ys' σ2 H2) /\
     ∀x H2,(Its l).yld i H' x H2->g x σ' H2 λσ2 H3=>tc σ2 H3 λb H4=>if b=true then te σ2 H4 λy H5=>N (ys++[y]) σ2 H5 else N ys σ2 H4) :=
 x9 (n:=l.length) Pv h0 hz (λys σ H p=>⟨kc _,hst ys σ H p⟩) λi ys σ H hi p=>⟨hi,λx H2 y=>by
  obtain⟨e,c,hc,ex⟩:=y;subst e ex;exact hgo i c ys σ _ hc p⟩
end
section
variable{σ:St}{H:Hp}{ta tb:TE}
theorem qb{w:List Nat}(a:Evl ta σ H (.str (txt w)))(h:w.length<=1000000):Evl (tCB (λxs H Q=>∃z:Str,xs=[.str z]/\z.length<=sizeLine/\Q (.int z.length) H) (xr ta tNil)) σ H (.int (w.length:Nat)):=λQ q =>
 a _ ⟨txt w,rfl,by rw[zI];exact kn h ⋯,by rw[zI];exact q⟩
theorem Xd{u w:List Nat}(a:Evl ta σ H (.str (txt u)))(b:Evl tb σ H (.str (txt w)))(h:u.length+w.length<=1000000):Evl (tOp (λx y H Q=>∃i j,x=.str i/\y=.str j/\i.length+j.length<=sizeLine/\Q (.str (i++j)) H) ta tb) σ H (.str (txt (u++w))):=λQ q =>
 a _ (b _ ⟨txt u,txt w,rfl,rfl,by rw[zI,zI];exact kn h ⋯,by rw[wc];exact q⟩)
theorem qc{t u:TT}{p q:Prop}[Decidable p][Decidable q](a:Tst t σ H p)(b:p->Tst u σ H q):Tst (tAnd t u) σ H (p/\q):=λQ z=>a _ (by
 by_cases h:p
 .rw [decide_eq_true h,if_pos rfl];refine b h _ ?_;have e:decide (p/\q)=decide q:=by rw[decide_eq_decide];exact⟨λz=>z.2,λz=>⟨h,z⟩⟩
  rw[<-e];exact z
 .rw [decide_eq_false h,if_neg kt];have e:decide (p/\q)=false:=decide_eq_false λz=>h z.1;rw[<-e];exact z)
theorem ZA{c:TT}{tb:TS}{D:Ends}(Pv:Nat->St->Hp->Prop)(m0:Nat)(h0:Pv m0 σ H)
  (hs:∀m σ H,Pv m σ H->∃(p:Prop)(_:Decidable p),Tst c σ H p/\(p->tb {D with nx:=λσ' H'=>∃m',m'<m/\Pv m' σ' H',ct:=λσ' H'=>∃m',m'<m/\Pv m' σ' H',bk:=D.nx} σ H)/\(¬p->D.nx σ H)):QS c tb D σ H:=by
 refine⟨Pv,⟨m0,h0⟩,λm σ H p=>?_⟩;obtain⟨q,dq,t,h1,h2⟩:=hs m σ H p;refine t _ ?_;by_cases z:q
 .rw [decide_eq_true z,if_pos rfl];exact⟨_,λ_ _ y=>y,h1 z⟩
 .rw [decide_eq_false z,if_neg kt];exact h2 z
theorem ZB{t u:TS}{D:Ends}(R:St->Hp->Prop)(h3:∀σ H,R σ H->u D σ H)(h:(∀σ H,R σ H->u D σ H)->t {D with nx:=u D} σ H):tSeq t u D σ H:=h h3
theorem zH{i:Nat}{v:V}{Q:St->Hp->Prop}(h:Q (σ.set i (some v)) H):zU i v σ H Q:=h
theorem wf{t:TA}{i:Nat}{u:TS}{D:Ends}(h:t σ H λxs H1=>xs.length<=sizeLine/\∀p,H1 p=none->u D (σ.set i (some (.ref p))) (upd H1 p (.lst xs))):tSeq (tAsg (tLst t) (zU i)) u D σ H:=h
end
section
variable{P:Program}{w:World}{K:Frag}{mg:Str->Option Value}{base:Heap}{N:List Str}{qual:Str}{scope:Scope}{f:Addr}{cd:Value}{A:Around}{outer:List Env}{s₀:Shared}{H₀:Hp}{E:XK}
theorem y7:qF (CXE P w) (cxOf (CXE P w) P w K mg base N qual scope f cd A outer s₀ H₀ E) E:=by
 intro pins σ H s e s' I q;revert q;intro n7;refine E_4 n7 λea T C H' n8=>A_7 n8 λe9 os bare un hok fly q=>?_;clear n8 n7;subst e9;have I2:Inv (cxOf (CXE P w) P w K mg base N qual scope f cd A outer s₀ H₀ E) pins σ H' s':=I.call' (ch:=[]) os un hok bare (λb z=>nomatch z);obtain⟨oe,vs,a0,oT,ts,e1,e2,e3,e4,e5,e6,e7,e8⟩:=fly.ob;have no0:∀b,s.heap.get? b=none->s₀.heap.get? b=none:=λb z=>by
  cases y:s₀.heap.get? b with
  |none=>rfl
  |some o =>
   obtain⟨o',z'⟩:=I.base.there b o y (λm=>nomatch m);rw[z]at z';cases z'
 have no2:∀b,s'.heap.get? b=none->s₀.heap.get? b=none:=λb z=>by
  cases y:s₀.heap.get? b with
  |none=>rfl
  |some o =>
   obtain⟨o',z'⟩:=I2.base.there b o y (λm=>nomatch m);rw[z]at z';cases z'
 have ff:s'.heap.FunFrames (hideAll s'.heap (ea::T::frs (envOfC qual scope s₀.heap.objs.size f cd::outer))) (envOfC qual scope s₀.heap.objs.size f cd::outer):=I2.hid _ λb hb=>kg _ (kg _ hb);have fl:Heap.FlyingW (hideAll s'.heap (ea::T::frs (envOfC qual scope s₀.heap.objs.size f cd::outer))) (envOfC qual scope s₀.heap.objs.size f cd::outer) ea (.ref C) a0 s'.heap :=
  ⟨λb o z=>of_hideAll _ z,hideAll_none _ ke,ff,oe,vs,T,oT,ts,e1,⟨e2,e4⟩,e3,e5,hideAll_none _ (kg _ ke),fly.ne,e6,e7,e8⟩
 show wpAny _ _ (leaving _ _) _ _ _;refine wpAny_leaves_onW I2.ok.frames rfl fl λh2 fl2 up=>?_;have inB:∀b o,b≠ea->b≠T->b∉frs (envOfC qual scope s₀.heap.objs.size f cd::outer)->s'.heap.get? b=some o->h2.get? b=some o:=λb o n1 n2 nb z=>fl2.1 b o (hideAll_get _ z (by
  intro m;rcases kL.mp m with m|m
  .exact n1 m
  .rcases kL.mp m with m|m
   .exact n2 m
   .exact nb m))
 have upS:∀b o,b∈frs (envOfC qual scope s₀.heap.objs.size f cd::outer)->s'.heap.get? b=some o->∃sl,h2.get? b=some {o with slots:=sl}:=λb o nb z=>by
  obtain⟨_,o',z',hd⟩:=I2.stack.mem nb;rw[z]at z';cases z';exact up b o z hd
 have notL:∀b o,s₀.heap.get? b=some o->b∉frs outer->b∉frs (envOfC qual scope s₀.heap.objs.size f cd::outer):=λb o z nb m=>by
  rcases kL.mp (I2.stkSub b m)with z'|z'
  .have:=Heap.lt_size z;have z':b=s₀.heap.objs.size:=z';rw[z']at this;exact vF _ this
  .exact nb z'
 have neE:∀b o,s₀.heap.get? b=some o->b≠ea/\b≠T:=λb o z=>⟨(λy=>by rw[y,no0 _ fly.ne0]at z;cases z),(λy=>by rw[y,no0 _ fly.nT0]at z;cases z)⟩;obtain⟨_,_,_,oe',vs',T',oT',ts',a1,⟨a2,a3⟩,a4,a5,a6,a7,a8,a9,a10⟩:=fl2;have hT':T'=T\/s'.heap.get? T'=none:=by
  by_cases hTT:T'=T
  .exact .inl hTT
  .right;cases z:s'.heap.get? T' with
   |none=>rfl
   |some o =>
    by_cases hb:T'∈frs (envOfC qual scope s₀.heap.objs.size f cd::outer)
    .obtain ⟨_,o',z',hd⟩:=I2.stack.mem hb;obtain⟨sl,z2⟩:=upS T' o hb z;rw[z]at z';cases z';rw[a8]at z2;cases z2;exact absurd a9 (hd ts')
    .rw [hideAll_get _ z (by
      intro m;rcases kL.mp m with m|m
      .exact a7 m
      .rcases kL.mp m with m|m
       .exact hTT m
       .exact hb m)]at a6
     cases a6
 have fT':H' T'=none:=by
  rcases hT' with e|e
  .rw [e];exact fly.fT
  .exact I2.none_of e
 have nT':s₀.heap.get? T'=none:=by
  rcases hT' with e|e
  .rw [e];exact no0 _ fly.nT0
  .exact no2 _ e
 refine⟨ea,T',C,H',rfl,I2.os,I2.bare,⟨λb o z n nb _=>?_,λb o z n nb _=>?_,λb o z n _=>I2.base.free b o z n (λm=>nomatch m),λb o z _=>?_,I2.base.tups,I2.base.frzs,I2.base.tbls⟩,λa o z=>?_,
  ⟨⟨oe',vs',a0,oT',ts',a1,a2,a4,a3,a5,a8,a9,a10⟩,a7,fly.fe,fT',no0 _ fly.ne0,nT'⟩,q⟩
 .exact inB b o (neE b o z).1 (neE b o z).2 (notL b o z nb) (I2.base.keep b o z n nb (λm=>nomatch m))
 .obtain ⟨sl,z1⟩:=I2.base.slot b o z n nb (λm=>nomatch m);obtain⟨sl',z2⟩:=upS b _ (by
   show b∈frs _;unfold frs;rw[uC];exact kg _ nb) z1
  exact⟨sl',z2⟩
 .obtain ⟨o',z'⟩:=I2.base.there b o z (λm=>nomatch m);by_cases hb:b∈frs (envOfC qual scope s₀.heap.objs.size f cd::outer)
  .obtain ⟨sl,z2⟩:=upS b o' hb z';exact⟨_,z2⟩
  .exact ⟨o',inB b o' (neE b o z).1 (neE b o z).2 hb z'⟩
 .refine (I2.hok a o z).stay (λb u hb r=>?_) (λ_ y=>y) λ_ _ y=>y;have hbH:∃x,H' b=some x:=by
   rcases hb with rfl|hb
   .exact ⟨_,z⟩
   .exact ⟨_,hb⟩
  obtain⟨x,hx⟩:=hbH;refine inB b u (λm=>?_) (λm=>?_) (λm=>?_) r
  .rw [m,fly.fe]at hx;cases hx
  .rw [m,fly.fT]at hx;cases hx
  .have:=I2.stkFree b m;rw[hx]at this;cases this
end
end _L2
namespace _L2
open PySem PySem.Spec PyProof.Rows
theorem Inv.turnedL{X:Cx}{pins:List (Addr×Obj)}{σ:St}{H:Hp}{s:Shared}{h':Heap}{t':Nat}{ch:List Addr}(I:Inv X pins σ H s)(k:∀b o,b∉ch->s.heap.get? b=some o->h'.get? b=some o)(hf:∀b∈ch,FpOk X pins H b):
  Inv X pins σ H {s with heap:=h',toks:=t'}:=by
 have nit:∀b u,H b=some u->b∉ch:=λb u e m=>by rw[(hf b m).1]at e;cases e
 refine I.step (g':=s.gens) (d':=s.drawn) (ch:=ch) (λb hb=>?_) (λb o _ _ m e _=>k b o m e) (λb o _ _ m e _=>⟨o.slots,k b o m e⟩) (λ_ _ _ _ n=>n) (λb o m e=>⟨o,k b o m e⟩) (λ_ _ e=>e) (λ_ _ _ e=>e)
  (λb ps e=>⟨#[],by rw[e];simp⟩) (λm hm=>?_) (λb u e=>?_) I.bare
 .obtain ⟨a0,a1,a2,a3,a4,a5⟩:=hf b hb;exact⟨a3,a1,a4,a5⟩
 .obtain ⟨o,es,ep,ho,r⟩:=hm;exact⟨o,es,ep,k _ o (λm=>(hf _ m).2.1 rfl) ho,r⟩
 .refine (I.hok b u e).stay (λc v hc q=>k c v (λm=>?_) q) (λ_ q=>q) λ_ _ q=>q;rcases hc with z|z
  .rw [z]at m;exact nit b u e m
  .exact nit c _ z m
theorem yV{h:Heap}{a c:Addr}{its:Array Value}{o:Obj}(hl:h.IsList a its)(hc:h.get? c=some o)(hn:o.cls≠.type "list"):a≠c:=λz=>by
 obtain⟨o',g1,g2,_⟩:=hl;rw[z,hc]at g1;cases g1;exact hn g2
def ItZ(K:Frag)(a b:Addr):It :=
 ⟨λi H=>∃xs ys x y,SqL K H a xs/\SqL K H b ys/\xs[i]?=some x/\ys[i]?=some y,
 λi H x H'=>∃p u v,H p=none/\x=.ref p/\H'=upd H p (.tup [u,v])/\(∀xs,SqL K H a xs->xs[i]?=some u)/\∀ys,SqL K H b ys->ys[i]?=some v,
 λi H=>∃xs ys,SqL K H a xs/\SqL K H b ys/\(xs.length<=i\/ys.length<=i)⟩
structure Dst(z TI TO i1 i2:Addr):Prop where
 TIz:TI≠z
 TOz:TO≠z
 i1z:i1≠z
 i2z:i2≠z
 TITO:TI≠TO
 TIi1:TI≠i1
 TIi2:TI≠i2
 TOi1:TO≠i1
 TOi2:TO≠i2
 i12:i1≠i2
theorem Jk(n:Nat):Dst (n+4) (n+2) (n+3) n (n+1):=by
 have ne:∀{i j:Nat},i≠j->(show Nat from n+i)≠(show Nat from n+j):=λh z=>h (Nat.add_left_cancel z);exact⟨ne (i:=2) (j:=4) ⋯,ne (i:=3) (j:=4) ⋯,ne (i:=0) (j:=4) ⋯,ne (i:=1) (j:=4) ⋯,ne (i:=2) (j:=3) ⋯,ne (i:=2) (j:=0) ⋯,ne (i:=2) (j:=1) ⋯,ne (i:=3) (j:=0) ⋯,ne (i:=3) (j:=1) ⋯,ne (i:=0) (j:=1) ⋯⟩
theorem Z9{n c:Nat}(h:c=n+4\/c=n+2\/c=n+3\/c=n\/c=n+1):n<=c:=()
theorem Ya{h:Heap}{z TI TO i1 i2 a b:Addr}{xs ys:Array Value}{k1 k2:Nat}{f0 v u:Value}(D:Dst z TI TO i1 i2)(hz:IsZip h z TI TO f0)(hTO:IsPair h TO v u)(h1:h.IsListIter i1 a k1)(h2:h.IsListIter i2 b k2)(l1:h.IsList a xs)(l2:h.IsList b ys):
  ZipApart z TI TO i1 i2 a b:=by
 obtain⟨o1,e1,c1,_⟩:=h1;obtain⟨o2,e2,c2,_⟩:=h2;have n1:o1.cls≠.type "list" := by rw[c1];decide
 have n2:o2.cls≠.type "list" := by rw[c2];decide
 have nz:Value.type "zip" ≠ .type "list" := by decide
 have nt:Value.type "tuple" ≠ .type "list" := by decide
 exact⟨D.TIz,D.TOz,D.i1z,D.i2z,D.TITO,D.TIi1,D.TIi2,D.TOi1,D.TOi2,D.i12,yV l1 hz nz,yV l1 hTO nt,yV l1 e1 n1,yV l1 e2 n2,yV l2 hz nz,yV l2 hTO nt,yV l2 e1 n1,yV l2 e2 n2⟩
theorem zaT{P:Program}{w:World}{K:Frag}{elts:List Expr}{kx:Nat}{px:Pos}(a b z TI TO i1 i2:Addr)(D:Dst z TI TO i1 i2):
  Turn P w K (.Tuple elts kx px) (ItZ K a b) [z,TI,TO,i1,i2] z (λi h=>IsZip h z TI TO .none/\IsPair h TI (.ref i1) (.ref i2)/\(∃v u,IsPair h TO v u)/\h.IsListIter i1 a i/\h.IsListIter i2 b i) where
 mem:=by simp
 obj:=λi h st c hc=>by
  obtain⟨hz,hTI,⟨v,u,hTO⟩,⟨o1,e1,c1,d1⟩,⟨o2,e2,c2,d2⟩⟩:=st;have hc:c=z\/c=TI\/c=TO\/c=i1\/c=i2:=by simpa using hc
  rcases hc with rfl|rfl|rfl|rfl|rfl
  .exact ⟨_,hz,λv y=>by have y':Data.fields _=Data.cell v:=y;cases y'⟩
  .exact ⟨_,hTI,λv y=>by have y':Data.seq _=Data.cell v:=y;cases y'⟩
  .exact ⟨_,hTO,λv y=>by have y':Data.seq _=Data.cell v:=y;cases y'⟩
  .exact ⟨o1,e1,λv y=>by rw[d1]at y;cases y⟩
  .exact ⟨o2,e2,λv y=>by rw[d2]at y;cases y⟩
 keep:=λi h h' st k=>by
  obtain⟨hz,hTI,⟨v,u,hTO⟩,h1,h2⟩:=st;exact⟨k z (by simp) _ hz,k TI (by simp) _ hTI,⟨v,u,k TO (by simp) _ hTO⟩,h1.at λo q=>k i1 (by simp) o q,h2.at λo q=>k i2 (by simp) o q⟩
 item:=by
  intro X hP hw hK hc i pins s σ H E I hf st hg;subst hP hw hK;obtain⟨hz,hTI,⟨v0,u0,hTO⟩,h1,h2⟩:=st;obtain⟨xs,ys,x,y,hq1,hq2,hx,hy⟩:=hg;obtain⟨its,rv,tp,hz1⟩:=I.list hq1;obtain⟨jts,rw',tq,hz2⟩:=I.list hq2;obtain⟨u,hu,ru⟩:=rv.get hx;obtain⟨v,hv,rv'⟩:=rw'.get hy;have Z:=Ya D hz hTO h1 h2 tp.isList tq.isList;refine wpAny_pyNext_zip_item Z hz hTI hTO h1 h2 tp.isList tq.isList (x:=u) (y:=v) (by simpa using hu) (by simpa using hv) λh' a1 a2 a3 a4 a5 a6 hk=>?_;refine⟨_,rfl,wpAny_letOwnedTupleGo_zip a1 λh'' hz'' hs=>?_⟩;have lt:∀{c o},s.heap.get? c=some o->s.heap.objs.size≠c:=λe=>uW (Heap.lt_size e);have ne1:=lt hz;have k2:∀c o,c∉[z,TO,i1,i2]->s.heap.get? c=some o->h''.get? c=some o:=λc o m q=>by
   have m:c≠z/\c≠TO/\c≠i1/\c≠i2:=by simpa using m
   exact(hs.2 c m.1).trans (hk c o m.1 m.2.1 m.2.2.1 m.2.2.2 q)
  have I1:Inv X pins σ H {s with heap:=h'',toks:=s.toks}:=I.turnedL (t':=s.toks) k2 λc m=>hf c (by
   have m:c=z\/c=TO\/c=i1\/c=i2:=by simpa using m
   rcases m with rfl|rfl|rfl|rfl<;>simp)
  have hn:H s.heap.objs.size=none:=I.hok.fresh (kc _);have FP:=I.fpOk (b:=s.heap.objs.size) (kc _) hn;have hT2:h''.get? s.heap.objs.size=some {cls:=.type "tuple",data:=.seq #[u,v]}:=(hs.2 _ ne1).trans a5;have I2:=I1.track (p:=s.heap.objs.size) (o:=.tup [x,y]) hn (Heap.get?_none_of_le I.sz) FP.2.1 FP.2.2.2.2.1 FP.2.2.2.2.2
   ⟨Zz2,[u,v],.cons ru (.cons rv' .nil),⟨_,hT2,rfl,_,rfl⟩⟩
  refine⟨.ref s.heap.objs.size,_,I2,rfl,⟨_,x,y,hn,rfl,rfl,λzs hy'=>?_,λzs hy'=>?_⟩,⟨hz'',(hs.2 _ D.TIz).trans (hk _ _ D.TIz D.TITO D.TIi1 D.TIi2 hTI),⟨_,_,(hs.2 _ D.TOz).trans a2⟩,a3.at λo q=>(hs.2 _ D.i1z).trans q,a4.at λo q=>(hs.2 _ D.i2z).trans q⟩,λc hc=>?_⟩
  .rw [I.list_inj hy' hq1];exact hx
  .rw [I.list_inj hy' hq2];exact hy
  .have hb2:c≠s.heap.objs.size:=by
    have m:c=z\/c=TI\/c=TO\/c=i1\/c=i2:=by simpa using hc
    rcases m with rfl|rfl|rfl|rfl|rfl
    .exact ne1.symm
    .exact (lt hTI).symm
    .exact (lt hTO).symm
    .obtain ⟨o,g,_⟩:=h1;exact(lt g).symm
    .obtain ⟨o,g,_⟩:=h2;exact(lt g).symm
   rw[zr hb2];exact(hf c hc).1
 done:=by
  intro X hP hw hK hc i pins s σ H E I hf st hg;subst hP hw hK;obtain⟨hz,hTI,⟨v0,u0,hTO⟩,h1,h2⟩:=st;obtain⟨xs,ys,hq1,hq2,hx⟩:=hg;obtain⟨its,rv,tp,hz1⟩:=I.list hq1;obtain⟨jts,rw',tq,hz2⟩:=I.list hq2;have l1:=rv.length;have l2:=rw'.length;have Z:=Ya D hz hTO h1 h2 tp.isList tq.isList;refine wpAny_pyNext_zip_end (I.ok.hd hc) Z hz hTI hTO h1 h2 tp.isList tq.isList ?_ λh' hk=>⟨rfl,I.turnedL (t':=s.toks) (ch:=[z,TO,i1,i2]) (λc o m q=>?_) λc m=>hf c ?_⟩
  .rcases hx with hx|hx
   .left;simp;lia
   .right;simp;lia
  .have m:c≠z/\c≠TO/\c≠i1/\c≠i2:=by simpa using m
   exact hk c o m.1 m.2.1 m.2.2.1 m.2.2.2 q
  .have m:c=z\/c=TO\/c=i1\/c=i2:=by simpa using m
   rcases m with rfl|rfl|rfl|rfl<;>simp
 self:=λ_ _ _ _ _ st h=>wpAny_pyIter_zip st.1 h
def iZip(K:Frag)(ta:TA):TI:=λσ H R=>ta σ H λvs H1=>∃a b,vs=[.ref a,.ref b]/\(∃xs,SqL K H1 a xs)/\(∃ys,SqL K H1 b ys)/\R (ItZ K a b) H1
theorem j7{X:Cx}{l r:Expr}{ta:TA}{elts:List Expr}{kx:Nat}{px p pos:Pos}(hg:Gl X "zip")(hm:X.mg "zip"=none)(ha:PA X [l,r] ta)(hs:starEach [l,r] X.env=[(false,eval l X.env),(false,eval r X.env)]:=by rfl)(hs2:starEach [r] X.env=[(false,eval r X.env)]:=by rfl):
  PI X (.Tuple elts kx px) (.Call (.Name "zip" p) [l,r] [] pos) (iZip X.K ta):=by
 intro pins s σ H R I h;refine Call_ (yT I hg hm boot_zip (vN (thn (ha pos pins s σ H _ I h) λus s1 ⟨vs,H1,I1,r1,q1⟩=>?_) (by rw[hs,hs2]) (by rw[hs2];rfl)));obtain⟨a,b,e,⟨xs,hq1⟩,⟨ys,hq2⟩,q⟩:=q1;subst e;cases r1 with
 |cons r rr =>
  cases rr with
  |cons r' rr =>
   cases rr;cases r;cases r';obtain⟨its,rv,tp,hz1⟩:=I1.list hq1;obtain⟨jts,rw',tq,hz2⟩:=I1.list hq2;refine call_zip_2 tp.isList tq.isList λh' a1 a2 a3 a4 a5 a6 hk=>?_;refine wpAny_pyIter_zip a1 ?_;refine⟨s1.heap.objs.size+4,[s1.heap.objs.size+4,s1.heap.objs.size+2,s1.heap.objs.size+3,s1.heap.objs.size,s1.heap.objs.size+1],_,_,H1,rfl,I1.kept (t':=s1.toks) hk,
    zaT a b _ _ _ _ _ (Jk _),⟨a1,a2,⟨_,_,a3⟩,a4,a5⟩,λc hc=>?_,q⟩
   have m:c=s1.heap.objs.size+4\/c=s1.heap.objs.size+2\/c=s1.heap.objs.size+3\/c=s1.heap.objs.size\/c=s1.heap.objs.size+1:=by simpa using hc
   have le:s1.heap.objs.size<=c:=Z9 m;exact I1.fpOk le (I1.hok.fresh le)
section
variable{g:TG}{tc:TT}{te:TE}{σ0:St}{H0:Hp}{R:List V->Hp->Prop}{K:Frag}{a b:Addr}{xs ys:List V}
theorem ZC(Pv:Nat->List V->St->Hp->Prop)(h0:Pv 0 [] σ0 H0)(hz:∀i us σ H,i<=min xs.length ys.length->Pv i us σ H->us.length<=sizeLine/\SqL K H a xs/\SqL K H b ys)(hst:∀us σ H,Pv (min xs.length ys.length) us σ H->R us H)
  (hgo:∀i x y us σ H p,xs[i]?=some x->ys[i]?=some y->Pv i us σ H->H p=none->g (.ref p) σ (upd H p (.tup [x,y])) λσ2 H3=>tc σ2 H3 λc H4=>if c=true then te σ2 H4 λu H5=>Pv (i+1) (us++[u]) σ2 H5 else Pv (i+1) us σ2 H4):
  ∃W:Nat->Nat->List V->St->Hp->Prop,(∃m,W 0 m [] σ0 H0)/\∀i m us σ' H',W i m us σ' H' ->
   ((ItZ K a b).stop i H'/\us.length<=sizeLine/\R us H') \/
   ((ItZ K a b).go i H'/\us.length<=sizeLine/\∃N:List V->St->Hp->Prop,(∀us' σ2 H2,N us' σ2 H2->∃m',m'<m/\W (i+1) m' us' σ2 H2) /\
     ∀x H2,(ItZ K a b).yld i H' x H2->g x σ' H2 λσ2 H3=>tc σ2 H3 λc H4=>if c=true then te σ2 H4 λu H5=>N (us++[u]) σ2 H5 else N us σ2 H4) :=
 x9 (n:=min xs.length ys.length) Pv h0 (λi us σ H hi p=>(hz i us σ H hi p).1)
  (λus σ H p=>⟨⟨xs,ys,(hz _ us σ H (kc _) p).2.1,(hz _ us σ H (kc _) p).2.2,()⟩,hst us σ H p⟩)
  λi us σ H hi p=>⟨⟨xs,ys,xs[i]'(),ys[i]'(),(hz i us σ H (vw hi) p).2.1,(hz i us σ H (vw hi) p).2.2,kf _,kf _⟩,λx H2 y=>by
   obtain⟨q,u,v,hn,e,e2,y1,y2⟩:=y;subst e e2;have z:=hz i us σ H (vw hi) p;exact hgo i u v us σ H q (y1 xs z.2.1) (y2 ys z.2.2) p hn⟩
end
end _L2
namespace _Lin
theorem Wr:∀{a b:W}{x y:W},32∉a->32∉b->a++32::x=b++32::y->a=b/\x=y
 |[],[],x,y,_,_,h=>by cases h;exact⟨rfl,rfl⟩
 |[],c::b,x,y,_,hb,h=>by
  cases h;exact absurd ke hb
 |c::a,[],x,y,ha,_,h=>by
  cases h;exact absurd ke ha
 |c::a,d::b,x,y,ha,hb,h=>by
  have h:c::(a++32::x)=d::(b++32::y):=h;injection h with h1 h2;obtain⟨e1,e2⟩:=Wr (λz=>ha (kg _ z)) (λz=>hb (kg _ z)) h2;exact⟨by rw[h1,e1],e2⟩
theorem jG:∀(A B:List W),A≠[]->B≠[]->(∀a∈A,32∉a)->(∀b∈B,32∉b)->glue A=glue B->A=B
 |[],_,h,_,_,_,_=>absurd rfl h
 |_,[],_,h,_,_,_=>absurd rfl h
 |[a],[b],_,_,_,_,h=>by
  have h:a=b:=h;rw[h]
 |[a],b::c::r,_,_,ha,_,h=>by
  have h:a=b++32::glue (c::r):=h;exact absurd (by rw[h];simp) (ha a ke)
 |a::c::r,[b],_,_,_,hb,h=>by
  have h:a++32::glue (c::r)=b:=h;exact absurd (by rw[<-h];simp) (hb b ke)
 |a::c::r,b::d::t,_,_,ha,hb,h=>by
  have h:a++32::glue (c::r)=b++32::glue (d::t):=h;obtain⟨e1,e2⟩:=Wr (ha a ke) (hb b ke) h;rw[e1,jG (c::r) (d::t) (by simp) (by simp) (λz hz=>ha z (kg _ hz)) (λz hz=>hb z (kg _ hz)) e2]
end _Lin
namespace _L2
open PySem PySem.Spec PyProof.Rows PySem.Builtin PySem.Builtin.Str _Lin
theorem j8(p:Str):txt p.cps.toList=p:=by
 refine Str.ext' ?_;simp[txt]
theorem W5{ws:List W}(hn:ws≠[])(hw:∀w∈ws,w≠[]/\32∉w):Txt.split (txt (glue ws)) (txt [32])=ws.map txt:=by
 have j:=StrLaws.join_split (txt (glue ws)) (txt [32]);have fr:=StrLaws.split_free (txt (glue ws)) 32;have fr:∀p∈Txt.split (txt (glue ws)) (txt [32]),32∉p.cps.toList:=fr;generalize Txt.split (txt (glue ws)) (txt [32])=ps at j fr;have e:(ps.map λp=>p.cps.toList).map txt=ps:=by
  rw[vE]
  conv=>rhs;rw[<-List.map_id ps]
  exact vS λp _=>j8 p
 rw[<-e,wE]at j;have j:=Zy j;have ne:(ps.map λp=>p.cps.toList)≠[]:=λz=>by
  rw[z]at j
  match ws,hn,hw,j with
  |[a],_,hw,j=>exact(hw a ke).1 j.symm
  |a::b::r,_,hw,j =>
   have j:[]=a++32::glue (b::r):=j;exact absurd j.symm (by simp)
 have q:=jG _ _ ne hn (λa ha=>by
  obtain⟨p,hp,rfl⟩:=vh.mp ha;exact fr p hp) (λb hb=>(hw b hb).2) j
 rw[<-q,e]
theorem qL:∀{l:List (Str×Tok)}{ws:List W},l.map (·.1)=ws.map txt->Vals (ws.map λw=>V.str (txt w)) (strValues l)
 |[],[],_=>.nil
 |[],_::_,h=>nomatch h
 |_::_,[],h=>nomatch h
 |(x,t)::l,w::ws,h=>by
  injection h with h1 h2;have h1:x=txt w:=h1;subst h1;exact .cons ⟨t,rfl⟩ (qL h2)
section
variable{X:Cx}
theorem Jl:MtR X "str.split" (λx vs H Q=>∃ws:List W,x=.str (txt (glue ws))/\vs=[.str " "]/\ws≠[]/\(∀w∈ws,w≠[]/\32∉w)/\(glue ws).length<=1000000/\ws.length<=1000000/\∀l,H l=none->Q (.ref l) (upd H l (.lst (ws.map λw=>V.str (txt w))))):=by
 intro pins s σ H x xs v us Q I rx rxs h;refine E_1 h λws n8=>A_7 n8 λe9 n90 hn hw hl hl2 q=>?_;clear n8 h;subst e9;subst n90;refine E_1 rx λt e9=>?_;clear rx;subst e9;obtain⟨z,rfl,u,rfl⟩:=vals1 rxs;have eb:(" " : Str)=txt [32]:=by decide +kernel
 rw[eb];have hs:=W5 hn hw;have hx:(txt (glue ws)).length<=1000000:=by rw[zI];exact hl
 have big:(1000002:Nat)<=sizeLine:=⋯
 generalize txt (glue ws)=x at hs hx;have hy:((txt [32]).length==0)=false:=by decide +kernel
 have fin:∀(l:List (Str×Tok))(k:Nat),l.map (·.1)=Txt.split x (txt [32])->EP X pins σ Q (.ref s.heap.objs.size) {s with heap:=s.heap.push {cls:=.type "list",data:=.seq (strValues l).toArray},toks:=k}:=λl k e =>
  ⟨.ref s.heap.objs.size,_,I.laid (t':=k) (λb u e=>Heap.get?_push_of_some _ e) (kc _) (show yg X.prog X.w _ _ _ (.lst (ws.map λw=>V.str (txt w)))from⟨by rw[ka];lia,strValues l,_,qL (e.trans hs),Heap.get?_push_size _ rfl⟩),rfl,q _ (I.hok.fresh (kc _))⟩
 have hnn:(partsBetween x (occurrences x (txt [32]) 0 x.length (x.length+1)) (txt [32]).length).length<=sizeLine:=by
  have e1:=StrLaws.occ_length_le x (txt [32]) 0 x.length (x.length+1);rw[length_partsBetween];lia
 cases h1:(decide (x.length<(txt [32]).length)||decide (strKind x<strKind (txt [32])))
 .cases hf:(occurrences x (txt [32]) 0 x.length (x.length+1)).isEmpty
  .refine call_meets F.slot_str_split (typeIs_str _ _ _) F.entry_str_split (F.args_str_split_2 _ _) (meets_str_split_sep x (txt [32]) t u h1 hy hf () hnn) ?_;show wants _ _ _ {s with toks:=_,heap:=s.heap.push {cls:=.type "list",data:=.seq (strsFrom s.toks (partsBetween x (occurrences x (txt [32]) 0 x.length (x.length+1)) (txt [32]).length)).toArray}};rw[strsFrom_eq];exact fin (numbered s.toks _) _ ((numbered_texts _ _).trans ((if_neg (ne_true_of_eq_false h1)).trans (if_neg (ne_true_of_eq_false hf))).symm)
  .exact call_meets F.slot_str_split (typeIs_str _ _ _) F.entry_str_split (F.args_str_split_2 _ _) (meets_str_split_not_found x (txt [32]) t u h1 hy hf)
    (fin [(x,t)] s.toks ((if_neg (ne_true_of_eq_false h1)).trans (if_pos hf)).symm)
 .exact call_meets F.slot_str_split (typeIs_str _ _ _) F.entry_str_split (F.args_str_split_2 _ _) (meets_str_split_cannot_occur x (txt [32]) t u h1)
   (fin [(x,t)] s.toks (if_pos h1).symm)
end
end _L2
namespace _L2
open PySem PySem.Spec PyProof.Rows
section
variable{X:Cx}
theorem Jm(hc:X.calm=true):yz X (.builtin "sum") (λxs H Q=>∃(a:Addr)(ns:List Int),xs=[.ref a]/\SqL X.K H a (ns.map V.int)/\Q (.int ns.sum) H):=by
 intro pins s σ H xs us Q I r h;refine E_2 h λa ns n8=>A_3 n8 λe9 hq q=>?_;clear n8 h;subst e9;obtain⟨u,rfl,ru⟩:=vals1 r;cases ru;obtain⟨its,rv,tp,hz⟩:=I.list hq;have hl:=rv.length;rw[ka]at hl;refine call_sum_walkG (Jd I tp.isList hc λs2 e W st hfp=>?_);subst e;refine⟨_,_,_,_,_,_,λi=>ns.getD i 0,rfl,W,st,hfp,xI rv,λh' tk t' hk=>?_⟩;refine⟨.int ns.sum,H,I.kept (t':=tk) λb o e=>hk b o (λm=>?_) (Heap.get?_push_of_some _ e),⟨t',?_⟩,q⟩
 .have:=Heap.lt_size e;rw[kj.mp m]at this;exact vF _ this
 .rw [ko,<-hl,js ns _ (kc _),kM]
end
end _L2
namespace _Lin
def putG(wide:Int)(gs:List (List W))(v:W):List (List W) :=
 match gs.getLast? with
 |some g=>if((glue g).length:Int)+1+v.length<=wide then gs.dropLast++[g++[v]]else gs++[[v]]
 |none=>[[v]]
def grp(wide:Int)(ws:List W):List (List W):=ws.foldl (putG wide) []
theorem xJ(wide:Int)(ws:List W)(v:W):grp wide (ws++[v])=putG wide (grp wide ws) v:=by
 unfold grp;rw[List.foldl_append];rfl
theorem y8(wide:Int)(R:List (List W))(g:List W)(v:W):putG wide (R++[g]) v=if((glue g).length:Int)+1+v.length<=wide then R++[g++[v]]else R++[g]++[[v]]:=by
 unfold putG;rw[List.getLast?_concat,uP]
theorem xo{α:Type}(l:List α):l=[]\/∃r a,l=r++[a]:=by
 by_cases h:l=[]
 .exact .inl h
 .exact .inr ⟨_,_,(vZ h).symm⟩
theorem j9(wide:Int)(ws:List W):(∀g∈grp wide ws,g≠[])/\(ws≠[]->grp wide ws≠[]) :=
 snoc_ind (P:=λws=>(∀g∈grp wide ws,g≠[])/\(ws≠[]->grp wide ws≠[])) ⟨λg hg=>(kN hg).elim,λh=>absurd rfl h⟩ (λws v ih=>by
  rw[xJ];rcases xo (grp wide ws)with e|⟨R,g,e⟩
  .rw [e];exact⟨λg hg=>by rw[kj.mp hg];simp,λ_=>by simp[putG]⟩
  .rw [e]at ih ⊢;rw[y8];split
   .refine ⟨λh hh=>?_,λ_=>by simp⟩;rcases kQ.mp hh with m|m
    .exact ih.1 h (kU _ m)
    .rw [kj.mp m];simp
   .refine ⟨λh hh=>?_,λ_=>by simp⟩;rcases kQ.mp hh with m|m
    .exact ih.1 h m
    .rw [kj.mp m];simp) _ ws rfl
theorem qd(wide:Int)(ws:List W):(grp wide ws).map glue=taken wide ws :=
 snoc_ind (P:=λws=>(grp wide ws).map glue=taken wide ws) rfl (λws v ih=>by
  rw[xJ,xk,<-ih];rcases xo (grp wide ws)with e|⟨R,g,e⟩
  .rw [e];rfl
  .have gn:=(j9 wide ws).1 g (by rw[e];simp);rw[e,y8,kD];unfold put;rw[show(List.map glue [g])=[glue g]from rfl,List.getLast?_concat,uP];dsimp only;split
   .rw [kD];show R.map glue++[glue (g++[v])]=_;rw[Z7 _ _ gn]
   .rw [kD,kD];rfl) _ ws rfl
theorem qf(wide:Int)(ws:List W):(grp wide ws).flatten=ws :=
 snoc_ind (P:=λws=>(grp wide ws).flatten=ws) rfl (λws v ih=>by
  rw[xJ]
  conv=>rhs;rw[<-ih]
  rcases xo (grp wide ws)with e|⟨R,g,e⟩
  .rw [e];simp[putG]
  .rw [e,y8];split<;>simp) _ ws rfl
theorem wg(wide:Int)(ws:List W):(grp wide ws).length=(taken wide ws).length:=by rw[<-qd,ka]
def val(g h:List W):Int:=((glue g).length:Int)+1+(h.headD []).length
def vals:List (List W)->List Int
 |[]=>[]
 |[_]=>[]
 |g::h::r=>val g h::vals (h::r)
theorem qM:∀(R:List (List W))(g h:List W),vals (R++[g]++[h])=vals (R++[g])++[val g h]
 |[],g,h=>rfl
 |[a],g,h=>rfl
 |a::b::r,g,h=>by
  have ih:=qM (b::r) g h;show val a b::vals (b::r++[g]++[h])=val a b::vals (b::r++[g])++[val g h];rw[ih];rfl
theorem qN:∀(R:List (List W))(g g':List W),g.headD []=g'.headD []->vals (R++[g])=vals (R++[g'])
 |[],g,g',_=>rfl
 |[a],g,g',e=>by
  show [val a g]=[val a g'];unfold val;rw[e]
 |a::b::r,g,g',e=>by
  show val a b::vals (b::r++[g])=val a b::vals (b::r++[g']);rw[qN (b::r) g g' e]
theorem Yb{g:List W}(h:g≠[])(v:W):(g++[v]).headD []=g.headD []:=by
 cases g with
 |nil=>exact absurd rfl h
 |cons a r=>rfl
theorem Jn(wide:Int)(ws:List W):∀z∈vals (grp wide ws),wide<z :=
 snoc_ind (P:=λws=>∀z∈vals (grp wide ws),wide<z) (λz hz=>(kN hz).elim) (λws v ih=>by
  rw[xJ];rcases xo (grp wide ws)with e|⟨R,g,e⟩
  .rw [e];exact λz hz=>(kN hz).elim
  .have gn:=(j9 wide ws).1 g (by rw[e];simp);rw[e]at ih ⊢;rw[y8];split
   .rw [qN R _ g (Yb gn v)];exact ih
   .rw [qM];intro z hz;rcases kQ.mp hz with m|m
    .exact ih z m
    .rw [kj.mp m];unfold val;show wide<((glue g).length:Int)+1+(v.length:Int);lia) _ ws rfl
theorem Xe{wide v:Int}(hv:wide<=v)(ws:List W):(∀z∈vals (grp wide ws),v<z)->grp v ws=grp wide ws :=
 snoc_ind (P:=λws=>(∀z∈vals (grp wide ws),v<z)->grp v ws=grp wide ws) (λ_=>rfl) (λws x ih=>by
  rw[xJ,xJ];rcases xo (grp wide ws)with e|⟨R,g,e⟩
  .intro _;rw[ih (by rw[e];exact λz hz=>(kN hz).elim),e];rfl
  .have gn:=(j9 wide ws).1 g (by rw[e];simp);rw[e]at ih ⊢;rw[y8];split
   .rw [qN R _ g (Yb gn x)];intro h;rw[ih h,y8,if_pos ()]
   .rw [qM];intro h;rw[ih (λz hz=>h z (kU _ hz)),y8,if_neg];have:=h (val g [x]) (by simp);unfold val at this;have:v<((glue g).length:Int)+1+(x.length:Int):=this;lia) _ ws rfl
theorem qg:∀gs:List (List W),(vals gs).length=gs.length-1
 |[]=>rfl
 |[_]=>rfl
 |g::h::r=>by
  show(vals (h::r)).length+1=_;rw[qg (h::r)];simp
def cnt(ws:List W)(v:Int):Nat:=(gr ws v ws.length).1
theorem yP(ws:List W)(v:Int):(taken v ws).length=cnt ws v:=by
 have:=(Xc (ws:=ws) (wide:=v) (kc _)).1
 rwa [kM]at this
theorem zb8{ws:List W}{v v':Int}(h:v<=v')(hw:∀w∈ws,(w.length:Int)<=v):∀k,k<=ws.length->(gr ws v' k).1<=(gr ws v k).1:=λk=>Nat.strongRecOn k λk ih hk=>by
 by_cases h0:k=0
 .subst h0;exact kc _
 .obtain ⟨s1,s2⟩:=Xb (ws:=ws) (wide:=v) (k:=k) ();have ft:=zde hw (k:=k) () hk;have up:=zbz (ws:=ws) (wide:=v') (f:=(gr ws v k).2) (k:=k) () ();have:=ih _ s1 ();lia
theorem wy{ws:List W}{v v':Int}(h:v<=v')(hw:∀w∈ws,(w.length:Int)<=v):cnt ws v'<=cnt ws v:=zb8 h hw _ (kc _)
theorem ji{ws:List W}(h:ws≠[])(v:Int):0<cnt ws v:=Ji (bM.mpr h)
theorem Xf(ws:List W)(v:Int):cnt ws v<=ws.length:=zby _
def total(ws:List W):Int:=pos ws ws.length-1
theorem Yc{ws:List W}(v:Int)(h:total ws<=v):cnt ws v<=1:=by
 have:=zbz (ws:=ws) (wide:=v) (f:=0) (k:=ws.length) (kR _) (by rw[jF];unfold total at h;lia);exact this
def falls(c:Int->Nat)(lo:Int):Nat->List (Int×Nat)
 |0=>[(lo,c lo)]
 |k+1=>if c (lo+(k+1:Nat))<c (lo+k)then falls c lo k++[(lo+(k+1:Nat),c (lo+(k+1:Nat)))]else falls c lo k
theorem qh{c:Int->Nat}{lo:Int}{a:Nat}:∀{k:Nat},a<=k->(∀j,a<=j->j<=k->c (lo+j)=c (lo+a))->falls c lo k=falls c lo a
 |0,h,_=>by rw[bx.mp h]
 |k+1,h,hc=>by
  rcases Nat.lt_or_eq_of_le h with z|z
  .have ih:=qh (c:=c) (lo:=lo) (a:=a) (k:=k) () λj h1 h2=>hc j h1 ();show(if c (lo+(k+1:Nat))<c (lo+k)then _ else falls c lo k)=_;rw[if_neg,ih];have e1:=hc (k+1) (by omega) (kc _);have e2:=hc k () ();lia
  .rw [z]
theorem qO{c:Int->Nat}{lo:Int}:∀{k:Nat}{p:Int×Nat},p∈falls c lo k->p=(lo,c lo)\/∃j,j<k/\p=(lo+(j+1:Nat),c (lo+(j+1:Nat)))/\c (lo+(j+1:Nat))<c (lo+j)
 |0,p,h=>.inl (kj.mp h)
 |k+1,p,h=>by
  have h:p∈(if c (lo+(k+1:Nat))<c (lo+k)then falls c lo k++[(lo+(k+1:Nat),c (lo+(k+1:Nat)))]else falls c lo k):=h;split at h
  .rcases kQ.mp h with m|m
   .rcases qO m with e|⟨j,h1,h2⟩
    .exact .inl e
    .exact .inr ⟨j,(),h2⟩
   .exact .inr ⟨k,v9 _,kj.mp m,by assumption⟩
  .rcases qO h with e|⟨j,h1,h2⟩
   .exact .inl e
   .exact .inr ⟨j,(),h2⟩
theorem qP{c:Int->Nat}{lo:Int}:∀k:Nat,(falls c lo k).length<=k+1
 |0=>kc _
 |k+1=>by
  show(if c (lo+(k+1:Nat))<c (lo+k)then falls c lo k++[(lo+(k+1:Nat),c (lo+(k+1:Nat)))]else falls c lo k).length<=_;have:=qP (c:=c) (lo:=lo) k;split
  .rw [ki,vG];lia
  .lia
def wid:List W->Nat
 |[]=>0
 |a::r=>max a.length (wid r)
theorem qQ:∀{ws:List W}{u:W},u∈ws->u.length<=wid ws
 |a::r,u,h=>by
  show u.length<=max a.length (wid r);rcases kL.mp h with e|e
  .rw [e];exact Nat.le_max_left _ _
  .exact kn (qQ e) (Nat.le_max_right _ _)
theorem wR:∀{ws:List W},ws≠[]->∃u,u∈ws/\u.length=wid ws
 |[],h=>absurd rfl h
 |[a],_=>⟨a,ke,(Nat.max_eq_left (kR _)).symm⟩
 |a::b::r,_=>by
  obtain⟨u,hu,e⟩:=wR (ws:=b::r) (by simp);by_cases c:a.length<=wid (b::r)
  .exact ⟨u,kg _ hu,by rw[e];exact(Nat.max_eq_right c).symm⟩
  .exact ⟨a,ke,(Nat.max_eq_left ()).symm⟩
theorem zdf{ws:List W}{M:Int}(hM:M∈ws.map λu=>(u.length:Int))(hle:∀z∈ws.map λu=>(u.length:Int),z<=M):M=(wid ws:Int):=by
 obtain⟨u,hu,rfl⟩:=vh.mp hM;obtain⟨v,hv,e⟩:=wR (ws:=ws) (λz=>by rw[z]at hu;exact(kN hu).elim);have h1:=qQ hu;have h2:=hle (v.length:Int) (vh.mpr ⟨v,hv,rfl⟩);lia
theorem zdg(ws:List W)(k:Nat):0<=pos ws k:=by
 have:=wx ws (kR k)
 rwa [jF]at this
theorem Yd{ws:List W}(h:ws≠[]):(wid ws:Int)<=total ws:=by
 obtain⟨u,hu,e⟩:=wR h;obtain⟨i,hi,eu⟩:=vT.mp hu;have ps:=pos_succ (kf hi);rw[eu]at ps;have:=wx ws (show i+1<=ws.length by assumption);have:=zdg ws i;unfold total;lia
def xG(ws:List W):List (Int×Nat):=if ws=[]then [(1,1)]else falls (cnt ws) (wid ws) (total ws-wid ws).toNat
theorem Jo{ws:List W}{w M v:Int}(hall:∀z∈vals (grp w ws),M<=z)(h1:w<=v)(h2:v<M):cnt ws v=cnt ws w:=by
 have e:=Xe h1 ws λz hz=>Int.lt_of_lt_of_le h2 (hall z hz);rw[<-yP,<-yP,<-wg,<-wg,e]
theorem W6{ws:List W}{lo w M:Int}(h1:lo<=w)(h2:w<M)(hst:∀v,w<=v->v<M->cnt ws v=cnt ws w):
  falls (cnt ws) lo (M-lo).toNat=if cnt ws M<cnt ws w then falls (cnt ws) lo (w-lo).toNat++[(M,cnt ws M)]else falls (cnt ws) lo (w-lo).toNat:=by
 obtain⟨k,hk⟩:∃k:Nat,(M-lo).toNat=k+1:=⟨(M-lo).toNat-1,()⟩;rw[hk];show(if cnt ws (lo+(k+1:Nat))<cnt ws (lo+k)then falls (cnt ws) lo k++[(lo+(k+1:Nat),cnt ws (lo+(k+1:Nat)))]else falls (cnt ws) lo k)=_;have eM:lo+((k+1:Nat):Int)=M:=by omega
 have e1:cnt ws (lo+(k:Int))=cnt ws w:=hst _ (by omega) (by omega);have e2:falls (cnt ws) lo k=falls (cnt ws) lo (w-lo).toNat:=qh (by omega) λj h3 h4=>by
  rw[hst _ () (),hst (lo+((w-lo).toNat:Int)) () ()]
 rw[eM,e1,e2]
theorem Jp{ws:List W}{lo w T:Int}(hn:ws≠[])(hw:∀u∈ws,(u.length:Int)<=lo)(h1:lo<=w)(h2:w<=T)(c1:cnt ws w<=1):falls (cnt ws) lo (T-lo).toNat=falls (cnt ws) lo (w-lo).toNat:=by
 refine qh () λj h3 h4=>?_;have hw':∀u∈ws,(u.length:Int)<=w:=λu hu=>uO (hw u hu) h1;have a1:=wy (ws:=ws) (v:=w) (v':=lo+(j:Int)) () hw';have a2:=wy (ws:=ws) (v:=w) (v':=lo+((w-lo).toNat:Int)) () hw';have b1:=ji hn (lo+(j:Int));have b2:=ji hn (lo+((w-lo).toNat:Int));lia
theorem Jq{ws:List W}{w:Int}(h1:w<=total ws)(c1:1<cnt ws w):∃z,z∈vals (grp w ws)/\z<=total ws:=by
 apply Classical.byContradiction;intro no;have e:=Xe h1 ws λz hz=>Int.not_le.mp λy=>no ⟨z,hz,y⟩;have e2:cnt ws (total ws)=cnt ws w:=by rw[<-yP,<-yP,<-wg,<-wg,e]
 have:=Yc (ws:=ws) (total ws) (vU _);lia
theorem Xg:∀{gs:List (List W)}{i:Nat}{g h:List W},gs[i]?=some g->gs[i+1]?=some h->(vals gs)[i]?=some (val g h)
 |[],i,g,h,e,_=>by simp at e
 |[a],i,g,h,_,e=>by simp at e
 |a::b::r,0,g,h,e1,e2=>by
  simp at e1 e2;subst e1 e2;rfl
 |a::b::r,i+1,g,h,e1,e2=>by
  have:=Xg (gs:=b::r) (i:=i) (g:=g) (h:=h) (by simpa using e1) (by simpa using e2);simpa[vals]using this
theorem Ws(ws:List W):(ws.map λu=>(u.length:Int)).sum+ws.length=pos ws ws.length:=by
 unfold pos;rw[kM]
 induction ws with
 |nil=>rfl
 |cons a r ih =>
  rw[k8,k9,k8,k9,kz,<-ih];lia
end _Lin
namespace _L2
open PySem
def GI(mg:Str->Option Value)(x:Str)(n:Int):Prop:=∃t,mg x=some (.int n t)
theorem zD{X:Cx}{x:Str}{n:Int}{pos:Pos}(hg:Gl X x)(h:GI X.mg x n)(hd:(x==("__debug__" : Str))=false:=by decide):PE X (.Name x pos) (tC (.int n)):=by
 obtain⟨t,h⟩:=h;exact Zp hg h ⟨t,rfl⟩ hd
theorem Jr{X:Cx}{x:Str}{C:Addr}{pos:Pos}(hg:Gl X x)(hm:X.mg x=some (.ref C))(hd:(x==("__debug__" : Str))=false:=by decide):PE X (.Name x pos) (tC (.ref C)):=Zp hg hm rfl hd
theorem xp{X:Cx}{x:Str}{T:String}{pos:Pos}(hg:Gl X x)(hm:X.mg x=none)(hv:bootBuiltins x=some (.type T))(hn:x ≠ "__name__" := by decide)(hd:(x==("__debug__" : Str))=false:=by decide):PE X (.Name x pos) (tC (.ty T)):=zbT hg hm hv rfl hn hd
end _L2
namespace _JK
open PySem _L2 _Lin
variable{P:Program}{w:World}{K:Frag}{mg:Str->Option Value}{base:Heap}{kA:Addr}
def top(i:Nat):Stmt:=PySem.Challenge.pw_pagepart_k68_whole_printed_and_read.main.body.getD i (.Pass ⟨0,0,0,0⟩)
abbrev W7:Stmt:=top 9
abbrev W8:Stmt:=top 10
abbrev sAre:Stmt:=top 11
abbrev ZD:Stmt:=top 12
abbrev Xh:Stmt:=top 13
abbrev Xi:Stmt:=top 14
abbrev W9:Stmt:=top 15
abbrev Xj:Stmt:=top 16
abbrev ZE:Stmt:=top 17
abbrev sLw:Stmt:=top 76
abbrev sLaw:Stmt:=top 80
abbrev Xk:Stmt:=top 26
abbrev sHas:Stmt:=top 33
abbrev sBr:Stmt:=top 34
abbrev sNum:Stmt:=top 35
abbrev Qa:Stmt:=top 36
abbrev Xl:Stmt:=top 75
abbrev Qb:Stmt:=top 37
abbrev Xm:Stmt:=top 38
abbrev Qc:Stmt:=top 69
abbrev Qd:Stmt:=top 70
abbrev sPrn:Stmt:=top 65
abbrev sWof:Stmt:=top 66
abbrev sWin:Stmt:=top 67
abbrev Qe:Stmt:=top 41
abbrev sRTx:Stmt:=top 42
abbrev sSbs:Stmt:=top 43
abbrev sAll:Stmt:=top 44
abbrev Qf:Stmt:=top 45
abbrev sBst:Stmt:=top 46
abbrev sSo:Stmt:=top 47
abbrev sLow:Stmt:=top 48
abbrev Qg:Stmt:=top 49
abbrev sTst:Stmt:=top 50
abbrev sLh:Stmt:=top 51
abbrev Xn:Stmt:=top 52
abbrev Xo:Stmt:=top 54
abbrev sPa:Stmt:=top 55
abbrev sPd:Stmt:=top 56
abbrev sPo:Stmt:=top 57
abbrev qR:Stmt:=top 58
abbrev sHin:Stmt:=top 59
abbrev jH:Stmt:=top 60
abbrev sPrd:Stmt:=top 64
abbrev sLov:Stmt:=top 63
theorem fresh{H:Hp}{p:Addr}{o:HO}{R:Hp->Prop}(hn:H p=none)(k:∀H1,Same H H1->H1 p=some o->R H1):R (upd H p o) :=
 k _ (λb u e=>by rw[zr (zK e hn)];exact e) zc
structure Callee(P:Program)(w:World)(K:Frag)(mg:Str->Option Value)(base:Heap)(CX:CXT)(k:Nat)(x:Str)(f:Addr)(fd:FuncData)(ps:List Str)(sp:Sp):Prop where
 ok:FnOk P w K mg base CX k f fd ps sp
 bound:mg x=some (.ref f)
 kp:ut K (.ref f)=true
 bd:Binds K fd ps []
theorem Js{ns:List Int}{k:Int}(h0:0<=k)(h1:k<ns.length):atI (ns.map V.int) k=some (.int (ns.getD k.toNat 0)):=by
 obtain⟨j,rfl⟩:=bz h0;refine xH ?_;rw[k6,kf ()];simp[List.getD,show j<ns.length by lia]
theorem z9{H H1:Hp}{l:Addr}{o:HO}(S:Same H H1)(hn:H l=none):Same H (upd H1 l o):=λb u e=>by
 rw[zr (zK e hn)];exact S b u e
theorem zd{H:Hp}{p:Addr}{o:HO}(hn:H p=none):Same H (upd H p o):=λb u e=>by rw[zr (zK e hn)];exact e
theorem Xp{σ:St}{H:Hp}:Evl (tUn (rU λi=>V.int (-i)) (tC (V.int 1))) σ H (.int (-1)):=λQ q=>⟨1,rfl,q⟩
def tx(ws:List W):List V:=ws.map λw=>V.str (txt w)
theorem zR(ws:List W):(tx ws).length=ws.length:=ka _
theorem zdh{ws:List W}{i:Nat}{w:W}(h:ws[i]?=some w):(tx ws)[i]?=some (V.str (txt w)):=by
 unfold tx;rw[k6,h];rfl
theorem yW{ws:List W}{i:Nat}{x:V}(h:(tx ws)[i]?=some x):∃w,ws[i]?=some w/\x=V.str (txt w):=by
 unfold tx at h;rw[k6]at h;cases e:ws[i]? with
 |none=>rw[e]at h;cases h
 |some w=>rw[e]at h;cases h;exact⟨w,rfl,rfl⟩
theorem wj(ws:List W)(w:W):tx ws++[V.str (txt w)]=tx (ws++[w]):=by
 unfold tx;rw[kD];rfl
def good(c:Nat):Prop:=33<=c/\c<=126/\c≠37
def okW(w:W):Prop:=1<=w.length/\w.length<=12/\∀c∈w,good c
structure Nm(K:Frag)(mg:Str->Option Value):Prop where
 gOUT:GI mg "LEFT_OUT" 37
 gMOST:GI mg "MOST_SIGNS" 12
 ti:mg "isinstance"=none
 tstr:mg "str"=none
 tlist:mg "list"=none
 tl:mg "len"=none
 tall:mg "all"=none
 tany:mg "any"=none
 tord:mg "ord"=none
 kNs:kC K (.type "NoneType") (.type "str")=some false
 kBs:kC K (.type "bool") (.type "str")=some false
 kIs:kC K (.type "int") (.type "str")=some false
 kLs:kC K (.type "list") (.type "str")=some false
 kTs:kC K (.type "tuple") (.type "str")=some false
 kDs:kC K (.type "dict") (.type "str")=some false
 kNl:kC K (.type "NoneType") (.type "list")=some false
 kSl:kC K (.type "str") (.type "list")=some false
 kIl:kC K (.type "int") (.type "list")=some false
 kTl:kC K (.type "tuple") (.type "list")=some false
 kDl:kC K (.type "dict") (.type "list")=some false
 kBl:kC K (.type "bool") (.type "list")=some false
def isG(c:Nat):Bool:=decide (33<=c)&&(decide (c<=126)&&decide (c≠37))
def isW(l:W):Bool:=decide (1<=l.length)&&(decide (l.length<=12)&&l.all isG)
theorem Wt{c:Nat}:isG c=true↔good c:=by
 unfold isG good;rw[vj,vj,decide_eq_true_eq,decide_eq_true_eq,decide_eq_true_eq]
theorem zb9{l:W}:isW l=true↔okW l:=by
 unfold isW okW;rw[vj,vj,decide_eq_true_eq,decide_eq_true_eq,vP];exact and_congr Iff.rfl (and_congr Iff.rfl ⟨λh c hc=>Wt.mp (h c hc),λh c hc=>Wt.mpr (h c hc)⟩)
inductive NoS(H:Hp):V->Prop where
 |non:NoS H .non
 |bl(b:Bool):NoS H (.bl b)
 |int(i:Int):NoS H (.int i)
 |lst{a:Addr}{xs:List V}(e:H a=some (.lst xs)):NoS H (.ref a)
 |tup{a:Addr}{xs:List V}(e:H a=some (.tup xs)):NoS H (.ref a)
 |dK{a:Addr}{kvs:List (Key×V)}(e:H a=some (.dK kvs)):NoS H (.ref a)
inductive NoL(H:Hp):V->Prop where
 |non:NoL H .non
 |bl(b:Bool):NoL H (.bl b)
 |int(i:Int):NoL H (.int i)
 |str(x:Str):NoL H (.str x)
 |tup{a:Addr}{xs:List V}(e:H a=some (.tup xs)):NoL H (.ref a)
 |dK{a:Addr}{kvs:List (Key×V)}(e:H a=some (.dK kvs)):NoL H (.ref a)
theorem NoS.same{H H':Hp}(S:Same H H'){x:V}(h:NoS H x):NoS H' x:=by
 cases h with
 |non=>exact .non
 |bl b=>exact .bl b
 |int i=>exact .int i
 |lst e=>exact .lst (S _ _ e)
 |tup e=>exact .tup (S _ _ e)
 |dK e=>exact .dK (S _ _ e)
theorem NoL.same{H H':Hp}(S:Same H H'){x:V}(h:NoL H x):NoL H' x:=by
 cases h with
 |non=>exact .non
 |bl b=>exact .bl b
 |int i=>exact .int i
 |str x=>exact .str x
 |tup e=>exact .tup (S _ _ e)
 |dK e=>exact .dK (S _ _ e)
theorem NoS.ty{K:Frag}{mg:Str->Option Value}(Z:Nm K mg){H:Hp}{x:V}(h:NoS H x):∃t,TyX K H x t/\kC K t (.type "str")=some false:=by
 cases h with
 |non=>exact⟨_,.of .non,Z.kNs⟩
 |bl b=>exact⟨_,.of (.bl b),Z.kBs⟩
 |int i=>exact⟨_,.of (.int i),Z.kIs⟩
 |lst e=>exact⟨_,.of (.lst e),Z.kLs⟩
 |tup e=>exact⟨_,.of (.tup e),Z.kTs⟩
 |dK e=>exact⟨_,.of (.dK e),Z.kDs⟩
theorem NoL.ty{K:Frag}{mg:Str->Option Value}(Z:Nm K mg){H:Hp}{x:V}(h:NoL H x):∃t,TyX K H x t/\kC K t (.type "list")=some false:=by
 cases h with
 |non=>exact⟨_,.of .non,Z.kNl⟩
 |bl b=>exact⟨_,.of (.bl b),Z.kBl⟩
 |int i=>exact⟨_,.of (.int i),Z.kIl⟩
 |str x=>exact⟨_,.of (.str x),Z.kSl⟩
 |tup e=>exact⟨_,.of (.tup e),Z.kTl⟩
 |dK e=>exact⟨_,.of (.dK e),Z.kDl⟩
def JW(H:Hp)(x:V)(b:Bool):Prop:=(∃l:W,x=.str (txt l)/\(∀c∈l,c<128)/\l.length<=1000/\b=isW l)\/(b=false/\NoS H x)
theorem JW.same{H H':Hp}(S:Same H H'){x:V}{b:Bool}(h:JW H x b):JW H' x b:=h.imp id λh=>⟨h.1,h.2.same S⟩
def JWs(H:Hp):List V->List Bool->Prop:=Paired (JW H)
theorem JWs.same{H H':Hp}(S:Same H H'):∀{vs:List V}{bs:List Bool},JWs H vs bs->JWs H' vs bs
 |_,_,.nil=>.nil
 |_,_,.cons h t=>.cons (h.same S) (JWs.same S t)
theorem JWs.len{H:Hp}{vs:List V}{bs:List Bool}(h:JWs H vs bs):vs.length=bs.length:=Paired.length h
theorem JWs.get{H:Hp}:∀{vs:List V}{bs:List Bool}{i:Nat}{v:V},JWs H vs bs->vs[i]?=some v->∃b,bs[i]?=some b/\JW H v b
 |_,_,_,_,.nil,e=>by simp at e
 |_,_,0,_,.cons r _,e=>by simp at e;subst e;exact⟨_,rfl,r⟩
 |_,_,i+1,v,.cons _ t,e=>by
  obtain⟨p,h1,h2⟩:=JWs.get (i:=i) (v:=v) t (by simpa using e);exact⟨p,by simpa using h1,h2⟩
theorem zca{H:Hp}{u:W}(h:okW u):JW H (.str (txt u)) true:=.inl ⟨u,rfl,λc hc=>by
 have:=h.2.2 c hc;unfold good at this;lia,by have:=h.2.1;lia,(zb9.mpr h).symm⟩
theorem jI{H:Hp}:∀{ws:List W},(∀u∈ws,okW u)->JWs H (tx ws) (kq ws.length true)
 |[],_=>.nil
 |u::r,h=>.cons (zca (h u ke)) (jI (ws:=r) λv hv=>h v (kg _ hv))
def Bad(H:Hp)(x:V):Prop:=(∃(a:Addr)(xs:List V)(bs:List Bool),x=.ref a/\H a=some (.lst xs)/\JWs H xs bs/\xs.length<=1000/\bs.all id=false)\/NoL H x
def Jt:Sp:=λvs H Q _=>∃c:Nat,vs=[.str (txt [c])]/\Q (.bl (isG c)) H
def Ju:Sp:=λvs H Q _=>∃(x:V)(b:Bool),vs=[x]/\JW H x b/\∀H',Same H H'->Q (.bl b) H'
def Qh:Sp:=λvs H Q _=>∃x:V,vs=[x]/\((∃(a:Addr)(xs:List V)(bs:List Bool),x=.ref a/\H a=some (.lst xs)/\JWs H xs bs/\xs.length<=1000/\∀H',Same H H'->Q (.bl (bs.all id)) H')\/(NoL H x/\Q (.bl false) H))
def jJ(C:Addr):Sp:=λvs H Q E=>∃x:V,vs=[x]/\((∃(a:Addr)(ws:List W),x=.ref a/\H a=some (.lst (tx ws))/\(∀w∈ws,okW w)/\ws.length<=1000/\∀H',Same H H'->Q .non H')\/(Bad H x/\∀H',Same H H'->E (.ref C) none H'))
def ZF:Sp:=λvs H Q _=>∃(a:Addr)(ws:List W)(wide:Int),vs=[.ref a,.int wide]/\H a=some (.lst (tx ws))/\(∀w∈ws,okW w)/\ws.length<=1000 /\
 ∀(l:Addr)(H':Hp),Same H H'->H l=none->H' l=some (.lst (tx (taken wide ws)))->Q (.ref l) H'
def Wu(C:Addr):Sp:=λvs H Q E=>∃(x:V)(wide:Int),vs=[x,.int wide]/\((∃(a:Addr)(ws:List W),x=.ref a/\H a=some (.lst (tx ws))/\(∀w∈ws,okW w)/\ws.length<=1000/\(∀w∈ws,(w.length:Int)<=wide) /\
 ∀(l:Addr)(H':Hp),Same H H'->H l=none->H' l=some (.lst (tx (taken wide ws)))->Q (.ref l) H')\/(Bad H x/\∀H',Same H H'->E (.ref C) none H'))
theorem Jv(c d:Nat):decide ((txt [c]).cps.toList<(txt [d]).cps.toList)=decide (c<d):=by
 rw[decide_eq_decide];show([c]:List Nat) < [d]↔c<d;rw[List.cons_lt_cons_iff];constructor
 .rintro (z|⟨_,z⟩)
  .exact z
  .exact absurd z (List.not_lt_nil _)
 .exact .inl
theorem zdi:zn ["sign"] ["sign"] (zj W7):=by trivial
theorem zcb{f:Addr}{fd:FuncData}(F:Fun K "is_sign" "is_sign" W7 f fd)(Z:Nm K mg):FnOk P w K mg base CX0 1 f fd ["sign"] Jt:=by
 obtain⟨gOUT,gMOST,ti,tstr,tlist,tl,tall,tany,tord,_,_,_,_,_,_,_,_,_,_,_,_⟩:=Z;refine F.ok zdi (λvs H Q E h=>?_) (λcdv A outer s H vs Q E hr h=>?_)
 .refine E_1 h λc n8=>A_2 n8 λe9 _=>?_;clear n8 h;subst e9;rfl
 .refine E_1 h λc n8=>A_2 n8 λe9 q=>?_;clear n8 h;subst e9;refine⟨_,(zf (zl (xE (zaF Z8 Z8 zW (pv 0) zW) (xS (yu jg (zi zaG (by rfl) tord PyProof.Rows.boot_ord (za (pv 0) zb)) (zD rfl gOUT) (zu _)))))),?_⟩;have e1:("!" : Str)=txt [33]:=by decide +kernel
  have e2:("~" : Str)=txt [126]:=by decide +kernel
  refine⟨_,rfl,_,_,rfl,rfl,_,rfl,?_⟩;have d1:(!decide ((txt [c]).cps.toList<(("!" : Str)).cps.toList))=decide (33<=c):=by rw[e1,Jv,<-decide_not,decide_eq_decide];lia
  rw[d1];unfold isG at q;by_cases c1:33<=c
  .rw [decide_eq_true c1]at q ⊢;refine iteT ⟨_,_,rfl,rfl,_,rfl,?_⟩;have d2:(!decide ((("~" : Str)).cps.toList<(txt [c]).cps.toList))=decide (c<=126):=by rw[e2,Jv,<-decide_not,decide_eq_decide];lia
   rw[d2];by_cases c2:c<=126
   .rw [decide_eq_true c2]at q ⊢;refine iteT ⟨_,rfl,_,rfl,rfl,rfl,?_⟩;have d3:(!decide (V.int (((txt [c]).cps.getD 0 0:Nat))=V.int 37))=decide (c≠37):=by
     have:(txt [c]).cps.getD 0 0=c:=rfl;rw[this,jf];by_cases h:c=37
     .subst h;rfl
     .rw [decide_eq_true h];simp;lia
    rw[d3];exact q
   .rw [decide_eq_false c2]at q ⊢;exact iteF q
  .rw [decide_eq_false c1]at q ⊢;exact iteF ⟨_,rfl,iteF q⟩
theorem ju(wide:Int)(ws:List W):(∀w∈ws,w.length<=12)->∀r∈taken wide ws,r.length<=13*ws.length :=
 snoc_ind (P:=λws=>(∀w∈ws,w.length<=12)->∀r∈taken wide ws,r.length<=13*ws.length) (λ_ r hr=>(kN hr).elim) (λws w ih h r hr=>by
  have ih:=ih λv hv=>h v (kU _ hv);have hw:=h w (by simp);rw[xk]at hr;rw[ki,vG];unfold put at hr;split at hr
  .rename_i q e;have hq:=ih q (List.mem_of_getLast? e);split at hr
   .rcases kQ.mp hr with m|m
    .have:=ih r (List.dropLast_subset _ m);lia
    .rw [kj.mp m,ki,kz];lia
   .rcases kQ.mp hr with m|m
    .have:=ih r m;lia
    .rw [kj.mp m];lia
  .rw [kj.mp hr];lia) _ ws rfl
theorem zaU(us:List V)(v u:V):ixN (us++[v]).length (-1)=some us.length/\(us++[v]).set us.length u=us++[u]:=by
 refine⟨?_,?_⟩
 .unfold ixN;rw[ki,vG,if_neg ⋯,if_pos ()];congr 1;lia
 .rw [List.set_append_right _ _ (kc _),bR];rfl
theorem zdj:zn ["thing"] ["thing"] (zj W8):=by trivial
theorem zcc{f fS:Addr}{fd fdS:FuncData}(F:Fun K "is_word" "is_word" W8 f fd)(Z:Nm K mg)(Si:Callee P w K mg base CX0 1 "is_sign" fS fdS ["sign"] Jt):FnOk P w K mg base CX0 2 f fd ["thing"] Ju:=by
 have Z':=Z;obtain⟨gOUT,gMOST,ti,tstr,tlist,tl,tall,tany,tord,_,_,_,_,_,_,_,_,_,_,_,_⟩:=Z;refine F.ok zdj (λvs H Q E h=>?_) (λcdv A outer s H vs Q E hr h=>?_)
 .refine E_2 h λx b n8=>A_2 n8 λe9 _=>?_;clear n8 h;subst e9;rfl
 .refine E_2 h λx b n8=>A_3 n8 λe9 hJ q=>?_;clear n8 h;subst e9;refine⟨_,(ze (zL (PW.pt (xf (yL (yw (zi yG (by rfl) ti vg (za (pv 0) (za (xp rfl tstr PyProof.Rows.boot_str) zb))))) (xn (yL (YF xZ xZ zg (zi yf (by rfl) tl kO (za (pv 0) zb)) (zD rfl gMOST))))))
   (zf (zl xP))
   zF)
   (zf (zl (zi (xW rfl) (by rfl) tall uI (za (zP (Nc:=["sign"]) (ix:=[none]) rfl rfl (by exact(Jj (pv 0))) (λ_ _ _ _ _=>(zt (i:=0) (by show(["sign"]:List Str).Nodup;decide +kernel) rfl (Or.inl rfl))) (λ_ _ _ _ _=>zS) (λ_ _ _ _ _=>(zh Si.ok hr rfl Si.bound Si.kp Si.bd .nil zx (za (pv 0) zb)))) zb))))),?_⟩
  rcases hJ with⟨l,rfl,asc,l1000,rfl⟩|⟨rfl,ns⟩
  .refine ⟨_,rfl,_,_,_,_,rfl,rfl,.of (.str _),rfl,_,rfl,iteF ?_⟩;refine⟨_,rfl,txt l,rfl,(by rw[zI];exact kn l1000 ⋯),_,_,rfl,rfl,_,rfl,?_⟩;rw[zI];have q0:=q H (Same.refl _);unfold isW at q q0;by_cases c1:1<=l.length
   .rw [decide_eq_true c1]at q q0;have d1:decide ((1:Int)<=(l.length:Nat))=true:=decide_eq_true ();rw[d1];refine iteT ⟨_,_,rfl,rfl,_,rfl,?_⟩;by_cases c2:l.length<=12
    .rw [decide_eq_true c2]at q q0;have d2:decide (((l.length:Nat):Int)<=12)=true:=decide_eq_true ();rw[d2];refine iteF ?_;refine⟨_,rfl,l,rfl,asc,Wq (l:=l) (λi ys σ H'=>ys=((l.take i).map isG).map V.bl/\H'=H/\∃o,σ=[o]) ⟨rfl,rfl,none,rfl⟩
      (λi ys σ H' hi h9=>by obtain⟨e,_⟩:=h9;exact(by rw[e,ka,ka,kJ];exact kn (show _<=1000 by lia) ⋯)) ?_ ?_⟩
     .intro ys σ H' h8 la nl;obtain⟨e,rfl,_⟩:=h8;rw[kM]at e;subst e;refine⟨la,l.map isG,rfl,SqL.of zc,?_⟩;rw[List.all_map];exact q _ (zd nl)
     .intro i c ys σ H' hx h8;obtain⟨e,rfl,o,rfl⟩:=h8;subst e;obtain⟨hil,ev⟩:=kh.mp hx;dsimp only[zU,tYes];refine iteT ?_;refine⟨_,rfl,c,rfl,?_,rfl,_,rfl⟩;rw[<-kF hil,ev,kD,kD];rfl
    .rw [decide_eq_false c2]at q q0;have d2:decide (((l.length:Nat):Int)<=12)=false:=decide_eq_false ();rw[d2];exact iteT q0
   .rw [decide_eq_false c1]at q q0;have d1:decide ((1:Int)<=(l.length:Nat))=false:=decide_eq_false ();rw[d1];exact iteF ⟨_,rfl,iteT q0⟩
  .obtain ⟨t,ty,k⟩:=ns.ty Z';exact⟨_,rfl,_,_,t,_,rfl,rfl,ty,k,_,rfl,iteT (iteT (q H (Same.refl _)))⟩
theorem zeC:zn ["things"] ["things"] (zj sAre):=by trivial
theorem zdk{f fS:Addr}{fd fdS:FuncData}(F:Fun K "are_words" "are_words" sAre f fd)(Z:Nm K mg)(Wo:Callee P w K mg base CX0 2 "is_word" fS fdS ["thing"] Ju):FnOk P w K mg base CX0 3 f fd ["things"] Qh:=by
 have Z':=Z;obtain⟨gOUT,gMOST,ti,tstr,tlist,tl,tall,tany,tord,_,_,_,_,_,_,_,_,_,_,_,_⟩:=Z;refine F.ok zeC (λvs H Q E h=>?_) (λcdv A outer s H vs Q E hr h=>?_)
 .refine E_1 h λx n8=>A_2 n8 λe9 _=>?_;clear n8 h;subst e9;rfl
 .revert h;intro n7;refine E_1 n7 λx n8=>A_2 n8 λe9 h=>?_;clear n8 n7;subst e9;refine⟨_,(zf (zl (xE (zi yG (by rfl) ti vg (za (pv 0) (za (xp rfl tlist PyProof.Rows.boot_list) zb))) (xS (zi (xW rfl) (by rfl) tall uI (za (zP (Nc:=["thing"]) (ix:=[none]) rfl rfl (by refine' zY ?zz;case zz=>exact(pv 0)) (λ_ _ _ _ _=>(zt (i:=0) (by show(["thing"]:List Str).Nodup;decide +kernel) rfl (Or.inl rfl))) (λ_ _ _ _ _=>zS) (λ_ _ _ _ _=>(zh Wo.ok hr rfl Wo.bound Wo.kp Wo.bd .nil zx (za (pv 0) zb)))) zb)))))),?_⟩;rcases h with⟨a,xs,bs,rfl,ha,hJ,hn,q⟩|⟨nl,q⟩
  .refine ⟨_,rfl,_,_,_,_,rfl,rfl,.of (.lst ha),rfl,_,rfl,iteT ?_⟩;have lb:=hJ.len;refine⟨_,rfl,a,rfl,⟨_,SqL.of ha⟩,ye (K:=K) (a:=a) (xs:=xs) (λi ys σ H'=>ys=(bs.take i).map V.bl/\Same H H'/\∃o,σ=[o]) ⟨rfl,Same.refl _,none,rfl⟩
    (λi ys σ H' hi h9=>by obtain⟨e,S,_⟩:=h9;exact(⟨by rw[e,ka,kJ];exact kn (show _<=1000 by lia) ⋯,SqL.of (S _ _ ha)⟩)) ?_ ?_⟩
   .rintro ys σ H' ⟨e,S,_⟩ la nl;rw[lb,kM]at e;subst e;exact⟨la,bs,rfl,SqL.of zc,q _ (S.trans (zd nl))⟩
   .intro i x ys σ H' hx h8;refine A_3 h8 λe S n8=>E_1 n8 λo e9=>?_;clear n8 h8;subst e9;subst e;obtain⟨b,eb,hj⟩:=hJ.get hx;obtain⟨hil,ev⟩:=kh.mp eb;dsimp only[zU,tYes];refine iteT ?_;refine⟨_,rfl,x,b,rfl,hj.same S,λH2 S2=>⟨?_,S.trans S2,_,rfl⟩⟩;rw[<-kF hil,ev,kD];rfl
  .obtain ⟨t,ty,k⟩:=nl.ty Z';exact⟨_,rfl,_,_,t,_,rfl,rfl,ty,k,_,rfl,iteF q⟩
theorem zaV:zn ["things"] ["things"] (zj ZD):=by trivial
theorem Jw{f fS C:Addr}{fd fdS:FuncData}(F:Fun K "refuse_no_words" "refuse_no_words" ZD f fd)(ex:Exc K mg "NoTexts" C)(Ar:Callee P w K mg base CX0 3 "are_words" fS fdS ["things"] Qh):FnOk P w K mg base (CXE P w) 4 f fd ["things"] (jJ C):=by
 refine F.okE zaV (λvs H Q E h=>?_) (λcdv A outer s H vs Q E hr hh h=>?_)
 .refine E_1 h λx n8=>A_2 n8 λe9 _=>?_;clear n8 h;subst e9;rfl
 .revert h;intro n7;refine E_1 n7 λx n8=>A_2 n8 λe9 h=>?_;clear n8 n7;subst e9;refine⟨_,(zf (zL (yL (yw (zh Ar.ok hr rfl Ar.bound Ar.kp Ar.bd .nil zx (za (pv 0) zb))))
   (zf (y6 ex hh rfl (za zW zb)))
   zF)),?_⟩
  rcases h with⟨a,ws,rfl,ha,hw,hn,q⟩|⟨bad,qe⟩
  .refine ⟨_,rfl,_,rfl,.inl ⟨a,tx ws,_,rfl,ha,jI hw,by rw[zR];exact hn,λH' S=>⟨_,rfl,?_⟩⟩⟩;have e:(kq ws.length true).all id=true:=by simp
   rw[e];exact iteF (q H' S)
  .rcases bad with⟨a,xs,bs,rfl,ha,hJ,hn,hb⟩|nl
   .refine ⟨_,rfl,_,rfl,.inl ⟨a,xs,bs,rfl,ha,hJ,hn,λH' S=>⟨_,rfl,?_⟩⟩⟩;rw[hb];exact iteT ⟨Zz1,qe H' S⟩
   .exact ⟨_,rfl,_,rfl,.inr ⟨nl,_,rfl,iteT ⟨Zz1,qe H (Same.refl _)⟩⟩⟩
theorem ZG:zn ["words","wide","rows","word"] ["words","wide"] (zj Xh):=by trivial
theorem zaW{f:Addr}{fd:FuncData}(F:Fun K "taken" "taken" Xh f fd)(tl:mg "len"=none):FnOk P w K mg base CX0 1 f fd ["words","wide"] ZF:=by
 refine F.ok ZG (λvs H Q E h=>?_) (λcdv A outer s H vs Q E hr h=>?_)
 .refine E_3 h λa ws wide n8=>A_2 n8 λe9 _=>?_;clear n8 h;subst e9;rfl
 .refine E_3 h λa ws wide n8=>A_5 n8 λe9 ha hw hn q=>?_;clear n8 h;subst e9;refine⟨_,(ze (zo (i:=2) ZG.nd rfl (Or.inl rfl) (zO zb))
   (ze (yZ PassesOwn.never rfl (zY (pv 0)) (zt (i:=3) ZG.nd rfl (Or.inl rfl))
   (zf (zL (PW.pt (wo (jz (pv 2) (λ_=>rfl)) (x6 (zy xZ (zA ym (zA ym (zi yf (by rfl) tl kO (za (zk zC (pv 2) (yR yF zg) (λ_ _=>rfl)) zb)) zg) (zi yf (by rfl) tl kO (za (pv 3) zb))) (pv 1) (zu _)))))
    (zf (QP (zA xF (zA xF (zk zC (pv 2) (yR yF zg) (λ_ _=>rfl)) zW) (pv 3)) (QO (pv 2) (yR yF zg) set_list)))
    (zf (ya (yq k4 vn vo yt (pv 2) (za (pv 3) zb)))))))
   (zf (zl (pv 2))))),?_⟩
  refine⟨Zz0,λl nl=>?_⟩;refine fresh (R:=λH1=>_) nl λH1 S1 h1=>?_;refine⟨_,rfl,a,rfl,⟨_,SqL.of (S1 _ _ ha)⟩,?_⟩;refine wp (K:=K) (a:=a) (xs:=tx ws) (λi σ H2=>∃o:Option V,σ=[some (.ref a),some (.int wide),some (.ref l),o]/\Same H H2/\H2 l=some (.lst (tx (taken wide (ws.take i)))))
   ⟨none,rfl,S1,h1⟩ (λi σ H2 _ h9=>by obtain⟨_,_,S,_⟩:=h9;exact(SqL.of (S _ _ ha))) ?_ ?_
  .intro i x σ H2 hi h8;refine E_1 h8 λo n8=>A_3 n8 λe9 S hl=>?_;clear n8 h8;subst e9;obtain⟨v,hv,rfl⟩:=yW hi;obtain⟨hil,ev⟩:=kh.mp hv;have et:taken wide (ws.take (i+1))=put wide (taken wide (ws.take i)) v:=by rw[<-kF hil,ev,xk]
   rw[et];have bd:=ju wide (ws.take i) λu hu=>(hw u (uv hu)).2.1;have lb:=qJ wide (ws.take i);rw[kJ]at bd lb;have vb:=(hw v (kH hv)).2.1;generalize taken wide (ws.take i)=rows at hl bd lb ⊢;refine zH ?_;unfold put;cases el:rows.getLast? with
   |none =>
    have e':rows=[]:=List.getLast?_eq_none_iff.mp el;subst e';refine⟨_,rfl,false,.inl ⟨[],SqL.of hl,rfl⟩,iteF ?_⟩;exact⟨_,rfl,.inl ⟨rfl,_,SqL.of hl⟩,_,rfl,l,_,_,rfl,rfl,hl,by show 0<sizeLine;decide,_,rfl,z9 S nl,by rw[zc];rfl⟩
   |some r =>
    have sp:=w9 el;have rb:=bd r (List.mem_of_getLast? el);have ers:tx rows=tx rows.dropLast++[V.str (txt r)]:=by
     conv=>lhs;rw[sp]
     rw[wj]
    have hl2:H2 l=some (.lst (tx rows.dropLast++[V.str (txt r)])):=by rw[<-ers];exact hl
    have ea:atI (tx rows.dropLast++[V.str (txt r)]) (-1)=some (V.str (txt r)):=wZ _ _;have rs:r.length<=100000:=()
    refine⟨_,rfl,true,.inl ⟨_,SqL.of hl2,by simp⟩,iteT ?_⟩;refine z8 (p:=(r.length:Int)+1+v.length<=wide) (z5 (z5 (z5 (qb (xB (zp rfl) Xp (SqL.of hl2) ea) ()) zM) (qb (zp rfl) ())) (zp rfl)) _ ?_;dsimp only;refine ite2 (λc=>?_) (λc=>?_)
    .have c:=of_decide_eq_true c;rw[if_pos c];have sl:=zaU (tx rows.dropLast) (V.str (txt r)) (V.str (txt (r++32::v)));refine Xd (w:=v) (Xd (w:=[32]) (xB (zp rfl) Xp (SqL.of hl2) ea) zM (by simp;lia)) (zp rfl) (by simp;lia) _ ?_;refine⟨_,rfl,_,rfl,l,_,_,_,rfl,rfl,hl2,sl.1,?_⟩;refine⟨_,rfl,z9 S nl,?_⟩;rw[zc];have e2:r++[32]++v=r++32::v:=by simp
     rw[e2,sl.2,wj]
    .have c:¬(r.length:Int)+1+v.length<=wide:=λz=>c (decide_eq_true z);rw[if_neg c];refine⟨_,rfl,.inl ⟨rfl,_,SqL.of hl⟩,_,rfl,l,_,_,rfl,rfl,hl,?_,_,rfl,z9 S nl,by rw[zc,wj]⟩;rw[zR];exact va (show rows.length<=1000 by lia) ⋯
  .intro σ H2 h8;refine E_1 h8 λo n8=>A_3 n8 λe9 S hl=>?_;clear n8 h8;subst e9;rw[zR,kM]at hl;exact⟨_,rfl,q l H2 S nl hl⟩
theorem zaX(ws:List W)(wide:Int):(ws.map λw=>decide (wide<(w.length:Int))).any id=!decide (∀w∈ws,(w.length:Int)<=wide):=by
 rw[vW];simp only[List.any_map,List.any_eq_true,Function.comp,id,decide_eq_true_eq,bA,decide_eq_false_iff_not,Classical.not_forall];constructor
 .rintro ⟨u,hu,z⟩;exact⟨u,hu,()⟩
 .rintro ⟨u,hu,z⟩;exact⟨u,hu,()⟩
def PrAt(H:Hp)(v:V)(p:Int×Nat):Prop:=∃a,v=.ref a/\H a=some (.tup [.int p.1,.int (p.2:Nat)])
def yh(H:Hp):List V->List (Int×Nat)->Prop:=Paired (PrAt H)
theorem PrAt.same{H H':Hp}(S:Same H H'){v:V}{p:Int×Nat}(h:PrAt H v p):PrAt H' v p:=let ⟨a,e,z⟩:=h;⟨a,e,S _ _ z⟩
theorem yh.imp{H H':Hp}(f:∀v p,PrAt H v p->PrAt H' v p):∀{vs:List V}{ps:List (Int×Nat)},yh H vs ps->yh H' vs ps
 |_,_,.nil=>.nil
 |_,_,.cons h t=>.cons (f _ _ h) (yh.imp f t)
theorem yh.same{H H':Hp}(S:Same H H'){vs:List V}{ps:List (Int×Nat)}(h:yh H vs ps):yh H' vs ps:=yh.imp (λ_ _=>PrAt.same S) h
theorem yh.len{H:Hp}{vs:List V}{ps:List (Int×Nat)}(h:yh H vs ps):vs.length=ps.length:=Paired.length h
theorem PrAt.upd{H:Hp}{l:Addr}{xs:List V}{o':HO}(hl:H l=some (.lst xs)){v:V}{p:Int×Nat}(h:PrAt H v p):PrAt (upd H l o') v p:=by
 obtain⟨a,e,z⟩:=h;exact⟨a,e,by rw[zr (xc z hl (by intro q;cases q))];exact z⟩
theorem yh.upd{H:Hp}{l:Addr}{xs:List V}{o':HO}(hl:H l=some (.lst xs)){vs:List V}{ps:List (Int×Nat)}(h:yh H vs ps):yh (upd H l o') vs ps:=yh.imp (λ_ _=>PrAt.upd hl) h
theorem yh.snoc{H:Hp}{vs:List V}{ps:List (Int×Nat)}{v:V}{p:Int×Nat}(h:yh H vs ps)(r:PrAt H v p):yh H (vs++[v]) (ps++[p]):=Paired.snoc h r
theorem Xq{u:W}(h:okW u):u≠[]/\32∉u:=by
 refine⟨λz=>?_,λz=>?_⟩
 .have:=h.1;rw[z]at this;simp at this
 .have:=(h.2.2 32 z).1;lia
theorem Xr{gs:List (List W)}:∀{g:List W},g∈gs->g.length<=gs.flatten.length:=by
 induction gs with
 |nil=>intro g h;exact(kN h).elim
 |cons a r ih =>
  intro g h;rw[kP,ki];rcases kL.mp h with e|e
  .rw [e];lia
  .have:=ih e;lia
theorem wF(xs:List V)(k:Nat)(h:k<=xs.length):cutV xs (some (k:Int)) none=xs.drop k:=by
 unfold cutV;rw[_HT.xv,_HT.jh,br h];exact vK (by rw[kZ];exact kc _)
def Jx:Sp:=λvs H Q _=>∃g h:List W,vs=[.str (txt (glue g)),.str (txt (glue h))]/\h≠[]/\(∀u∈h,okW u)/\(glue g).length<=100000/\(glue h).length<=100000/\h.length<=1000/\∀H',Same H H'->Q (.int (val g h)) H'
def Jy:Sp:=λvs H Q _=>∃(a:Addr)(gs:List (List W)),vs=[.ref a]/\H a=some (.lst (tx (gs.map glue)))/\(∀g∈gs,g≠[]/\(∀u∈g,okW u)/\(glue g).length<=100000/\g.length<=1000)/\2<=gs.length/\gs.length<=1000 /\
 ∀M,M∈vals gs->(∀z∈vals gs,M<=z)->∀H',Same H H'->Q (.int M) H'
def Xs(C:Addr):Sp:=λvs H Q E=>∃x:V,vs=[x]/\((∃(a:Addr)(ws:List W),x=.ref a/\H a=some (.lst (tx ws))/\(∀w∈ws,okW w)/\ws.length<=1000 /\
 ∀(l:Addr)(us:List V)(H':Hp),Same H H'->H l=none->H' l=some (.lst us)->yh H' us (xG ws)->Q (.ref l) H')\/(Bad H x/\∀H',Same H H'->E (.ref C) none H'))
theorem zdl:zn ["row","behind"] ["row","behind"] (zj W9):=by trivial
theorem zcd{f:Addr}{fd:FuncData}(F:Fun K "with_next_word" "with_next_word" W9 f fd)(tl:mg "len"=none):FnOk P w K mg base CX0 1 f fd ["row","behind"] Jx:=by
 refine F.ok zdl (λvs H Q E h=>?_) (λcdv A outer s H vs Q E hr h=>?_)
 .revert h;intro n7;refine E_2 n7 λg h n8=>A_2 n8 λe9 _=>?_;clear n8 n7;subst e9;rfl
 .revert h;intro n7;refine E_2 n7 λg h n8=>A_7 n8 λe9 hn hw lg lh nh q=>?_;clear n8 n7;subst e9;refine⟨_,(zf (zl (zA ym (zA ym (zi yf (by rfl) tl kO (za (pv 0) zb)) zg) (zi yf (by rfl) tl kO (za (zk zC (yq ue PySem.F.slot_str_split PySem.F.type_str_split Jl (pv 1) (by exact(za zW zb))) zg (λ_ _=>rfl)) zb))))),?_⟩;refine⟨_,rfl,_,rfl,(by rw[zI];exact kn lg ⋯),_,_,rfl,rfl,_,rfl,rfl,h,rfl,rfl,hn,(λu hu=>Xq (hw u hu)),(),(),λl nl=>?_⟩;obtain⟨u,r,rfl⟩:∃u r,h=u::r:=by
   cases h with
   |nil=>exact absurd rfl hn
   |cons u r=>exact⟨u,r,rfl⟩
  have hu:=hw u ke;refine I_4 l _ _ (V.str (txt u)) ⟨rfl,rfl,SqL.of zc,(by exact xH (xs:=(u::r).map λw=>V.str (txt w)) (j:=0) rfl),_,rfl,(by rw[zI];exact kn hu.2.1 ⋯),_,_,rfl,rfl,?_⟩;have:=q _ (zd (o:=.lst ((u::r).map λw=>V.str (txt w))) nl);rw[zI,zI];exact this
theorem zdm:zn ["rows"] ["rows"] (zj Xj):=by trivial
theorem zce{f fW:Addr}{fd fdW:FuncData}(F:Fun K "next_width" "next_width" Xj f fd)(tmin:mg "min"=none)(tzip:mg "zip"=none)(Wn:Callee P w K mg base CX0 1 "with_next_word" fW fdW ["row","behind"] Jx):FnOk P w K mg base CX0 2 f fd ["rows"] Jy:=by
 refine F.ok zdm (λvs H Q E h=>?_) (λcdv A outer s H vs Q E hr h=>?_)
 .refine E_2 h λa gs n8=>A_2 n8 λe9 _=>?_;clear n8 h;subst e9;rfl
 .refine E_2 h λa gs n8=>A_6 n8 λe9 ha hg n2 n3 q=>?_;clear n8 h;subst e9;refine⟨_,(zf (zl (zi (Je rfl) (by rfl) tmin PyProof.Rows.boot_min (za (zP (Nc:=["row","behind"]) (ix:=[none,none]) rfl rfl (by exact(j7 rfl tzip (za (pv 0) (za (yo xA (pv 0) (yj zg) xi) zb)))) (λ_ _ _ _ _=>(wP (K:=K) (n:=2) rfl rfl (z4 (zt (i:=0) (by show(["row","behind"]:List Str).Nodup;decide +kernel) rfl (Or.inl rfl)) (z4 (zt (i:=1) (by show(["row","behind"]:List Str).Nodup;decide +kernel) rfl (Or.inl rfl)) xg)))) (λ_ _ _ _ _=>zS) (λ_ _ _ _ _=>(zh Wn.ok hr rfl Wn.bound Wn.kp Wn.bd .nil zx (za (pv 0) (za (pv 1) zb))))) zb)))),?_⟩;refine⟨_,rfl,_,rfl,_,rfl,a,_,rfl,SqL.of ha,λpc nc=>?_⟩;have Sc:=zd (o:=.lst (cutV (tx (gs.map glue)) (some 1) none)) nc;have lgs:(tx (gs.map glue)).length=gs.length:=by rw[zR,ka]
  have hpc:(upd H pc (.lst (cutV (tx (gs.map glue)) (some 1) none))) pc=some (.lst ((tx (gs.map glue)).drop 1)):=by
   rw[zc];exact congrArg (λz=>some (HO.lst z)) (wF _ 1 ())
  have ha2:=Sc _ _ ha;generalize upd H pc (.lst (cutV (tx (gs.map glue)) (some 1) none))=H1 at Sc hpc ha2;have lm:min (tx (gs.map glue)).length ((tx (gs.map glue)).drop 1).length=gs.length-1:=by
   rw[kZ,lgs];lia
  refine⟨a,pc,rfl,⟨_,SqL.of ha2⟩,⟨_,SqL.of hpc⟩,ZC (K:=K) (a:=a) (b:=pc) (xs:=tx (gs.map glue)) (ys:=(tx (gs.map glue)).drop 1) (λi us σ H'=>us=((vals gs).take i).map V.int/\Same H1 H'/\∃o1 o2,σ=[o1,o2])
   ⟨rfl,Same.refl _,none,none,rfl⟩ (λi us σ H' hi h9=>by obtain⟨e,S,_⟩:=h9;exact(⟨by rw[e,ka,kJ,qg];exact kn (show _<=1000 by lia) ⋯,SqL.of (S _ _ ha2),SqL.of (S _ _ hpc)⟩)) ?_ ?_⟩
  .rintro us σ H' ⟨e,S,_⟩ l nl;rw[lm,<-qg gs,kM]at e;subst e;refine⟨l,vals gs,rfl,SqL.of zc,by rw[qg];lia,λM hM hle=>?_⟩;exact q M hM hle _ (Sc.trans (S.trans (zd nl)))
  .intro i x y us σ H' p hx hy h8 hn;refine A_3 h8 λe S n8=>E_2 n8 λo1 o2 e9=>?_;clear n8 h8;subst e9;subst e;obtain⟨z1,hz1,rfl⟩:=yW hx;rw[v5]at hy;obtain⟨z2,hz2,rfl⟩:=yW hy;rw[k6]at hz1 hz2;obtain⟨g,eg,rfl⟩:∃g,gs[i]?=some g/\z1=glue g:=by
    cases e:gs[i]? with
    |none=>rw[e]at hz1;cases hz1
    |some g=>rw[e]at hz1;cases hz1;exact⟨g,rfl,rfl⟩
   obtain⟨h,eh,rfl⟩:∃h,gs[i+1]?=some h/\z2=glue h:=by
    rw[Nat.add_comm 1 i]at hz2;cases e:gs[i+1]? with
    |none=>rw[e]at hz2;cases hz2
    |some g=>rw[e]at hz2;cases hz2;exact⟨g,rfl,rfl⟩
   have ev:=Xg eg eh;obtain⟨hil,ev'⟩:=kh.mp ev;have G:=hg g (kH eg);have Hh:=hg h (kH eh);have Sp:=zd (o:=.tup [V.str (txt (glue g)),V.str (txt (glue h))]) hn;refine⟨p,_,rfl,SqT.of zc,rfl,_,_,rfl,_,_,rfl,rfl,?_⟩;dsimp only[tYes];refine iteT ?_;refine⟨_,rfl,_,rfl,g,h,rfl,Hh.1,Hh.2.1,G.2.2.1,Hh.2.2.1,Hh.2.2.2,λH2 S2=>⟨?_,S.trans (Sp.trans S2),_,_,rfl⟩⟩;rw[<-kF hil,kD,ev'];rfl
theorem xw:zn ["words","wide","rows","stairs","fewer"] ["words"] (zj ZE):=by trivial
theorem Jz{f fR fT fN C:Addr}{fd fdR fdT fdN:FuncData}(F:Fun K "text_stairs" "text_stairs" ZE f fd)(tl:mg "len"=none)(tmax:mg "max"=none)(Re:Callee P w K mg base (CXE P w) 4 "refuse_no_words" fR fdR ["things"] (jJ C))
  (Ta:Callee P w K mg base CX0 1 "taken" fT fdT ["words","wide"] ZF)(Nw:Callee P w K mg base CX0 2 "next_width" fN fdN ["rows"] Jy):FnOk P w K mg base (CXE P w) 5 f fd ["words"] (Xs C):=by
 refine F.okE xw (λvs H Q E h=>?_) (λcdv A outer s H vs Q E hr hh h=>?_)
 .refine E_1 h λx n8=>A_2 n8 λe9 _=>?_;clear n8 h;subst e9;rfl
 .revert h;intro n7;refine E_1 n7 λx n8=>A_2 n8 λe9 h=>?_;clear n8 n7;subst e9;refine⟨_,(ze (ya (zh Re.ok hr rfl Re.bound Re.kp Re.bd .nil y7 (za (pv 0) zb)))
   (ze (zL (yL (jz (pv 0) (λ_=>rfl)))
   (zf (zl (zO (za (yM (za zg (za zg zb))) zb))))
   zF)
   (ze (zo (i:=1) xw.nd rfl (Or.inl rfl) (zi (Jf rfl) (by rfl) tmax u6 (za (zP (Nc:=["word"]) (ix:=[none]) rfl rfl (by refine' zY ?zz;case zz=>exact(pv 0)) (λ_ _ _ _ _=>(zt (i:=0) (by show(["word"]:List Str).Nodup;decide +kernel) rfl (Or.inl rfl))) (λ_ _ _ _ _=>zS) (λ_ _ _ _ _=>(zi yf (by rfl) tl kO (za (pv 0) zb)))) zb)))
   (ze (zo (i:=2) xw.nd rfl (Or.inl rfl) (zh Ta.ok (hr.mono (show 1<=4 by decide)) rfl Ta.bound Ta.kp Ta.bd .nil zx (za (pv 0) (za (pv 1) zb))))
   (ze (zo (i:=3) xw.nd rfl (Or.inl rfl) (zO (za (yM (za (pv 1) (za (zi zm (by rfl) tl kO (za (pv 2) zb)) zb))) zb)))
   (ze (PS.nox (wY PassesOwn.never (zy yS (zi zm (by rfl) tl kO (za (pv 2) zb)) zg (zu _))
   (ze (zo (i:=1) xw.nd rfl (Or.inl rfl) (zh Nw.ok (hr.mono (show 2<=4 by decide)) rfl Nw.bound Nw.kp Nw.bd .nil zx (za (pv 2) zb)))
    (ze (zo (i:=4) xw.nd rfl (Or.inl rfl) (zh Ta.ok (hr.mono (show 1<=4 by decide)) rfl Ta.bound Ta.kp Ta.bd .nil zx (za (pv 0) (za (pv 1) zb))))
    (ze (zL (zy xh (zi zm (by rfl) tl kO (za (pv 4) zb)) (zi zm (by rfl) tl kO (za (pv 2) zb)) (zu _))
    (zf (ya (yq k4 vn vo yt (pv 3) (za (yM (za (pv 1) (za (zi zm (by rfl) tl kO (za (pv 4) zb)) zb))) zb))))
    zF)
    (zf (zo (i:=2) xw.nd rfl (Or.inl rfl) (pv 4))))))))
   (zf (zl (pv 3))))))))),?_⟩
  rcases h with⟨a,ws,rfl,ha,hw,hn,q⟩|⟨bad,qe⟩
  case inr=>exact⟨_,rfl,_,rfl,.inr ⟨bad,λH' S=>qe H' S⟩⟩
  refine⟨_,rfl,_,rfl,.inl ⟨a,ws,rfl,ha,hw,hn,λH1 S1=>?_⟩⟩;have ha1:=S1 _ _ ha;by_cases h0:ws=[]
  .subst h0;refine⟨_,rfl,false,.inl ⟨[],SqL.of ha1,rfl⟩,iteT ?_⟩;refine⟨Zz2,λp np=>⟨Zz1,λl nl=>?_⟩⟩;have Sp:=zd (o:=.tup [.int 1,.int 1]) np;have Sl:=zd (o:=.lst [.ref p]) nl;refine q l [.ref p] _ (S1.trans (Sp.trans Sl)) ((S1.trans Sp).free nl) zc ?_;show yh _ _ [(1,1)];exact .cons ⟨p,rfl,Sl _ _ zc⟩ .nil
  have ht:(!(tx ws).isEmpty)=true:=by
   cases ws with
   |nil=>exact absurd rfl h0
   |cons a r=>rfl
  refine⟨_,rfl,true,.inl ⟨_,SqL.of ha1,ht.symm⟩,iteF ?_⟩;have w12:∀u∈ws,u.length<=12:=λu hu=>(hw u hu).2.1;refine⟨_,rfl,a,rfl,⟨_,SqL.of ha1⟩,ye (K:=K) (a:=a) (xs:=tx ws) (λi ys σ H'=>ys=((ws.take i).map λu=>(u.length:Int)).map V.int/\H'=H1/\∃o,σ=[o]) ⟨rfl,rfl,none,rfl⟩
   (λi ys σ H' hi h9=>by obtain⟨e,e2,_⟩:=h9;exact(⟨by rw[e,ka,ka,kJ];exact kn (show _<=1000 by lia) ⋯,by rw[e2];exact SqL.of ha1⟩)) ?_ ?_⟩
  case refine_2 =>
   intro i x ys σ H' hx h8;obtain⟨e,rfl,o,rfl⟩:=h8;subst e;obtain⟨v,hv,rfl⟩:=yW hx;obtain⟨hil,ev⟩:=kh.mp hv;dsimp only[zU,tYes];refine iteT ?_;refine qb (zp rfl) (kn (w12 v (kH hv)) ⋯) _ ?_;refine⟨?_,rfl,_,rfl⟩;rw[<-kF hil,ev,kD,kD];rfl
  intro ys σ H' h8 p2 n2;obtain⟨e,rfl,_⟩:=h8;rw[zR,kM]at e;subst e;have S2:=zd (o:=.lst ((ws.map λu=>(u.length:Int)).map V.int)) n2;have hp2:(upd H' p2 (.lst ((ws.map λu=>(u.length:Int)).map V.int))) p2=some (.lst ((ws.map λu=>(u.length:Int)).map V.int)):=zc;have S12:=S1.trans S2;generalize upd H' p2 (.lst ((ws.map λu=>(u.length:Int)).map V.int))=H2 at S2 hp2 S12;refine⟨p2,_,rfl,SqL.of hp2,by rw[ka];exact bM.mpr h0,λM hM1 hM=>?_⟩;have eM:=zdf hM1 hM;subst eM;have hwl:∀u∈ws,(u.length:Int)<=(wid ws:Int):=λu hu=>Int.ofNat_le.mpr (qQ hu);refine⟨_,rfl,_,rfl,a,ws,wid ws,rfl,S12 _ _ ha,hw,hn,λlr H3 S3 _ hlr=>?_⟩;have S13:=S12.trans S3;refine⟨_,rfl,_,rfl,_,_,rfl,.inl (SqL.of hlr),Zz2,λp np=>⟨Zz1,λls nls=>?_⟩⟩;have Sp:=zd (o:=.tup [.int (wid ws),.int ((tx (taken (wid ws) ws)).length:Nat)]) np;have Sl:=zd (o:=.lst [.ref p]) nls;have Spl:=Sp.trans Sl;have fls:H ls=none:=(S13.trans Sp).free nls;have nlr:lr≠ls:=zK (Sp _ _ hlr) nls;have hlr4:=Spl _ _ hlr;have S4:=S13.trans Spl;have hls:(upd (upd H3 p (.tup [.int (wid ws),.int ((tx (taken (wid ws) ws)).length:Nat)])) ls (.lst [.ref p])) ls=some (.lst [.ref p]):=zc;have hP:yh (upd (upd H3 p (.tup [.int (wid ws),.int ((tx (taken (wid ws) ws)).length:Nat)])) ls (.lst [.ref p])) [.ref p] (falls (cnt ws) (wid ws) ((wid ws:Int)-wid ws).toNat):=by
   rw[Int.sub_self];refine .cons ⟨p,rfl,?_⟩ .nil;rw[Sl _ _ zc,zR,yP]
  generalize upd (upd H3 p (.tup [.int (wid ws),.int ((tx (taken (wid ws) ws)).length:Nat)])) ls (.lst [.ref p])=H4 at hlr4 S4 hls hP;clear Sp Sl Spl np nls S3 hlr S13 S12 hp2 S2 n2;have hT:=Yd h0;refine run_seq ?_;refine ZA (λm σ H5=>∃(wd:Int)(lr:Addr)(us:List V)(o4:Option V),m=(total ws-wd).toNat/\(wid ws:Int)<=wd/\wd<=total ws/\σ=[some (.ref a),some (.int wd),some (.ref lr),some (.ref ls),o4]/\Same H H5/\H5 lr=some (.lst (tx (taken wd ws)))/\lr≠ls /\
    H5 ls=some (.lst us)/\yh H5 us (falls (cnt ws) (wid ws) (wd-wid ws).toNat)/\us.length<=14000) _ ⟨(wid ws:Int),lr,[.ref p],none,rfl,vU _,hT,rfl,S4,hlr4,nlr,hls,hP,by show 1<=14000;decide⟩ ?_
  clear hlr4 S4 hls hP nlr;intro m σ H5 h8;refine E_4 h8 λwd lr us o4 n8=>A_10 n8 λe9 h1 h2 n92 S5 hlr nlr hls hP ulen=>?_;clear n8 h8;subst e9;subst n92;have ct:=yP ws wd;refine⟨(1:Int)<((tx (taken wd ws)).length:Nat),inferInstance,z8 (z5 (yI (zp rfl) (SqL.of hlr)) zM),λc=>?_,λc=>?_⟩
  .rw [zR,ct]at c;have c1:1<cnt ws wd:=()
   have hwd:∀u∈ws,(u.length:Int)<=wd:=λu hu=>uO (hwl u hu) h1;obtain⟨z0,hz0,hz1⟩:=Jq h2 c1;have bt:=ju wd ws w12;have gl:=wg wd ws;have gg:=qd wd ws;have gf:=qf wd ws;have gn:=(j9 wd ws).1;have hlr':H5 lr=some (.lst (tx ((grp wd ws).map glue))):=by rw[gg];exact hlr
   refine⟨_,rfl,lr,grp wd ws,rfl,hlr',λg hg=>⟨gn g hg,λu hu=>hw u ?_,?_,?_⟩,(),?_,λM hM hle H6 S6=>?_⟩
   .rw [<-gf];exact uF.mpr ⟨g,hg,hu⟩
   .have:glue g∈taken wd ws:=by rw[<-gg];exact vh.mpr ⟨g,hg,rfl⟩
    have:=bt _ this;lia
   .have:=Xr hg;rw[gf]at this;lia
   .rw [gl];exact kn (qJ wd ws) hn
   have hMw:=Jn wd ws M hM;have hMT:M<=total ws:=uO (hle z0 hz0) hz1;have jump:=W6 (ws:=ws) (lo:=wid ws) h1 hMw λv a1 a2=>Jo (M:=M) hle a1 a2;have S56:=S5.trans S6;refine⟨_,rfl,_,rfl,a,ws,M,rfl,S56 _ _ ha,hw,hn,λlf H7 S7 nlf hlf=>?_⟩;have S67:=S6.trans S7;have hls7:=S67 _ _ hls;have hlr7:=S67 _ _ hlr;have hP7:=hP.same S67;have S57:=S5.trans S67;have nlf2:lf≠ls:=λz=>by rw[z]at nlf;rw[S6 _ _ hls]at nlf;cases nlf
   have cf:=yP ws M
   try dsimp only
   refine ZB (R:=λσ H8=>∃us:List V,σ=[some (.ref a),some (.int M),some (.ref lr),some (.ref ls),some (.ref lf)]/\Same H H8/\H8 lf=some (.lst (tx (taken M ws)))/\H8 ls=some (.lst us)/\yh H8 us (falls (cnt ws) (wid ws) (M-wid ws).toNat)/\us.length<=14000) ?_ (λk=>?_)
   case refine_1 =>
    intro σ H8 h8;refine E_1 h8 λus n8=>A_6 n8 λe9 S8 hlf8 hls8 hP8 ul8=>?_;clear n8 h8;subst e9;refine⟨_,rfl,(total ws-M).toNat,(),M,lf,us,_,rfl,(),hMT,rfl,S8,hlf8,nlf2,hls8,hP8,ul8⟩
   refine xV (p:=((tx (taken M ws)).length:Int)<((tx (taken wd ws)).length:Nat)) (z8 (z5 (yI (zp rfl) (SqL.of hlf)) (yI (zp rfl) (SqL.of hlr7)))) (λc2=>?_) (λc2=>?_)
   .rw [zR,zR,ct,cf]at c2;rw[if_pos ()]at jump;refine⟨_,rfl,.inl ⟨rfl,_,SqL.of hls7⟩,_,rfl,_,rfl,_,_,rfl,.inl (SqL.of hlf),Zz2,λp np=>?_⟩;have Sp:=zd (o:=.tup [.int M,.int ((tx (taken M ws)).length:Nat)]) np;have hls8:=Sp _ _ hls7;have ul:us.length=(falls (cnt ws) (wid ws) (wd-wid ws).toNat).length:=hP.len;have fl:=qP (c:=cnt ws) (lo:=(wid ws:Int)) (wd-wid ws).toNat;have tb:total ws<=13000:=by
     have e:=Ws ws;have:(ws.map λu=>(u.length:Int)).sum<=12*ws.length:=by
      have:∀l:List W,(∀u∈l,u.length<=12)->(l.map λu=>(u.length:Int)).sum<=12*l.length:=λl=>by
       induction l with
       |nil=>intro _;exact vU _
       |cons x r ih =>
        intro hx;have i1:=ih λu hu=>hx u (kg _ hu);have i2:=hx x ke;rw[k8,k9,kz];lia
      exact this ws w12
     unfold total;lia
    refine I_3 ls _ _ ⟨rfl,rfl,hls8,by rw[show us.length=_ from ul];exact va (show _<=14000 by lia) ⋯,?_⟩;refine k _ _ ⟨us++[.ref p],rfl,z9 (S57.trans Sp) fls,?_,zc,?_,?_⟩
    .rw [zr nlf2];exact Sp _ _ hlf
    .rw [jump];refine((hP7.same Sp).upd hls8).snoc ⟨p,rfl,?_⟩;rw[zr (λz=>by rw[z,hls7]at np;cases np),zc,zR,cf]
    .rw [ki,vG,ul];lia
   .rw [zR,zR,ct,cf]at c2;rw[if_neg ()]at jump;refine zV ?_;exact k _ _ ⟨us,rfl,S57,hlf,hls7,by rw[jump];exact hP7,ulen⟩
  .rw [zR,ct]at c;refine⟨_,rfl,q ls us H5 S5 fls hls ?_⟩;unfold xG;rw[if_neg h0,Jp h0 hwl h1 h2 ()];exact hP
end _JK
namespace _Tre
open PySem _L2
inductive T where
 |non|bl (b:Bool)|int (i:Int)|str (x:Str)|tup (ts:List T)|lst|dic
mutual
def sz:T->Nat
 |.tup ts=>1+szL ts
 |.non=>1
 |.bl _=>1
 |.int _=>1
 |.str _=>1
 |.lst=>1
 |.dic=>1
def szL:List T->Nat
 |[]=>0
 |t::r=>sz t+szL r
end
theorem qS:∀t:T,0<sz t
 |.tup ts=>by unfold sz;lia
 |.non=>by unfold sz;decide
 |.bl _=>by unfold sz;decide
 |.int _=>by unfold sz;decide
 |.str _=>by unfold sz;decide
 |.lst=>by unfold sz;decide
 |.dic=>by unfold sz;decide
theorem ZH:∀(a b:List T),szL (a++b)=szL a+szL b
 |[],b=>by show szL b=szL []+szL b;unfold szL;lia
 |t::a,b=>by
  show sz t+szL (a++b)=szL (t::a)+szL b;rw[ZH a b,szL];lia
theorem xC(k:Str)(ps:List T):sz (.tup [.str k,.tup ps])=3+szL ps:=by
 simp only[sz,szL];lia
def bar:Str := "|"
def dash:Str := "-"
def isK(k:Str):Prop:=k=bar\/k=dash
def HasK(t:T)(k:Str):Prop:=∃q,t=.tup [.str k,q]
mutual
inductive Good:T->List Int->Prop where
 |leaf(i:Int):Good (.int i) [i]
 |node{k:Str}{ps:List T}{nss:List (List Int)}(hk:isK k)(h2:2<=ps.length)(hn:∀p∈ps,¬HasK p k)(h:zE ps nss):Good (.tup [.str k,.tup ps]) nss.flatten
inductive zE:List T->List (List Int)->Prop where
 |nil:zE [] []
 |cons{t:T}{ns:List Int}{ts:List T}{nss:List (List Int)}(h:Good t ns)(r:zE ts nss):zE (t::ts) (ns::nss)
end
theorem zE.app:∀{a b:List T}{x y:List (List Int)},zE a x->zE b y->zE (a++b) (x++y)
 |_,_,_,_,.nil,s=>s
 |_,_,_,_,.cons h r,s=>.cons h (zE.app r s)
theorem zE.split:∀{a b:List T}{z:List (List Int)},zE (a++b) z->∃x y,z=x++y/\zE a x/\zE b y
 |[],b,z,h=>⟨[],z,rfl,.nil,h⟩
 |t::a,b,_,.cons h r=>by
  obtain⟨x,y,e,h1,h2⟩:=zE.split (a:=a) (b:=b) r;exact⟨_::x,y,by rw[e];rfl,.cons h h1,h2⟩
theorem zE.one{t:T}{z:List (List Int)}(h:zE [t] z):∃ns,z=[ns]/\Good t ns:=by
 cases h with
 |cons h r =>
  cases r;exact⟨_,rfl,h⟩
theorem zE.len:∀{a:List T}{x:List (List Int)},zE a x->x.length=a.length
 |_,_,.nil=>rfl
 |_,_,.cons _ r=>by rw[kz,kz,r.len]
mutual
theorem Good.ne:∀{t:T}{ns:List Int},Good t ns->0<ns.length
 |_,_,.leaf i=>bf _
 |_,_,.node (ps:=ps) (nss:=nss) hk h2 hn h=>kW () (zE.le h)
theorem zE.le:∀{ts:List T}{nss:List (List Int)},zE ts nss->ts.length<=nss.flatten.length
 |_,_,.nil=>kc _
 |_,_,.cons h r=>by
  rw[kP,ki,kz];have:=h.ne;have:=zE.le r;lia
end
mutual
theorem Good.uniq:∀{t:T}{a b:List Int},Good t a->Good t b->a=b
 |_,_,_,.leaf i,h'=>by cases h';rfl
 |_,_,_,.node _ _ _ h,h'=>by
  cases h' with
  |node _ _ _ h2=>rw[zE.uniq h h2]
theorem zE.uniq:∀{t:List T}{a b:List (List Int)},zE t a->zE t b->a=b
 |_,_,_,.nil,h'=>by cases h';rfl
 |_,_,_,.cons h r,h'=>by
  cases h' with
  |cons h2 r2=>rw[Good.uniq h h2,zE.uniq r r2]
end
structure Rel(t:T)(ahead:List T)(ns:List Int):Prop where
 fw:∀x,Good t x->∃z,zE ahead z/\x.Perm (ns++z.flatten)
 bw:∀z,zE ahead z->∃x,Good t x/\x.Perm (ns++z.flatten)
theorem Rel.start(t:T):Rel t [t] [] :=
 ⟨λx h=>⟨[x],.cons h .nil,by simp⟩,λz h=>by
  obtain⟨ns,rfl,h2⟩:=h.one;exact⟨ns,h2,by simp⟩⟩
theorem Rel.leaf{t:T}{a:List T}{ns:List Int}{i:Int}(R:Rel t (a++[.int i]) ns):Rel t a (ns++[i]):=by
 refine⟨λx h=>?_,λz h=>?_⟩
 .obtain ⟨z,hz,p⟩:=R.fw x h;obtain⟨u,v,rfl,h1,h2⟩:=hz.split;obtain⟨m,rfl,h3⟩:=h2.one;cases h3;refine⟨u,h1,p.trans ?_⟩;rw[vD,kY];refine List.Perm.append_left ns ?_;show(u.flatten++([i]++[])).Perm ([i]++u.flatten);rw[vq];exact u8
 .obtain ⟨x,h1,p⟩:=R.bw (z++[[i]]) (h.app (.cons (.leaf i) .nil));refine⟨x,h1,p.trans ?_⟩;rw[vD,kY];refine List.Perm.append_left ns ?_;show(z.flatten++([i]++[])).Perm ([i]++z.flatten);rw[vq];exact u8
theorem Rel.node{t:T}{a ps:List T}{ns:List Int}{k:Str}(R:Rel t (a++[.tup [.str k,.tup ps]]) ns)(hk:isK k)(h2:2<=ps.length)(hn:∀p∈ps,¬HasK p k):Rel t (a++ps) ns:=by
 refine⟨λx h=>?_,λz h=>?_⟩
 .obtain ⟨z,hz,p⟩:=R.fw x h;obtain⟨u,v,rfl,h1,h3⟩:=hz.split;obtain⟨m,rfl,h4⟩:=h3.one;cases h4 with
  |node _ _ _ h5=>exact⟨_,h1.app h5,by simpa using p⟩
 .obtain ⟨u,v,rfl,h1,h3⟩:=h.split;obtain⟨x,hx,p⟩:=R.bw (u++[v.flatten]) (h1.app (.cons (.node hk h2 hn h3) .nil));exact⟨x,hx,by simpa using p⟩
theorem Rel.none{t p:T}{a:List T}{ns:List Int}(R:Rel t (a++[p]) ns)(hp:∀m,¬Good p m):∀x,¬Good t x:=λx h=>by
 obtain⟨z,hz,_⟩:=R.fw x h;obtain⟨u,v,rfl,h1,h3⟩:=hz.split;obtain⟨m,_,h4⟩:=h3.one;exact hp m h4
theorem Rel.many{t:T}{a:List T}{ns:List Int}(R:Rel t a ns):∀x,Good t x->ns.length+a.length<=x.length:=λx h=>by
 obtain⟨z,hz,p⟩:=R.fw x h;rw[p.length_eq,ki];have:=hz.le;lia
theorem Rel.done{t:T}{ns:List Int}(R:Rel t [] ns):∃x,Good t x/\x.Perm ns:=by
 obtain⟨x,h,p⟩:=R.bw [] .nil;exact⟨x,h,by simpa using p⟩
def up(n:Nat):List Int:=(vc n).map λi:Nat=>(i:Int)
def zX(t:T):Prop:=∃x,Good t x/\x.length<=24/\x.Perm (up x.length)
theorem wS(n:Nat):(up n).length=n:=by unfold up;rw[ka,vL]
theorem Ye(n:Nat):(up n).Pairwise (· <= ·):=by
 unfold up;rw[List.pairwise_map];exact List.pairwise_lt_range.imp λh=>()
theorem Xt(n:Nat):(up n).Nodup:=by
 unfold up;rw[List.nodup_iff_pairwise_ne,List.pairwise_map];exact List.pairwise_lt_range.imp λh=>()
theorem JA{a b:List Int}(p:a.Perm b)(ha:a.Pairwise (· <= ·))(hb:b.Pairwise (· <= ·)):a=b:=p.eq_of_pairwise (λx y _ _ h1 h2=>bJ h1 h2) ha hb
def Tells(t:T)(r:List Int):Prop:=(∃x,Good t x/\x.length<=24/\r.Perm x)\/(r=[]/\∀x,Good t x->24<x.length)
theorem Tells.tree{t:T}{r ms:List Int}(h:Tells t r)(p:ms.Perm r)(s:ms.Pairwise (· <= ·)):(0<r.length/\ms=up r.length)↔zX t:=by
 rcases h with⟨x,g,l,q⟩|⟨e,no⟩
 .constructor
  .rintro ⟨_,e⟩;refine⟨x,g,l,?_⟩;rw[<-q.length_eq,<-e];exact(p.trans q).symm
  .rintro ⟨y,gy,ly,py⟩;have l0:=g.ne;refine⟨by rw[q.length_eq];exact l0,?_⟩;have e:y=x:=Good.uniq gy g;subst e;refine JA (p.trans (q.trans ?_)) s (Ye _);rw[q.length_eq];exact py
 .subst e;constructor
  .rintro ⟨h,_⟩;exact absurd h (vF _)
  .rintro ⟨y,gy,ly,_⟩;have:=no y gy;lia
end _Tre
namespace PySem
open AutoSeq1
set_option maxRecDepth 100000 in
theorem qT(l:Addr)(items:Array Value)(n:Nat)(b:Addr)(items2:Array Value)(n2:Nat)(dd:Option Addr)(sl:Array (Option Value))(hs0:¬(!items.isEmpty&&Builtin.List.listTooLong (items.size+items2.size))=true)(hs1:items.size<=sizeLine)(hs2:items.size+items2.size<=sizeLine+1):
  Meets (Builtin.«list.extend» ⟨[.ref l,.ref b],[]⟩) (λ_ R s=>s.heap.get? l=some {cls:=.type "list",dict:=none,data:=.seq items n,slots:=#[]}/\s.heap.get? b=some {cls:=.type "tuple",dict:=dd,data:=.seq items2 n2,slots:=sl}/\R (.ok (.ret Value.none)) {s with heap:=s.heap.update l (Obj.mapSeq λx=>x++items2),toks:=s.toks}) :=
 .of_wp λprog w A R s h=>by
  obtain⟨hp,g,d,tk,os⟩:=s;obtain⟨hl,hb,h⟩:=h;have f1:=idx_int;have f2:=sub_tuple_tuple;have f3:=sub_list_list;have f4:=sub_tuple_list;have f5:=sub_list_tuple;
  have hz':(items++items2).size<=sizeLine+1:=by rw[Array.size_append];exact hs2
  wp_walk using(wpAny_updateSeq hl rfl (hz:=hs1) (_hz':=hz')),wpAny_loadPart' hl,wpAny_loadPart' hb;exact⟨_,rfl,h⟩
end PySem
namespace _L2
open PySem PySem.Spec PyProof.Rows
section
variable{X:Cx}
theorem Qi:MtM X "list.extend" (λx vs H Q=>∃l b xs zs,x=.ref l/\vs=[.ref b]/\H l=some (.lst xs)/\SqT X.K H b zs/\xs.length+zs.length<=sizeLine/\Q .non (upd H l (.lst (xs++zs)))):=by
 intro pins s σ H x vs v us Q I rx rv h;refine E_4 h λl b xs zs n8=>A_6 n8 λe9 n90 hH hB hz q=>?_;clear n8 h;subst e9;subst n90;cases rx;obtain⟨u,rfl,ru⟩:=rv.one;cases ru;obtain⟨z,its,n,r,hl,e⟩:=I.lstM hH;obtain⟨its2,r2,⟨⟨cls,dd,data,sl⟩,e2,hc,n2,hd⟩,hz2⟩:=I.tuple hB;simp only at hc hd;subst hc hd;have hl2:=r2.length;have hsz:its.toArray.size+its2.toArray.size<=sizeLine:=by rw[ko,ko];lia
 have hlong:¬(!its.toArray.isEmpty&&Builtin.List.listTooLong (its.toArray.size+its2.toArray.size))=true:=by
  rw[jC hsz,Bool.and_false];exact kt
 refine call_meets F.slot_list_extend ⟨_,e,rfl⟩ F.entry_list_extend (F.args_list_extend_2 _ _)
  (qT l its.toArray n b its2.toArray n2 dd sl hlong (by rw[ko];lia) ()) ⟨e,e2,?_⟩
 refine⟨.non,_,I.lset (its':=its++its2) hH e (by simp) (r.append r2) ?_,rfl,q⟩;rw[ki];omega
theorem Yf:∀{ns:List Int}{us:List Value},Vals (ns.map V.int) us->IntsAre us ns
 |[],_,.nil=>.nil
 |n::ns,_,.cons ⟨t,e⟩ r=>by
  subst e;exact .cons n t (Yf r)
theorem Za:∀{ns:List Int}{us:List Value},IntsAre us ns->Vals (ns.map V.int) us
 |_,_,.nil=>.nil
 |_,_,.cons n t r=>.cons ⟨t,rfl⟩ (Za r)
theorem Qj:yz X (.builtin "sorted") (λxs H Q=>∃(a:Addr)(ns:List Int),xs=[.ref a]/\SqL X.K H a (ns.map V.int)/\ns.length<64/\∀(l:Addr)(ms:List Int),H l=none->ms.Perm ns->ms.Pairwise (· <= ·)->Q (.ref l) (upd H l (.lst (ms.map V.int)))):=by
 intro pins s σ H xs us Q I r h;refine E_2 h λa ns n8=>A_4 n8 λe9 hq h64 q=>?_;clear n8 h;subst e9;obtain⟨u,rfl,ru⟩:=vals1 r;cases ru;obtain⟨its,rv,tp,hz⟩:=I.list hq;have hl:=rv.length;rw[ka]at hl;refine sorted_ints tp.isList (Yf rv) () λout ms hI pm st=>?_;obtain⟨e,he⟩:=sortedAll_at s.heap its out;have ln:(ms.map V.int).length<=sizeLine:=by rw[ka,pm.length_eq];exact kn (vw h64) ⋯
 refine⟨.ref (s.heap.objs.size+1),_,I.laid (t':=s.toks) (o:=.lst (ms.map V.int)) (λb u e=>sortedAll_old e) (v7 _) ⟨ln,out.toList,e,Za hI,?_⟩,rfl,q _ ms (I.hok.fresh (v7 _)) pm st⟩;rw[he]
end
def ItR(K:Frag)(a:Addr)(n:Nat):It :=
 ⟨λi H=>i<n/\∃xs,SqL K H a xs/\xs.length=n,λi H x H'=>H'=H/\∀xs,SqL K H a xs->xs[n-1-i]?=some x,λi H=>n<=i⟩
theorem zaY{P:Program}{w:World}{K:Frag}{tg:Expr}(a it:Addr)(n:Nat):Turn P w K tg (ItR K a n) [it] it (λi h=>h.IsRevIter it a ((n:Int)-1-i)/\i<=n) where
 mem:=by simp
 obj:=λi h st b hb=>by
  have e:b=it:=by simpa using hb
  subst e;obtain⟨⟨o,e,c,d⟩,_⟩:=st;exact⟨o,e,λv z=>by rw[d]at z;cases z⟩
 keep:=λi h h' st k=>⟨st.1.at λo e=>k it (by simp) o e,st.2⟩
 item:=by
  intro X hP hw hK hc i pins s σ H E I hf st hg;subst hP hw hK;obtain⟨hi,xs,hq,hx⟩:=hg;obtain⟨its,rv,p,hz⟩:=I.list hq;have e1:xs[n-1-i]?=some (xs[n-1-i]'(by omega)):=kf (by omega);obtain⟨u,hu,ru⟩:=rv.get e1;obtain⟨f0,f1,f2,f3,f4,f5⟩:=hf it (by simp);have st1:s.heap.IsRevIter it a ((n-1-i:Nat):Int):=by
   have:=st.1
   rwa [show(n:Int)-1-i=((n-1-i:Nat):Int)by omega]at this
  refine wpAny_pyNext_rev_item st1 p.isList (x:=u) (by simpa using hu) λh' st' sb=>?_;have I1:Inv X pins σ H {s with heap:=h'}:=I.turned (t':=s.toks) (λb o hb e=>(sb.2 b hb).trans e) f0 f1 f3 f4 f5;have st2:h'.IsRevIter it a ((n:Int)-1-((i+1:Nat):Int)):=by
   rwa [show((n-1-i:Nat):Int)-1=(n:Int)-1-((i+1:Nat):Int)by lia]at st'
  obtain⟨o,e,c,d⟩:=id st2;exact⟨u,rfl,jX (s:={s with heap:=h'}) e c d ⋯ ⟨_,H,I1,ru,⟨rfl,λys hy=>by rw[I.list_inj hy hq];exact e1⟩,⟨st2,by assumption⟩,λb hb=>(hf b hb).1⟩⟩
 done:=by
  intro X hP hw hK hc i pins s σ H E I hf st hg;subst hP hw hK;have hg:n<=i:=hg;obtain⟨f0,f1,f2,f3,f4,f5⟩:=hf it (by simp);have st1:s.heap.IsRevIter it a (-1):=by
   have:=st.1
   rwa [show(n:Int)-1-i = -1 by have:=st.2;lia]at this
  exact wpAny_pyNext_rev_end (I.ok.hd hc) st1 λh' eb=>⟨rfl,I.turned (t':=s.toks) (λb o hb e=>eb b o hb e) f0 f1 f3 f4 f5⟩
 self:=λ_ _ _ _ _ st h=>wpAny_pyIter_revIter st.1 h
def iRev(K:Frag)(ta:TA):TI:=λσ H R=>ta σ H λvs H1=>∃a xs,vs=[.ref a]/\SqL K H1 a xs/\R (ItR K a xs.length) H1
theorem zdn{X:Cx}{tg l:Expr}{ta:TA}{p pos:Pos}(hg:Gl X "reversed")(hm:X.mg "reversed"=none)(ha:PA X [l] ta)(hs:starEach [l] X.env=[(false,eval l X.env)]:=by rfl):
  PI X tg (.Call (.Name "reversed" p) [l] [] pos) (iRev X.K ta):=by
 intro pins s σ H R I h;refine Call_ (yT I hg hm boot_reversed (vN (thn (ha pos pins s σ H _ I h) λus s1 ⟨vs,H1,I1,r1,q1⟩=>?_) hs rfl));obtain⟨a,xs,e,hq,q⟩:=q1;subst e;cases r1 with
 |cons r rr =>
  cases rr;cases r;obtain⟨its,rv,tp,hz⟩:=I1.list hq;have hl:=rv.length;refine call_reversed_list tp.isList ?_;have e0:((its.toArray.size:Nat):Int)-1=(xs.length:Int)-1-((0:Nat):Int):=by rw[ko];lia
  have st0:(s1.heap.push (revObj a (((its.toArray.size:Nat):Int)-1))).IsRevIter s1.heap.objs.size a ((xs.length:Int)-1-((0:Nat):Int)):=⟨_,Heap.get?_push_size _ rfl,rfl,by rw[e0];rfl⟩;refine wpAny_pyIter_revIter st0 ?_;refine I_5 s1.heap.objs.size [s1.heap.objs.size] _ _ H1 ⟨rfl,I1.kept (t':=s1.toks) λb o e=>Heap.get?_push_of_some _ e,zaY a _ xs.length,⟨st0,kR _⟩,λb hb=>?_,q⟩;have e:b=s1.heap.objs.size:=by simpa using hb
  subst e;exact I1.fpOk (kc _) (I1.hok.fresh (kc _))
section
variable{X:Cx}
def tLR3(ta:TA):TE:=λσ H Q=>ta σ H λvs H1=>∃n:Nat,vs=[.int n]/\n<=1000000/\∀l,H1 l=none->Q (.ref l) (upd H1 l (.lst ((vc n).map λi:Nat=>V.int i)))
theorem Qk{n:Nat}{its:Array Value}(h:ItemsOf (λi v=>∃t,v=Value.int (0+(i:Int)*1) t) its n):Vals ((vc n).map λi:Nat=>V.int i) its.toList:=by
 obtain⟨h1,h2⟩:=h;have:∀(us:List Value)(k:Nat),(∀j v,us[j]?=some v->∃t,v=Value.int ((k+j:Nat):Int) t)->Vals ((vc us.length).map λi:Nat=>V.int ((k+i:Nat):Int)) us:=by
  intro us
  induction us with
  |nil=>intro k _;exact .nil
  |cons u us ih =>
   intro k h;rw[kz,List.range_succ_eq_map,k8,vE];refine .cons ?_ ?_
   .obtain ⟨t,rfl⟩:=h 0 u rfl;exact⟨t,rfl⟩
   .have:=ih (k+1) λj v e=>by
     obtain⟨t,rfl⟩:=h (j+1) v (by simpa using e);exact⟨t,by rw[show k+1+j=k+(j+1)by lia]⟩
    have e:((λi:Nat=>V.int ((k+i:Nat):Int))∘Nat.succ)=λi:Nat=>V.int ((k+1+i:Nat):Int):=by
     funext i;show V.int ((k+(i+1):Nat):Int)=V.int ((k+1+i:Nat):Int);rw[show k+(i+1)=k+1+i by lia]
    rw[e];exact this
 have:=this its.toList 0 λj v e=>by
  obtain⟨t,rfl⟩:=h2 j v (by rw[<-Array.getElem?_toList];exact e);exact⟨t,by simp⟩
 rw[Array.length_toList,h1]at this;simpa using this
theorem qU{a:Expr}{ta:TA}{p p2 pos pos2:Pos}(hc:X.calm=true)(hgl:Gl X "list")(hml:X.mg "list"=none)(hg:Gl X "range")(hm:X.mg "range"=none)(ha:PA X [a] ta)(hs:starEach [a] X.env=[(false,eval a X.env)]:=by rfl)
  (hs2:starEach [.Call (.Name "range" p2) [a] [] pos2] X.env=[(false,eval (.Call (.Name "range" p2) [a] [] pos2) X.env)]:=by rfl):PE X (.Call (.Name "list" p) [.Call (.Name "range" p2) [a] [] pos2] [] pos) (tLR3 ta):=by
 intro pins s σ H Q I h;refine wpAny_Call_Name_kw (yT I hgl hml boot_list (vN ?_ hs2 rfl));rw[hs2];refine Calls.spliced_cons (Call_ (yT I hg hm boot_range (vN (thn (ha pos2 pins s σ H _ I h) λus s1 ⟨vs,H1,I1,r1,q1⟩=>?_) hs rfl)));obtain⟨n,e,hn,q⟩:=q1;subst e;obtain⟨u,rfl,t,rfl⟩:=vals1 r1;refine call_range_1 (Calls.spliced_nil ?_);refine call_list_range (n:=n) (I1.ok.hd hc) (IsRange.new ..) (small_one ⋯ ⋯ () ()) (by rw[rangeSize_one];split<;>lia) () λh' tk acc c' kp hl it=>?_;have I2:Inv X pins σ H1 {s1 with heap:=s1.heap.push {cls:=.type "range",data:=.fields #[.int 0 s1.toks,.int n t,.int 1 (s1.toks+1)]},toks:=s1.toks+1+1}:=I1.kept λb o e=>Heap.get?_push_of_some _ e;refine⟨.ref _,_,I2.laid (t':=tk) (o:=.lst ((vc n).map λi:Nat=>V.int i)) kp (kc _) ⟨by rw[ka,vL];exact kn hn ⋯,acc.toList,c',Qk it,by simpa using hl⟩,rfl,q _ (I2.hok.fresh (kc _))⟩
end
end _L2
namespace _JK
open PySem _L2 _Tre PySem.W
variable{P:Program}{w:World}{K:Frag}{mg:Str->Option Value}{base:Heap}{kA:Addr}
mutual
inductive At(H:Hp):V->T->Prop where
 |non:At H .non .non
 |bl(b:Bool):At H (.bl b) (.bl b)
 |int(i:Int):At H (.int i) (.int i)
 |str(x:Str):At H (.str x) (.str x)
 |tup{a:Addr}{vs:List V}{ts:List T}(e:H a=some (.tup vs))(h:AtL H vs ts):At H (.ref a) (.tup ts)
 |lst{a:Addr}{vs:List V}(e:H a=some (.lst vs)):At H (.ref a) .lst
 |dic{a:Addr}{kvs:List (Key×V)}(e:H a=some (.dK kvs)):At H (.ref a) .dic
inductive AtL(H:Hp):List V->List T->Prop where
 |nil:AtL H [] []
 |cons{v:V}{t:T}{vs:List V}{ts:List T}(h:At H v t)(r:AtL H vs ts):AtL H (v::vs) (t::ts)
end
mutual
theorem At.same{H H':Hp}(S:Same H H'):∀{v:V}{t:T},At H v t->At H' v t
 |_,_,.non=>.non
 |_,_,.bl b=>.bl b
 |_,_,.int i=>.int i
 |_,_,.str x=>.str x
 |_,_,.tup e h=>.tup (S _ _ e) (AtL.same S h)
 |_,_,.lst e=>.lst (S _ _ e)
 |_,_,.dic e=>.dic (S _ _ e)
theorem AtL.same{H H':Hp}(S:Same H H'):∀{vs:List V}{ts:List T},AtL H vs ts->AtL H' vs ts
 |_,_,.nil=>.nil
 |_,_,.cons h r=>.cons (At.same S h) (AtL.same S r)
end
theorem AtL.len{H:Hp}:∀{vs:List V}{ts:List T},AtL H vs ts->vs.length=ts.length
 |_,_,.nil=>rfl
 |_,_,.cons _ r=>by rw[kz,kz,r.len]
theorem AtL.get{H:Hp}:∀{vs:List V}{ts:List T}{i:Nat}{v:V},AtL H vs ts->vs[i]?=some v->∃t,ts[i]?=some t/\At H v t
 |_,_,_,_,.nil,e=>by simp at e
 |_,_,0,_,.cons h _,e=>by simp at e;subst e;exact⟨_,rfl,h⟩
 |_,_,i+1,v,.cons _ r,e=>by
  obtain⟨t,h1,h2⟩:=AtL.get (i:=i) (v:=v) r (by simpa using e);exact⟨t,by simpa using h1,h2⟩
theorem AtL.app{H:Hp}:∀{vs us:List V}{ts ss:List T},AtL H vs ts->AtL H us ss->AtL H (vs++us) (ts++ss)
 |_,_,_,_,.nil,s=>s
 |_,_,_,_,.cons h r,s=>.cons h (AtL.app r s)
theorem AtL.snoc{H:Hp}:∀{ts:List T}{t:T}{vs:List V},AtL H vs (ts++[t])->∃us v,vs=us++[v]/\AtL H us ts/\At H v t
 |[],t,_,.cons h .nil=>⟨[],_,rfl,.nil,h⟩
 |b::ts,t,_,.cons h r=>by
  obtain⟨us,v,e,h1,h2⟩:=AtL.snoc (ts:=ts) r;exact⟨_::us,v,by rw[e];rfl,.cons h h1,h2⟩
def tyT:T->Value
 |.non=>.type "NoneType"
 |.bl _=>.type "bool"
 |.int _=>.type "int"
 |.str _=>.type "str"
 |.tup _=>.type "tuple"
 |.lst=>.type "list"
 |.dic=>.type "dict"
theorem At.ty{K:Frag}{H:Hp}{v:V}{t:T}(h:At H v t):TyX K H v (tyT t):=by
 cases h with
 |non=>exact .of .non
 |bl b=>exact .of (.bl b)
 |int i=>exact .of (.int i)
 |str x=>exact .of (.str x)
 |tup e _=>exact .of (.tup e)
 |lst e=>exact .of (.lst e)
 |dic e=>exact .of (.dK e)
def isI:T->Bool
 |.int _=>true
 |_=>false
def isIB:T->Bool
 |.int _=>true
 |.bl _=>true
 |_=>false
def isBl:T->Bool
 |.bl _=>true
 |_=>false
def isS:T->Bool
 |.str _=>true
 |_=>false
def isTp:T->Bool
 |.tup _=>true
 |_=>false
structure Nt(K:Frag)(mg:Str->Option Value)(kA:Addr):Prop where
 gKIND:GI mg "KIND" 0
 gPARTS:GI mg "PARTS" 1
 gMOST_BOXES:GI mg "MOST_BOXES" 24
 gKINDS:mg "KINDS"=some (.ref kA)
 kk:∀H,SqT K H kA [.str bar,.str dash]
 ti:mg "isinstance"=none
 tint:mg "int"=none
 tbool:mg "bool"=none
 tstr:mg "str"=none
 ttup:mg "tuple"=none
 tlist:mg "list"=none
 tl:mg "len"=none
 tany:mg "any"=none
 ts:mg "sorted"=none
 tr:mg "range"=none
 kI:∀t,kitOne K (tyT t) (.type "int")=some (isIB t)
 kB:∀t,kitOne K (tyT t) (.type "bool")=some (isBl t)
 kS:∀t,kitOne K (tyT t) (.type "str")=some (isS t)
 kT:∀t,kitOne K (tyT t) (.type "tuple")=some (isTp t)
def isKb(k:Str):Bool:=decide (k=bar)||decide (k=dash)
theorem qi{k:Str}:isKb k=true↔isK k:=by
 unfold isKb isK;rw[bp,decide_eq_true_eq,decide_eq_true_eq]
def hasK:T->Bool
 |.tup [.str k,_]=>isKb k
 |_=>false
def yY(p:T)(k:Str):Bool:=match p with
 |.tup [.str j,_]=>isKb j&&decide (j=k)
 |_=>false
def isB:T->Bool
 |.tup [.str k,.tup ps]=>isKb k&&(decide (2<=ps.length)&&!(ps.any λp=>yY p k))
 |_=>false
theorem Yg{p:T}{k:Str}(hk:isK k):yY p k=true↔HasK p k:=by
 constructor
 .intro h;unfold yY at h;split at h
  .rename_i j q;rw[vj,decide_eq_true_eq]at h;exact⟨q,by rw[h.2]⟩
  .cases h
 .intro h8;refine E_1 h8 λq e9=>?_;clear h8;subst e9;show(isKb k&&decide (k=k))=true;rw[qi.mpr hk,decide_eq_true rfl];rfl
theorem ZI{t:T}:isB t=true↔∃k ps,t=.tup [.str k,.tup ps]/\isK k/\2<=ps.length/\∀p∈ps,¬HasK p k:=by
 constructor
 .intro h;unfold isB at h;split at h
  .rename_i k ps;rw[vj,vj,decide_eq_true_eq,bA,List.any_eq_false]at h;have hk:=qi.mp h.1;exact⟨k,ps,rfl,hk,h.2.1,λp hp z=>h.2.2 p hp ((Yg hk).mpr z)⟩
  .cases h
 .intro h8;refine E_2 h8 λk ps n8=>A_4 n8 λe9 hk h2 hn=>?_;clear n8 h8;subst e9;show(isKb k&&(decide (2<=ps.length)&&!(ps.any λp=>yY p k)))=true;rw[qi.mpr hk,decide_eq_true h2,bZ,bZ,bA,List.any_eq_false];exact λp hp z=>hn p hp ((Yg hk).mp z)
theorem zcf{t:T}(h1:isI t=false)(h2:isB t=false):∀m,¬Good t m:=λm g=>by
 cases g with
 |leaf i=>cases h1
 |node hk h3 hn _ =>
  have:=ZI.mpr ⟨_,_,rfl,hk,h3,hn⟩;rw[h2]at this;cases this
def wk:Sp:=λvs H Q _=>∃(x:V)(t:T),vs=[x]/\At H x t/\Q (.bl (isI t)) H
def zbA:Sp:=λvs H Q _=>∃(x:V)(t:T),vs=[x]/\At H x t/\Q (.bl (hasK t)) H
def spBr:Sp:=λvs H Q _=>∃(x:V)(t:T),vs=[x]/\At H x t/\(∀a ps,t=.tup [a,.tup ps]->ps.length<=100000)/\∀H',Same H H'->Q (.bl (isB t)) H'
theorem zcg:zn ["thing"] ["thing"] (zj Xk):=by trivial
theorem zaZ{f:Addr}{fd:FuncData}(F:Fun K "is_whole" "is_whole" Xk f fd)(Z:Nt K mg kA):FnOk P w K mg base CX0 1 f fd ["thing"] wk:=by
 obtain⟨gKIND,gPARTS,gMOST_BOXES,gKINDS,kk,ti,tint,tbool,tstr,ttup,tlist,tl,tany,ts,tr,kI,kB,kS,kT⟩:=Z;refine F.ok zcg (λvs H Q E h=>?_) (λcdv A outer s H vs Q E hr h=>?_)
 .refine E_2 h λx t n8=>A_2 n8 λe9 _=>?_;clear n8 h;subst e9;rfl
 .refine E_2 h λx t n8=>A_3 n8 λe9 hA q=>?_;clear n8 h;subst e9;refine⟨_,(zf (zl (xE (zi yG (by rfl) ti vg (za (pv 0) (za (xp rfl tint uJ) zb))) (xS (QN (zi yG (by rfl) ti vg (za (pv 0) (za (xp rfl tbool PyProof.Rows.boot_bool) zb)))))))),?_⟩;refine⟨_,rfl,_,_,_,_,rfl,rfl,hA.ty,kI t,_,rfl,?_⟩;have e:isI t=(isIB t&&!isBl t):=by cases t<;>rfl
  rw[e]at q;cases h1:isIB t with
  |false =>
   rw[h1]at q;exact iteF q
  |true =>
   rw[h1]at q;exact iteT ⟨_,rfl,_,_,_,_,rfl,rfl,hA.ty,kB t,_,rfl,q⟩
theorem zeD:zn ["thing"] ["thing"] (zj sHas):=by trivial
theorem za0(k:Str):inV (.str k) [.str bar,.str dash]=isKb k:=by
 unfold isKb;show(eqV (.str bar) (.str k)||(eqV (.str dash) (.str k)||false))=_;rw[Bool.or_false,vW,bp,bp,decide_eq_true_eq,decide_eq_true_eq];have e:∀a b:Str,eqV (.str a) (.str b)=true↔b=a:=λa b=>by
  show(a==b)=true↔b=a;rw[beq_iff_eq];exact eq_comm
 rw[e,e]
theorem zdo{f:Addr}{fd:FuncData}(F:Fun K "has_kind" "has_kind" sHas f fd)(Z:Nt K mg kA):FnOk P w K mg base CX0 1 f fd ["thing"] zbA:=by
 obtain⟨gKIND,gPARTS,gMOST_BOXES,gKINDS,kk,ti,tint,tbool,tstr,ttup,tlist,tl,tany,ts,tr,kI,kB,kS,kT⟩:=Z;refine F.ok zeD (λvs H Q E h=>?_) (λcdv A outer s H vs Q E hr h=>?_)
 .refine E_2 h λx t n8=>A_2 n8 λe9 _=>?_;clear n8 h;subst e9;rfl
 .refine E_2 h λx t n8=>A_3 n8 λe9 hA q=>?_;clear n8 h;subst e9;refine⟨_,(zf (zl (xE (zi yG (by rfl) ti vg (za (pv 0) (za (xp rfl ttup ua) zb))) (xE (yu xq (zi zm (by rfl) tl kO (za (pv 0) zb)) zg (zu _)) (xE (zi yG (by rfl) ti vg (za (zk zG (pv 0) (zD rfl gKIND) (λ_ _=>rfl)) (za (xp rfl tstr PyProof.Rows.boot_str) zb))) (xS (yu Q1 (zk zG (pv 0) (zD rfl gKIND) (λ_ _=>rfl)) (Jr rfl gKINDS) rfl))))))),?_⟩;refine⟨_,rfl,_,_,_,_,rfl,rfl,hA.ty,kT t,_,rfl,?_⟩;cases hA with
  |non=>exact iteF q
  |bl b=>exact iteF q
  |int i=>exact iteF q
  |str x=>exact iteF q
  |lst e=>exact iteF q
  |dic e=>exact iteF q
  |@tup a us ss e hL =>
   refine iteT ⟨_,rfl,_,_,rfl,.inr (SqT.of e),rfl,_,rfl,?_⟩;have ln:=hL.len;have d:decide (V.int ((us.length:Nat):Int)=V.int 2)=decide (us.length=2):=by
    rw[jf,vW,beq_iff_eq,decide_eq_true_eq];lia
   rw[d];by_cases h2:us.length=2
   .rw [decide_eq_true h2];refine iteT ?_
    match us,ss,hL,h2,q with
    |[u0,u1],[s0,s1],.cons h0 (.cons h1 .nil),_,q =>
    refine⟨_,rfl,_,_,_,_,rfl,rfl,SqT.of e,rfl,_,_,_,_,rfl,rfl,h0.ty,kS s0,_,rfl,?_⟩;cases h0 with
    |str k =>
     refine iteT ⟨_,rfl,_,_,_,_,rfl,rfl,SqT.of e,rfl,kA,_,rfl,.inr (kk _),rfl,rfl,?_⟩;rw[za0];exact q
    |non=>exact iteF q
    |bl b=>exact iteF q
    |int i=>exact iteF q
    |lst e=>exact iteF q
    |dic e=>exact iteF q
    |tup e h=>exact iteF q
   .rw [decide_eq_false h2];have e0:hasK (.tup ss)=false:=by
     unfold hasK;split
     .rename_i heq;injection heq with heq;rw[heq]at ln;exact absurd ln h2
     .rfl
    rw[e0]at q;exact iteF q
inductive Small:T->Prop where
 |non:Small .non
 |bl(b:Bool):Small (.bl b)
 |int(i:Int):Small (.int i)
 |str(x:Str):Small (.str x)
 |tup{ts:List T}(l:ts.length<=1000)(h:∀t∈ts,Small t):Small (.tup ts)
 |lst:Small .lst
 |dic:Small .dic
theorem Small.parts{ts:List T}(h:Small (.tup ts)):ts.length<=1000/\∀t∈ts,Small t:=by
 cases h with
 |tup l h=>exact⟨l,h⟩
def Ql:Sp:=λvs H Q _=>∃(x:V)(t:T),vs=[x]/\At H x t/\Small t/\∀(r:List Int)(l:Addr)(H':Hp),Same H H'->H l=none->H' l=some (.lst (r.map V.int))->r.length<=24->Tells t r->Q (.ref l) H'
def JB:Sp:=λvs H Q _=>∃(x:V)(t:T),vs=[x]/\At H x t/\Small t/\∀(b:Bool)(H':Hp),Same H H'->(b=true↔zX t)->Q (.bl b) H'
theorem zch{K:Frag}{H:Hp}{a c:Addr}{ms ns:List Int}(ha:SqL K H a (ms.map V.int))(hc:SqL K H c (ns.map V.int)):EqR K H 1 (.ref a) (.ref c) (decide (ms=ns)):=by
 by_cases hl:ms.length=ns.length
 .have fl:∀(xs:List Int)(j:Nat),j<(xs.map V.int).length->(xs.map V.int).getD j .non=.int (xs.getD j 0):=λxs j hj=>by
   rw[ka]at hj;rw[kE,k6,kf hj,kE,kf hj];rfl
  have:=EqR.lsts (K:=K) (H:=H) (n:=0) (e:=λj=>eqV (.int (ms.getD j 0)) (.int (ns.getD j 0))) ha hc (by rw[ka,ka];exact hl) λj hj=>by
   rw[fl ms j hj,fl ns j (by rw[ka]at hj ⊢;lia)];exact .flat rfl rfl
  have e:(vc (ms.map V.int).length).all (λj=>eqV (.int (ms.getD j 0)) (.int (ns.getD j 0)))=decide (ms=ns):=by
   rw[vW,decide_eq_true_eq,vP,ka];constructor
   .intro h;apply ui hl;intro i h1 h2;have:=h i (vR.mpr h1);have this:(ms.getD i 0==ns.getD i 0)=true:=this;rw[beq_iff_eq,kE,kE,kf h1,kf h2]at this;exact this
   .rintro rfl j _;show(ms.getD j 0==ms.getD j 0)=true;rw[beq_iff_eq]
  rw[<-e];exact this
 .rw [decide_eq_false (λz=>hl (by rw[z]))];exact EqR.lens (n:=0) ha hc (by rw[ka,ka];exact hl)
theorem jK{t:T}:hasK t=true↔∃k q,t=.tup [.str k,q]/\isKb k=true:=by
 constructor
 .intro h;unfold hasK at h;split at h
  .exact ⟨_,_,rfl,h⟩
  .cases h
 .intro h8;refine E_2 h8 λk q n8=>A_2 n8 λe9 h=>?_;clear n8 h8;subst e9;exact h
theorem zdp{t:T}(h:hasK t=false):isB t=false:=by
 cases e:isB t with
 |false=>rfl
 |true =>
  obtain⟨k,ps,rfl,hk,_⟩:=ZI.mp e;have:hasK (.tup [.str k,.tup ps])=true:=jK.mpr ⟨k,_,rfl,qi.mpr hk⟩;rw[h]at this;cases this
theorem za1{p:T}{k:Str}(h:hasK p=false):yY p k=false:=by
 cases e:yY p k with
 |false=>rfl
 |true =>
  unfold yY at e;split at e
  .rename_i j q;rw[vj]at e;have:hasK (.tup [.str j,q])=true:=e.1;rw[h]at this;cases this
  .cases e
theorem scBr:zn ["thing","parts"] ["thing"] (zj sBr):=by trivial
theorem zeE{f fH:Addr}{fd fdH:FuncData}(F:Fun K "is_branch" "is_branch" sBr f fd)(Z:Nt K mg kA)(Hk:Callee P w K mg base CX0 1 "has_kind" fH fdH ["thing"] zbA):FnOk P w K mg base CX0 2 f fd ["thing"] spBr:=by
 obtain⟨gKIND,gPARTS,gMOST_BOXES,gKINDS,kk,ti,tint,tbool,tstr,ttup,tlist,tl,tany,ts,tr,kI,kB,kS,kT⟩:=Z;refine F.ok scBr (λvs H Q E h=>?_) (λcdv A outer s H vs Q E hr h=>?_)
 .refine E_2 h λx t n8=>A_2 n8 λe9 _=>?_;clear n8 h;subst e9;rfl
 .refine E_2 h λx t n8=>A_4 n8 λe9 hA hn q=>?_;clear n8 h;subst e9;refine⟨_,(ze (zL (yL (yw (zh Hk.ok hr rfl Hk.bound Hk.kp Hk.bd .nil zx (za (pv 0) zb))))
   (zf (zl xP))
   zF)
   (ze (zo (i:=1) scBr.nd rfl (Or.inl rfl) (zk zG (pv 0) (zD rfl gPARTS) (λ_ _=>rfl)))
   (ze (zL (PW.pt (xf (yL (yw (zi yG (by rfl) ti vg (za (pv 1) (za (xp rfl ttup ua) zb))))) (xn (zy xh (zi zm (by rfl) tl kO (za (pv 1) zb)) zg (zu _)))))
   (zf (zl xP))
   zF)
   (zf (zl (QN (zi (Z4 rfl) (by rfl) tany PyProof.Rows.boot_any (za (zP (Nc:=["part","thing"]) (ix:=[none,some 0]) rfl rfl (by exact(wL (pv 1))) (λ_ _ _ _ _=>(zt (i:=0) (by show(["part","thing"]:List Str).Nodup;decide +kernel) rfl (Or.inl rfl))) (λ_ _ _ _ _=>zS) (λ_ _ _ _ _=>(xE (zh Hk.ok hr rfl Hk.bound Hk.kp Hk.bd .nil zx (za (pv 0) zb)) (xS (yu xq (zk (yA (K:=K) rfl) (pv 0) (zD rfl gKIND) (λ_ _=>rfl)) (zk (yA (K:=K) rfl) (pv 1) (zD rfl gKIND) (λ_ _=>rfl)) (zu _)))))) zb)))))))),?_⟩
  refine⟨_,rfl,x,t,rfl,hA,_,rfl,?_⟩;cases hh:hasK t with
  |false =>
   have:=q H (Same.refl _);rw[zdp hh]at this;exact iteT this
  |true =>
   obtain⟨k,qq,rfl,hk⟩:=jK.mp hh;cases hA with
   |@tup a us ss e hL =>
   cases hL with
   |@cons u0 _ _ _ h0 hr =>
   cases h0;cases hr with
   |@cons u1 _ _ _ hq hr2 =>
   cases hr2;refine iteF ?_;refine⟨_,rfl,_,_,_,_,rfl,rfl,SqT.of e,rfl,?_⟩;refine⟨_,rfl,_,_,_,_,rfl,rfl,hq.ty,kT qq,_,rfl,?_⟩;cases hq with
   |non=>exact iteT (iteT (q H (Same.refl _)))
   |bl b=>exact iteT (iteT (q H (Same.refl _)))
   |int i=>exact iteT (iteT (q H (Same.refl _)))
   |str x=>exact iteT (iteT (q H (Same.refl _)))
   |lst e=>exact iteT (iteT (q H (Same.refl _)))
   |dic e=>exact iteT (iteT (q H (Same.refl _)))
   |@tup b ws ps e2 hP =>
    have ln:=hP.len;have hn:ps.length<=100000:=hn _ _ rfl;refine iteF ⟨_,rfl,_,_,rfl,.inr (SqT.of e2),_,_,rfl,rfl,_,rfl,?_⟩;have qB:∀H',Same H H'->Q (.bl (isKb k&&(decide (2<=ps.length)&&!(ps.any λp=>yY p k)))) H':=q;rw[hk]at qB;by_cases h2:2<=ps.length
    .rw [decide_eq_true h2]at qB;rw[decide_eq_false ()];refine iteF ?_;refine⟨_,rfl,b,rfl,⟨_,SqT.of e2⟩,wb (K:=K) (a:=b) (xs:=ws) (λi ys σ H'=>ys=((ps.take i).map λp=>yY p k).map V.bl/\H'=H/\∃o,σ=[o,some (.ref a)]) ⟨rfl,rfl,none,rfl⟩
      (λi ys σ H' hi h9=>by obtain⟨e,e3,_⟩:=h9;exact(⟨by rw[e,ka,ka,kJ];exact kn (show _<=1000000 by lia) ⋯,by rw[e3];exact SqT.of e2⟩)) ?_ ?_⟩
     .intro ys σ H' h8 la nl;obtain⟨e3,rfl,_⟩:=h8;rw[ln,kM]at e3;subst e3;refine⟨la,ps.map λp=>yY p k,rfl,SqL.of zc,_,rfl,?_⟩;have z:=qB _ (zd (o:=.lst ((ps.map λp=>yY p k).map V.bl)) nl);rw[List.any_map];exact z
     .intro i x ys σ H' hx h8;obtain⟨e3,rfl,o,rfl⟩:=h8;subst e3;obtain⟨p,ep,hAp⟩:=hP.get hx;obtain⟨hil,ev⟩:=kh.mp ep;dsimp only[zU,tYes];refine iteT ?_;refine⟨_,rfl,x,p,rfl,hAp,_,rfl,?_⟩;have fin:∀b:Bool,b=yY p k->(((ps.take i).map λp=>yY p k).map V.bl)++[V.bl b]=((ps.take (i+1)).map λp=>yY p k).map V.bl:=λb eb=>by
       rw[<-kF hil,ev,kD,kD,eb];rfl
      cases hp:hasK p with
      |false=>exact iteF ⟨fin _ (za1 hp).symm,rfl,_,rfl⟩
      |true =>
       obtain⟨j,r,rfl,hj⟩:=jK.mp hp;cases hAp with
       |@tup c vs2 _ e4 hL2 =>
       cases hL2 with
       |@cons v0 _ _ _ g0 gr =>
       cases g0;cases gr with
       |@cons v1 _ _ _ g1 gr2 =>
       cases gr2;refine iteT ⟨_,rfl,_,_,_,_,rfl,rfl,SqT.of e4,rfl,_,rfl,_,_,_,_,rfl,rfl,SqT.of e,rfl,rfl,fin _ ?_,rfl,_,rfl⟩;show decide (V.str j=V.str k)=(isKb j&&decide (j=k));rw[hj,bZ,Zr,vW,beq_iff_eq,decide_eq_true_eq]
    .rw [decide_eq_false h2]at qB;rw[decide_eq_true ()];exact iteT (qB H (Same.refl _))
theorem Yu:zn ["thing","numbers","ahead","part"] ["thing"] (zj sNum):=by trivial
theorem zdq{f fW fB:Addr}{fd fdW fdB:FuncData}(F:Fun K "numbers_in" "numbers_in" sNum f fd)(Z:Nt K mg kA)(Wo:Callee P w K mg base CX0 1 "is_whole" fW fdW ["thing"] wk)(Br:Callee P w K mg base CX0 2 "is_branch" fB fdB ["thing"] spBr):FnOk P w K mg base CX0 4 f fd ["thing"] Ql:=by
 obtain⟨gKIND,gPARTS,gMOST_BOXES,gKINDS,kk,ti,tint,tbool,tstr,ttup,tlist,tl,tany,ts,tr,kI,kB,kS,kT⟩:=Z;refine F.ok Yu (λvs H Q E h=>?_) (λcdv A outer s H vs Q E hr h=>?_)
 .refine E_2 h λx t n8=>A_2 n8 λe9 _=>?_;clear n8 h;subst e9;rfl
 .refine E_2 h λx t n8=>A_4 n8 λe9 hA hS q=>?_;clear n8 h;subst e9;refine⟨_,(ze (zo (i:=1) Yu.nd rfl (Or.inl rfl) (zO zb))
   (ze (zo (i:=2) Yu.nd rfl (Or.inl rfl) (zO (za (pv 0) zb)))
   (ze (wY PassesOwn.never (jz (pv 2) (λ_=>rfl))
   (ze (zo (i:=3) Yu.nd rfl (Or.inl rfl) (YK k4 uK uL YL (pv 2)))
    (ze (zL (yw (zh Wo.ok (hr.mono (show 1<=3 by decide)) rfl Wo.bound Wo.kp Wo.bd .nil zx (za (pv 3) zb)))
    (zf (ya (yq k4 vn vo yt (pv 1) (za (pv 3) zb))))
    (zf (zL (yw (zh Br.ok (hr.mono (show 2<=3 by decide)) rfl Br.bound Br.kp Br.bd .nil zx (za (pv 3) zb)))
     (zf (ya (yq k4 PySem.F.slot_list_extend PySem.F.type_list_extend Qi (pv 2) (za (zk zG (pv 3) (zD rfl gPARTS) (λ_ _=>rfl)) zb))))
     (zf (zl (zO zb))))))
    (zf (zL (zy yS (zA ym (zi zm (by rfl) tl kO (za (pv 1) zb)) (zi zm (by rfl) tl kO (za (pv 2) zb))) (zD rfl gMOST_BOXES) (zu _))
    (zf (zl (zO zb)))
    zF)))))
   (zf (zl (pv 1)))))),?_⟩
  refine⟨Zz0,λln nln=>?_⟩;have S1:=zd (o:=.lst []) nln;have h1:(upd H ln (.lst [])) ln=some (.lst []):=zc;generalize upd H ln (.lst [])=H1 at S1 h1;refine⟨_,rfl,Zz1,λla nla=>?_⟩;have S2:=S1.trans (zd (o:=.lst [x]) nla);have h2:(upd H1 la (.lst [x])) la=some (.lst [x]):=zc;have h1:=zd (o:=.lst [x]) nla _ _ h1;have fla:H la=none:=S1.free nla;have nn:ln≠la:=λz=>by rw[z,h2]at h1;cases h1
  generalize upd H1 la (.lst [x])=H2 at S2 h1 h2;dsimp only;refine run_seq ?_;refine ZA (λm σ H3=>∃(us:List V)(ts:List T)(ns:List Int)(o:Option V),m=szL ts/\σ=[some x,some (.ref ln),some (.ref la),o]/\Same H H3/\H3 ln=some (.lst (ns.map V.int))/\H3 la=some (.lst us)/\AtL H us ts/\(∀t∈ts,Small t)/\Rel t ts ns/\ns.length+ts.length<=24) (szL [t])
   ⟨[x],[t],[],none,rfl,rfl,S2,h1,h2,.cons hA .nil,(λu hu=>by rw[kj.mp hu];exact hS),.start t,by show 0+1<=24;decide⟩ ?_
  intro m σ H3 h8;refine E_4 h8 λus ts ns o n8=>A_9 n8 λe9 n90 S3 hln hla hL hSm R l24=>?_;clear n8 h8;subst e9;subst n90;have lus:=hL.len;have te:∀k:Bool,k=!us.isEmpty->k=decide (us≠[]):=λk e=>by
   rw[e];cases us<;>simp
  refine⟨us≠[],inferInstance,λQ' q'=>⟨_,rfl,_,.inl ⟨us,SqL.of hla,rfl⟩,by rw[te _ rfl];exact q'⟩,λhne=>?_,λhne=>?_⟩
  .obtain ⟨ts',p,rfl⟩:∃ts' p,ts=ts'++[p]:=by
    have:ts≠[]:=λz=>by rw[z]at lus;exact hne (vm.mp lus)
    exact⟨_,_,(vZ this).symm⟩
   obtain⟨us',v,rfl,hL',hv⟩:=hL.snoc;have hpS:=hSm p (by simp);refine⟨_,rfl,.inl ⟨rfl,_,SqL.of hla⟩,la,_,v,rfl,rfl,hla,(by simp),?_⟩;have S4:Same H (upd H3 la (.lst (us'++[v]).dropLast)):=z9 S3 fla;have hla4:(upd H3 la (.lst (us'++[v]).dropLast)) la=some (.lst us'):=by rw[zc,uP]
   have hln4:(upd H3 la (.lst (us'++[v]).dropLast)) ln=some (.lst (ns.map V.int)):=by rw[zr nn];exact hln
   generalize upd H3 la (.lst (us'++[v]).dropLast)=H4 at S4 hla4 hln4;rw[ki,vG]at l24;have ssz:szL (ts'++[p])=szL ts'+sz p:=by rw[ZH];show szL ts'+(sz p+szL [])=_;rw[show szL []=0 by unfold szL;rfl];lia
   have psz:=qS p
   try dsimp only
   refine ZB (R:=λσ H5=>∃(us5:List V)(ts5:List T)(ns5:List Int),σ=[some x,some (.ref ln),some (.ref la),some v]/\Same H H5/\H5 ln=some (.lst (ns5.map V.int))/\H5 la=some (.lst us5)/\AtL H us5 ts5/\(∀t∈ts5,Small t)/\Rel t ts5 ns5/\szL ts5<szL (ts'++[p])/\us5.length<=2000/\ns5.length<=30) ?_ (λk=>?_)
   case refine_1 =>
    intro σ H5 h8;refine E_3 h8 λus5 ts5 ns5 n8=>A_10 n8 λe9 S5 hln5 hla5 hL5 hS5 R5 lt5 u2000 n30=>?_;clear n8 h8;subst e9;have l5:=hL5.len;refine xV (p:=(24:Int)<(((ns5.map V.int).length:Nat):Int)+((us5.length:Nat):Int)) (z8 (z5 (z5 (yI (zp rfl) (SqL.of hln5)) (yI (zp rfl) (SqL.of hla5))) zM)) (λc=>?_) (λc=>?_)
    .rw [ka]at c;refine⟨Zz0,λl nl=>q [] l _ (S5.trans (zd nl)) (S5.free nl) zc ⋯ (.inr ⟨rfl,λy gy=>?_⟩)⟩;have:=R5.many y gy;lia
    .rw [ka]at c;exact⟨szL ts5,lt5,us5,ts5,ns5,_,rfl,rfl,S5,hln5,hla5,hL5,hS5,R5,()⟩
   refine⟨_,rfl,v,p,rfl,hv.same S4,_,rfl,?_⟩;cases hI:isI p with
   |true =>
    refine iteT ?_;cases hv with
    |int i =>
     refine⟨_,rfl,.inl ⟨rfl,_,SqL.of hln4⟩,_,rfl,ln,_,_,rfl,rfl,hln4,by rw[ka];exact va (show _<=24 by lia) ⋯,?_⟩;refine k _ _ ⟨us',ts',ns++[i],rfl,z9 S4 nln,by rw[zc,kD];rfl,by rw[zr nn.symm];exact hla4,hL',λu hu=>hSm u (kU _ hu),R.leaf,(),?_,by rw[ki,vG];lia⟩;rw[hL'.len];lia
    |non=>cases hI
    |bl b=>cases hI
    |str x=>cases hI
    |tup e h=>cases hI
    |lst e=>cases hI
    |dic e=>cases hI
   |false =>
    refine iteF ?_;have sb:∀a ps,p=.tup [a,.tup ps]->ps.length<=100000:=λa ps e=>by
     subst e;have:=(hpS.parts.2 (.tup ps) (by simp)).parts.1;lia
    refine⟨_,rfl,v,p,rfl,hv.same S4,sb,λH5 S5=>⟨_,rfl,?_⟩⟩;have S45:=S4.trans S5;cases hB:isB p with
    |false =>
     refine iteF ?_;refine⟨Zz0,λl nl=>q [] l _ (S45.trans (zd nl)) (S45.free nl) zc ⋯ (.inr ⟨rfl,λy gy=>?_⟩)⟩;exact absurd gy (R.none (zcf hI hB) y)
    |true =>
     refine iteT ?_;obtain⟨kd,ps,rfl,hk,h2p,hno⟩:=ZI.mp hB;cases hv with
     |@tup a _ _ e hLL =>
     cases hLL with
     |@cons u0 _ _ _ g0 gr =>
     cases g0;cases gr with
     |@cons u1 _ _ _ g1 gr2 =>
     cases gr2;cases g1 with
     |@tup b ws _ e2 hP =>
     have lw:=hP.len;have pl:=(hpS.parts.2 (.tup ps) (by simp)).parts;refine⟨_,rfl,.inl ⟨rfl,_,SqL.of (S5 _ _ hla4)⟩,_,rfl,_,_,_,_,rfl,rfl,SqT.of (S45 _ _ e),rfl,la,b,_,_,rfl,rfl,S5 _ _ hla4,SqT.of (S45 _ _ e2),kn (show us'.length+ws.length<=2000 by have:=hL'.len;lia) ⋯,?_⟩;refine k _ _ ⟨us'++ws,ts'++ps,ns,rfl,z9 S45 fla,by rw[zr nn];exact S5 _ _ hln4,zc,hL'.app hP,λu hu=>?_,R.node hk h2p hno,?_,by rw[ki];have:=hL'.len;lia,()⟩
     .rcases kQ.mp hu with z|z
      .exact hSm u (kU _ z)
      .exact pl.2 u z
     .rw [ssz,ZH];rw[xC];lia
  .have e0:us=[]:=Classical.byContradiction λz=>hne z;subst e0;cases hL;obtain⟨y,gy,py⟩:=R.done;refine⟨_,rfl,q ns ln H3 S3 nln hln (by omega) (.inl ⟨y,gy,?_,py.symm⟩)⟩;rw[py.length_eq];omega
theorem JC:zn ["thing","numbers"] ["thing"] (zj Qa):=by trivial
theorem zci{f fN:Addr}{fd fdN:FuncData}(F:Fun K "is_tree" "is_tree" Qa f fd)(Z:Nt K mg kA)(Nu:Callee P w K mg base CX0 4 "numbers_in" fN fdN ["thing"] Ql):FnOk P w K mg base CX0 5 f fd ["thing"] JB:=by
 obtain⟨gKIND,gPARTS,gMOST_BOXES,gKINDS,kk,ti,tint,tbool,tstr,ttup,tlist,tl,tany,ts,tr,kI,kB,kS,kT⟩:=Z;refine F.ok JC (λvs H Q E h=>?_) (λcdv A outer s H vs Q E hr h=>?_)
 .refine E_2 h λx t n8=>A_2 n8 λe9 _=>?_;clear n8 h;subst e9;rfl
 .refine E_2 h λx t n8=>A_4 n8 λe9 hA hS q=>?_;clear n8 h;subst e9;refine⟨_,(ze (zo (i:=1) JC.nd rfl (Or.inl rfl) (zh Nu.ok hr rfl Nu.bound Nu.kp Nu.bd .nil zx (za (pv 0) zb)))
   (zf (zl (xE (yu yS (zi zm (by rfl) tl kO (za (pv 1) zb)) zg (zu _)) (xS (yu (Jg hr.units) (zi Qj (by rfl) ts bn (za (pv 1) zb)) (qU rfl rfl tlist rfl tr (za (zi zm (by rfl) tl kO (za (pv 1) zb)) zb)) (zu _))))))),?_⟩
  refine⟨_,rfl,x,t,rfl,hA,hS,λr l H1 S1 nl hl r24 tells=>?_⟩;refine⟨_,rfl,_,_,rfl,.inl (SqL.of hl),_,_,rfl,rfl,_,rfl,?_⟩;rw[ka];by_cases h0:0<r.length
  .rw [decide_eq_true ()];refine iteT ?_;refine⟨_,rfl,l,r,rfl,SqL.of hl,(),λl2 ms nl2 pm st=>?_⟩;have S2:=zd (o:=.lst (ms.map V.int)) nl2;have h2:(upd H1 l2 (.lst (ms.map V.int))) l2=some (.lst (ms.map V.int)):=zc;have hl2:=S2 _ _ hl;generalize upd H1 l2 (.lst (ms.map V.int))=H2 at S2 h2 hl2;refine⟨_,rfl,_,_,rfl,.inl (SqL.of hl2),r.length,by rw[ka],(),λl3 nl3=>?_⟩;have S3:=zd (o:=.lst ((vc r.length).map λi:Nat=>V.int i)) nl3;have h3:(upd H2 l3 (.lst ((vc r.length).map λi:Nat=>V.int i))) l3=some (.lst ((up r.length).map V.int)):=by
    rw[zc];unfold up;rw[vE];rfl
   refine I_4 l2 l3 1 _ ⟨rfl,rfl,zch (SqL.of (S3 _ _ h2)) (SqL.of h3),⋯,?_⟩;refine q _ _ (S1.trans (S2.trans S3)) ?_;show decide (ms=up r.length)=true↔_;rw[decide_eq_true_eq,<-tells.tree pm st];exact⟨λz=>⟨h0,z⟩,λz=>z.2⟩
  .rw [decide_eq_false ()];refine iteF (q _ _ S1 ?_);rw[<-tells.tree (List.Perm.refl _) (by rw[vm.mp (show r.length=0 by lia)];exact List.Pairwise.nil)];exact⟨λz=>(by cases z),λz=>absurd z.1 h0⟩
end _JK
namespace _Tre
open PySem
theorem wm:∀ts:List T,ts.length<=szL ts
 |[]=>kR _
 |t::r=>by
  have:=wm r;have:=qS t;show r.length+1<=sz t+szL r;lia
end _Tre
namespace _JK
open PySem _L2 _Tre PySem.W
mutual
theorem jL:∀t:T,sz t<=1000->Small t
 |.non,_=>.non
 |.bl b,_=>.bl b
 |.int i,_=>.int i
 |.str x,_=>.str x
 |.lst,_=>.lst
 |.dic,_=>.dic
 |.tup ts,h=>by
  have e:sz (.tup ts)=1+szL ts:=by simp only[sz]
  have:=wm ts;exact .tup () (Yh ts ())
theorem Yh:∀ts:List T,szL ts<=1000->∀t∈ts,Small t
 |[],_,t,ht=>(kN ht).elim
 |t::r,h,u,hu=>by
  have e:szL (t::r)=sz t+szL r:=by simp only[szL]
  rcases kL.mp hu with z|z
  .rw [z];exact jL t ()
  .exact Yh r () u z
end
theorem Paired.unsnoc{α β:Type}{R:α->β->Prop}{p:β}{ps:List β}:∀{vs:List α},Paired R vs (ps++[p])->∃us v,vs=us++[v]/\Paired R us ps/\R v p:=by
 induction ps with
 |nil =>
  intro vs h;cases h with
  |cons r t=>cases t;exact⟨[],_,rfl,.nil,r⟩
 |cons b ps ih =>
  intro vs h;cases h with
  |cons r t =>
   obtain⟨us,v,e,h1,h2⟩:=ih t;exact⟨_::us,v,by rw[e];rfl,.cons r h1,h2⟩
theorem AtL.knot{H:Hp}{vs:List V}{k:Str}{ps:List T}(h:AtL H vs [.str k,.tup ps]):∃b ws,vs=[.str k,.ref b]/\H b=some (.tup ws)/\AtL H ws ps:=by
 cases h with
 |cons h r =>
  cases h;cases r with
  |cons h2 r2 =>
   cases r2;cases h2 with
   |tup e hq=>exact⟨_,_,rfl,e,hq⟩
theorem Wv:("|-" : Str)=txt [124,45]:=by decide +kernel
theorem JD(i:Int):∃c:Nat,atI [124,45] (i % 2)=some c/\isK (txt [c]):=by
 rcases(show i % 2=0\/i % 2=1 by lia)with e|e<;>rw[e]
 .exact ⟨124,rfl,.inl (by decide +kernel)⟩
 .exact ⟨45,rfl,.inr (by decide +kernel)⟩
theorem za2(ns:List Int)(lo hi:Option Int):∃ms:List Int,cutV (ns.map V.int) lo hi=ms.map V.int:=by
 unfold cutV;exact⟨_,by rw[<-b9,<-List.map_take]⟩
theorem Yi{α β:Type}(f:α->β):∀(l:List α)(k:Nat),(l.map f).eraseIdx k=(l.eraseIdx k).map f
 |[],_=>rfl
 |_::_,0=>rfl
 |x::l,k+1=>by
  show f x::(l.map f).eraseIdx k=f x::(l.eraseIdx k).map f;rw[Yi f l k]
theorem Zb{α:Type}:∀{l:List α}{k:Nat}(h:k<l.length),(l[k]::l.eraseIdx k).Perm l
 |_::_,0,_=>.refl _
 |x::l,k+1,h=>by
  show(l[k]'(by simpa using h)::x::l.eraseIdx k).Perm (x::l);exact(List.Perm.swap _ _ _).trans ((Zb (l:=l) (k:=k) (by simpa using h)).cons x)
end _JK
namespace _Tre
open PySem
mutual
theorem Good.szN:∀{t:T}{n:List Int},Good t n->sz t+3<=4*n.length
 |_,_,.leaf i=>by simp[sz]
 |_,_,.node (k:=k) (ps:=ps) (nss:=nss) hk h2 hn h=>by
  have:=zE.szN h;have:=xC k ps;lia
theorem zE.szN:∀{ts:List T}{nss:List (List Int)},zE ts nss->szL ts+3*ts.length<=4*nss.flatten.length
 |_,_,.nil=>by simp[szL]
 |_,_,.cons h r=>by
  have:=h.szN;have:=zE.szN r;rw[kP,ki,kz];simp only[szL];lia
end
theorem zbB:∀(r:List T)(p:T),p∈r->sz p<=szL r
 |q::r,p,h=>by
  simp only[szL];rcases kL.mp h with z|z
  .rw [z];lia
  .have:=zbB r p z;lia
theorem wz{ps:List T}{p:T}(h2:2<=ps.length)(hp:p∈ps):sz p+1<=szL ps:=by
 obtain⟨i,hi,e⟩:=vT.mp hp;have c:ps[i]?=some p:=by rw[kf hi,e]
 match ps,h2,i,c with
 |a::b::r,_,0,c =>
  have c:a=p:=by simpa using c
  subst c;have:=qS b;simp only[szL];lia
 |a::r,_,j+1,c =>
  have:=zbB r p (kH (i:=j) (by simpa using c));have:=qS a;simp only[szL];lia
def okN(n:List Int):Prop:=∀i∈n,0<=i/\i<24
theorem zX.okN{t:T}{n:List Int}(h:zX t)(g:Good t n):okN n/\n.length<=24:=by
 obtain⟨x,gx,l,p⟩:=h;have e:=Good.uniq g gx;subst e;refine⟨λi hi=>?_,l⟩;have:=p.mem_iff.mp hi;unfold up at this;obtain⟨j,hj,rfl⟩:=vh.mp this;have:=vR.mp hj;lia
end _Tre
namespace _JK
open PySem _L2 _Tre PySem.W
def JE(C:Addr):Sp:=λvs H Q E=>∃(x:V)(t:T),vs=[x]/\At H x t/\sz t<=1000/\((zX t/\∀H',Same H H'->Q .non H')\/(¬zX t/\∀H',Same H H'->E (.ref C) none H'))
def Ww(C:Addr):Sp:=λvs H Q E=>∃(x:V)(t:T),vs=[x]/\At H x t/\sz t<=1000/\((∃n,zX t/\Good t n/\∀H',Same H H'->Q (.int n.length) H')\/(¬zX t/\∀H',Same H H'->E (.ref C) none H'))
section
variable{P:Program}{w:World}{K:Frag}{mg:Str->Option Value}{base:Heap}{kA:Addr}
theorem zdr:zn ["thing"] ["thing"] (zj Qb):=by trivial
theorem zcj{f fT C:Addr}{fd fdT:FuncData}(F:Fun K "refuse_no_tree" "refuse_no_tree" Qb f fd)(ex:Exc K mg "NoTree" C)(Tr:Callee P w K mg base CX0 5 "is_tree" fT fdT ["thing"] JB):FnOk P w K mg base (CXE P w) 6 f fd ["thing"] (JE C):=by
 refine F.okE zdr (λvs H Q E h=>?_) (λcdv A outer s H vs Q E hr hh h=>?_)
 .refine E_2 h λx t n8=>A_2 n8 λe9 _=>?_;clear n8 h;subst e9;rfl
 .revert h;intro n7;refine E_2 n7 λx t n8=>A_4 n8 λe9 hA hz h=>?_;clear n8 n7;subst e9;refine⟨_,(zf (zL (yL (yw (zh Tr.ok hr rfl Tr.bound Tr.kp Tr.bd .nil zx (za (pv 0) zb))))
   (zf (y6 ex hh rfl (za zW zb)))
   zF)),?_⟩
  refine⟨_,rfl,x,t,rfl,hA,jL t hz,λb H1 S1 hb=>?_⟩;rcases h with⟨iT,q⟩|⟨nT,qe⟩
  .have e:b=true:=hb.mpr iT;subst e;exact⟨_,rfl,iteF (q H1 S1)⟩
  .have e:b=false:=by cases b with|false=>rfl|true=>exact absurd (hb.mp rfl) nT
   subst e;exact⟨_,rfl,iteT ⟨Zz1,qe H1 S1⟩⟩
theorem zck:zn ["tree"] ["tree"] (zj Xm):=by trivial
theorem za3{f fR fN C:Addr}{fd fdR fdN:FuncData}(F:Fun K "boxes_of" "boxes_of" Xm f fd)(tl:mg "len"=none)(Re:Callee P w K mg base (CXE P w) 6 "refuse_no_tree" fR fdR ["thing"] (JE C))(Nu:Callee P w K mg base CX0 4 "numbers_in" fN fdN ["thing"] Ql):FnOk P w K mg base (CXE P w) 7 f fd ["tree"] (Ww C):=by
 refine F.okE zck (λvs H Q E h=>?_) (λcdv A outer s H vs Q E hr hh h=>?_)
 .refine E_2 h λx t n8=>A_2 n8 λe9 _=>?_;clear n8 h;subst e9;rfl
 .revert h;intro n7;refine E_2 n7 λx t n8=>A_4 n8 λe9 hA hz h=>?_;clear n8 n7;subst e9;refine⟨_,(ze (ya (zh Re.ok hr rfl Re.bound Re.kp Re.bd .nil y7 (za (pv 0) zb)))
   (zf (zl (zi zm (by rfl) tl kO (za (zh Nu.ok (hr.mono (show 4<=6 by decide)) rfl Nu.bound Nu.kp Nu.bd .nil zx (za (pv 0) zb)) zb))))),?_⟩
  rcases h with⟨n,iT,g,q⟩|⟨nT,qe⟩
  .refine ⟨_,rfl,x,t,rfl,hA,hz,.inl ⟨iT,λH1 S1=>?_⟩⟩;refine⟨_,rfl,x,t,rfl,hA.same S1,jL t hz,λr l H2 S2 nl hl lr tell=>⟨l,_,rfl,.inl (SqL.of hl),?_⟩⟩;rw[ka];rcases tell with⟨y,gy,_,py⟩|⟨_,no⟩
   .rw [py.length_eq,Good.uniq gy g];exact q H2 (S1.trans S2)
   .exact absurd (no n g) (by have:=(iT.okN g).2;lia)
  .exact ⟨_,rfl,x,t,rfl,hA,hz,.inr ⟨nT,qe⟩⟩
end
end _JK
namespace _Sta
open _Lin
abbrev S:=List (Nat×Nat)
abbrev R:=Nat->Nat->Prop
def Lt(p q:Nat×Nat):Prop:=p.1<q.1/\q.2<p.2
def Ok(A:S):Prop:=A.Pairwise Lt/\∀p∈A,1<=p.1/\1<=p.2
def reg(A:S):R:=λw h=>∃p,p∈A/\p.1<=w/\p.2<=h
structure Up(P:R):Prop where
 up:∀{w h w' h'},P w h->w<=w'->h<=h'->P w' h'
 pos:∀{w h},P w h->1<=w/\1<=h
def Same(P Q:R):Prop:=∀w h,P w h↔Q w h
theorem Same.trans{P Q U:R}(h:Same P Q)(k:Same Q U):Same P U:=λw j=>(h w j).trans (k w j)
def bes(P Q:R):R:=λw h=>∃a b,a+b<=w/\P a h/\Q b h
def dwn(P Q:R):R:=λw h=>∃a b,a+b<=h/\P w a/\Q w b
theorem za4{P P' Q Q':R}(h:Same P P')(k:Same Q Q'):Same (bes P Q) (bes P' Q'):=λw j=>by
 constructor
 .rintro ⟨a,b,e,x,y⟩;exact⟨a,b,e,(h _ _).mp x,(k _ _).mp y⟩
 .rintro ⟨a,b,e,x,y⟩;exact⟨a,b,e,(h _ _).mpr x,(k _ _).mpr y⟩
theorem Xu{P Q:R}(h:Up P)(k:Up Q):Up (bes P Q):=⟨λ⟨a,b,e,x,y⟩ u v=>⟨a,b,kn e u,h.up x (kc _) v,k.up y (kc _) v⟩,λ⟨a,b,e,x,y⟩=>by
 have:=h.pos x;lia⟩
theorem Xv{P Q:R}(h:Up P)(k:Up Q):Up (dwn P Q):=⟨λ⟨a,b,e,x,y⟩ u v=>⟨a,b,kn e v,h.up x u (kc _),k.up y u (kc _)⟩,λ⟨a,b,e,x,y⟩=>by
 have:=h.pos x;lia⟩
def sbs:S->S->S
 |a::as,b::bs=>(a.1+b.1,max a.2 b.2)::(if a.2=max a.2 b.2 then(if b.2=max a.2 b.2 then sbs as bs else sbs as (b::bs))else sbs (a::as) bs)
 |[],_=>[]
 |_::_,[]=>[]
termination_by a b=>a.length+b.length
decreasing_by all_goals simp_wf<;>lia
theorem wA(a:Nat×Nat)(as:S)(b:Nat×Nat)(bs:S):sbs (a::as) (b::bs)=(a.1+b.1,max a.2 b.2)::(if a.2=max a.2 b.2 then(if b.2=max a.2 b.2 then sbs as bs else sbs as (b::bs))else sbs (a::as) bs):=by
 rw[sbs]
theorem jj(b:S):sbs [] b=[]:=by rw[sbs]
theorem qj(a:S):sbs a []=[]:=by cases a<;>rw[sbs]
theorem ind{C:S->S->Prop}(h1:∀b,C [] b)(h2:∀a as,C (a::as) [])(h3:∀a as b bs,C as bs->C as (b::bs)->C (a::as) bs->C (a::as) (b::bs)):∀n A B,A.length+B.length<=n->C A B
 |n,[],B,_=>h1 B
 |n,a::as,[],_=>h2 a as
 |0,a::as,b::bs,h=>by simp at h
 |n+1,a::as,b::bs,h=>by
  simp only[kz]at h;exact h3 a as b bs (ind h1 h2 h3 n as bs ()) (ind h1 h2 h3 n as (b::bs) (by simp only[kz];lia)) (ind h1 h2 h3 n (a::as) bs (by simp only[kz];lia))
theorem ind'{C:S->S->Prop}(h1:∀b,C [] b)(h2:∀a as,C (a::as) [])(h3:∀a as b bs,C as bs->C as (b::bs)->C (a::as) bs->C (a::as) (b::bs))(A B:S):C A B:=ind h1 h2 h3 _ A B (kc _)
theorem jk(A B:S):∀z∈sbs A B,∃x y,x∈A/\y∈B/\z=(x.1+y.1,max x.2 y.2):=by
 refine ind' (C:=λA B=>∀z∈sbs A B,∃x y,x∈A/\y∈B/\z=(x.1+y.1,max x.2 y.2)) (λb z hz=>?_) (λa as z hz=>?_) (λa as b bs i1 i2 i3 z hz=>?_) A B
 .rw [jj]at hz;exact(kN hz).elim
 .rw [qj]at hz;exact(kN hz).elim
 .rw [wA]at hz;rcases kL.mp hz with e|e
  .exact ⟨a,b,ke,ke,e⟩
  .split at e
   .split at e
    .obtain ⟨x,y,hx,hy,e⟩:=i1 z e;exact⟨x,y,kg _ hx,kg _ hy,e⟩
    .obtain ⟨x,y,hx,hy,e⟩:=i2 z e;exact⟨x,y,kg _ hx,hy,e⟩
   .obtain ⟨x,y,hx,hy,e⟩:=i3 z e;exact⟨x,y,hx,kg _ hy,e⟩
theorem Ok.tail{a:Nat×Nat}{as:S}(h:Ok (a::as)):Ok as:=⟨(uj.mp h.1).2,λp hp=>h.2 p (kg _ hp)⟩
theorem Ok.head{a:Nat×Nat}{as:S}(h:Ok (a::as)):∀x∈as,a.1<x.1/\x.2<a.2:=(uj.mp h.1).1
theorem Ok.all{a:Nat×Nat}{as:S}(h:Ok (a::as)):∀x∈a::as,a.1<=x.1/\x.2<=a.2:=λx hx=>by
 rcases kL.mp hx with e|e
 .rw [e];exact⟨kc _,kc _⟩
 .have:=h.head x e;lia
theorem zds(A B:S):Ok A->Ok B->Ok (sbs A B):=by
 refine ind' (C:=λA B=>Ok A->Ok B->Ok (sbs A B)) (λb _ _=>?_) (λa as _ _=>?_) (λa as b bs i1 i2 i3 hA hB=>?_) A B
 .rw [jj];exact⟨List.Pairwise.nil,λp hp=>(kN hp).elim⟩
 .rw [qj];exact⟨List.Pairwise.nil,λp hp=>(kN hp).elim⟩
 .rw [wA];have pa:=hA.2 a ke;have pb:=hB.2 b ke;have fin:∀L:S,Ok L->(∀z∈L,a.1+b.1<z.1/\z.2<max a.2 b.2)->Ok ((a.1+b.1,max a.2 b.2)::L):=λL o h=>⟨uj.mpr ⟨h,o.1⟩,λp hp=>by
   rcases kL.mp hp with e|e
   .rw [e];exact⟨show 1<=a.1+b.1 by lia,show 1<=max a.2 b.2 by lia⟩
   .exact o.2 p e⟩
  split
  .split
   .refine fin _ (i1 hA.tail hB.tail) λz hz=>?_;obtain⟨x,y,hx,hy,e⟩:=jk _ _ z hz;have:=hA.head x hx;have:=hB.head y hy;rw[e];show a.1+b.1<x.1+y.1/\max x.2 y.2<max a.2 b.2;lia
   .refine fin _ (i2 hA.tail hB) λz hz=>?_;obtain⟨x,y,hx,hy,e⟩:=jk _ _ z hz;have:=hA.head x hx;have:=hB.all y hy;rw[e];show a.1+b.1<x.1+y.1/\max x.2 y.2<max a.2 b.2;lia
  .refine fin _ (i3 hA hB.tail) λz hz=>?_;obtain⟨x,y,hx,hy,e⟩:=jk _ _ z hz;have:=hA.all x hx;have:=hB.head y hy;rw[e];show a.1+b.1<x.1+y.1/\max x.2 y.2<max a.2 b.2;lia
theorem zdt(A B:S):Ok A->Ok B->∀x∈A,∀y∈B,∀w h,x.1+y.1<=w->x.2<=h->y.2<=h->reg (sbs A B) w h:=by
 refine ind' (C:=λA B=>Ok A->Ok B->∀x∈A,∀y∈B,∀w h,x.1+y.1<=w->x.2<=h->y.2<=h->reg (sbs A B) w h) (λb _ _ x hx=>(kN hx).elim) (λa as _ _ x _ y hy=>(kN hy).elim) (λa as b bs i1 i2 i3 hA hB x hx y hy w h e1 e2 e3=>?_) A B;rw[wA];have ax:=hA.all x hx;have by':=hB.all y hy;by_cases c:max a.2 b.2<=h
 .exact ⟨_,ke,show a.1+b.1<=w by lia,c⟩
 .have up:∀L:S,reg L w h->reg ((a.1+b.1,max a.2 b.2)::L) w h:=λL ⟨p,m,z⟩=>⟨p,kg _ m,z⟩;refine up _ ?_;have xa:a.2=max a.2 b.2->x∈as:=λz=>by
   rcases kL.mp hx with e|e
   .rw [e]at e2;lia
   .exact e
  have yb:b.2=max a.2 b.2->y∈bs:=λz=>by
   rcases kL.mp hy with e|e
   .rw [e]at e3;lia
   .exact e
  split
  .rename_i c1;split
   .rename_i c2;exact i1 hA.tail hB.tail x (xa c1) y (yb c2) w h e1 e2 e3
   .exact i2 hA.tail hB x (xa c1) y hy w h e1 e2 e3
  .exact i3 hA hB.tail x hx y (yb ()) w h e1 e2 e3
theorem zcl{A B:S}(hA:Ok A)(hB:Ok B):Same (reg (sbs A B)) (bes (reg A) (reg B)):=λw h=>by
 constructor
 .rintro ⟨z,m,e1,e2⟩;obtain⟨x,y,hx,hy,rfl⟩:=jk A B z m;have e1:x.1+y.1<=w:=e1;have e2:max x.2 y.2<=h:=e2;exact⟨x.1,y.1,e1,⟨x,hx,kc _,()⟩,⟨y,hy,kc _,()⟩⟩
 .rintro ⟨a,b,e,⟨x,hx,x1,x2⟩,⟨y,hy,y1,y2⟩⟩;exact zdt A B hA hB x hx y hy w h () x2 y2
def exch(A:S):S:=A.reverse.map λp=>(p.2,p.1)
theorem jM{A:S}{z:Nat×Nat}:z∈exch A↔(z.2,z.1)∈A:=by
 unfold exch;rw[vh];constructor
 .intro h8;obtain⟨p,hp,rfl⟩:=h8;exact uV.mp hp
 .intro h;exact⟨_,uV.mpr h,rfl⟩
theorem zcm{A:S}(h:Ok A):Ok (exch A):=by
 refine⟨?_,λp hp=>?_⟩
 .unfold exch;rw[List.pairwise_map,List.pairwise_reverse];exact h.1.imp λ⟨a,b⟩=>⟨b,a⟩
 .have:=h.2 _ (jM.mp hp);exact⟨this.2,this.1⟩
theorem za5(A:S):∀w h,reg (exch A) w h↔reg A h w:=λw h=>by
 constructor
 .rintro ⟨p,m,a,b⟩;exact⟨_,jM.mp m,b,a⟩
 .rintro ⟨p,m,a,b⟩;exact⟨(p.2,p.1),jM.mpr m,b,a⟩
def Low(P:R)(w:Nat):Option Nat->Prop
 |none=>∀h,¬P w h
 |some v=>P w v/\∀h,P w h->v<=h
theorem Low.of{P Q:R}(s:Same P Q){w:Nat}:∀{o:Option Nat},Low P w o->Low Q w o
 |none,l=>λh z=>l h ((s _ _).mpr z)
 |some v,l=>⟨(s _ _).mp l.1,λh z=>l.2 h ((s _ _).mpr z)⟩
theorem Low.uniq{P:R}{w:Nat}:∀{a b:Option Nat},Low P w a->Low P w b->a=b
 |none,none,_,_=>rfl
 |none,some v,h,k=>(h v k.1).elim
 |some v,none,h,k=>(k v h.1).elim
 |some v,some u,h,k=>by rw[bI (h.2 u k.1) (k.2 v h.1)]
def xl(ws:List W):R:=λw h=>1<=w/\(∀u∈ws,u.length<=w)/\max 1 (cnt ws (w:Int))<=h
theorem zcn(ws:List W):Up (xl ws):=⟨λ⟨a,b,c⟩ x y=>⟨(),λu hu=>kn (b u hu) x,by
 have:=wy (ws:=ws) (v:=(_:Nat)) (v':=(_:Nat)) (Int.ofNat_le.mpr x) λu hu=>Int.ofNat_le.mpr (b u hu);lia⟩,λ⟨a,b,c⟩=>()⟩
def stN(ws:List W):S:=(xG ws).map λp=>(p.1.toNat,p.2)
theorem Xw{c:Int->Nat}{lo:Int}(h0:1<=lo):∀k:Nat,(∀j:Nat,j<k->c (lo+(j+1:Nat))<=c (lo+j))->(∀j:Nat,j<=k->1<=c (lo+j)) ->
  Ok ((falls c lo k).map λp=>(p.1.toNat,p.2))/\(∀p∈falls c lo k,lo<=p.1/\p.1<=lo+k/\c (lo+k)<=p.2)/\∀w h:Nat,reg ((falls c lo k).map λp=>(p.1.toNat,p.2)) w h↔∃j:Nat,j<=k/\lo+j<=w/\c (lo+j)<=h
 |0,_,hp=>by
  have e0:lo+((0:Nat):Int)=lo:=Int.add_zero _;have p0:=hp 0 (kc _);rw[e0]at p0;refine⟨⟨uy _ _,λp hp=>?_⟩,λp hp=>?_,λw h=>?_⟩
  .have hp:p=(lo.toNat,c lo):=kj.mp hp;rw[hp];exact⟨show 1<=lo.toNat by lia,p0⟩
  .have hp:p=(lo,c lo):=kj.mp hp;rw[hp,e0];exact⟨vU _,vU _,kc _⟩
  .constructor
   .rintro ⟨p,hp,a,b⟩;have hp:p=(lo.toNat,c lo):=kj.mp hp;rw[hp]at a b;have a:lo.toNat<=w:=a;exact⟨0,kc _,(),by rw[e0];exact b⟩
   .rintro ⟨j,hj,a,b⟩;have:j=0:=()
    subst this;rw[e0]at a b;exact⟨(lo.toNat,c lo),kj.mpr rfl,show lo.toNat<=w by lia,b⟩
 |k+1,ha,hp=>by
  obtain⟨i1,i2,i3⟩:=Xw (c:=c) (lo:=lo) h0 k (λj hj=>ha j ()) (λj hj=>hp j ());have hs:=ha k (v9 _);show Ok ((if c (lo+(k+1:Nat))<c (lo+k)then falls c lo k++[(lo+(k+1:Nat),c (lo+(k+1:Nat)))]else falls c lo k).map λp=>(p.1.toNat,p.2))/\(∀p∈(if c (lo+(k+1:Nat))<c (lo+k)then falls c lo k++[(lo+(k+1:Nat),c (lo+(k+1:Nat)))]else falls c lo k),lo<=p.1/\p.1<=lo+(k+1:Nat)/\c (lo+(k+1:Nat))<=p.2)/\∀w h:Nat,reg ((if c (lo+(k+1:Nat))<c (lo+k)then falls c lo k++[(lo+(k+1:Nat),c (lo+(k+1:Nat)))]else falls c lo k).map λp=>(p.1.toNat,p.2)) w h↔∃j:Nat,j<=k+1/\lo+j<=w/\c (lo+j)<=h;by_cases d:c (lo+(k+1:Nat))<c (lo+k)
  .rw [if_pos d];refine⟨⟨?_,λp hp'=>?_⟩,λp hp'=>?_,λw h=>?_⟩
   .rw [kD,vt];refine⟨i1.1,uy _ _,λa ha' b hb=>?_⟩;have hb:b=((lo+(k+1:Nat)).toNat,c (lo+(k+1:Nat))):=kj.mp hb;obtain⟨p,hp',rfl⟩:=vh.mp ha';have:=i2 p hp';rw[hb];exact⟨show p.1.toNat<(lo+(k+1:Nat)).toNat by lia,show c (lo+(k+1:Nat))<p.2 by omega⟩
   .rw [kD]at hp';rcases kQ.mp hp' with e|e
    .exact i1.2 p e
    .have e:p=((lo+(k+1:Nat)).toNat,c (lo+(k+1:Nat))):=kj.mp e;rw[e];exact⟨show 1<=(lo+(k+1:Nat)).toNat by lia,hp (k+1) (kc _)⟩
   .rcases kQ.mp hp' with e|e
    .have:=i2 p e;exact⟨this.1,(),by omega⟩
    .rw [kj.mp e];exact⟨show lo<=lo+(k+1:Nat)by lia,vU _,kc _⟩
   .rw [kD];constructor
    .rintro ⟨p,hp',a,b⟩;rcases kQ.mp hp' with e|e
     .obtain ⟨j,x,y⟩:=(i3 w h).mp ⟨p,e,a,b⟩;exact⟨j,(),y⟩
     .have e:p=((lo+(k+1:Nat)).toNat,c (lo+(k+1:Nat))):=kj.mp e;rw[e]at a b;have a:(lo+(k+1:Nat)).toNat<=w:=a;exact⟨k+1,kc _,(),b⟩
    .rintro ⟨j,x,y,z⟩;rcases Nat.lt_or_eq_of_le x with e|e
     .obtain ⟨p,q1,q2⟩:=(i3 w h).mpr ⟨j,(),y,z⟩;exact⟨p,kU _ q1,q2⟩
     .subst e;exact⟨((lo+(k+1:Nat)).toNat,c (lo+(k+1:Nat))),kG _ (kj.mpr rfl),show(lo+(k+1:Nat)).toNat<=w by lia,z⟩
  .rw [if_neg d];refine⟨i1,λp hp'=>?_,λw h=>?_⟩
   .have:=i2 p hp';exact⟨this.1,(),by omega⟩
   .rw [i3];constructor
    .rintro ⟨j,x,y⟩;exact⟨j,(),y⟩
    .rintro ⟨j,x,y,z⟩;rcases Nat.lt_or_eq_of_le x with e|e
     .exact ⟨j,(),y,z⟩
     .subst e;exact⟨k,kc _,(),()⟩
theorem Xx{ws:List W}{w:Nat}:(∀u∈ws,u.length<=w)↔wid ws<=w:=by
 constructor
 .intro h;by_cases e:ws=[]
  .subst e;exact kR _
  .obtain ⟨u,hu,e⟩:=wR e;have:=h u hu;lia
 .intro h u hu;exact kn (qQ hu) h
theorem zeF{ws:List W}(h1:∀u∈ws,1<=u.length):Ok (stN ws)/\Same (reg (stN ws)) (xl ws):=by
 unfold stN xG;by_cases e:ws=[]
 .subst e;rw[if_pos rfl];refine⟨⟨uy _ _,λp hp=>?_⟩,λw h=>?_⟩
  .have hp:p=(1,1):=kj.mp hp;rw[hp];exact⟨kc _,kc _⟩
  .have c0:cnt [] (w:Int)=0:=bx.mp (Xf [] _);constructor
   .rintro ⟨p,hp,a,b⟩;have hp:p=(1,1):=kj.mp hp;rw[hp]at a b;exact⟨a,λu hu=>(kN hu).elim,by rw[c0];exact b⟩
   .rintro ⟨a,_,b⟩;rw[c0]at b;exact⟨(1,1),kj.mpr rfl,a,b⟩
 .rw [if_neg e];obtain⟨u,hu,eu⟩:=wR e;have w1:1<=wid ws:=by rw[<-eu];exact h1 u hu
  have wt:=Yd e;have fit:∀v:Int,(wid ws:Int)<=v->∀u∈ws,(u.length:Int)<=v:=λv hv u hu=>uO (Int.ofNat_le.mpr (qQ hu)) hv;obtain⟨k1,k2,k3⟩:=Xw (c:=cnt ws) (lo:=(wid ws:Int)) () (total ws-wid ws).toNat (λj _=>wy () (fit _ ())) (λj _=>ji e _);refine⟨k1,λw h=>?_⟩;rw[k3];constructor
  .rintro ⟨j,x,y,z⟩;refine⟨(),Xx.mpr (),?_⟩;have a:=wy (ws:=ws) (v:=(wid ws:Int)+j) (v':=(w:Int)) y (fit _ ());have b:=ji e ((wid ws:Int)+j);lia
  .rintro ⟨a,b,c⟩;have b:=Xx.mp b;by_cases t:(w:Int)<=total ws
   .refine ⟨w-wid ws,(),(),?_⟩;rw[show(wid ws:Int)+((w-wid ws:Nat):Int)=(w:Int)by lia];lia
   .refine ⟨(total ws-wid ws).toNat,kc _,(),?_⟩;have:=Yc (ws:=ws) ((wid ws:Int)+((total ws-wid ws).toNat:Int)) ();lia
open _Tre
mutual
inductive HasR(Ls:List R):T->R->Prop where
 |leaf{i:Int}{P:R}(h0:0<=i)(h:Ls[i.toNat]?=some P):HasR Ls (.int i) P
 |bar{ps:List T}{P:R}{Ps:List R}(h:zJ Ls ps (P::Ps)):HasR Ls (.tup [.str bar,.tup ps]) (Ps.foldl bes P)
 |dash{ps:List T}{P:R}{Ps:List R}(h:zJ Ls ps (P::Ps)):HasR Ls (.tup [.str dash,.tup ps]) (Ps.foldl dwn P)
inductive zJ(Ls:List R):List T->List R->Prop where
 |nil:zJ Ls [] []
 |cons{t:T}{P:R}{ts:List T}{Ps:List R}(h:HasR Ls t P)(r:zJ Ls ts Ps):zJ Ls (t::ts) (P::Ps)
end
theorem zJ.len{Ls:List R}:∀{ts:List T}{Ps:List R},zJ Ls ts Ps->ts.length=Ps.length
 |_,_,.nil=>rfl
 |_,_,.cons _ r=>by rw[kz,kz,r.len]
theorem zJ.get{Ls:List R}:∀{ts:List T}{Ps:List R}{i:Nat}{t:T},zJ Ls ts Ps->ts[i]?=some t->∃P,Ps[i]?=some P/\HasR Ls t P
 |_,_,_,_,.nil,e=>by simp at e
 |_,_,0,_,.cons h _,e=>by simp at e;subst e;exact⟨_,rfl,h⟩
 |_,_,i+1,t,.cons _ r,e=>by
  obtain⟨P,h1,h2⟩:=zJ.get (i:=i) (t:=t) r (by simpa using e);exact⟨P,by simpa using h1,h2⟩
mutual
theorem ZJ{Ls:List R}:∀{t:T}{n:List Int},Good t n->(∀i∈n,0<=i/\i<(Ls.length:Int))->∃P,HasR Ls t P
 |_,_,.leaf i,h=>by
  have:=h i ke;exact⟨_,.leaf this.1 (kf (by omega))⟩
 |_,_,.node (k:=k) (ps:=ps) hk h2 hn hl,h=>by
  obtain⟨Ps,hP⟩:=Xy hl h;have ln:=hP.len;cases Ps with
  |nil=>rw[List.length_nil]at ln;lia
  |cons P Ps =>
   rcases hk with e|e
   .rw [e];exact⟨_,.bar hP⟩
   .rw [e];exact⟨_,.dash hP⟩
theorem Xy{Ls:List R}:∀{ts:List T}{nss:List (List Int)},zE ts nss->(∀i∈nss.flatten,0<=i/\i<(Ls.length:Int))->∃Ps,zJ Ls ts Ps
 |_,_,.nil,_=>⟨[],.nil⟩
 |_,_,.cons h r,hn=>by
  obtain⟨P,hP⟩:=ZJ h λi hi=>hn i (by rw[kP];exact kU _ hi);obtain⟨Ps,hPs⟩:=Xy r λi hi=>hn i (by rw[kP];exact kG _ hi);exact⟨P::Ps,.cons hP hPs⟩
end
theorem ZL{f:R->R->R}(hf:∀P Q,Up P->Up Q->Up (f P Q)):∀(Ps:List R)(P:R),Up P->(∀Q∈Ps,Up Q)->Up (Ps.foldl f P)
 |[],P,h,_=>h
 |Q::Ps,P,h,k=>ZL hf Ps (f P Q) (hf P Q h (k Q ke)) λU hU=>k U (kg _ hU)
mutual
theorem HasR.up{Ls:List R}(hL:∀L∈Ls,Up L):∀{t:T}{P:R},HasR Ls t P->Up P
 |_,_,.leaf _ h=>hL _ (kH h)
 |_,_,.bar h=>ZL (λ_ _ a b=>Xu a b) _ _ (zJ.up hL h _ ke) λQ hQ=>zJ.up hL h Q (kg _ hQ)
 |_,_,.dash h=>ZL (λ_ _ a b=>Xv a b) _ _ (zJ.up hL h _ ke) λQ hQ=>zJ.up hL h Q (kg _ hQ)
theorem zJ.up{Ls:List R}(hL:∀L∈Ls,Up L):∀{ts:List T}{Ps:List R},zJ Ls ts Ps->∀P∈Ps,Up P
 |_,_,.nil,P,hP=>(kN hP).elim
 |_,_,.cons h r,P,hP=>by
  rcases kL.mp hP with e|e
  .rw [e];exact HasR.up hL h
  .exact zJ.up hL r P e
end
theorem JF{i:Int}{n:List Int}(g:Good (.int i) n):n=[i]:=by
 cases g;rfl
theorem Yj{k:PySem.Str}{ps:List T}{n:List Int}(g:Good (.tup [.str k,.tup ps]) n):∃nss,n=nss.flatten/\zE ps nss:=by
 cases g with
 |node _ _ _ h=>exact⟨_,rfl,h⟩
theorem JG{n:List (List Int)}(g:zE [] n):n=[]:=by
 cases g;rfl
theorem Qm{t:T}{ts:List T}{n:List (List Int)}(g:zE (t::ts) n):∃a r,n=a::r/\Good t a/\zE ts r:=by
 cases g with
 |cons h r=>exact⟨_,_,rfl,h,r⟩
def OkS(A:S)(P:R):Prop:=Ok A/\Same (reg A) P
inductive OkSs:List S->List R->Prop where
 |nil:OkSs [] []
 |cons{A:S}{P:R}{As:List S}{Ps:List R}(h:OkS A P)(r:OkSs As Ps):OkSs (A::As) (P::Ps)
theorem OkSs.snoc:∀{As:List S}{Ps:List R}{A:S}{P:R},OkSs As Ps->OkS A P->OkSs (As++[A]) (Ps++[P])
 |_,_,_,_,.nil,h=>.cons h .nil
 |_,_,_,_,.cons k r,h=>.cons k (OkSs.snoc r h)
theorem OkSs.get:∀{As:List S}{Ps:List R}{i:Nat}{P:R},OkSs As Ps->Ps[i]?=some P->∃A,As[i]?=some A/\OkS A P
 |_,_,_,_,.nil,e=>by simp at e
 |_,_,0,_,.cons h _,e=>by simp at e;subst e;exact⟨_,rfl,h⟩
 |_,_,i+1,P,.cons _ r,e=>by
  obtain⟨A,h1,h2⟩:=OkSs.get (i:=i) (P:=P) r (by simpa using e);exact⟨A,by simpa using h1,h2⟩
theorem jN:∀{As:List S}{Ps:List R}{A:S}{P:R},OkSs As Ps->OkS A P->OkS (As.foldl sbs A) (Ps.foldl bes P)
 |_,_,_,_,.nil,h=>h
 |_,_,A,P,.cons (A:=B) (P:=Q) k r,h=>by
  rw[uN,uN];exact jN (A:=sbs A B) (P:=bes P Q) r ⟨zds _ _ h.1 k.1,(zcl h.1 k.1).trans (za4 h.2 k.2)⟩
def tr(P:R):R:=λw h=>P h w
theorem OkS.exch{A:S}{P:R}(h:OkS A P):OkS (exch A) (tr P):=⟨zcm h.1,λw k=>(za5 A w k).trans (h.2 k w)⟩
theorem OkSs.exch:∀{As:List S}{Ps:List R},OkSs As Ps->OkSs (As.map _Sta.exch) (Ps.map tr)
 |_,_,.nil=>.nil
 |_,_,.cons h r=>.cons h.exch (OkSs.exch r)
theorem Wx:∀(Ps:List R)(P:R),tr ((Ps.map tr).foldl bes (tr P))=Ps.foldl dwn P
 |[],P=>rfl
 |Q::Ps,P=>Wx Ps (dwn P Q)
theorem zco(A B:S):(sbs A B).length<=A.length+B.length:=by
 refine ind' (C:=λA B=>(sbs A B).length<=A.length+B.length) (λb=>?_) (λa as=>?_) (λa as b bs i1 i2 i3=>?_) A B
 .rw [jj];exact kR _
 .rw [qj];exact kR _
 .rw [wA,kz,kz,kz];rw[kz]at i2 i3;split
  .split<;>lia
  .lia
theorem qk:∀(As:List S)(A:S),(As.foldl sbs A).length<=A.length+(As.map List.length).sum
 |[],A=>kc _
 |B::As,A=>by
  have:=qk As (sbs A B);have:=zco A B;rw[uN,k8,k9];lia
theorem jO(A:S):(exch A).length=A.length:=by
 unfold exch;rw[ka,bN]
theorem JH(As:List S):(As.map exch).map List.length=As.map List.length:=by
 rw[vE];exact vS λA _=>jO A
end _Sta
namespace _L2
open PySem PySem.Spec PyProof.Rows
section
variable{g:TG}{tc:TT}{te:TE}{σ0:St}{H0:Hp}{R:List V->Hp->Prop}{K:Frag}{a:Addr}{xs:List V}
theorem zcp(Pv:Nat->List V->St->Hp->Prop)(h0:Pv 0 [] σ0 H0)(hz:∀i ys σ H,i<=xs.length->Pv i ys σ H->ys.length<=sizeLine/\SqL K H a xs)(hst:∀ys σ H,Pv xs.length ys σ H->R ys H)
  (hgo:∀i x ys σ H,i<xs.length->xs[xs.length-1-i]?=some x->Pv i ys σ H->g x σ H λσ2 H3=>tc σ2 H3 λb H4=>if b=true then te σ2 H4 λy H5=>Pv (i+1) (ys++[y]) σ2 H5 else Pv (i+1) ys σ2 H4):
  ∃W:Nat->Nat->List V->St->Hp->Prop,(∃m,W 0 m [] σ0 H0)/\∀i m ys σ' H',W i m ys σ' H' ->
   ((ItR K a xs.length).stop i H'/\ys.length<=sizeLine/\R ys H') \/
   ((ItR K a xs.length).go i H'/\ys.length<=sizeLine/\∃N:List V->St->Hp->Prop,(∀ys' σ2 H2,N ys' σ2 H2->∃m',m'<m/\W (i+1) m' ys' σ2 H2) /\
     ∀x H2,(ItR K a xs.length).yld i H' x H2->g x σ' H2 λσ2 H3=>tc σ2 H3 λb H4=>if b=true then te σ2 H4 λy H5=>N (ys++[y]) σ2 H5 else N ys σ2 H4) :=
 x9 (n:=xs.length) Pv h0 (λi ys σ H hi p=>(hz i ys σ H hi p).1) (λys σ H p=>⟨kc _,hst ys σ H p⟩)
  λi ys σ H hi p=>⟨⟨hi,xs,(hz i ys σ H (vw hi) p).2,rfl⟩,λx H2 y=>by
   obtain⟨e,y⟩:=y;subst e;exact hgo i x ys σ _ hi (y xs (hz i ys σ _ (vw hi) p).2) p⟩
end
def GT(mg:Str->Option Value)(x:Str)(v:Str):Prop:=∃t,mg x=some (.str v t)
theorem zbC{X:Cx}{x v:Str}{pos:Pos}(hg:Gl X x)(h:GT X.mg x v)(hd:(x==("__debug__" : Str))=false:=by decide):PE X (.Name x pos) (tC (.str v)):=by
 obtain⟨t,h⟩:=h;exact Zp hg h ⟨t,rfl⟩ hd
end _L2
namespace _JK
open PySem _L2 _Lin _Tre PySem.W
open _Sta (R Ok sbs exch reg OkS OkSs stN)
variable{P:Program}{w:World}{K:Frag}{mg:Str->Option Value}{base:Heap}{kA:Addr}
abbrev Stc:=_Sta.S
def JT(H:Hp)(x:V)(b:Bool):Prop:=(∃(a:Addr)(xs:List V)(bs:List Bool),x=.ref a/\H a=some (.lst xs)/\JWs H xs bs/\xs.length<=1000/\b=(bs.all id&&decide (xs.length<=40)))\/(b=false/\NoL H x)
theorem JT.same{H H':Hp}(S:Same H H'){x:V}{b:Bool}(h:JT H x b):JT H' x b:=by
 rcases h with⟨a,xs,bs,e,h1,h2,h3,h4⟩|⟨e,h⟩
 .exact .inl ⟨a,xs,bs,e,S _ _ h1,h2.same S,h3,h4⟩
 .exact .inr ⟨e,h.same S⟩
def JTs(H:Hp):List V->List Bool->Prop:=Paired (JT H)
theorem JTs.same{H H':Hp}(S:Same H H'):∀{vs:List V}{bs:List Bool},JTs H vs bs->JTs H' vs bs
 |_,_,.nil=>.nil
 |_,_,.cons h t=>.cons (h.same S) (JTs.same S t)
theorem JTs.len{H:Hp}{vs:List V}{bs:List Bool}(h:JTs H vs bs):vs.length=bs.length:=Paired.length h
theorem JTs.get{H:Hp}:∀{vs:List V}{bs:List Bool}{i:Nat}{v:V},JTs H vs bs->vs[i]?=some v->∃b,bs[i]?=some b/\JT H v b
 |_,_,_,_,.nil,e=>by simp at e
 |_,_,0,_,.cons r _,e=>by simp at e;subst e;exact⟨_,rfl,r⟩
 |_,_,i+1,v,.cons _ t,e=>by
  obtain⟨p,h1,h2⟩:=JTs.get (i:=i) (v:=v) t (by simpa using e);exact⟨p,by simpa using h1,h2⟩
def Tx(H:Hp)(v:V)(ws:List W):Prop:=∃a,v=.ref a/\H a=some (.lst (tx ws))/\(∀u∈ws,okW u)/\ws.length<=40
theorem Tx.same{H H':Hp}(S:Same H H'){v:V}{ws:List W}(h:Tx H v ws):Tx H' v ws:=let ⟨a,e,z,r⟩:=h;⟨a,e,S _ _ z,r⟩
def Txs(H:Hp):List V->List (List W)->Prop:=Paired (Tx H)
theorem Txs.same{H H':Hp}(S:Same H H'):∀{vs:List V}{ts:List (List W)},Txs H vs ts->Txs H' vs ts
 |_,_,.nil=>.nil
 |_,_,.cons h t=>.cons (h.same S) (Txs.same S t)
theorem Txs.len{H:Hp}{vs:List V}{ts:List (List W)}(h:Txs H vs ts):vs.length=ts.length:=Paired.length h
theorem Txs.get{H:Hp}:∀{vs:List V}{ts:List (List W)}{i:Nat}{v:V},Txs H vs ts->vs[i]?=some v->∃t,ts[i]?=some t/\Tx H v t
 |_,_,_,_,.nil,e=>by simp at e
 |_,_,0,_,.cons r _,e=>by simp at e;subst e;exact⟨_,rfl,r⟩
 |_,_,i+1,v,.cons _ t,e=>by
  obtain⟨p,h1,h2⟩:=Txs.get (i:=i) (v:=v) t (by simpa using e);exact⟨p,by simpa using h1,h2⟩
theorem Txs.snoc{H:Hp}{vs:List V}{ts:List (List W)}{v:V}{t:List W}(h:Txs H vs ts)(r:Tx H v t):Txs H (vs++[v]) (ts++[t]):=Paired.snoc h r
theorem Tx.jt{H:Hp}{v:V}{ws:List W}(h:Tx H v ws):JT H v true:=by
 obtain⟨a,e,z,hw,l⟩:=h;refine .inl ⟨a,_,_,e,z,jI hw,by rw[zR];lia,?_⟩;rw[zR,decide_eq_true l];simp
theorem Txs.jts{H:Hp}:∀{vs:List V}{ts:List (List W)},Txs H vs ts->JTs H vs (kq vs.length true)
 |_,_,.nil=>.nil
 |_,_,.cons h t=>.cons h.jt (Txs.jts t)
def StAt(H:Hp)(v:V)(p:Nat×Nat):Prop:=∃a,v=.ref a/\H a=some (.tup [.int (p.1:Int),.int (p.2:Int)])
def zT(H:Hp):List V->Stc->Prop:=Paired (StAt H)
theorem StAt.same{H H':Hp}(S:Same H H'){v:V}{p:Nat×Nat}(h:StAt H v p):StAt H' v p:=let ⟨a,e,z⟩:=h;⟨a,e,S _ _ z⟩
theorem zT.same{H H':Hp}(S:Same H H'):∀{vs:List V}{ps:Stc},zT H vs ps->zT H' vs ps
 |_,_,.nil=>.nil
 |_,_,.cons h t=>.cons (h.same S) (zT.same S t)
theorem zT.len{H:Hp}{vs:List V}{ps:Stc}(h:zT H vs ps):vs.length=ps.length:=Paired.length h
theorem zT.get{H:Hp}:∀{vs:List V}{ps:Stc}{i:Nat}{p:Nat×Nat},zT H vs ps->ps[i]?=some p->∃v,vs[i]?=some v/\StAt H v p
 |_,_,_,_,.nil,e=>by simp at e
 |_,_,0,_,.cons r _,e=>by simp at e;subst e;exact⟨_,rfl,r⟩
 |_,_,i+1,p,.cons _ t,e=>by
  obtain⟨v,h1,h2⟩:=zT.get (i:=i) (p:=p) t (by simpa using e);exact⟨v,by simpa using h1,h2⟩
theorem zT.get'{H:Hp}:∀{vs:List V}{ps:Stc}{i:Nat}{v:V},zT H vs ps->vs[i]?=some v->∃p,ps[i]?=some p/\StAt H v p
 |_,_,_,_,.nil,e=>by simp at e
 |_,_,0,_,.cons r _,e=>by simp at e;subst e;exact⟨_,rfl,r⟩
 |_,_,i+1,v,.cons _ t,e=>by
  obtain⟨p,h1,h2⟩:=zT.get' (i:=i) (v:=v) t (by simpa using e);exact⟨p,by simpa using h1,h2⟩
theorem zT.snoc{H:Hp}{vs:List V}{ps:Stc}{v:V}{p:Nat×Nat}(h:zT H vs ps)(r:StAt H v p):zT H (vs++[v]) (ps++[p]):=Paired.snoc h r
theorem zT.upd{H:Hp}{l:Addr}{xs:List V}{o':HO}(hl:H l=some (.lst xs)):∀{vs:List V}{ps:Stc},zT H vs ps->zT (upd H l o') vs ps
 |_,_,.nil=>.nil
 |_,_,.cons ⟨a,e,z⟩ t=>.cons ⟨a,e,by rw[zr (xc z hl (by intro y;cases y))];exact z⟩ (zT.upd hl t)
theorem yh.sts{H:Hp}:∀{vs:List V}{ps:List (Int×Nat)},yh H vs ps->(∀p∈ps,0<=p.1)->zT H vs (ps.map λp=>(p.1.toNat,p.2))
 |_,_,.nil,_=>.nil
 |_,_,.cons (b:=p) ⟨a,e,z⟩ t,h=>by
  refine .cons ⟨a,e,?_⟩ (yh.sts t λp hp=>h p (kg _ hp));have:=h p ke;rw[z];show some (HO.tup [V.int p.1,V.int (p.2:Int)])=some (HO.tup [V.int ((p.1.toNat:Nat):Int),V.int (p.2:Int)]);rw[Int.toNat_of_nonneg this]
def BsAt(H0 H:Hp)(v:V)(A:Stc):Prop:=∃l us,v=.ref l/\H0 l=none/\H l=some (.lst us)/\zT H us A
def yi(H0 H:Hp):List V->List Stc->Prop:=Paired (BsAt H0 H)
theorem BsAt.same{H0 H H':Hp}(S:Same H H'){v:V}{A:Stc}(h:BsAt H0 H v A):BsAt H0 H' v A:=let ⟨l,us,e,n,z,s⟩:=h;⟨l,us,e,n,S _ _ z,s.same S⟩
theorem yi.same{H0 H H':Hp}(S:Same H H'):∀{vs:List V}{As:List Stc},yi H0 H vs As->yi H0 H' vs As
 |_,_,.nil=>.nil
 |_,_,.cons h t=>.cons (h.same S) (yi.same S t)
theorem yi.len{H0 H:Hp}{vs:List V}{As:List Stc}(h:yi H0 H vs As):vs.length=As.length:=Paired.length h
theorem yi.get{H0 H:Hp}:∀{vs:List V}{As:List Stc}{i:Nat}{A:Stc},yi H0 H vs As->As[i]?=some A->∃v,vs[i]?=some v/\BsAt H0 H v A
 |_,_,_,_,.nil,e=>by simp at e
 |_,_,0,_,.cons r _,e=>by simp at e;subst e;exact⟨_,rfl,r⟩
 |_,_,i+1,p,.cons _ t,e=>by
  obtain⟨v,h1,h2⟩:=yi.get (i:=i) (A:=p) t (by simpa using e);exact⟨v,by simpa using h1,h2⟩
theorem yi.get'{H0 H:Hp}:∀{vs:List V}{As:List Stc}{i:Nat}{v:V},yi H0 H vs As->vs[i]?=some v->∃A,As[i]?=some A/\BsAt H0 H v A
 |_,_,_,_,.nil,e=>by simp at e
 |_,_,0,_,.cons r _,e=>by simp at e;subst e;exact⟨_,rfl,r⟩
 |_,_,i+1,v,.cons _ t,e=>by
  obtain⟨p,h1,h2⟩:=yi.get' (i:=i) (v:=v) t (by simpa using e);exact⟨p,by simpa using h1,h2⟩
theorem yi.snoc{H0 H:Hp}{vs:List V}{As:List Stc}{v:V}{A:Stc}(h:yi H0 H vs As)(r:BsAt H0 H v A):yi H0 H (vs++[v]) (As++[A]):=Paired.snoc h r
def JI:Sp:=λvs H Q _=>∃(x:V)(b:Bool),vs=[x]/\JT H x b/\∀H',Same H H'->Q (.bl b) H'
def Qn(C4 C6:Addr):Sp:=λvs H Q E=>∃(x y:V)(t:T),vs=[x,y]/\At H x t/\sz t<=1000 /\
 ((∃(n:List Int)(a:Addr)(xs:List V)(bs:List Bool),zX t/\Good t n/\y=.ref a/\H a=some (.lst xs)/\JTs H xs bs/\xs.length<=1000/\((xs.length=n.length/\bs.all id=true/\∀H',Same H H'->Q .non H')\/((xs.length≠n.length\/bs.all id=false)/\∀H',Same H H'->E (.ref C6) none H'))) \/
  (zX t/\NoL H y/\∀H',Same H H'->E (.ref C6) none H')\/(¬zX t/\∀H',Same H H'->E (.ref C4) none H'))
def zbD:Sp:=λvs H Q _=>∃(a b:Addr)(us ws:List V)(A B:Stc),vs=[.ref a,.ref b]/\H a=some (.lst us)/\H b=some (.lst ws)/\zT H us A/\zT H ws B/\A.length+B.length<=1000000 /\
 ∀(l:Addr)(rs:List V)(H':Hp),Same H H'->H l=none->H' l=some (.lst rs)->zT H' rs (sbs A B)->Q (.ref l) H'
def Qo:Sp:=λvs H Q _=>∃(a:Addr)(us:List V)(A:Stc)(As:List Stc)(H0:Hp),vs=[.ref a]/\H a=some (.lst us)/\yi H0 H us (A::As)/\Same H0 H/\A.length+(As.map List.length).sum<=1000000/\As.length<=1000 /\
 ∀(l:Addr)(rs:List V)(H':Hp),Same H H'->H0 l=none->H' l=some (.lst rs)->zT H' rs (As.foldl sbs A)->Q (.ref l) H'
def Xz:Sp:=λvs H Q _=>∃(a:Addr)(us:List V)(A:Stc),vs=[.ref a]/\H a=some (.lst us)/\zT H us A/\A.length<=1000000 /\
 ∀(l:Addr)(rs:List V)(H':Hp),Same H H'->H l=none->H' l=some (.lst rs)->zT H' rs (exch A)->Q (.ref l) H'
def Qp:Sp:=λvs H Q _=>∃(a:Addr)(us:List V)(wss:List (List W)),vs=[.ref a]/\H a=some (.lst us)/\Txs H us wss/\wss.length<=1000 /\
 ∀(l:Addr)(rs:List V)(H':Hp),Same H H'->H l=none->H' l=some (.lst rs)->yi H H' rs (wss.map stN)->Q (.ref l) H'
structure Ns(K:Frag)(mg:Str->Option Value):Prop where
 gWIDE:GI mg "WIDE" 0
 gHIGH:GI mg "HIGH" 1
 gMOST_WORDS:GI mg "MOST_WORDS" 40
 gACROSS:GT mg "ACROSS" "|"
 tl:mg "len"=none
 ti:mg "isinstance"=none
 tlist:mg "list"=none
 tall:mg "all"=none
 tmax:mg "max"=none
 trev:mg "reversed"=none
 kNl:kC K (.type "NoneType") (.type "list")=some false
 kSl:kC K (.type "str") (.type "list")=some false
 kIl:kC K (.type "int") (.type "list")=some false
 kTl:kC K (.type "tuple") (.type "list")=some false
 kDl:kC K (.type "dict") (.type "list")=some false
 kBl:kC K (.type "bool") (.type "list")=some false
theorem NoL.tyS{K:Frag}{mg:Str->Option Value}(Z:Ns K mg){H:Hp}{x:V}(h:NoL H x):∃t,TyX K H x t/\kC K t (.type "list")=some false:=by
 cases h with
 |non=>exact⟨_,.of .non,Z.kNl⟩
 |bl b=>exact⟨_,.of (.bl b),Z.kBl⟩
 |int i=>exact⟨_,.of (.int i),Z.kIl⟩
 |str x=>exact⟨_,.of (.str x),Z.kSl⟩
 |tup e=>exact⟨_,.of (.tup e),Z.kTl⟩
 |dK e=>exact⟨_,.of (.dK e),Z.kDl⟩
theorem zdu:zn ["thing"] ["thing"] (zj Qe):=by trivial
theorem zcq{f fA:Addr}{fd dA:FuncData}(F:Fun K "is_text" "is_text" Qe f fd)(Z:Ns K mg)(Ar:Callee P w K mg base CX0 3 "are_words" fA dA ["things"] Qh):FnOk P w K mg base CX0 4 f fd ["thing"] JI:=by
 obtain⟨gWIDE,gHIGH,gMOST_WORDS,gACROSS,tl,ti,tlist,tall,tmax,trev,_,_,_,_,_,_⟩:=Z;refine F.ok zdu (λvs H Q E h=>?_) (λcdv A outer s H vs Q E hr h=>?_)
 .refine E_2 h λx b n8=>A_2 n8 λe9 _=>?_;clear n8 h;subst e9;rfl
 .refine E_2 h λx b n8=>A_3 n8 λe9 hJ q=>?_;clear n8 h;subst e9;refine⟨_,(zf (zl (xE (zh Ar.ok hr rfl Ar.bound Ar.kp Ar.bd .nil zx (za (pv 0) zb)) (xS (yu xZ (zi zm (by rfl) tl kO (za (pv 0) zb)) (zD rfl gMOST_WORDS) (zu _)))))),?_⟩;rcases hJ with⟨a,xs,bs,rfl,ha,hw,hl,rfl⟩|⟨rfl,hn⟩
  .refine ⟨_,rfl,_,rfl,.inl ⟨a,xs,bs,rfl,ha,hw,hl,λH1 S1=>⟨_,rfl,?_⟩⟩⟩;have qq:=q H1 S1;cases e:bs.all id with
   |false =>
    rw[e]at qq;exact iteF qq
   |true =>
    rw[e]at qq;refine iteT ⟨_,rfl,a,xs,rfl,.inl (SqL.of (S1 _ _ ha)),_,_,rfl,rfl,?_⟩;have e2:decide ((xs.length:Int)<=40)=decide (xs.length<=40):=by rw[decide_eq_decide];lia
    show Q (.bl (decide ((xs.length:Int)<=40))) H1;rw[e2];exact qq
  .exact ⟨_,rfl,_,rfl,.inr ⟨hn,_,rfl,iteF (q H (Same.refl _))⟩⟩
theorem zbE:zn ["tree","texts","many"] ["tree","texts"] (zj sRTx):=by trivial
theorem zdv{f fB fI C4 C6:Addr}{fd dB dI:FuncData}(F:Fun K "refuse_no_texts" "refuse_no_texts" sRTx f fd)(Z:Ns K mg)(ex:Exc K mg "NoTexts" C6)(Bo:Callee P w K mg base (CXE P w) 7 "boxes_of" fB dB ["tree"] (Ww C4))(It:Callee P w K mg base CX0 4 "is_text" fI dI ["thing"] JI):
  FnOk P w K mg base (CXE P w) 8 f fd ["tree","texts"] (Qn C4 C6):=by
 have Z0:=Z;obtain⟨gWIDE,gHIGH,gMOST_WORDS,gACROSS,tl,ti,tlist,tall,tmax,trev,_,_,_,_,_,_⟩:=Z;refine F.okE zbE (λvs H Q E h=>?_) (λcdv A outer s H vs Q E hr hh h=>?_)
 .refine E_3 h λx y t n8=>A_2 n8 λe9 _=>?_;clear n8 h;subst e9;rfl
 .revert h;intro n7;refine E_3 n7 λx y t n8=>A_4 n8 λe9 hA hz h=>?_;clear n8 n7;subst e9;refine⟨_,(ze (zo (i:=2) zbE.nd rfl (Or.inl rfl) (zh Bo.ok hr rfl Bo.bound Bo.kp Bo.bd .nil y7 (za (pv 0) zb)))
   (ze (zL (PW.pt (xf (yL (yw (zi yG (by rfl) ti vg (za (pv 1) (za (xp rfl tlist PyProof.Rows.boot_list) zb))))) (xn (zy jg (zi zm (by rfl) tl kO (za (pv 1) zb)) (pv 2) (zu _)))))
   (zf (y6 ex hh rfl (za zW zb)))
   zF)
   (zf (zL (yL (yw (zi (xW rfl) (by rfl) tall uI (za (zP (Nc:=["text"]) (ix:=[none]) rfl rfl (by refine' zY ?zz;case zz=>exact(pv 1)) (λ_ _ _ _ _=>(zt (i:=0) (by show(["text"]:List Str).Nodup;decide +kernel) rfl (Or.inl rfl))) (λ_ _ _ _ _=>zS) (λ_ _ _ _ _=>(zh It.ok (hr.mono (show 4<=7 by decide)) rfl It.bound It.kp It.bd .nil zx (za (pv 0) zb)))) zb))))
   (zf (y6 ex hh rfl (za zW zb)))
   zF)))),?_⟩
  rcases h with⟨n,a,xs,bs,iT,g,rfl,ha,hJ,hl,h⟩|⟨iT,hn,qe⟩|⟨nT,qe⟩
  .refine ⟨_,rfl,x,t,rfl,hA,hz,.inl ⟨n,iT,g,λH1 S1=>?_⟩⟩;refine⟨_,rfl,_,_,_,_,rfl,rfl,.of (.lst (S1 _ _ ha)),rfl,_,rfl,iteF ?_⟩;refine⟨_,rfl,a,xs,rfl,.inl (SqL.of (S1 _ _ ha)),_,rfl,rfl,_,rfl,?_⟩;have el:(!decide (V.int (xs.length:Int)=V.int (n.length:Int)))=decide (xs.length≠n.length):=by
    by_cases e:xs.length=n.length
    .rw [e];simp
    .rw [decide_eq_true e,decide_eq_false λz=>e (by injection z with z;lia)];rfl
   rw[el];by_cases en:xs.length=n.length
   .rw [decide_eq_false (λz=>z en)];refine iteF ?_;refine zV ?_;dsimp only;have hJ1:=hJ.same S1;have lb:=hJ.len;refine⟨_,rfl,a,rfl,⟨_,SqL.of (S1 _ _ ha)⟩,ye (K:=K) (a:=a) (xs:=xs) (λi ys σ H'=>ys=(bs.take i).map V.bl/\Same H H'/\∃o,σ=[o]) ⟨rfl,S1,none,rfl⟩
     (λi ys σ H' hi h9=>by obtain⟨e,S,_⟩:=h9;exact(⟨by rw[e,ka,kJ];exact kn (show _<=1000 by lia) ⋯,SqL.of (S _ _ ha)⟩)) ?_ ?_⟩
    case refine_2 =>
     rintro i v ys σ H' hx ⟨rfl,S,o,rfl⟩;obtain⟨b,hb,hj⟩:=hJ.get hx;obtain⟨hil,ev⟩:=kh.mp hb;dsimp only[zU,tYes];refine iteT ?_;refine⟨_,rfl,v,b,rfl,hj.same S,λH2 S2=>⟨?_,S.trans S2,_,rfl⟩⟩;rw[<-kF hil,ev,kD];rfl
    rintro ys σ H2 ⟨rfl,S2,_⟩ pl npl;rw[lb,kM];have S3:=S2.trans (zd (o:=.lst (bs.map V.bl)) npl);refine⟨pl,bs,rfl,SqL.of zc,_,rfl,?_⟩;rcases h with⟨_,eb,q⟩|⟨eb,qe⟩
    .rw [eb];exact iteF (q _ S3)
    .rw [eb.resolve_left (λz=>z en)];exact iteT ⟨Zz1,qe _ S3⟩
   .rw [decide_eq_true en];rcases h with⟨z,_⟩|⟨_,qe⟩
    .exact absurd z en
    .exact iteT ⟨Zz1,qe H1 S1⟩
  .obtain ⟨m,gm,_⟩:=iT;refine⟨_,rfl,x,t,rfl,hA,hz,.inl ⟨m,⟨m,gm,‹_›⟩,gm,λH1 S1=>?_⟩⟩;obtain⟨ty,h1,h2⟩:=(hn.same S1).tyS Z0;exact⟨_,rfl,_,_,_,_,rfl,rfl,h1,h2,_,rfl,iteT (iteT ⟨Zz1,qe H1 S1⟩)⟩
  .exact ⟨_,rfl,x,t,rfl,hA,hz,.inr ⟨nT,qe⟩⟩
theorem JJ{ws:List W}(h:∀u∈ws,okW u):pos ws ws.length<=13*(ws.length:Int):=by
 rw[<-Ws];have:∀l:List W,(∀u∈l,okW u)->(l.map λu=>(u.length:Int)).sum<=12*(l.length:Int):=by
  intro l
  induction l with
  |nil=>intro _;decide
  |cons a r ih =>
   intro h;have:=ih λu hu=>h u (kg _ hu);have:=(h a ke).2.1;rw[k8,k9,kz];lia
 have:=this ws h;lia
theorem Wy{ws:List W}(h:∀u∈ws,okW u)(h40:ws.length<=40):(stN ws).length<=600:=by
 unfold stN xG;rw[ka];split
 .show 1<=600;decide
 .have:=qP (c:=cnt ws) (lo:=(wid ws:Int)) (total ws-wid ws).toNat;have:=JJ h;unfold total at *;omega
theorem Yv{us:List V}{i:Nat}{v:V}(h:us[i]?=some v):atI us (i:Int)=some v:=xH h
theorem wG:zn ["one","other","stairs","first","second","wide","high"] ["one","other"] (zj sSbs):=by trivial
theorem zdw{f:Addr}{fd:FuncData}(F:Fun K "side_by_side" "side_by_side" sSbs f fd)(Z:Ns K mg):FnOk P w K mg base CX0 1 f fd ["one","other"] zbD:=by
 obtain⟨gWIDE,gHIGH,gMOST_WORDS,gACROSS,tl,ti,tlist,tall,tmax,trev,_,_,_,_,_,_⟩:=Z;refine F.ok wG (λvs H Q E h=>?_) (λcdv A outer s H vs Q E hr h=>?_)
 .refine E_6 h λa b us ws A B n8=>A_2 n8 λe9 _=>?_;clear n8 h;subst e9;rfl
 .refine E_6 h λa b us ws A1 B1 n8=>A_7 n8 λe9 ha hb hA hB hn q=>?_;clear n8 h;subst e9;refine⟨_,(ze (zo (i:=2) wG.nd rfl (Or.inl rfl) (zO zb))
   (ze (zo (i:=3) wG.nd rfl (Or.inl rfl) zg)
   (ze (zo (i:=4) wG.nd rfl (Or.inl rfl) zg)
   (ze (wY PassesOwn.never (PW.pt (wo (zy xh (pv 3) (zi zm (by rfl) tl kO (za (pv 0) zb)) (zu _)) (x6 (zy xh (pv 4) (zi zm (by rfl) tl kO (za (pv 1) zb)) (zu _)))))
   (ze (zo (i:=5) wG.nd rfl (Or.inl rfl) (zA ym (zk zG (zk zC (pv 0) (pv 3) (λ_ _=>rfl)) (zD rfl gWIDE) (λ_ _=>rfl)) (zk zG (zk zC (pv 1) (pv 4) (λ_ _=>rfl)) (zD rfl gWIDE) (λ_ _=>rfl))))
    (ze (zo (i:=6) wG.nd rfl (Or.inl rfl) (zi (qE rfl) (by rfl) tmax u6 (za (zk zG (zk zC (pv 0) (pv 3) (λ_ _=>rfl)) (zD rfl gHIGH) (λ_ _=>rfl)) (za (zk zG (zk zC (pv 1) (pv 4) (λ_ _=>rfl)) (zD rfl gHIGH) (λ_ _=>rfl)) zb))))
    (ze (ya (yq k4 vn vo yt (pv 2) (za (yM (za (pv 5) (za (pv 6) zb))) zb)))
    (ze (zL (zy xq (zk zG (zk zC (pv 0) (pv 3) (λ_ _=>rfl)) (zD rfl gHIGH) (λ_ _=>rfl)) (pv 6) (zu _))
    (zf (QQ (i:=3) wG.nd rfl (Or.inl rfl) zg QR))
    zF)
    (zf (zL (zy xq (zk zG (zk zC (pv 1) (pv 4) (λ_ _=>rfl)) (zD rfl gHIGH) (λ_ _=>rfl)) (pv 6) (zu _))
    (zf (QQ (i:=4) wG.nd rfl (Or.inl rfl) zg QR))
    zF)))))))
   (zf (zl (pv 2))))))),?_⟩
  have la:=hA.len;have lb:=hB.len;refine wf ⟨Zz0,λl nl=>?_⟩;have S1:=zd (o:=.lst []) nl;have hl1:(upd H l (.lst [])) l=some (.lst []):=zc;generalize upd H l (.lst [])=H1 at S1 hl1;dsimp only;refine run_seq (ZA (λm σ H2=>∃(i j:Nat)(out:Stc)(rs:List V)(o5 o6:Option V),m=A1.length+B1.length-(i+j)/\i<=A1.length/\j<=B1.length/\out.length<=i+j/\out++sbs (A1.drop i) (B1.drop j)=sbs A1 B1 /\
   σ=[some (.ref a),some (.ref b),some (.ref l),some (.int (i:Int)),some (.int (j:Int)),o5,o6]/\Same H H2/\H2 l=some (.lst rs)/\zT H2 rs out) _
   ⟨0,0,[],[],none,none,rfl,kR _,kR _,kc _,rfl,rfl,S1,hl1,.nil⟩ ?_)
  intro m σ H2 h8;refine E_6 h8 λi j out rs o5 o6 n8=>A_9 n8 λe9 hi hj ho eo n94 S2 hl2 hR=>?_;clear n8 h8;subst e9;subst n94;refine⟨(i:Int)<(us.length:Int)/\(j:Int)<(ws.length:Int),inferInstance,zb1 (z8 (z5 (zp rfl) (yI (zp rfl) (SqL.of (S2 _ _ ha))))) (z8 (z5 (zp rfl) (yI (zp rfl) (SqL.of (S2 _ _ hb))))),λc=>?_,λc=>?_⟩
  .have hi':i<A1.length:=by omega
   have hj':j<B1.length:=()
   obtain⟨p,ep⟩:∃p,A1[i]?=some p:=⟨_,kf hi'⟩;obtain⟨r,er⟩:∃r,B1[j]?=some r:=⟨_,kf hj'⟩;obtain⟨v,ev,pv,rfl,hpv⟩:=hA.get ep;obtain⟨u,eu,pu,rfl,hpu⟩:=hB.get er;have dA:A1.drop i=p::A1.drop (i+1):=by rw[vQ hi',(kh.mp ep).2]
   have dB:B1.drop j=r::B1.drop (j+1):=by rw[vQ hj',(kh.mp er).2]
   have lr:=hR.len;have I1:∀{H3:Hp}{σ:St},Same H H3->σ[0]?=some (some (.ref a))->σ[3]?=some (some (.int (i:Int)))->Evl (tOp (rIxT K) (tOp (rIxL K) (tVar 0) (tVar 3)) (tC (.int 1))) σ H3 (.int (p.2:Int)):=λS e1 e2=>yk (xB (zp e1) (zp e2) (SqL.of (S _ _ ha)) (Yv ev)) zM (SqT.of (S _ _ hpv)) rfl;have I2:∀{H3:Hp}{σ:St},Same H H3->σ[1]?=some (some (.ref b))->σ[4]?=some (some (.int (j:Int)))->Evl (tOp (rIxT K) (tOp (rIxL K) (tVar 1) (tVar 4)) (tC (.int 1))) σ H3 (.int (r.2:Int)):=λS e1 e2=>yk (xB (zp e1) (zp e2) (SqL.of (S _ _ hb)) (Yv eu)) zM (SqT.of (S _ _ hpu)) rfl;refine x8 (v:=.int ((p.1:Int)+(r.1:Int))) (z5 (yk (xB (zp rfl) (zp rfl) (SqL.of (S2 _ _ ha)) (Yv ev)) zM (SqT.of (S2 _ _ hpv)) rfl) (yk (xB (zp rfl) (zp rfl) (SqL.of (S2 _ _ hb)) (Yv eu)) zM (SqT.of (S2 _ _ hpu)) rfl)) ?_;have em:(if(r.2:Int)>(p.2:Int)then(r.2:Int)else (p.2:Int))=((max p.2 r.2:Nat):Int):=by
    split<;>lia
   refine x8 (v:=.int ((max p.2 r.2:Nat):Int)) (by rw[<-em];exact Ja (g:=λi j=>.int (if j>i then j else i)) (I1 S2 rfl rfl) (I2 S2 rfl rfl)) ?_;refine⟨_,rfl,.inl ⟨rfl,_,SqL.of hl2⟩,_,rfl,_,rfl,Zz2,λtp ntp=>?_⟩;have S3:=S2.trans (zd (o:=.tup [.int ((p.1:Int)+(r.1:Int)),.int ((max p.2 r.2:Nat):Int)]) ntp);have htp:(upd H2 tp (.tup [.int ((p.1:Int)+(r.1:Int)),.int ((max p.2 r.2:Nat):Int)])) tp=some (.tup [.int ((p.1:Int)+(r.1:Int)),.int ((max p.2 r.2:Nat):Int)]):=zc;have hl3:=zd (o:=.tup [.int ((p.1:Int)+(r.1:Int)),.int ((max p.2 r.2:Nat):Int)]) ntp _ _ hl2;have hR3:=hR.same (zd (o:=.tup [.int ((p.1:Int)+(r.1:Int)),.int ((max p.2 r.2:Nat):Int)]) ntp);generalize upd H2 tp (.tup [.int ((p.1:Int)+(r.1:Int)),.int ((max p.2 r.2:Nat):Int)])=H3 at S3 htp hl3 hR3;refine I_3 l _ _ ⟨rfl,rfl,hl3,va (show rs.length<=1000000 by lia) ⋯,?_⟩;have S4:Same H (upd H3 l (.lst (rs++[.ref tp]))):=z9 S3 nl;have hl4:(upd H3 l (.lst (rs++[.ref tp]))) l=some (.lst (rs++[.ref tp])):=zc;have ex:StAt H3 (.ref tp) (p.1+r.1,max p.2 r.2):=⟨tp,rfl,by rw[htp];rfl⟩;have hR4:=(hR3.snoc ex).upd (o':=.lst (rs++[.ref tp])) hl3;generalize upd H3 l (.lst (rs++[.ref tp]))=H4 at S4 hl4 hR4;have lo:(out++[(p.1+r.1,max p.2 r.2)]).length=out.length+1:=by rw[ki];rfl
   have es:out++[(p.1+r.1,max p.2 r.2)]++(if p.2=max p.2 r.2 then(if r.2=max p.2 r.2 then sbs (A1.drop (i+1)) (B1.drop (j+1))else sbs (A1.drop (i+1)) (B1.drop j))else sbs (A1.drop i) (B1.drop (j+1)))=sbs A1 B1:=by
    rw[<-eo,dA,dB,_Sta.wA,kY];rfl
   have T1:∀{σ:St},σ[0]?=some (some (.ref a))->σ[3]?=some (some (.int (i:Int)))->σ[6]?=some (some (.int ((max p.2 r.2:Nat):Int)))->Tst (jY (tOp rEq (tOp (rIxT K) (tOp (rIxL K) (tVar 0) (tVar 3)) (tC (.int 1))) (tVar 6))) σ H4 ((p.2:Int)=((max p.2 r.2:Nat):Int)):=λe1 e2 e3=>z8 (wN (I1 S4 e1 e2) (zp e3));have T2:∀{σ:St},σ[1]?=some (some (.ref b))->σ[4]?=some (some (.int (j:Int)))->σ[6]?=some (some (.int ((max p.2 r.2:Nat):Int)))->Tst (jY (tOp rEq (tOp (rIxT K) (tOp (rIxL K) (tVar 1) (tVar 4)) (tC (.int 1))) (tVar 6))) σ H4 ((r.2:Int)=((max p.2 r.2:Nat):Int)):=λe1 e2 e3=>z8 (wN (I2 S4 e1 e2) (zp e3));refine YT (T1 rfl rfl rfl) (λc1=>?_) (λc1=>?_)
   .have c1:p.2=max p.2 r.2:=()
    rw[if_pos c1]at es;refine⟨_,rfl,_,_,rfl,rfl,?_⟩;refine xV (T2 rfl rfl rfl) (λc2=>?_) (λc2=>?_)
    .have c2:r.2=max p.2 r.2:=()
     rw[if_pos c2]at es;refine⟨_,rfl,_,_,rfl,rfl,?_⟩;exact⟨_,by omega,i+1,j+1,_,_,_,_,rfl,by assumption,by assumption,(),es,rfl,S4,hl4,hR4⟩
    .rw [if_neg ()]at es;exact⟨_,(),i+1,j,_,_,_,_,rfl,by assumption,by omega,(),es,rfl,S4,hl4,hR4⟩
   .have c1:¬p.2=max p.2 r.2:=()
    rw[if_neg c1]at es;refine zV ?_;dsimp only;refine xV (T2 rfl rfl rfl) (λc2=>?_) (λc2=>?_)
    .refine ⟨_,rfl,_,_,rfl,rfl,?_⟩;exact⟨_,(),i,j+1,_,_,_,_,rfl,by omega,by assumption,(),es,rfl,S4,hl4,hR4⟩
    .lia
  .have e0:sbs (A1.drop i) (B1.drop j)=[]:=by
    by_cases z:i<A1.length
    .have:B1.drop j=[]:=List.drop_eq_nil_iff.mpr ();rw[this,_Sta.qj]
    .have:A1.drop i=[]:=List.drop_eq_nil_iff.mpr ();rw[this,_Sta.jj]
   rw[e0,vq]at eo;subst eo;exact⟨_,rfl,q l rs H2 S2 nl hl2 hR⟩
theorem Yw:zn ["parts","stairs","part"] ["parts"] (zj sAll):=by trivial
theorem zdx{f fS:Addr}{fd dS:FuncData}(F:Fun K "all_side_by_side" "all_side_by_side" sAll f fd)(Sb:Callee P w K mg base CX0 1 "side_by_side" fS dS ["one","other"] zbD):FnOk P w K mg base CX0 2 f fd ["parts"] Qo:=by
 refine F.ok Yw (λvs H Q E h=>?_) (λcdv A outer s H vs Q E hr h=>?_)
 .refine E_5 h λa us A As H0 n8=>A_2 n8 λe9 _=>?_;clear n8 h;subst e9;rfl
 .refine E_5 h λa us A1 As H0 n8=>A_7 n8 λe9 ha hB S0 hn h1000 q=>?_;clear n8 h;subst e9;refine⟨_,(ze (zo (i:=1) Yw.nd rfl (Or.inl rfl) (zk zC (pv 0) zg (λ_ _=>rfl)))
   (ze (yZ PassesOwn.never rfl (zY (yo xA (pv 0) (yj zg) xi)) (zt (i:=2) Yw.nd rfl (Or.inl rfl))
   (zf (zo (i:=1) Yw.nd rfl (Or.inl rfl) (zh Sb.ok hr rfl Sb.bound Sb.kp Sb.bd .nil zx (za (pv 1) (za (pv 2) zb))))))
   (zf (zl (pv 1))))),?_⟩
  cases hB with
  |@cons v0 _ vs _ h0 hr =>
  refine E_2 h0 λl0 us0 n8=>A_4 n8 λe9 n0 hl0 hs0=>?_;clear n8 h0;subst e9;refine⟨_,rfl,a,_,0,.ref l0,rfl,rfl,SqL.of ha,xH (j:=0) rfl,?_⟩;have lv:=Paired.length hr;refine run_seq ⟨_,rfl,_,rfl,a,_,rfl,SqL.of ha,λpc nc=>?_⟩;have ec:cutV (V.ref l0::vs) (some 1) none=vs:=wF (V.ref l0::vs) 1 (by simp);rw[ec];have S1:=zd (o:=.lst vs) nc;have hpc:(upd H pc (.lst vs)) pc=some (.lst vs):=zc;generalize upd H pc (.lst vs)=H1 at S1 hpc;refine⟨pc,rfl,⟨_,SqL.of hpc⟩,?_⟩;have hr:yi H0 H vs As:=hr;refine wp (K:=K) (a:=pc) (xs:=vs) (λi σ H2=>∃(l:Addr)(rs:List V)(o:Option V),σ=[some (.ref a),some (.ref l),o]/\Same H1 H2/\H0 l=none/\H2 l=some (.lst rs)/\zT H2 rs ((As.take i).foldl sbs A1))
   ⟨l0,us0,none,rfl,Same.refl _,n0,S1 _ _ hl0,hs0.same S1⟩ (λi σ H2 _ h9=>by obtain⟨_,_,_,_,S,_⟩:=h9;exact(SqL.of (S _ _ hpc))) ?_ ?_
  .intro i x σ H2 hi h8;refine E_3 h8 λl rs o n8=>A_5 n8 λe9 S2 nl hl hR=>?_;clear n8 h8;subst e9;obtain⟨B,eB,lb,bs,rfl,nb,hb,hsb⟩:=hr.get' hi;obtain⟨hil,ev⟩:=kh.mp eB;refine zH ?_;have S12:=S1.trans S2;have fl:=_Sta.qk (As.take i) A1;have sum_le:((As.take i).map List.length).sum+B.length<=(As.map List.length).sum:=by
    have e:As=As.take i++B::As.drop (i+1):=by
     have:=vH i As;rw[vQ hil,ev]at this;exact this.symm
    conv=>rhs;rw[e]
    rw[kD,vO,k8,k9];lia
   refine⟨_,rfl,_,rfl,l,lb,rs,bs,_,B,rfl,hl,S12 _ _ hb,hR,hsb.same S12,(),λl3 rs3 H3 S3 nl3 hl3 hR3=>?_⟩;refine I_3 l3 rs3 _ ⟨rfl,S2.trans S3,(S0.trans S12).free nl3,hl3,?_⟩;rw[<-kF hil,ev,List.foldl_append];exact hR3
  .intro σ H2 h8;refine E_3 h8 λl rs o n8=>A_5 n8 λe9 S2 nl hl hR=>?_;clear n8 h8;subst e9;rw[lv,kM]at hR;exact⟨_,rfl,q l rs H2 (S1.trans S2) nl hl hR⟩
theorem zdy:zn ["stairs"] ["stairs"] (zj Qf):=by trivial
theorem zcr{f:Addr}{fd:FuncData}(F:Fun K "exchanged" "exchanged" Qf f fd)(Z:Ns K mg):FnOk P w K mg base CX0 1 f fd ["stairs"] Xz:=by
 obtain⟨gWIDE,gHIGH,gMOST_WORDS,gACROSS,tl,ti,tlist,tall,tmax,trev,_,_,_,_,_,_⟩:=Z;refine F.ok zdy (λvs H Q E h=>?_) (λcdv A outer s H vs Q E hr h=>?_)
 .refine E_3 h λa us A n8=>A_2 n8 λe9 _=>?_;clear n8 h;subst e9;rfl
 .refine E_3 h λa us A1 n8=>A_5 n8 λe9 ha hA hn q=>?_;clear n8 h;subst e9;refine⟨_,(zf (zl (zP (Nc:=["wide","high"]) (ix:=[none,none]) rfl rfl (by exact(zdn rfl trev (za (pv 0) zb))) (λ_ _ _ _ _=>(wP (K:=K) (n:=2) rfl rfl (z4 (zt (i:=0) (by show(["wide","high"]:List Str).Nodup;decide +kernel) rfl (Or.inl rfl)) (z4 (zt (i:=1) (by show(["wide","high"]:List Str).Nodup;decide +kernel) rfl (Or.inl rfl)) xg)))) (λ_ _ _ _ _=>zS) (λ_ _ _ _ _=>(yM (za (pv 1) (za (pv 0) zb))))))),?_⟩;have la:=hA.len;refine⟨_,rfl,a,us,rfl,SqL.of ha,zcp (K:=K) (a:=a) (xs:=us) (λi ys σ H2=>Same H H2/\zT H2 ys ((A1.reverse.take i).map λp=>(p.2,p.1))/\∃o o2,σ=[o,o2]) ⟨Same.refl _,.nil,none,none,rfl⟩
   (λi ys σ H2 hi h9=>by obtain⟨S,h,_⟩:=h9;exact(⟨by rw[h.len,ka,kJ];exact kn (show _<=1000000 by lia) ⋯,SqL.of (S _ _ ha)⟩)) ?_ ?_⟩
  case refine_2 =>
   intro i x ys σ H2 hi hx h8;refine A_3 h8 λS2 hY n8=>E_2 n8 λo o2 e9=>?_;clear n8 h8;subst e9;obtain⟨p,ep,pa,rfl,hpa⟩:=hA.get' hx;refine⟨pa,_,rfl,SqT.of (S2 _ _ hpa),rfl,_,_,rfl,_,_,rfl,rfl,?_⟩;dsimp only[zU,tYes];refine iteT ⟨_,rfl,_,rfl,Zz2,λtp ntp=>?_⟩;have S3:=zd (o:=.tup [.int (p.2:Int),.int (p.1:Int)]) ntp;have hir:i<A1.reverse.length:=by rw[bN];lia
   have er:A1.reverse[i]=p:=by
    rw[List.getElem_reverse];have e2:A1[A1.length-1-i]?=some p:=by rw[<-la];exact ep
    rw[kf (by omega)]at e2;exact Option.some.inj e2
   refine⟨S2.trans S3,?_,_,_,rfl⟩;rw[<-kF hir,er,kD];exact(hY.same S3).snoc ⟨tp,rfl,zc⟩
  rintro ys σ H2 ⟨S2,hY,_⟩ l nl;rw[la,<-bN,kM]at hY;exact q l ys _ (S2.trans (zd nl)) (S2.free nl) zc (hY.same (zd nl))
theorem zeG:zn ["texts"] ["texts"] (zj sBst):=by trivial
theorem zdz{f fT C:Addr}{fd dT:FuncData}(F:Fun K "box_stairs" "box_stairs" sBst f fd)(Ts:Callee P w K mg base (CXE P w) 5 "text_stairs" fT dT ["words"] (Xs C)):FnOk P w K mg base CX0 6 f fd ["texts"] Qp:=by
 refine F.ok zeG (λvs H Q E h=>?_) (λcdv A outer s H vs Q E hr h=>?_)
 .refine E_3 h λa us wss n8=>A_2 n8 λe9 _=>?_;clear n8 h;subst e9;rfl
 .refine E_3 h λa us wss n8=>A_5 n8 λe9 ha hT hn q=>?_;clear n8 h;subst e9;refine⟨_,(zf (zl (zP (Nc:=["words"]) (ix:=[none]) rfl rfl (by refine' zY ?zz;case zz=>exact(pv 0)) (λ_ _ _ _ _=>(zt (i:=0) (by show(["words"]:List Str).Nodup;decide +kernel) rfl (Or.inl rfl))) (λ_ _ _ _ _=>zS) (λ_ _ _ _ _=>(zh Ts.ok hr rfl Ts.bound Ts.kp Ts.bd .nil xU (za (pv 0) zb)))))),?_⟩;have lt:=hT.len;refine⟨_,rfl,a,rfl,⟨_,SqL.of ha⟩,ye (K:=K) (a:=a) (xs:=us) (λi ys σ H2=>Same H H2/\yi H H2 ys ((wss.take i).map stN)/\∃o,σ=[o]) ⟨Same.refl _,.nil,none,rfl⟩
   (λi ys σ H2 hi h9=>by obtain⟨S,h,_⟩:=h9;exact(⟨by rw[h.len,ka,kJ];exact kn (show _<=1000 by lia) ⋯,SqL.of (S _ _ ha)⟩)) ?_ ?_⟩
  case refine_2 =>
   intro i x ys σ H2 hx h8;refine A_3 h8 λS2 hY n8=>E_1 n8 λo e9=>?_;clear n8 h8;subst e9;obtain⟨ws,ew,pa,rfl,hpa,hw,h40⟩:=hT.get hx;obtain⟨hil,ev⟩:=kh.mp ew;dsimp only[zU,tYes];refine iteT ⟨_,rfl,.ref pa,rfl,.inl ⟨pa,ws,rfl,S2 _ _ hpa,hw,(),λl3 us3 H3 S3 nl3 hl3 hP=>?_⟩⟩;refine⟨S2.trans S3,?_,_,rfl⟩;rw[<-kF hil,ev,kD];refine(hY.same S3).snoc ⟨l3,us3,rfl,S2.free nl3,hl3,?_⟩;refine hP.sts λp hp=>?_;unfold xG at hp;split at hp
   .rw [kj.mp hp];decide
   .rcases qO hp with e|⟨j,_,e,_⟩
    .rw [e];exact Int.natCast_nonneg _
    .rw [e];show 0<=(wid ws:Int)+((j+1:Nat):Int);lia
  rintro ys σ H2 ⟨S2,hY,_⟩ l nl;rw[lt,kM]at hY;exact q l ys _ (S2.trans (zd nl)) (S2.free nl) zc (hY.same (zd nl))
end _JK
namespace _Tre
theorem zE.get:∀{ts:List T}{nss:List (List Int)}{i:Nat}{t:T},zE ts nss->ts[i]?=some t->∃n,nss[i]?=some n/\Good t n
 |_,_,_,_,.nil,e=>by simp at e
 |_,_,0,_,.cons h _,e=>by simp at e;subst e;exact⟨_,rfl,h⟩
 |_,_,i+1,t,.cons _ r,e=>by
  obtain⟨n,h1,h2⟩:=zE.get (i:=i) (t:=t) r (by simpa using e);exact⟨n,by simpa using h1,h2⟩
end _Tre
namespace _JK
open PySem _L2 _Lin _Tre PySem.W
open _Sta (R Ok sbs exch reg OkS OkSs stN HasR zJ)
def spSo(d:Nat):Sp:=λvs H Q _=>∃(x:V)(t:T)(n:List Int)(b:Addr)(bvs:List V)(As:List Stc)(Ls:List R)(P:R)(H0:Hp),vs=[x,.ref b]/\At H x t/\Good t n/\HasR Ls t P/\H b=some (.lst bvs)/\yi H0 H bvs As/\OkSs As Ls/\(∀A∈As,A.length<=600) /\
 n.length<=24/\sz t+3<=4*d/\d<=24/\Same H0 H/\∀(l:Addr)(us:List V)(A:Stc)(H':Hp),Same H H'->H0 l=none->H' l=some (.lst us)->zT H' us A->OkS A P->A.length<=600*n.length->Q (.ref l) H'
def Lvs(wss:List (List W)):List R:=wss.map _Sta.xl
def Qq(C4 C6:Addr):Sp:=λvs H Q E=>∃(x y:V)(t:T),vs=[x,y]/\At H x t/\sz t<=1000 /\
 ((∃(n:List Int)(a:Addr)(xs:List V)(wss:List (List W)),zX t/\Good t n/\y=.ref a/\H a=some (.lst xs)/\Txs H xs wss/\xs.length=n.length /\
   ∀(P:R)(l:Addr)(us:List V)(A:Stc)(H':Hp),HasR (Lvs wss) t P->Same H H'->H l=none->H' l=some (.lst us)->zT H' us A->OkS A P->A.length<=15000->Q (.ref l) H') \/
 (∃(n:List Int)(a:Addr)(xs:List V)(bs:List Bool),zX t/\Good t n/\y=.ref a/\H a=some (.lst xs)/\JTs H xs bs/\xs.length<=1000/\(xs.length≠n.length\/bs.all id=false)/\∀H',Same H H'->E (.ref C6) none H') \/
 (zX t/\NoL H y/\∀H',Same H H'->E (.ref C6) none H')\/(¬zX t/\∀H',Same H H'->E (.ref C4) none H'))
theorem Yk{wss:List (List W)}(h:∀ws∈wss,∀u∈ws,okW u):OkSs (wss.map stN) (Lvs wss):=by
 unfold Lvs
 induction wss with
 |nil=>exact .nil
 |cons a r ih=>exact .cons (_Sta.zeF λu hu=>(h a ke u hu).1) (ih λws hw=>h ws (kg _ hw))
theorem yQ(wss:List (List W)):∀L∈Lvs wss,_Sta.Up L:=λL hL=>by
 obtain⟨ws,_,rfl⟩:=vh.mp hL;exact _Sta.zcn ws
theorem wT:∀{nss:List (List Int)}{n:List Int},n∈nss->n.length<=nss.flatten.length
 |a::r,n,h=>by
  rw[kP,ki];rcases kL.mp h with e|e
  .rw [e];lia
  .have:=wT e;lia
theorem JK:∀{L:List Stc}{B:Stc},B∈L->B.length<=(L.map List.length).sum
 |a::r,B,h=>by
  rw[k8,k9];rcases kL.mp h with e|e
  .rw [e];lia
  .have:=JK e;lia
theorem Txs.okw{H:Hp}:∀{vs:List V}{ts:List (List W)},Txs H vs ts->∀ws∈ts,∀u∈ws,okW u
 |_,_,.nil,ws,h=>(kN h).elim
 |_,_,.cons h t,ws,hw=>by
  rcases kL.mp hw with e|e
  .rw [e];obtain⟨_,_,_,z,_⟩:=h;exact z
  .exact Txs.okw t ws e
theorem Txs.ok40{H:Hp}:∀{vs:List V}{ts:List (List W)},Txs H vs ts->∀ws∈ts,ws.length<=40
 |_,_,.nil,ws,h=>(kN h).elim
 |_,_,.cons h t,ws,hw=>by
  rcases kL.mp hw with e|e
  .rw [e];obtain⟨_,_,_,_,z⟩:=h;exact z
  .exact Txs.ok40 t ws e
theorem ql:(dash:Str)≠bar:=by decide +kernel
section
variable{P:Program}{w:World}{K:Frag}{mg:Str->Option Value}{base:Heap}{kA:Addr}
theorem scSo:zn ["tree","boxes","parts"] ["tree","boxes"] (zj sSo):=by trivial
theorem zdA{f:Addr}{fd:FuncData}(F:Fun K "stairs_of" "stairs_of" sSo f fd):FnOk P w K mg base CX0 3 f fd ["tree","boxes"] (spSo 0):=by
 refine F.ok scSo (λvs H Q E h=>?_) (λcdv A outer s H vs Q E hr h=>?_)
 .refine E_9 h λx t n b bvs As Ls P H0 n8=>A_2 n8 λe9 _=>?_;clear n8 h;subst e9;rfl
 .refine E_9 h λx t n b bvs As Ls P H0 n8=>A_11 n8 λe9 _ _ _ _ _ _ _ _ hz _=>?_;clear n8 h;subst e9;lia
theorem zdB{f fW fA fX:Addr}{fd dW dA dX:FuncData}{d:Nat}(F:Fun K "stairs_of" "stairs_of" sSo f fd)(gKIND:GI mg "KIND" 0)(gPARTS:GI mg "PARTS" 1)(Z:Ns K mg)(Wo:Callee P w K mg base CX0 1 "is_whole" fW dW ["thing"] wk)
  (Al:Callee P w K mg base CX0 2 "all_side_by_side" fA dA ["parts"] Qo)(Ex:Callee P w K mg base CX0 1 "exchanged" fX dX ["stairs"] Xz)(So:Callee P w K mg base CX0 (d+3) "stairs_of" f fd ["tree","boxes"] (spSo d)):FnOk P w K mg base CX0 (d+4) f fd ["tree","boxes"] (spSo (d+1)):=by
 obtain⟨gWIDE,gHIGH,gMOST_WORDS,gACROSS,tl,ti,tlist,tall,tmax,trev,_,_,_,_,_,_⟩:=Z;refine F.ok scSo (λvs H Q E h=>?_) (λcdv A outer s H vs Q E hr h=>?_)
 .refine E_9 h λx t n b bvs As Ls P H0 n8=>A_2 n8 λe9 _=>?_;clear n8 h;subst e9;rfl
 .refine E_9 h λx t n b bvs As Ls P1 H0 n8=>A_13 n8 λe9 hA g hR hb hB hO h600 n24 hz hd S0 q=>?_;clear n8 h;subst e9;refine⟨_,(ze (zL (yw (zh Wo.ok (hr.mono ()) rfl Wo.bound Wo.kp Wo.bd .nil zx (za (pv 0) zb)))
   (zf (zl (zk zC (pv 1) (pv 0) (λ_ _=>rfl))))
   zF)
   (ze (Zx (i:=2) (Nc:=["part","boxes"]) (ix:=[none,some 1]) scSo.nd rfl (Or.inl rfl) rfl rfl (by exact(wL (zk zG (pv 0) (zD rfl gPARTS) (λ_ _=>rfl)))) (λ_ _ _ _ _=>(zt (i:=0) (by show(["part","boxes"]:List Str).Nodup;decide +kernel) rfl (Or.inl rfl))) (λ_ _ _ _ _=>zS) (λ_ _ _ _ _=>(zh So.ok hr rfl So.bound So.kp So.bd .nil zx (za (pv 0) (za (pv 1) zb)))))
   (ze (zL (zy xq (zk zG (pv 0) (zD rfl gKIND) (λ_ _=>rfl)) (zbC rfl gACROSS) (zu _))
   (zf (zl (zh Al.ok (hr.mono ()) rfl Al.bound Al.kp Al.bd .nil zx (za (pv 2) zb))))
   zF)
   (zf (zl (zh Ex.ok (hr.mono ()) rfl Ex.bound Ex.kp Ex.bd .nil zx (za (zh Al.ok (hr.mono ()) rfl Al.bound Al.kp Al.bd .nil zx (za (zP (Nc:=["part"]) (ix:=[none]) rfl rfl (by refine' zY ?zz;case zz=>exact(pv 2)) (λ_ _ _ _ _=>(zt (i:=0) (by show(["part"]:List Str).Nodup;decide +kernel) rfl (Or.inl rfl))) (λ_ _ _ _ _=>zS) (λ_ _ _ _ _=>(zh Ex.ok (hr.mono ()) rfl Ex.bound Ex.kp Ex.bd .nil zx (za (pv 0) zb)))) zb)) zb))))))),?_⟩
  refine⟨_,rfl,x,t,rfl,hA,_,rfl,?_⟩;cases g with
  |leaf i =>
   cases hA;cases hR with
   |leaf h0 hL =>
   obtain⟨A1,eA,oA⟩:=hO.get hL;obtain⟨v,ev,l,us,rfl,nl,hl,hs⟩:=hB.get eA;have ati:atI bvs i=some (.ref l):=by
    have:=xH ev
    rwa [Int.toNat_of_nonneg h0]at this
   refine iteT ⟨_,rfl,_,rfl,b,_,_,_,rfl,rfl,SqL.of hb,ati,q l us A1 H (Same.refl _) nl hl hs oA ?_⟩;have:=h600 A1 (kH eA);show A1.length<=600*1;omega
  |@node k ps nss hk h2 hn hG =>
   cases hA with
   |@tup a0 vs0 ss e hL =>
   obtain⟨b0,ws,rfl,e2,hQ⟩:=hL.knot;have lq:=hQ.len;have nsz:=xC k ps;have lps:=wm ps;refine iteF ?_;refine zV ?_;dsimp only;obtain⟨P0,Ps,hRL,eP⟩:∃P0 Ps,zJ Ls ps (P0::Ps)/\((k=bar/\P1=Ps.foldl _Sta.bes P0)\/(k=dash/\P1=Ps.foldl _Sta.dwn P0)):=by
    cases hR with
    |bar h=>exact⟨_,_,h,.inl ⟨rfl,rfl⟩⟩
    |dash h=>exact⟨_,_,h,.inr ⟨rfl,rfl⟩⟩
   have lP:=hRL.len;have lG:=hG.len;refine⟨_,rfl,a0,_,_,_,rfl,rfl,SqT.of e,rfl,b0,rfl,⟨_,SqT.of e2⟩,wb (K:=K) (a:=b0) (xs:=ws) (λi ys σ H'=>∃Bs:List Stc,yi H0 H' ys Bs/\OkSs Bs ((P0::Ps).take i)/\Bs.length=i/\(Bs.map List.length).sum<=600*(nss.take i).flatten.length/\Same H H'/\∃o,σ=[o,some (.ref b)]) ⟨[],.nil,.nil,rfl,kc _,Same.refl _,none,rfl⟩
    (λi ys σ H' hi h9=>by obtain⟨Bs,h1,_,l1,_,S3,_⟩:=h9;exact(⟨by rw[h1.len,l1];exact kn (show i<=1000000 by lia) ⋯,SqT.of (S3 _ _ e2)⟩)) ?_ ?_⟩
   case refine_2 =>
    intro i y ys σ H1 hy h8;obtain⟨Bs,hBs,oBs,lB,sB,S1,o,rfl⟩:=h8;obtain⟨p,ep,hAp⟩:=hQ.get hy;obtain⟨hil,ev⟩:=kh.mp ep;have pm:p∈ps:=kH ep;obtain⟨np,enp,gp⟩:=hG.get ep;obtain⟨hin,evn⟩:=kh.mp enp;obtain⟨Pp,ePp,hPp⟩:=hRL.get ep;obtain⟨hip,evp⟩:=kh.mp ePp;have two:=wz h2 pm;have ln:=wT (kH enp);dsimp only[zU,tYes];refine iteT ?_;refine⟨_,rfl,_,rfl,y,p,np,b,bvs,As,Ls,Pp,H0,rfl,hAp.same S1,gp,hPp,S1 _ _ hb,hB.same S1,hO,h600,(),(),(),S0.trans S1,λl us A1 H2 S2 nl hl hs oA lA=>?_⟩;refine⟨Bs++[A1],(hBs.same S2).snoc ⟨l,us,rfl,nl,hl,hs⟩,?_,by rw[ki,lB];rfl,?_,S1.trans S2,_,rfl⟩
    .rw [<-kF hip,evp];exact oBs.snoc oA
    .rw [<-kF hin,evn,vD,ki,kD,vO];simp only[kP,List.flatten_nil,vq,k8,List.map_nil,k9,List.sum_nil];lia
   rintro ys σ H1 ⟨Bs,hBs,oBs,lB,sB,S1,_⟩ pl npl;rw[lq,lP,kM]at oBs;rw[lq,<-lG,kM]at sB;have S2:=S1.trans (zd (o:=.lst ys) npl);have hpl:(upd H1 pl (.lst ys)) pl=some (.lst ys):=zc;have hBs2:=hBs.same (zd (o:=.lst ys) npl);generalize upd H1 pl (.lst ys)=H2 at S2 hpl hBs2;clear hBs;cases oBs with
   |@cons B0 _ Br _ o0 oR =>
   rw[k8,k9]at sB;rw[kz]at lB
   try dsimp only
   refine⟨_,rfl,a0,_,_,_,rfl,rfl,SqT.of (S2 _ _ e),rfl,rfl,_,rfl,?_⟩;have ek:decide (V.str k=V.str "|")=decide (k=bar):=by
    rw[decide_eq_decide];exact⟨λz=>by injection z,λz=>by rw[z];rfl⟩
   rw[ek];rcases eP with⟨rfl,rfl⟩|⟨rfl,rfl⟩
   .rw [decide_eq_true rfl];refine iteT ⟨_,rfl,pl,ys,B0,Br,H0,rfl,hpl,hBs2,S0.trans S2,(),(),λl rs H3 S3 nl hl hs=>?_⟩;have fl:=_Sta.qk Br B0;exact q l rs _ H3 (S2.trans S3) nl hl hs (_Sta.jN oR o0) ()
   .rw [decide_eq_false ql];refine iteF ?_;refine zV ?_;dsimp only;refine⟨_,rfl,pl,rfl,⟨_,SqL.of hpl⟩,ye (K:=K) (a:=pl) (xs:=ys) (λi zs σ H'=>yi H0 H' zs (((B0::Br).take i).map exch)/\Same H2 H'/\∃o,σ=[o]) ⟨.nil,Same.refl _,none,rfl⟩
     (λi zs σ H' hi h9=>by obtain⟨h1,S3,_⟩:=h9;exact(⟨by rw[h1.len,ka,kJ,kz];exact kn (show _<=1000000 by omega) ⋯,SqL.of (S3 _ _ hpl)⟩)) ?_ ?_⟩
    case refine_2 =>
     intro i y zs σ H3 hy h8;refine A_3 h8 λhZ S3 n8=>E_1 n8 λo e9=>?_;clear n8 h8;subst e9;obtain⟨B,eB,lb,us,rfl,nb,hlb,hsb⟩:=hBs2.get' hy;obtain⟨hil,ev⟩:=kh.mp eB;have lB':B.length<=1000000:=by
      have m:B∈B0::Br:=kH eB;have:=JK m;rw[k8,k9]at this;lia
     dsimp only[zU,tYes];refine iteT ⟨_,rfl,lb,us,B,rfl,S3 _ _ hlb,hsb.same S3,lB',λl rs H4 S4 nl hl hs=>⟨?_,S3.trans S4,_,rfl⟩⟩;rw[<-kF hil,ev,kD];exact(hZ.same S4).snoc ⟨l,rs,rfl,(S0.trans (S2.trans S3)).free nl,hl,hs⟩
    rintro zs σ H3 ⟨hZ,S3,_⟩ pz npz;have ly:=hBs2.len;rw[ly,kM,k8]at hZ;have S4:=S3.trans (zd (o:=.lst zs) npz);have hpz:(upd H3 pz (.lst zs)) pz=some (.lst zs):=zc;have hZ4:=hZ.same (zd (o:=.lst zs) npz);generalize upd H3 pz (.lst zs)=H4 at S4 hpz hZ4;have el:(exch B0).length+((Br.map exch).map List.length).sum=B0.length+(Br.map List.length).sum:=by rw[_Sta.jO,_Sta.JH]
    refine I_5 pz zs (exch B0) (Br.map exch) H0 ⟨rfl,hpz,hZ4,S0.trans (S2.trans S4),(),by rw[ka];lia,λl rs H5 S5 nl hl hs=>?_⟩;have fl:=_Sta.qk (Br.map exch) (exch B0);refine I_3 l rs _ ⟨rfl,hl,hs,(),λl2 rs2 H6 S6 nl2 hl2 hs2=>?_⟩;have o1:=(_Sta.jN oR.exch o0.exch).exch;rw[_Sta.Wx]at o1;exact q l2 rs2 _ H6 (S2.trans (S4.trans (S5.trans S6))) ((S0.trans (S2.trans (S4.trans S5))).free nl2) hl2 hs2 o1 (by rw[_Sta.jO];lia)
theorem zbF{f fW fA fX:Addr}{fd dW dA dX:FuncData}(F:Fun K "stairs_of" "stairs_of" sSo f fd)(gKIND:GI mg "KIND" 0)(gPARTS:GI mg "PARTS" 1)(Z:Ns K mg)(Wo:Callee P w K mg base CX0 1 "is_whole" fW dW ["thing"] wk)
  (Al:Callee P w K mg base CX0 2 "all_side_by_side" fA dA ["parts"] Qo)(Ex:Callee P w K mg base CX0 1 "exchanged" fX dX ["stairs"] Xz)(bo:mg "stairs_of"=some (.ref f))(kp:ut K (.ref f)=true)(bd:Binds K fd ["tree","boxes"] []):∀d,FnOk P w K mg base CX0 (d+3) f fd ["tree","boxes"] (spSo d)
 |0=>zdA F
 |d+1=>zdB F gKIND gPARTS Z Wo Al Ex ⟨zbF F gKIND gPARTS Z Wo Al Ex bo kp bd d,bo,kp,bd⟩
theorem zeH:zn ["tree","texts"] ["tree","texts"] (zj sTst):=by trivial
theorem zdC{f fR fS fB C4 C6:Addr}{fd dR dS dB:FuncData}(F:Fun K "tree_stairs" "tree_stairs" sTst f fd)(Rt:Callee P w K mg base (CXE P w) 8 "refuse_no_texts" fR dR ["tree","texts"] (Qn C4 C6))(So:Callee P w K mg base CX0 27 "stairs_of" fS dS ["tree","boxes"] (spSo 24))
  (Bs:Callee P w K mg base CX0 6 "box_stairs" fB dB ["texts"] Qp):FnOk P w K mg base (CXE P w) 28 f fd ["tree","texts"] (Qq C4 C6):=by
 refine F.okE zeH (λvs H Q E h=>?_) (λcdv A outer s H vs Q E hr hh h=>?_)
 .refine E_3 h λx y t n8=>A_2 n8 λe9 _=>?_;clear n8 h;subst e9;rfl
 .revert h;intro n7;refine E_3 n7 λx y t n8=>A_4 n8 λe9 hA hz h=>?_;clear n8 n7;subst e9;refine⟨_,(ze (ya (zh Rt.ok (hr.mono ⋯) rfl Rt.bound Rt.kp Rt.bd .nil y7 (za (pv 0) (za (pv 1) zb))))
   (zf (zl (zh So.ok hr rfl So.bound So.kp So.bd .nil zx (za (pv 0) (za (zh Bs.ok (hr.mono ⋯) rfl Bs.bound Bs.kp Bs.bd .nil zx (za (pv 1) zb)) zb)))))),?_⟩
  rcases h with⟨n,a,xs,wss,iT,g,rfl,ha,hT,hl,q⟩|⟨n,a,xs,bs,iT,g,rfl,ha,hJ,hl,hb,qe⟩|⟨iT,hn,qe⟩|⟨nT,qe⟩
  .have n24:=(iT.okN g).2;have okn:=(iT.okN g).1;refine⟨_,rfl,_,rfl,x,.ref a,t,rfl,hA,hz,.inl ⟨n,a,xs,_,iT,g,rfl,ha,hT.jts,(),.inl ⟨hl,by simp,λH1 S1=>?_⟩⟩⟩;have lw:=hT.len;have okw:=hT.okw;have ok40:=hT.ok40;refine⟨_,rfl,_,rfl,a,xs,wss,rfl,S1 _ _ ha,hT.same S1,(),λlb rs H2 S2 nlb hlb hBs=>?_⟩;have rng:∀i∈n,0<=i/\i<((Lvs wss).length:Int):=λi hi=>by
    obtain⟨y,gy,l24,py⟩:=iT;have e:=Good.uniq g gy;subst e;have:=py.mem_iff.mp hi;unfold up at this;obtain⟨j,hj,rfl⟩:=vh.mp this;have:=vR.mp hj;unfold Lvs;rw[ka];lia
   obtain⟨P1,hP⟩:=_Sta.ZJ g rng;have hsz:=g.szN;refine I_9 x t n lb rs (wss.map stN) (Lvs wss) P1 H1 ⟨rfl,hA.same (S1.trans S2),g,hP,hlb,hBs,Yk okw,λA hA=>?_,n24,(),⋯,S2,λl us A1 H3 S3 nl hl hs oA lA=>?_⟩
   .obtain ⟨ws,hw,rfl⟩:=vh.mp hA;exact Wy (okw ws hw) (ok40 ws hw)
   .exact q P1 l us A1 H3 hP (S1.trans (S2.trans S3)) (S1.free nl) hl hs oA ()
  .exact ⟨_,rfl,_,rfl,x,.ref a,t,rfl,hA,hz,.inl ⟨n,a,xs,bs,iT,g,rfl,ha,hJ,hl,.inr ⟨hb,qe⟩⟩⟩
  .exact ⟨_,rfl,_,rfl,x,y,t,rfl,hA,hz,.inr (.inl ⟨iT,hn,qe⟩)⟩
  .exact ⟨_,rfl,_,rfl,x,y,t,rfl,hA,hz,.inr (.inr ⟨nT,qe⟩)⟩
end
theorem jP{K:Frag}{H:Hp}{n:Nat}{x y:V}{b:Bool}(h:EqR K H n x y b)(e:b=true):EqR K H n x y true:=e ▸ h
theorem all_true(n:Nat):((vc n).all λ_=>true)=true:=vP.mpr λ_ _=>rfl
theorem Yx{K:Frag}{H:Hp}{n:Nat}{a b:Addr}{ws:List W}(ha:SqL K H a (tx ws))(hb:SqL K H b (tx ws)):EqR K H (n+1) (.ref a) (.ref b) true:=by
 have fl:∀j,j<(tx ws).length->yJ ((tx ws).getD j .non)=true:=λj hj=>by
  rw[zR]at hj;rw[kE,zdh (kf hj)];rfl
 exact jP (EqR.lsts (n:=n) (e:=λ_=>true) ha hb rfl λj hj=>jP (.flat (fl j hj) (fl j hj)) (YX (fl j hj))) (all_true _)
theorem eq_empty{K:Frag}{H:Hp}{a b:Addr}{xs:List V}(ha:H a=some (.lst xs))(hb:H b=some (.lst [])):EqR K H 1 (.ref a) (.ref b) (decide (xs=[])):=by
 by_cases h:xs=[]
 .subst h;rw[decide_eq_true rfl];exact Yx (ws:=[]) (SqL.of ha) (SqL.of hb)
 .rw [decide_eq_false h];exact EqR.lens (n:=0) (SqL.of ha) (SqL.of hb) λz=>h (vm.mp z)
open _Sta (Low)
def oV:Option Nat->V
 |none=>.non
 |some n=>.int (n:Int)
theorem Wz{t u:TT}{p q:Prop}{σ:St}{H:Hp}[Decidable p][Decidable q](a:Tst t σ H p)(b:¬p->Tst u σ H q):Tst (tOr t u) σ H (p\/q):=λQ z=>a _ (by
 by_cases h:p
 .rw [decide_eq_true h,if_pos rfl];have e:decide (p\/q)=true:=decide_eq_true (.inl h);rw[<-e];exact z
 .rw [decide_eq_false h,if_neg kt];refine b h _ ?_;have e:decide (p\/q)=decide q:=by rw[decide_eq_decide];exact⟨λz=>z.resolve_left h,.inr⟩
  rw[<-e];exact z)
end _JK
namespace _Sta
open _Tre _Lin
mutual
theorem y9{Ls:List R}:∀{t:T}{P Q:R},HasR Ls t P->HasR Ls t Q->P=Q
 |_,_,_,.leaf _ h,h'=>by
  cases h' with
  |leaf _ k=>rw[h]at k;exact Option.some.inj k
 |_,_,_,.bar h,h'=>by
  generalize e:(T.tup [.str bar,.tup _]:T)=t' at h';cases h' with
  |leaf _ _=>cases e
  |bar k =>
   injection e with e;injection e with _ e;injection e with e _;injection e with e;subst e;have:=qm h k;injection this with a b;subst a b;rfl
  |dash k =>
   injection e with e;injection e with e _;injection e with e;exact absurd e.symm (by decide +kernel)
 |_,_,_,.dash h,h'=>by
  generalize e:(T.tup [.str dash,.tup _]:T)=t' at h';cases h' with
  |leaf _ _=>cases e
  |dash k =>
   injection e with e;injection e with _ e;injection e with e _;injection e with e;subst e;have:=qm h k;injection this with a b;subst a b;rfl
  |bar k =>
   injection e with e;injection e with e _;injection e with e;exact absurd e (by decide +kernel)
theorem qm{Ls:List R}:∀{ts:List T}{Ps Qs:List R},zJ Ls ts Ps->zJ Ls ts Qs->Ps=Qs
 |_,_,_,.nil,h'=>by cases h';rfl
 |_,_,_,.cons h r,h'=>by
  cases h' with
  |cons k s=>rw[y9 h k,qm r s]
end
theorem zcs{A:S}{w:Nat}{ns:List Nat}(h:∀n,n∈ns↔∃p,p∈A/\p.1<=w/\p.2=n):(ns=[]->Low (reg A) w none)/\∀M,M∈ns->(∀z∈ns,M<=z)->Low (reg A) w (some M):=by
 refine⟨λe k ⟨p,hp,a,b⟩=>?_,λM hM hl=>⟨?_,λk ⟨p,hp,a,b⟩=>?_⟩⟩
 .have:=(h p.2).mpr ⟨p,hp,a,rfl⟩;rw[e]at this;exact kN this
 .obtain ⟨p,hp,a,b⟩:=(h M).mp hM;exact⟨p,hp,a,bc b⟩
 .have:=hl p.2 ((h p.2).mpr ⟨p,hp,a,rfl⟩);lia
theorem zct{A:S}{k:Nat}{ns:List Nat}(h:∀n,n∈ns↔∃p,p∈A/\p.2<=k/\p.1=n):(ns=[]->Low (tr (reg A)) k none)/\∀M,M∈ns->(∀z∈ns,M<=z)->Low (tr (reg A)) k (some M):=by
 refine⟨λe w ⟨p,hp,a,b⟩=>?_,λM hM hl=>⟨?_,λw ⟨p,hp,a,b⟩=>?_⟩⟩
 .have:=(h p.1).mpr ⟨p,hp,b,rfl⟩;rw[e]at this;exact kN this
 .obtain ⟨p,hp,a,b⟩:=(h M).mp hM;exact⟨p,hp,bc b,a⟩
 .have:=hl p.1 ((h p.1).mpr ⟨p,hp,b,rfl⟩);lia
end _Sta
namespace _L2
open PySem PySem.Spec PyProof.Rows
section
variable{prog:Program}{w:World}{A:Around}{R:Result->Shared->Prop}{I:Addr}{fp wr:List Addr}{n:Nat}{P:Nat->Value->Prop}{St:Nat->Heap->Prop}
def Kept(bt:Nat->Nat->Bool)(P:Nat->Value->Prop)(i:Nat)(acc:Array Value):Prop:=(i=0/\acc=#[])\/∃v,0<i/\acc=#[v,v]/\P (argBest bt (i-1)) v
theorem Yl(W:Walks prog w A.in1 I fp wr n P St)(bt:Nat->Nat->Bool)(hcmp:CmpOf prog w A.in1 .Lt P bt)(S:Addr)(hSf:S∉fp)(x:Str)(d:Value):
  ∀(k i:Nat)(s:Shared)(acc:Array Value)(c:Nat),i+k=n->St i s.heap->Kept bt P i acc->s.heap.get? S=some {cls:=.type "list",dict:=none,data:=.seq acc c,slots:=#[]} ->
  (∀v h' tk,((0<n/\P (argBest bt (n-1)) v)\/(n=0/\v=d))->(∀b o,b∉wr->b≠S->s.heap.get? b=some o->h'.get? b=some o)->R (.ok (.ret v)) {s with heap:=h',toks:=tk}) ->
  codeAny (model prog w) A (.builtin "min.loop" ⟨[.ref I,.none,.ref S],[(x,d)]⟩) R s
 |0,i,s,acc,c,hk,hst,hK,hS,hR=>by
  have hSw:S∉wr:=λh=>hSf (W.sub _ h);have e:i=n:=by omega
  subst e;refine codeAny_builtin F.entry_min_loop ?_;rw[Around.under_plainId F.plain_min_loop _];show wpAny _ A.in1 (seqItems? (.ref S) >>= _) _ _ s;refine wpAny_bind (wpAny_seqItems hS rfl ?_);refine wpAny_bind (wpAny_tryCatch (W.done s _ _ hst λh' tk hk'=>?_));rcases hK with⟨i0,rfl⟩|⟨v,i0,rfl,hv⟩
  .show wpAny _ A.in1 (rule _ >>= λ_=>ret d) _ _ _;refine wpAny_bind (wpAny_rule (wpAny_pure ?_));exact hR d h' tk (.inr ⟨i0,rfl⟩) λb o hb _ q=>hk' b o hb q
  .have hS':=hk' S _ hSw hS;show wpAny _ A.in1 (updateSeq S (λ_=>#[]) >>= _) _ _ _;refine wpAny_bind (wpAny_updateSeq hS' rfl ?_);refine wpAny_bind (wpAny_letGo (wpAny_pure ?_));exact hR v _ tk (.inl ⟨i0,hv⟩) λb o hb bS q=>(Heap.get?_update_other _ _ (Ne.symm bS)).trans (hk' b o hb q)
 |k+1,i,s,acc,c,hk,hst,hK,hS,hR=>by
  have hSw:S∉wr:=λh=>hSf (W.sub _ h);have hname:(toString "min" ++ toString ".loop" : String) = "min.loop" := by decide
  refine codeAny_builtin F.entry_min_loop ?_;rw[Around.under_plainId F.plain_min_loop _];show wpAny _ A.in1 (seqItems? (.ref S) >>= _) _ _ s;refine wpAny_bind (wpAny_seqItems hS rfl ?_);refine wpAny_bind (wpAny_tryCatch (W.item i s _ _ () hst λv h' tk hP hst' hk'=>?_));have hS':=hk' S _ hSw hS;have oth:∀(acc':Array Value) b o,b≠S->h'.get? b=some o->(h'.update S (Obj.mapSeq λ_=>acc')).get? b=some o:=λ_ b o bS q=>(Heap.get?_update_other _ _ (Ne.symm bS)).trans q;have nx:∀(acc':Array Value)(c':Nat)(h'':Heap),Kept bt P (i+1) acc'->h''.get? S=some {cls:=.type "list",dict:=none,data:=.seq acc' c',slots:=#[]}->(∀b o,b≠S->h'.get? b=some o->h''.get? b=some o) ->
    codeAny (model prog w) A (.builtin "min.loop" ⟨[.ref I,.none,.ref S],[(x,d)]⟩) R {s with heap:=h'',toks:=tk}:=λacc' c' h'' hK' hS'' o'' =>
   Yl W bt hcmp S hSf x d k (i+1) _ acc' c' () (W.frame _ _ _ hst' λb hb o q=>o'' b o (λz=>hSf (by rw[<-z];exact hb)) q) hK' hS'' λu h3 t3 hu k3=>hR u h3 t3 hu λb o hb bS q=>k3 b o hb bS (o'' b o bS (hk' b o hb q))
  rcases hK with⟨i0,rfl⟩|⟨u,i0,rfl,hu⟩
  .show wpAny _ A.in1 (updateSeq S (λ_=>#[v,v]) >>= _) _ _ _;refine wpAny_bind (wpAny_updateSeq hS' rfl ?_);rw[hname];exact wpAny_pure ⟨plainId_quiet F.plain_min_loop _,nx #[v,v] _ _ (.inr ⟨v,bf _,rfl,by subst i0;exact hP⟩) (Heap.get?_update_self _ hS' rfl) (oth _)⟩
  .obtain ⟨j,rfl⟩:∃j,i=j+1:=⟨i-1,()⟩;have hu:P (argBest bt j) u:=hu;show wpAny _ A.in1 (tryCatch (holding [v,v] (richCompare .Lt v u >>= _)) _ >>= _) _ _ _;refine wpAny_bind (wpAny_tryCatch (wpAny_holding (wpAny_bind (hcmp (j+1) (argBest bt j) v u _ _ _ hP hu ?_))));refine wpAny_bind (wpAny_holding (wpAny_truthy_bool ?_));refine wpAny_bind (wpAny_letGo (wpAny_pure ?_));cases hb:bt (j+1) (argBest bt j)with
   |true =>
    rw[if_pos rfl];refine wpAny_bind (wpAny_updateSeq hS' rfl (wpAny_bind (wpAny_letGo ?_)));rw[hname];exact wpAny_pure ⟨plainId_quiet F.plain_min_loop _,nx #[v,v] _ _ (.inr ⟨v,bf _,rfl,by show P (if bt (j+1) (argBest bt j)=true then j+1 else argBest bt j) v;rw[if_pos hb];exact hP⟩) (Heap.get?_update_self _ hS' rfl) (oth _)⟩
   |false =>
    rw[if_neg kt];refine wpAny_bind (wpAny_letGo ?_);rw[hname];exact wpAny_pure ⟨plainId_quiet F.plain_min_loop _,nx #[u,u] _ _ (.inr ⟨u,bf _,rfl,by show P (if bt (j+1) (argBest bt j)=true then j+1 else argBest bt j) u;rw[if_neg (by rw[hb];exact kt)];exact hu⟩) hS' λ_ _ _ q=>q⟩
end
section
variable{prog:Program}{w:World}{A:Around}{E:Value->Shared->Prop}{s:Shared}
theorem JL(a d:Value):argsOk "min" ⟨[a],[("default",d)]⟩:=by unfold argsOk;kernel_rfl
theorem JM{x d:Value}{Q:Value->Shared->Prop}
  (h:wpAny (model prog w) A.in1 (pyIter x) (λit s₂=>∃I fp wr n P St bt,it=.ref I/\Walks prog w A.in1 I fp wr n P St/\St 0 s₂.heap/\(∀b∈fp,b<s₂.heap.objs.size)/\CmpOf prog w A.in1 .Lt P bt /\
   ∀v h' tk,((0<n/\P (argBest bt (n-1)) v)\/(n=0/\v=d))->(∀b o,b∉wr->s₂.heap.get? b=some o->h'.get? b=some o)->Q v {s₂ with heap:=h',toks:=tk}) E s):
  wpAny (model prog w) A (call (.builtin "min") [x] [("default",d)]) Q E s:=by
 have hname:(toString "min" ++ toString ".loop" : String) = "min.loop" := by decide
 refine wpAny_call (codeAny_call_builtin F.plain_min F.entry_min ?_);simp only[checkBuiltinCall,F.kind_min];have body:wpAny (model prog w) A.in1 (Builtin.«min» ⟨[x],[("default",d)]⟩) (λfin s'=>match fin with
   |.done f=>(match (Except.ok f:Result)with | .ok (.ret v)=>Q v s' | .ok _=>False | .error e=>E e s')
   |.again c'=>c'.quiet=true/\codeAny (model prog w) A c' (λr s'=>match r with | .ok (.ret v)=>Q v s' | .ok _=>False | .error e=>E e s') s') E s:=by
  show wpAny _ A.in1 (Builtin.Builtins.bindParams "min" ["key","default"] 0 ⟨[],[("default",d)]⟩ >>= _) _ _ s;refine wpAny_bind (wpAny_of_eq (show Builtin.Builtins.bindParams "min" ["key","default"] 0 ⟨[],[("default",d)]⟩=pure [none,some d]from rfl) ?_);refine wpAny_bind (wpAny_pure ?_);refine wpAny_bind (wpAny_mono h (λit s₂ h₂=>?_) λ_ _ e=>e);refine E_7 h₂ λI fp wr n P St bt n8=>A_6 n8 λe9 W hst hfp hcmp hQ=>?_;clear n8 h₂;subst e9;refine wpAny_bind (wpAny_newObj_type ?_);have hSf:s₂.heap.objs.size∉fp:=λhm=>vF _ (hfp _ hm);rw[hname];refine wpAny_pure ⟨plainId_quiet F.plain_min_loop _,Yl W bt hcmp s₂.heap.objs.size hSf "default" d n 0 _ #[] _ (ur _) (W.frame _ _ _ hst λb _ o e=>Heap.get?_push_of_some _ e) (.inl ⟨rfl,rfl⟩) (Heap.get?_push_size _ rfl) λv h' tk hP hk=>?_⟩;exact hQ v h' tk hP λb o hbw e=>hk b o hbw (ve (Heap.lt_size e)) (Heap.get?_push_of_some _ e)
 cases hsig:Manifest.signature? "min" with
 |none=>exact wpAny_pure body
 |some sig =>
  have ha:=JL x d;simp only[argsOk,hsig]at ha;have h2:Bind.checkArgs "min" sig ⟨[x],[("default",d)]⟩=pure Unit.unit:=ha;show wpAny _ A.in1 (Bind.checkArgs "min" sig ⟨[x],[("default",d)]⟩) _ _ s;rw[h2];exact wpAny_pure body
end
section
variable{X:Cx}
def zeI(K:Frag)(tl:TE):TE:=λσ H Q=>tl σ H λx H1=>∃(a:Addr)(ns:List Int),x=.ref a/\SqL K H1 a (ns.map V.int)/\(ns=[]->Q .non H1)/\(∀M,M∈ns->(∀z∈ns,M<=z)->Q (.int M) H1)
theorem WA{l:Expr}{tl:TE}{cc:Nat}{np kpos p pos:Pos}(hc:X.calm=true)(hg:Gl X "min")(hm:X.mg "min"=none)(hl:PE X l tl)(hs:starEach [l] X.env=[(false,eval l X.env)]:=by rfl):
  PE X (.Call (.Name "min" p) [l] [⟨some "default",.Constant .none cc np,kpos⟩] pos) (zeI X.K tl):=by
 intro pins s σ H Q I h;refine wpAny_Call_Name_kw (yT I hg hm boot_min ?_ ⋯ ⋯);refine PyProof.Rows.callWith_kw (thn ((za hl zb hs) pos pins s σ H (λvs H1=>match vs with
  |[x]=>∃(a:Addr)(ns:List Int),x=.ref a/\SqL X.K H1 a (ns.map V.int)/\(ns=[]->Q .non H1)/\(∀M,M∈ns->(∀z∈ns,M<=z)->Q (.int M) H1)
  |_=>False) I h) λus s1 ⟨vs,H1,I1,r1,q1⟩=>?_) (by rw[hs];rfl) (by rw[hs];rfl) rfl rfl
 match vs,q1 with
 |[x],q1 =>
 obtain⟨u,rfl,ru⟩:=vals1 r1;refine thn ((Wh (nm:=some "default") xR QX) pos pins s1 σ H1 (λws H2=>ws=[.non]/\H2=H1) I1 ⟨rfl,rfl⟩) λus2 s2 h9=>?_;obtain⟨ws,H2,I2,r2,e1,e2⟩:=h9;subst e1 e2;obtain⟨u2,rfl,ru2⟩:=vals1 r2;refine E_2 q1 λa ns n8=>A_4 n8 λe9 hq q0 q=>?_;clear n8 q1;subst e9;cases (show u=Value.ref a from ru);cases (show u2=Value.none from ru2);show wpAny _ _ (call (.builtin "min") [.ref a] [(Str.ofString "default",.none)]) _ _ _;obtain⟨its,rv,tp,hz⟩:=I2.list hq;have hll:=rv.length;rw[ka]at hll;refine JM (ww I2 tp.isList hc λs3 e W st hfp=>?_);subst e;refine I_7 _ _ _ _ _ _ _ ⟨rfl,W,st,hfp,CmpOf.ints_lt (λi=>ns.getD i 0) (xI rv),λv h' tk hP hk=>?_⟩;have keep:Inv X pins σ H2 _:=I2.kept (t':=tk) λb o e=>hk b o (λm=>by
  have:=Heap.lt_size e;rw[kj.mp m]at this;exact vF _ this) (Heap.get?_push_of_some _ e)
 rw[ko]at hP;rcases hP with⟨h0,hP⟩|⟨h0,rfl⟩
 .obtain ⟨t,rfl⟩:=xI rv _ _ hP;obtain⟨b1,b2⟩:=argBest_lt (λi=>ns.getD i 0) (its.length-1);refine⟨.int _,H2,keep,⟨t,rfl⟩,q _ (jD (by omega)) λz hz=>?_⟩;obtain⟨j,hj,e⟩:=YQ hz;rw[<-e];exact b2 j ()
 .exact ⟨.non,H2,keep,rfl,q0 (vm.mp ())⟩
end
end _L2
namespace _JK
open PySem _L2 _Lin _Tre PySem.W
open _Sta (R Ok sbs exch reg OkS OkSs stN HasR zJ Low tr)
theorem zdD{K:Frag}{H:Hp}{n:Nat}{a b:Addr}{us vs:List V}{wss:List (List W)}(ha:H a=some (.lst us))(hb:H b=some (.lst vs))(hu:Txs H us wss)(hv:Txs H vs wss):EqR K H (n+2) (.ref a) (.ref b) true:=by
 have l1:=hu.len;have l2:=hv.len;refine jP (EqR.lsts (n:=n+1) (e:=λ_=>true) (SqL.of ha) (SqL.of hb) () λj hj=>?_) (all_true _);obtain⟨ws,e1,p,ep,hp,_⟩:=hu.get (kf hj);obtain⟨ws',e2,q,eq,hq,_⟩:=hv.get (kf (show j<vs.length by lia));rw[e1]at e2;cases e2;rw[kE,kf hj,ep,kE,kf (show j<vs.length by lia),eq];exact Yx (SqL.of hp) (SqL.of hq)
def Qr:Sp:=λvs H Q _=>∃(a:Addr)(us:List V)(A:Stc)(wide:Nat),vs=[.ref a,.int wide]/\H a=some (.lst us)/\zT H us A/\A.length<=1000000/\∀(o:Option Nat)(H':Hp),Same H H'->Low (reg A) wide o->Q (oV o) H'
def XA:Sp:=λvs H Q _=>∃(a:Addr)(us:List V)(A:Stc)(high:Nat),vs=[.ref a,.int high]/\H a=some (.lst us)/\zT H us A/\A.length<=1000000/\∀(o:Option Nat)(H':Hp),Same H H'->Low (tr (reg A)) high o->Q (oV o) H'
def Refd(C4 C6:Addr)(H:Hp)(y:V)(t:T)(E:XK):Prop:=(∃(n:List Int)(a:Addr)(xs:List V)(bs:List Bool),zX t/\Good t n/\y=.ref a/\H a=some (.lst xs)/\JTs H xs bs/\xs.length<=1000/\(xs.length≠n.length\/bs.all id=false)/\∀H',Same H H'->E (.ref C6) none H') \/
 (zX t/\NoL H y/\∀H',Same H H'->E (.ref C6) none H')\/(¬zX t/\∀H',Same H H'->E (.ref C4) none H')
def spLh(C4 C6:Addr):Sp:=λvs H Q E=>∃(x y:V)(t:T)(wide:Nat),vs=[x,y,.int wide]/\At H x t/\sz t<=1000 /\
 ((∃(n:List Int)(a:Addr)(xs:List V)(wss:List (List W)),zX t/\Good t n/\y=.ref a/\H a=some (.lst xs)/\Txs H xs wss/\xs.length=n.length/\∀(P:R)(o:Option Nat)(H':Hp),HasR (Lvs wss) t P->Same H H'->Low P wide o->Q (oV o) H')\/Refd C4 C6 H y t E)
def WB(C4 C6:Addr):Sp:=λvs H Q E=>∃(x y:V)(t:T)(high:Nat),vs=[x,y,.int high]/\At H x t/\sz t<=1000 /\
 ((∃(n:List Int)(a:Addr)(xs:List V)(wss:List (List W)),zX t/\Good t n/\y=.ref a/\H a=some (.lst xs)/\Txs H xs wss/\xs.length=n.length/\∀(P:R)(o:Option Nat)(H':Hp),HasR (Lvs wss) t P->Same H H'->Low (tr P) high o->Q (oV o) H')\/Refd C4 C6 H y t E)
theorem XB{ns:List Nat}{M:Int}(hM:M∈ns.map λn:Nat=>(n:Int))(hl:∀z∈ns.map (λn:Nat=>(n:Int)),M<=z):∃m:Nat,M=(m:Int)/\m∈ns/\∀z∈ns,m<=z:=by
 obtain⟨m,hm,rfl⟩:=vh.mp hM;refine⟨m,rfl,hm,λz hz=>?_⟩;have:=hl (z:Int) (vh.mpr ⟨z,hz,rfl⟩);lia
section
variable{P:Program}{w:World}{K:Frag}{mg:Str->Option Value}{base:Heap}{kA:Addr}
theorem zeJ:zn ["stairs","wide"] ["stairs","wide"] (zj sLow):=by trivial
theorem zdE{f:Addr}{fd:FuncData}(F:Fun K "lowest" "lowest" sLow f fd)(gWIDE:GI mg "WIDE" 0)(gHIGH:GI mg "HIGH" 1)(tmin:mg "min"=none):FnOk P w K mg base CX0 1 f fd ["stairs","wide"] Qr:=by
 refine F.ok zeJ (λvs H Q E h=>?_) (λcdv A outer s H vs Q E hr h=>?_)
 .refine E_4 h λa us A wide n8=>A_2 n8 λe9 _=>?_;clear n8 h;subst e9;rfl
 .refine E_4 h λa us A1 wide n8=>A_5 n8 λe9 ha hA hn q=>?_;clear n8 h;subst e9;refine⟨_,(zf (zl (WA rfl rfl tmin (zP (Nc:=["stair","wide"]) (ix:=[none,some 1]) rfl rfl (by refine' zY ?zz;case zz=>exact(pv 0)) (λ_ _ _ _ _=>(zt (i:=0) (by show(["stair","wide"]:List Str).Nodup;decide +kernel) rfl (Or.inl rfl))) (λ_ _ _ _ _=>(wO (zy xZ (zk (yA (K:=K) rfl) (pv 0) (zD rfl gWIDE) (λ_ _=>rfl)) (pv 1) (zu _)))) (λ_ _ _ _ _=>(zk (yA (K:=K) rfl) (pv 0) (zD rfl gHIGH) (λ_ _=>rfl))))))),?_⟩;have la:=hA.len;refine⟨_,rfl,a,rfl,⟨_,SqL.of ha⟩,ye (K:=K) (a:=a) (xs:=us) (λi ys σ H2=>H2=H/\ys=((((A1.take i).filter λp=>decide (p.1<=wide)).map λp=>p.2).map λn:Nat=>(n:Int)).map V.int/\∃o,σ=[o,some (.int (wide:Int))]) ⟨rfl,rfl,none,rfl⟩
   (λi ys σ H2 hi h9=>by obtain⟨e,e2,_⟩:=h9;exact(⟨by rw[e2,ka,ka,ka];exact kn (uM _ _) (by rw[kJ];exact kn (show _<=1000000 by lia) ⋯),by rw[e];exact SqL.of ha⟩)) ?_ ?_⟩
  case refine_2 =>
   rintro i x ys σ H2 hx ⟨rfl,rfl,o,rfl⟩;obtain⟨p,ep,pa,rfl,hpa⟩:=hA.get' hx;obtain⟨hil,ev⟩:=kh.mp ep;dsimp only[zU];refine z8 (p:=(p.1:Int)<=(wide:Int)) (z5 (yk (zp rfl) zM (SqT.of hpa) rfl) (zp rfl)) _ ?_;rw[<-kF hil,ev,bv];by_cases c:p.1<=wide
   .rw [decide_eq_true (show(p.1:Int)<=(wide:Int)by lia)];refine iteT ⟨_,rfl,pa,_,_,_,rfl,rfl,SqT.of hpa,rfl,rfl,?_,_,rfl⟩;rw[ub,decide_eq_true c,if_pos rfl,kD,kD,kD];rfl
   .rw [decide_eq_false (show ¬(p.1:Int)<=(wide:Int)by lia)];refine iteF ⟨rfl,?_,_,rfl⟩;rw[ub,decide_eq_false c];show _=((((A1.take i).filter _++[]).map _).map _).map _;rw[vq]
  rintro ys σ H2 ⟨rfl,rfl,_⟩ l nl;rw[la,kM];have S:=zd (o:=.lst (((((A1.filter λp=>decide (p.1<=wide)).map λp=>p.2).map λn:Nat=>(n:Int)).map V.int))) nl;obtain⟨m1,m2⟩:=_Sta.zcs (A:=A1) (w:=wide) (ns:=(A1.filter λp=>decide (p.1<=wide)).map λp=>p.2) (λn=>by
   rw[vh];constructor
   .intro h8;obtain⟨p,hp,rfl⟩:=h8;obtain⟨h1,h2⟩:=uA.mp hp;exact⟨p,h1,of_decide_eq_true h2,rfl⟩
   .intro h8;obtain⟨p,h1,h2,rfl⟩:=h8;exact⟨p,uA.mpr ⟨h1,decide_eq_true h2⟩,rfl⟩)
  refine⟨l,_,rfl,SqL.of zc,λe=>q none _ S (m1 (bO.mp e)),λM hM hl=>?_⟩;obtain⟨m,rfl,hm,hl'⟩:=XB hM hl;exact q (some m) _ S (m2 m hm hl')
theorem zdF:zn ["stairs","high"] ["stairs","high"] (zj Qg):=by trivial
theorem zcu{f:Addr}{fd:FuncData}(F:Fun K "narrowest" "narrowest" Qg f fd)(gWIDE:GI mg "WIDE" 0)(gHIGH:GI mg "HIGH" 1)(tmin:mg "min"=none):FnOk P w K mg base CX0 1 f fd ["stairs","high"] XA:=by
 refine F.ok zdF (λvs H Q E h=>?_) (λcdv A outer s H vs Q E hr h=>?_)
 .refine E_4 h λa us A high n8=>A_2 n8 λe9 _=>?_;clear n8 h;subst e9;rfl
 .refine E_4 h λa us A1 high n8=>A_5 n8 λe9 ha hA hn q=>?_;clear n8 h;subst e9;refine⟨_,(zf (zl (WA rfl rfl tmin (zP (Nc:=["stair","high"]) (ix:=[none,some 1]) rfl rfl (by refine' zY ?zz;case zz=>exact(pv 0)) (λ_ _ _ _ _=>(zt (i:=0) (by show(["stair","high"]:List Str).Nodup;decide +kernel) rfl (Or.inl rfl))) (λ_ _ _ _ _=>(wO (zy xZ (zk (yA (K:=K) rfl) (pv 0) (zD rfl gHIGH) (λ_ _=>rfl)) (pv 1) (zu _)))) (λ_ _ _ _ _=>(zk (yA (K:=K) rfl) (pv 0) (zD rfl gWIDE) (λ_ _=>rfl))))))),?_⟩;have la:=hA.len;refine⟨_,rfl,a,rfl,⟨_,SqL.of ha⟩,ye (K:=K) (a:=a) (xs:=us) (λi ys σ H2=>H2=H/\ys=((((A1.take i).filter λp=>decide (p.2<=high)).map λp=>p.1).map λn:Nat=>(n:Int)).map V.int/\∃o,σ=[o,some (.int (high:Int))]) ⟨rfl,rfl,none,rfl⟩
   (λi ys σ H2 hi h9=>by obtain⟨e,e2,_⟩:=h9;exact(⟨by rw[e2,ka,ka,ka];exact kn (uM _ _) (by rw[kJ];exact kn (show _<=1000000 by lia) ⋯),by rw[e];exact SqL.of ha⟩)) ?_ ?_⟩
  case refine_2 =>
   rintro i x ys σ H2 hx ⟨rfl,rfl,o,rfl⟩;obtain⟨p,ep,pa,rfl,hpa⟩:=hA.get' hx;obtain⟨hil,ev⟩:=kh.mp ep;dsimp only[zU];refine z8 (p:=(p.2:Int)<=(high:Int)) (z5 (yk (zp rfl) zM (SqT.of hpa) rfl) (zp rfl)) _ ?_;rw[<-kF hil,ev,bv];by_cases c:p.2<=high
   .rw [decide_eq_true (show(p.2:Int)<=(high:Int)by lia)];refine iteT ⟨_,rfl,pa,_,_,_,rfl,rfl,SqT.of hpa,rfl,rfl,?_,_,rfl⟩;rw[ub,decide_eq_true c,if_pos rfl,kD,kD,kD];rfl
   .rw [decide_eq_false (show ¬(p.2:Int)<=(high:Int)by lia)];refine iteF ⟨rfl,?_,_,rfl⟩;rw[ub,decide_eq_false c];show _=((((A1.take i).filter _++[]).map _).map _).map _;rw[vq]
  rintro ys σ H2 ⟨rfl,rfl,_⟩ l nl;rw[la,kM];have S:=zd (o:=.lst (((((A1.filter λp=>decide (p.2<=high)).map λp=>p.1).map λn:Nat=>(n:Int)).map V.int))) nl;obtain⟨m1,m2⟩:=_Sta.zct (A:=A1) (k:=high) (ns:=(A1.filter λp=>decide (p.2<=high)).map λp=>p.1) (λn=>by
   rw[vh];constructor
   .intro h8;obtain⟨p,hp,rfl⟩:=h8;obtain⟨h1,h2⟩:=uA.mp hp;exact⟨p,h1,of_decide_eq_true h2,rfl⟩
   .intro h8;obtain⟨p,h1,h2,rfl⟩:=h8;exact⟨p,uA.mpr ⟨h1,decide_eq_true h2⟩,rfl⟩)
  refine⟨l,_,rfl,SqL.of zc,λe=>q none _ S (m1 (bO.mp e)),λM hM hl=>?_⟩;obtain⟨m,rfl,hm,hl'⟩:=XB hM hl;exact q (some m) _ S (m2 m hm hl')
theorem scLh:zn ["tree","texts","wide"] ["tree","texts","wide"] (zj sLh):=by trivial
theorem zeK{f fT fL C4 C6:Addr}{fd dT dL:FuncData}(F:Fun K "least_high" "least_high" sLh f fd)(Ts:Callee P w K mg base (CXE P w) 28 "tree_stairs" fT dT ["tree","texts"] (Qq C4 C6))(Lo:Callee P w K mg base CX0 1 "lowest" fL dL ["stairs","wide"] Qr):
  FnOk P w K mg base (CXE P w) 29 f fd ["tree","texts","wide"] (spLh C4 C6):=by
 refine F.okE scLh (λvs H Q E h=>?_) (λcdv A outer s H vs Q E hr hh h=>?_)
 .refine E_4 h λx y t wide n8=>A_2 n8 λe9 _=>?_;clear n8 h;subst e9;rfl
 .revert h;intro n7;refine E_4 n7 λx y t wide n8=>A_4 n8 λe9 hA hz h=>?_;clear n8 n7;subst e9;refine⟨_,(zf (zl (zh Lo.ok (hr.mono ⋯) rfl Lo.bound Lo.kp Lo.bd .nil zx (za (zh Ts.ok hr rfl Ts.bound Ts.kp Ts.bd .nil y7 (za (pv 0) (za (pv 1) zb))) (za (pv 2) zb))))),?_⟩;rcases h with⟨n,a,xs,wss,iT,g,rfl,ha,hT,hl,q⟩|h
  .refine ⟨_,rfl,_,rfl,x,.ref a,t,rfl,hA,hz,.inl ⟨n,a,xs,wss,iT,g,rfl,ha,hT,hl,λP1 l us A1 H1 hR S1 nl hl1 hs oA lA=>?_⟩⟩;refine⟨_,rfl,l,us,A1,wide,rfl,hl1,hs,(),λo H2 S2 low=>?_⟩;exact q P1 o H2 hR (S1.trans S2) (low.of oA.2)
  .exact ⟨_,rfl,_,rfl,x,y,t,rfl,hA,hz,.inr h⟩
end
end _JK
namespace _Sta
open _Tre _Lin
structure Pc where
 l:Nat
 t:Nat
 r:Nat
 b:Nat
inductive PcsA(Ls:List R)(top below right:Nat):List T->Nat->List Pc->Prop where
 |one{t:T}{left:Nat}{P:R}(h:HasR Ls t P)(rm:P (right-left) (below-top)):PcsA Ls top below right [t] left [⟨left,top,right,below⟩]
 |cons{t t2:T}{ts:List T}{left w:Nat}{P:R}{pcs:List Pc}(h:HasR Ls t P)(lw:Low (tr P) (below-top) (some w))(r:PcsA Ls top below right (t2::ts) (left+w) pcs):PcsA Ls top below right (t::t2::ts) left (⟨left,top,left+w,below⟩::pcs)
inductive PcsD(Ls:List R)(left right below:Nat):List T->Nat->List Pc->Prop where
 |one{t:T}{top:Nat}{P:R}(h:HasR Ls t P)(rm:P (right-left) (below-top)):PcsD Ls left right below [t] top [⟨left,top,right,below⟩]
 |cons{t t2:T}{ts:List T}{top k:Nat}{P:R}{pcs:List Pc}(h:HasR Ls t P)(lw:Low P (right-left) (some k))(r:PcsD Ls left right below (t2::ts) (top+k) pcs):PcsD Ls left right below (t::t2::ts) top (⟨left,top,right,top+k⟩::pcs)
mutual
inductive zQ(Ls:List R):T->Pc->List (Int×Pc)->Prop where
 |leaf{i:Int}{p:Pc}:zQ Ls (.int i) p [(i,p)]
 |bar{ps:List T}{p:Pc}{pcs:List Pc}{res:List (List (Int×Pc))}(h:PcsA Ls p.t p.b p.r ps p.l pcs)(r:SetL Ls ps pcs res):zQ Ls (.tup [.str bar,.tup ps]) p res.flatten
 |dash{ps:List T}{p:Pc}{pcs:List Pc}{res:List (List (Int×Pc))}(h:PcsD Ls p.l p.r p.b ps p.t pcs)(r:SetL Ls ps pcs res):zQ Ls (.tup [.str dash,.tup ps]) p res.flatten
inductive SetL(Ls:List R):List T->List Pc->List (List (Int×Pc))->Prop where
 |nil:SetL Ls [] [] []
 |cons{t:T}{p:Pc}{ts:List T}{pcs:List Pc}{a:List (Int×Pc)}{res:List (List (Int×Pc))}(h:zQ Ls t p a)(r:SetL Ls ts pcs res):SetL Ls (t::ts) (p::pcs) (a::res)
end
def Rm(P:R)(p:Pc):Prop:=P (p.r-p.l) (p.b-p.t)
inductive RmL:List R->List Pc->Prop where
 |nil:RmL [] []
 |cons{P:R}{p:Pc}{Ps:List R}{pcs:List Pc}(h:Rm P p)(r:RmL Ps pcs):RmL (P::Ps) (p::pcs)
theorem least{f:Nat->Prop}(h:∃n,f n):∃n,f n/\∀m,f m->n<=m:=by
 obtain⟨n,hn⟩:=h;have:∀k n,n<=k->f n->∃n,f n/\∀m,f m->n<=m:=by
  intro k
  induction k with
  |zero =>
   intro n h1 h2;exact⟨n,h2,λm _=>()⟩
  |succ k ih =>
   intro n h1 h2;by_cases c:∃m,m<n/\f m
   .obtain ⟨m,m1,m2⟩:=c;exact ih m () m2
   .exact ⟨n,h2,λm hm=>bG.mp λz=>c ⟨m,z,hm⟩⟩
 exact this n n (kc _) hn
theorem qo{P:R}{w:Nat}(h:∃k,P w k):∃k,Low P w (some k):=by
 obtain⟨k,a,b⟩:=least (f:=λk=>P w k) h;exact⟨k,a,b⟩
inductive Parts(h:Nat):List R->List Nat->Prop where
 |nil:Parts h [] []
 |cons{P:R}{a:Nat}{Ps:List R}{as:List Nat}(p:P a h)(r:Parts h Ps as):Parts h (P::Ps) (a::as)
theorem Zc:∀(Ps:List R)(P:R)(w h:Nat),(Ps.foldl bes P) w h->∃(a:Nat)(as:List Nat),P a h/\Parts h Ps as/\a+as.sum<=w
 |[],P,w,h,z=>⟨w,[],z,.nil,kc _⟩
 |Q::Ps,P,w,h,z=>by
  obtain⟨a,as,⟨x,y,e,px,qy⟩,r,s⟩:=Zc Ps (bes P Q) w h z;exact⟨x,y::as,px,.cons qy r,by rw[k9];lia⟩
theorem cutA{Ls:List R}{top below right:Nat}:∀{ps:List T}{P:R}{Ps:List R}{a:Nat}{as:List Nat}{left:Nat},zJ Ls ps (P::Ps)->(∀Q∈P::Ps,Up Q)->P a (below-top)->Parts (below-top) Ps as->left+a+as.sum<=right ->
  ∃pcs,PcsA Ls top below right ps left pcs/\RmL (P::Ps) pcs
 |_,P,_,a,_,left,.cons h .nil,up,pa,.nil,le =>
  have z:P (right-left) (below-top):=(up P ke).up pa (show a<=right-left by simp at le;lia) (kc _)
  ⟨_,.one h z,.cons z .nil⟩
 |_,P,_,a,_,left,.cons (ts:=_::_) h (.cons h2 r2),up,pa,.cons (a:=a2) (as:=as) p2 q2,le=>by
  obtain⟨w,lw⟩:=qo (P:=tr P) (w:=below-top) ⟨a,pa⟩;have wa:w<=a:=lw.2 a pa;rw[k9]at le;obtain⟨pcs,k1,k2⟩:=cutA (top:=top) (below:=below) (right:=right) (left:=left+w) (.cons h2 r2) (λQ hQ=>up Q (kg _ hQ)) p2 q2 ();refine⟨_,.cons h lw k1,.cons ?_ k2⟩;show P (left+w-left) (below-top);rw[vI];exact lw.1
theorem jv:∀(Ps:List R)(P:R)(w h:Nat),(Ps.foldl dwn P) w h->∃(a:Nat)(as:List Nat),P w a/\Parts w (Ps.map tr) as/\a+as.sum<=h
 |[],P,w,h,z=>⟨h,[],z,.nil,kc _⟩
 |Q::Ps,P,w,h,z=>by
  obtain⟨a,as,⟨x,y,e,px,qy⟩,r,s⟩:=jv Ps (dwn P Q) w h z;exact⟨x,y::as,px,.cons qy r,by rw[k9];lia⟩
theorem cutD{Ls:List R}{left right below:Nat}:∀{ps:List T}{P:R}{Ps:List R}{a:Nat}{as:List Nat}{top:Nat},zJ Ls ps (P::Ps)->(∀Q∈P::Ps,Up Q)->P (right-left) a->Parts (right-left) (Ps.map tr) as->top+a+as.sum<=below ->
  ∃pcs,PcsD Ls left right below ps top pcs/\RmL (P::Ps) pcs
 |_,P,_,a,_,top,.cons h .nil,up,pa,.nil,le =>
  have z:P (right-left) (below-top):=(up P ke).up pa (kc _) (show a<=below-top by simp at le;lia)
  ⟨_,.one h z,.cons z .nil⟩
 |_,P,_,a,_,top,.cons (ts:=_::_) h (.cons h2 r2),up,pa,.cons (a:=a2) (as:=as) p2 q2,le=>by
  obtain⟨k,lw⟩:=qo (P:=P) (w:=right-left) ⟨a,pa⟩;have wa:k<=a:=lw.2 a pa;rw[k9]at le;obtain⟨pcs,k1,k2⟩:=cutD (left:=left) (right:=right) (below:=below) (top:=top+k) (.cons h2 r2) (λQ hQ=>up Q (kg _ hQ)) p2 q2 ();refine⟨_,.cons h lw k1,.cons ?_ k2⟩;show P (right-left) (top+k-top);rw[vI];exact lw.1
mutual
theorem XC{Ls:List R}(hL:∀L∈Ls,Up L):∀{t:T}{P:R}{p:Pc},HasR Ls t P->Rm P p->p.l<=p.r->p.t<=p.b->∃res,zQ Ls t p res
 |_,_,p,.leaf _ _,_,_,_=>⟨_,.leaf⟩
 |_,_,p,.bar (P:=P) (Ps:=Ps) h,rm,le1,le2=>by
  obtain⟨a,as,pa,ps,s⟩:=Zc _ _ _ _ rm;obtain⟨pcs,k1,k2⟩:=cutA (Ls:=Ls) (top:=p.t) (below:=p.b) (right:=p.r) (left:=p.l) h (zJ.up hL h) pa ps ();obtain⟨res,k3⟩:=ZM hL h k2;exact⟨_,.bar k1 k3⟩
 |_,_,p,.dash (P:=P) (Ps:=Ps) h,rm,le1,le2=>by
  obtain⟨a,as,pa,ps,s⟩:=jv _ _ _ _ rm;obtain⟨pcs,k1,k2⟩:=cutD (Ls:=Ls) (left:=p.l) (right:=p.r) (below:=p.b) (top:=p.t) h (zJ.up hL h) pa ps ();obtain⟨res,k3⟩:=ZM hL h k2;exact⟨_,.dash k1 k3⟩
theorem ZM{Ls:List R}(hL:∀L∈Ls,Up L):∀{ts:List T}{Ps:List R}{pcs:List Pc},zJ Ls ts Ps->RmL Ps pcs->∃res,SetL Ls ts pcs res
 |_,_,_,.nil,.nil=>⟨[],.nil⟩
 |_,_,_,.cons h r,.cons (p:=p) m n=>by
  have:=(HasR.up hL h).pos m;obtain⟨a,k1⟩:=XC hL h m (by omega) ();obtain⟨res,k2⟩:=ZM hL r n;exact⟨_,.cons k1 k2⟩
end
mutual
theorem zQ.keys0{Ls:List R}:∀{t:T}{p:Pc}{res:List (Int×Pc)},zQ Ls t p res->∀{n:List Int},Good t n->res.map (·.1)=n
 |_,_,_,.leaf,n,g=>by rw[JF g];rfl
 |_,_,_,.bar h r,n,g=>by
  obtain⟨nss,e,g⟩:=Yj g;rw[e,List.map_flatten,SetL.keys0 r g]
 |_,_,_,.dash h r,n,g=>by
  obtain⟨nss,e,g⟩:=Yj g;rw[e,List.map_flatten,SetL.keys0 r g]
theorem SetL.keys0{Ls:List R}:∀{ts:List T}{pcs:List Pc}{res:List (List (Int×Pc))},SetL Ls ts pcs res->∀{nss:List (List Int)},zE ts nss->res.map (List.map (·.1))=nss
 |_,_,_,.nil,nss,g=>by rw[JG g];rfl
 |_,_,_,.cons h r,nss,g=>by
  obtain⟨a,b,e,g,gs⟩:=Qm g;rw[e,k8,zQ.keys0 h g,SetL.keys0 r gs]
end
theorem zQ.keys{Ls:List R}{t:T}{n:List Int}{p:Pc}{res:List (Int×Pc)}(g:Good t n)(h:zQ Ls t p res):res.map (·.1)=n:=zQ.keys0 h g
theorem SetL.keys{Ls:List R}{ts:List T}{nss:List (List Int)}{pcs:List Pc}{res:List (List (Int×Pc))}(g:zE ts nss)(h:SetL Ls ts pcs res):res.map (List.map (·.1))=nss:=SetL.keys0 h g
theorem PcsA.rm{Ls:List R}{top below right:Nat}:∀{ts:List T}{left:Nat}{pcs:List Pc}{i:Nat}{t:T}{p:Pc},PcsA Ls top below right ts left pcs->ts[i]?=some t->pcs[i]?=some p->p.t=top/\p.b=below/\∃P,HasR Ls t P/\Rm P p
 |_,_,_,0,t,p,.one h rm,e1,e2=>by
  cases e1;cases e2;exact⟨rfl,rfl,_,h,rm⟩
 |_,_,_,i+1,t,p,.one h rm,e1,e2=>by simp at e1
 |_,left,_,0,t,p,.cons (w:=w) (P:=P) h lw r,e1,e2=>by
  cases e1;cases e2;refine⟨rfl,rfl,_,h,?_⟩;show P (left+w-left) (below-top);rw[vI];exact lw.1
 |_,_,_,i+1,t,p,.cons h lw r,e1,e2=>PcsA.rm (i:=i) r (by simpa using e1) (by simpa using e2)
theorem PcsD.rm{Ls:List R}{left right below:Nat}:∀{ts:List T}{top:Nat}{pcs:List Pc}{i:Nat}{t:T}{p:Pc},PcsD Ls left right below ts top pcs->ts[i]?=some t->pcs[i]?=some p->p.l=left/\p.r=right/\∃P,HasR Ls t P/\Rm P p
 |_,_,_,0,t,p,.one h rm,e1,e2=>by
  cases e1;cases e2;exact⟨rfl,rfl,_,h,rm⟩
 |_,_,_,i+1,t,p,.one h rm,e1,e2=>by simp at e1
 |_,top,_,0,t,p,.cons (k:=k) (P:=P) h lw r,e1,e2=>by
  cases e1;cases e2;refine⟨rfl,rfl,_,h,?_⟩;show P (right-left) (top+k-top);rw[vI];exact lw.1
 |_,_,_,i+1,t,p,.cons h lw r,e1,e2=>PcsD.rm (i:=i) r (by simpa using e1) (by simpa using e2)
def plc(first:Nat):List Nat->List Nat
 |[]=>[first]
 |a::r=>first::plc (first+a) r
theorem PcsA.ws{Ls:List R}{top below right:Nat}:∀{ts:List T}{left:Nat}{pcs:List Pc},PcsA Ls top below right ts left pcs->∃ws:List Nat,ws.length+1=ts.length/\(∀(i:Nat)(t:T)(w:Nat),ts[i]?=some t->ws[i]?=some w->∃P,HasR Ls t P/\Low (tr P) (below-top) (some w)) /\
  pcs=((plc left ws).zip ((plc left ws++[right]).drop 1)).map λq=>⟨q.1,top,q.2,below⟩
 |_,_,_,.one _ _=>⟨[],rfl,λi t w _ e=>by simp at e,rfl⟩
 |_,left,_,.cons (w:=w) (P:=P) h lw r=>by
  obtain⟨ws,l,k,e⟩:=r.ws;refine⟨w::ws,by simpa using l,λi t u e1 e2=>?_,?_⟩
  .match i,e1,e2 with
   |0,e1,e2 =>
    cases e1;cases e2;exact⟨P,h,lw⟩
   |i+1,e1,e2=>exact k i t u (by simpa using e1) (by simpa using e2)
  .rw [e];obtain⟨xs,ex⟩:∃xs,plc (left+w) ws=(left+w)::xs:=by cases ws<;>exact⟨_,rfl⟩
   show _=(((left::plc (left+w) ws).zip (((left::plc (left+w) ws)++[right]).drop 1)).map λq=>(⟨q.1,top,q.2,below⟩:Pc));rw[ex];rfl
theorem PcsD.ws{Ls:List R}{left right below:Nat}:∀{ts:List T}{top:Nat}{pcs:List Pc},PcsD Ls left right below ts top pcs->∃ws:List Nat,ws.length+1=ts.length/\(∀(i:Nat)(t:T)(w:Nat),ts[i]?=some t->ws[i]?=some w->∃P,HasR Ls t P/\Low P (right-left) (some w)) /\
  pcs=((plc top ws).zip ((plc top ws++[below]).drop 1)).map λq=>⟨left,q.1,right,q.2⟩
 |_,_,_,.one _ _=>⟨[],rfl,λi t w _ e=>by simp at e,rfl⟩
 |_,top,_,.cons (k:=w) (P:=P) h lw r=>by
  obtain⟨ws,l,k,e⟩:=r.ws;refine⟨w::ws,by simpa using l,λi t u e1 e2=>?_,?_⟩
  .match i,e1,e2 with
   |0,e1,e2 =>
    cases e1;cases e2;exact⟨P,h,lw⟩
   |i+1,e1,e2=>exact k i t u (by simpa using e1) (by simpa using e2)
  .rw [e];obtain⟨xs,ex⟩:∃xs,plc (top+w) ws=(top+w)::xs:=by cases ws<;>exact⟨_,rfl⟩
   show _=(((top::plc (top+w) ws).zip (((top::plc (top+w) ws)++[below]).drop 1)).map λq=>(⟨left,q.1,right,q.2⟩:Pc));rw[ex];rfl
theorem jl(first:Nat):∀ws:List Nat,(plc first ws).length=ws.length+1:=by
 intro ws
 induction ws generalizing first with
 |nil=>rfl
 |cons a r ih=>show(plc (first+a) r).length+1=_;rw[ih,kz]
theorem XD:∀(ws:List Nat)(first a:Nat),plc first (ws++[a])=plc first ws++[first+ws.sum+a]
 |[],first,a=>by simp[plc]
 |b::r,first,a=>by
  show first::plc (first+b) (r++[a])=first::plc (first+b) r++[first+(b::r).sum+a]
  rw[XD r,k9,<-uE];rfl
theorem XE:∀(ws:List Nat)(first:Nat),∃xs,plc first ws=xs++[first+ws.sum]
 |[],first=>⟨[],by simp[plc]⟩
 |b::r,first=>by
  obtain⟨xs,e⟩:=XE r (first+b);exact⟨first::xs,by show first::plc (first+b) r=_;rw[e,k9,<-uE];rfl⟩
end _Sta
namespace _L2
open PySem PySem.Spec PyProof.Rows
section
variable{prog:Program}{w:World}{A:Around}{E:Value->Shared->Prop}{s:Shared}
theorem Qt{it t:Addr}{i:Nat}{its:Array Value}{x:Value}{Q:Value->Shared->Prop}(hit:s.heap.IsTupleIter it t i)(ht:s.heap.IsTuple t its)(hx:its[i]?=some x)
  (hQ:∀h',h'.IsTupleIter it t (i+1)->Heap.SameBut it s.heap h'->Q x {s with heap:=h'}):wpAny (model prog w) A (Builtin.SmallTypes.nextOf (.ref it)) Q E s:=by
 obtain⟨o,ho,hc,hd⟩:=id hit;obtain⟨ol,hol,_,nl,hdl⟩:=ht;unfold Builtin.SmallTypes.nextOf;refine wpAny_bind (wpAny_callSpecial?_slot (name:=Str.ofString "__next__") hit.typeIs F.slot_tuple_iterator_next (wpAny_call_entry F.slot_tuple_iterator_next hit.typeIs F.entry_tuple_iterator_next ?_ (F.args_tuple_iterator_next_1 _)));show wpAny _ _ (field (.ref it) 0 >>= _) _ _ s;refine wpAny_bind (wpAny_field ho hd (x:=.ref t) rfl ?_);show wpAny _ _ (if(Value.ref t==Value.none)=true then _ else _) _ _ s;rw[if_neg (show ¬((Value.ref t==Value.none)=true)from kt)];show wpAny _ _ (field (.ref it) 1 >>= _) _ _ s;refine wpAny_bind (wpAny_field ho hd (x:=.int i 0) rfl ?_);show wpAny _ _ (seqItems? (.ref t) >>= _) _ _ s;refine wpAny_bind (wpAny_seqItems hol hdl ?_);simp only[uc,hx];refine wpAny_bind (wpAny_setField ho hd (by simp) (wpAny_pure ⟨x,rfl,wpAny_pure (hQ _ ?_ (Heap.SameBut.update ..))⟩));exact⟨_,Heap.get?_update_self _ ho (Obj.isFreed_of_fields (Obj.data_mapFields hd _)),(Obj.cls_mapFields ..).trans hc,by rw[Obj.data_mapFields hd];simp[rawInt]⟩
theorem JN{it t:Addr}{i:Nat}{its:Array Value}{Q:Value->Shared->Prop}(hh:A.handled=none)(hit:s.heap.IsTupleIter it t i)(ht:s.heap.IsTuple t its)(hx:its[i]?=none)
  (hE:∀h' e,Heap.ExtBut it s.heap h'->(∃o,h'.get? e=some o/\o.cls=.type "StopIteration")->E (.ref e) {s with heap:=h'}):wpAny (model prog w) A (Builtin.SmallTypes.nextOf (.ref it)) Q E s:=by
 obtain⟨o,ho,hc,hd⟩:=id hit;obtain⟨ol,hol,_,nl,hdl⟩:=ht;unfold Builtin.SmallTypes.nextOf;refine wpAny_bind (wpAny_callSpecial?_slot (name:=Str.ofString "__next__") hit.typeIs F.slot_tuple_iterator_next (wpAny_call_entry F.slot_tuple_iterator_next hit.typeIs F.entry_tuple_iterator_next ?_ (F.args_tuple_iterator_next_1 _)));show wpAny _ _ (field (.ref it) 0 >>= _) _ _ s;refine wpAny_bind (wpAny_field ho hd (x:=.ref t) rfl ?_);show wpAny _ _ (if(Value.ref t==Value.none)=true then _ else _) _ _ s;rw[if_neg (show ¬((Value.ref t==Value.none)=true)from kt)];show wpAny _ _ (field (.ref it) 1 >>= _) _ _ s;refine wpAny_bind (wpAny_field ho hd (x:=.int i 0) rfl ?_);show wpAny _ _ (seqItems? (.ref t) >>= _) _ _ s;refine wpAny_bind (wpAny_seqItems hol hdl ?_);simp only[uc,hx];refine wpAny_bind (wpAny_rule (wpAny_bind (wpAny_setField ho hd (by simp) ?_)));show wpAny _ _ (newExc (.type "StopIteration") [] >>= _) _ _ _;refine wpAny_bind ?_;simp only[newExc,newTuple];refine wpAny_bind (wpAny_newObj_type ?_ (by size_fits));refine wpAny_bind (m:=firstArgMember _ _) (wpAny_of_eq (a:=Value.none) (by first|rfl|(simp only[firstArgMember];rfl)) ?_);refine wpAny_newObj_type ?_ (by size_fits);simp only[raiseNew];refine wpAny_bind (wpAny_handled ?_)
 first|rw[show A.in1.handled=none from hh]|rw[hh]
 refine wpAny_bind (wpAny_pure (wpAny_throw ?_));exact hE _ _ (((Heap.SameBut.update ..).extBut.push _).push _) ⟨_,Heap.get?_push_size _ rfl,rfl⟩
theorem JO{z TI TO i1 i2 l1 l2:Addr}{k1 k2:Nat}{xs ys:Array Value}{x y a b:Value}{Q:Value->Shared->Prop}(D:ZipApart z TI TO i1 i2 l1 l2)
  (hz:IsZip s.heap z TI TO .none)(hTI:IsPair s.heap TI (.ref i1) (.ref i2))(hTO:IsPair s.heap TO a b)
  (h1:s.heap.IsTupleIter i1 l1 k1)(h2:s.heap.IsListIter i2 l2 k2)(hl1:s.heap.IsTuple l1 xs)(hl2:s.heap.IsList l2 ys)(hx:xs[k1]?=some x)(hy:ys[k2]?=some y)
  (hQ:∀h',IsZip h' z TI TO (rawInt s.heap.objs.size)->IsPair h' TO x y->h'.IsTupleIter i1 l1 (k1+1)->h'.IsListIter i2 l2 (k2+1)->IsPair h' s.heap.objs.size x y->h'.objs.size=s.heap.objs.size+1 ->
   (∀c o,c≠z->c≠TO->c≠i1->c≠i2->s.heap.get? c=some o->h'.get? c=some o)->Q (.ref s.heap.objs.size) {s with heap:=h'}):
  wpAny (model prog w) A (Builtin.«zip.__next__» ⟨[.ref z],[]⟩) (λfin s'=>∃v,fin=.done (.ret v)/\Q v s') E s:=by
 show wpAny _ _ (field (.ref z) 2 >>= _) _ _ _;refine wpAny_bind (wpAny_field hz rfl (x:=.bool false) rfl ?_);show wpAny _ _ (field (.ref z) 3 >>= _) _ _ _;refine wpAny_bind (wpAny_field hz rfl (x:=.ref TI) rfl ?_);refine wpAny_bind (wpAny_seqItems hTI rfl ?_);show wpAny _ _ (Builtin.SmallTypes.ownedTupleIsFree (.ref z) >>= _) _ _ _;refine wpAny_bind ?_;unfold Builtin.SmallTypes.ownedTupleIsFree;refine wpAny_bind (wpAny_field hz rfl (x:=.none) rfl (wpAny_pure ?_));simp only[if_true];refine wpAny_bind (wpAny_rule ?_);refine wpAny_bind (wpAny_field hz rfl (x:=.ref TO) rfl ?_);refine wpAny_bind (wpAny_setField_rec hz (by simp) λg1 hz1 s1=>?_)
 replace hz1:IsZip g1 z TI TO .ellipsis:=hz1
 refine wpAny_bind ?_;simp only[List.zipIdx_cons,List.zipIdx_nil,bK,List.forIn_nil];refine wpAny_bind (wpAny_bind (wpAny_onRaise ?_));show wpAny _ _ (Builtin.SmallTypes.nextOf (.ref i1) >>= _) _ _ _;refine wpAny_bind (Qt (h1.extBut s1.extBut D.i1z) (hl1.extBut s1.extBut D.l1z) hx λg2 h12 s2=>wpAny_pure ?_);have hTO2:IsPair g2 TO a b:=s2.extBut _ _ D.TOi1 (s1.extBut _ _ D.TOz hTO);refine wpAny_bind (wpAny_seqItems hTO2 rfl ?_);refine wpAny_bind (wpAny_updateSeq_pair hTO2 λg3 hTO3 s3=>?_)
 replace hTO3:IsPair g3 TO x b:=hTO3
 refine wpAny_bind (wpAny_letGo (wpAny_pure ?_));refine wpAny_bind (wpAny_bind (wpAny_onRaise ?_));show wpAny _ _ (Builtin.SmallTypes.nextOf (.ref i2) >>= _) _ _ _;refine wpAny_bind (wpAny_nextOf_list_item (((h2.extBut s1.extBut D.i2z).extBut s2.extBut D.i12.symm).extBut s3.extBut D.TOi2.symm) (((hl2.extBut s1.extBut D.l2z).extBut s2.extBut D.l2i1).extBut s3.extBut D.l2TO) hy λg4 h24 s4=>wpAny_pure ?_);have hTO4:IsPair g4 TO x b:=s4.extBut _ _ D.TOi2 hTO3;refine wpAny_bind (wpAny_seqItems hTO4 rfl ?_);refine wpAny_bind (wpAny_updateSeq_pair hTO4 λg5 hTO5 s5=>?_)
 replace hTO5:IsPair g5 TO x y:=hTO5
 refine wpAny_bind (wpAny_letGo (wpAny_pure (wpAny_pure ?_)));refine wpAny_bind (wpAny_seqItems hTO5 rfl ?_);refine wpAny_bind (wpAny_newTuple ?_);have sz:g5.objs.size=s.heap.objs.size:=by rw[s5.1,s4.1,s3.1,s2.1,s1.1]
 have hz5:IsZip g5 z TI TO .ellipsis:=s5.extBut _ _ D.TOz.symm (s4.extBut _ _ D.i2z.symm (s3.extBut _ _ D.TOz.symm (s2.extBut _ _ D.i1z.symm hz1)));have keep:∀c o,c≠z->c≠TO->c≠i1->c≠i2->s.heap.get? c=some o->g5.get? c=some o:=λc o c1 c2 c3 c4 e=>s5.extBut _ _ c2 (s4.extBut _ _ c4 (s3.extBut _ _ c2 (s2.extBut _ _ c3 (s1.extBut _ _ c1 e))));have h15:g5.IsTupleIter i1 l1 (k1+1):=((h12.extBut s3.extBut D.TOi1.symm).extBut s4.extBut D.i12).extBut s5.extBut D.TOi1.symm;have h25:g5.IsListIter i2 l2 (k2+1):=h24.extBut s5.extBut D.TOi2.symm;have zlt:z<g5.objs.size:=Heap.lt_size hz5;show wpAny _ _ (Builtin.SmallTypes.ownedTupleHandOut (.ref z) (.ref g5.objs.size) >>= _) _ _ _;refine wpAny_bind ?_;unfold Builtin.SmallTypes.ownedTupleHandOut;have hz6:IsZip (g5.push {cls:=.type "tuple",data:=.seq #[x,y]}) z TI TO .ellipsis:=Heap.get?_push_of_some _ hz5;refine wpAny_bind (wpAny_setField_rec hz6 (by simp) λg7 hz7 s7=>?_)
 replace hz7:IsZip g7 z TI TO (rawInt g5.objs.size):=hz7
 refine wpAny_setField_rec hz7 (by simp) λg8 hz8 s8=>?_
 replace hz8:IsZip g8 z TI TO (rawInt g5.objs.size):=hz8
 have up:∀c o,c≠z->g5.get? c=some o->g8.get? c=some o:=λc o c1 e=>s8.extBut _ _ c1 (s7.extBut _ _ c1 (Heap.get?_push_of_some _ e));have hT8:IsPair g8 g5.objs.size x y:=s8.extBut _ _ (uW zlt) (s7.extBut _ _ (uW zlt) (Heap.get?_push_size _ rfl));have sz8:g8.objs.size=g5.objs.size+1:=by rw[s8.1,s7.1,Heap.size_push]
 rw[sz]at hz8 hT8 sz8;refine wpAny_pure ⟨_,rfl,?_⟩;show Q (.ref g5.objs.size) _;rw[sz];exact hQ g8 hz8 (up _ _ D.TOz hTO5) (h15.at λo e=>up _ o D.i1z e) (h25.at λo e=>up _ o D.i2z e) hT8 sz8 λc o c1 c2 c3 c4 e=>up c o c1 (keep c o c1 c2 c3 c4 e)
theorem za6{z TI TO i1 i2 l1 l2:Addr}{k1:Nat}{xs:Array Value}{a b:Value}{Q:Fin->Shared->Prop}(hh:A.handled=none)(D:ZipApart z TI TO i1 i2 l1 l2)
  (hz:IsZip s.heap z TI TO .none)(hTI:IsPair s.heap TI (.ref i1) (.ref i2))(h1:s.heap.IsTupleIter i1 l1 k1)(hl1:s.heap.IsTuple l1 xs)(hend:xs[k1]?=none)
  (hE:∀h' e,(∀c o,c≠z->c≠i1->s.heap.get? c=some o->h'.get? c=some o)->(∃o,h'.get? e=some o/\o.cls=.type "StopIteration")->E (.ref e) {s with heap:=h'}):
  wpAny (model prog w) A (Builtin.«zip.__next__» ⟨[.ref z],[]⟩) Q E s:=by
 show wpAny _ _ (field (.ref z) 2 >>= _) _ _ _;refine wpAny_bind (wpAny_field hz rfl (x:=.bool false) rfl ?_);show wpAny _ _ (field (.ref z) 3 >>= _) _ _ _;refine wpAny_bind (wpAny_field hz rfl (x:=.ref TI) rfl ?_);refine wpAny_bind (wpAny_seqItems hTI rfl ?_);show wpAny _ _ (Builtin.SmallTypes.ownedTupleIsFree (.ref z) >>= _) _ _ _;refine wpAny_bind ?_;unfold Builtin.SmallTypes.ownedTupleIsFree;refine wpAny_bind (wpAny_field hz rfl (x:=.none) rfl (wpAny_pure ?_));simp only[if_true];refine wpAny_bind (wpAny_rule ?_);refine wpAny_bind (wpAny_field hz rfl (x:=.ref TO) rfl ?_);refine wpAny_bind (wpAny_setField_rec hz (by simp) λg1 hz1 s1=>?_)
 replace hz1:IsZip g1 z TI TO .ellipsis:=hz1
 refine wpAny_bind ?_;simp only[List.zipIdx_cons,List.zipIdx_nil,bK,List.forIn_nil];refine wpAny_bind (wpAny_bind (wpAny_onRaise ?_));show wpAny _ _ (Builtin.SmallTypes.nextOf (.ref i1) >>= _) _ _ _;refine wpAny_bind (JN hh (h1.extBut s1.extBut D.i1z) (hl1.extBut s1.extBut D.l1z) hend λg2 e s2 he=>?_);obtain⟨oe,hoe,hce⟩:=he;have hz2:IsZip g2 z TI TO .ellipsis:=s2 _ _ D.i1z.symm hz1;have hez:e≠z:=λx=>by subst x;rw[hz2]at hoe;cases hoe;simp at hce
 exact wpAny_setField_rec hz2 (by simp) λg3 _ s3=>hE g3 e (λc o c1 c3 x=>s3.extBut _ _ c1 (s2 _ _ c3 (s1.extBut _ _ c1 x))) ⟨oe,s3.extBut _ _ hez hoe,hce⟩
theorem XF{z TI TO i1 i2 l1 l2:Addr}{k1 k2:Nat}{xs ys:Array Value}{x y a b:Value}{Q:Option Value->Shared->Prop}(D:ZipApart z TI TO i1 i2 l1 l2)
  (hz:IsZip s.heap z TI TO .none)(hTI:IsPair s.heap TI (.ref i1) (.ref i2))(hTO:IsPair s.heap TO a b)
  (h1:s.heap.IsTupleIter i1 l1 k1)(h2:s.heap.IsListIter i2 l2 k2)(hl1:s.heap.IsTuple l1 xs)(hl2:s.heap.IsList l2 ys)(hx:xs[k1]?=some x)(hy:ys[k2]?=some y)
  (hQ:∀h',IsZip h' z TI TO (rawInt s.heap.objs.size)->IsPair h' TO x y->h'.IsTupleIter i1 l1 (k1+1)->h'.IsListIter i2 l2 (k2+1)->IsPair h' s.heap.objs.size x y->h'.objs.size=s.heap.objs.size+1 ->
   (∀c o,c≠z->c≠TO->c≠i1->c≠i2->s.heap.get? c=some o->h'.get? c=some o)->Q (some (.ref s.heap.objs.size)) {s with heap:=h'}):wpAny (model prog w) A (pyNext (.ref z)) Q E s:=by
 have hT:s.TypeIs (.ref z) "zip" := ⟨_,hz,rfl⟩;unfold pyNext;exact wpAny_bind (wpAny_attempt (wpAny_callSpecial?_slot (name:=Str.ofString "__next__") hT F.slot_zip_next
  (wpAny_call_entry F.slot_zip_next hT F.entry_zip_next (JO D hz hTI hTO h1 h2 hl1 hl2 hx hy λh' a1 a2 a3 a4 a5 a6 a7=>wpAny_pure (hQ h' a1 a2 a3 a4 a5 a6 a7)) (F.args_zip_next_1 _))))
theorem Wb{z TI TO i1 i2 l1 l2:Addr}{k1:Nat}{xs:Array Value}{Q:Option Value->Shared->Prop}(hh:A.handled=none)(D:ZipApart z TI TO i1 i2 l1 l2)
  (hz:IsZip s.heap z TI TO .none)(hTI:IsPair s.heap TI (.ref i1) (.ref i2))(h1:s.heap.IsTupleIter i1 l1 k1)(hl1:s.heap.IsTuple l1 xs)(hend:xs[k1]?=none)
  (hQ:∀h',(∀c o,c≠z->c≠i1->s.heap.get? c=some o->h'.get? c=some o)->Q none {s with heap:=h'}):wpAny (model prog w) A (pyNext (.ref z)) Q E s:=by
 have hT:s.TypeIs (.ref z) "zip" := ⟨_,hz,rfl⟩;unfold pyNext;refine wpAny_bind (wpAny_attempt (wpAny_callSpecial?_slot (name:=Str.ofString "__next__") hT F.slot_zip_next
  (wpAny_call_entry F.slot_zip_next hT F.entry_zip_next (za6 (a:=.none) (b:=.none) hh D hz hTI h1 hl1 hend λh' e hk he=>?_) (F.args_zip_next_1 _))))
 obtain⟨o,ho,hc⟩:=he;refine wpAny_bind (wpAny_isInstance (T := "StopIteration") (b:=true) ⟨o,ho,hc⟩ isSubtype_stop ?_);exact wpAny_pure (hQ _ hk)
end
def ItZT(K:Frag)(a b:Addr):It :=
 ⟨λi H=>∃xs ys x y,SqT K H a xs/\SqL K H b ys/\xs[i]?=some x/\ys[i]?=some y,
 λi H x H'=>∃p u v,H p=none/\x=.ref p/\H'=upd H p (.tup [u,v])/\(∀xs,SqT K H a xs->xs[i]?=some u)/\∀ys,SqL K H b ys->ys[i]?=some v,
 λi H=>∃xs ys,SqT K H a xs/\SqL K H b ys/\xs.length<=i⟩
theorem ZN{h:Heap}{a c:Addr}{its:Array Value}{o:Obj}(hl:h.IsTuple a its)(hc:h.get? c=some o)(hn:o.cls≠.type "tuple"):a≠c:=λz=>by
 obtain⟨o',g1,g2,_⟩:=hl;rw[z,hc]at g1;cases g1;exact hn g2
theorem Zd{h:Heap}{z TI TO i1 i2 a b:Addr}{xs ys:Array Value}{k1 k2:Nat}{f0 v u:Value}(D:Dst z TI TO i1 i2)(aTO:a≠TO)(hz:IsZip h z TI TO f0)(hTO:IsPair h TO v u)(h1:h.IsTupleIter i1 a k1)(h2:h.IsListIter i2 b k2)(l1:h.IsTuple a xs)(l2:h.IsList b ys):
  ZipApart z TI TO i1 i2 a b:=by
 obtain⟨o1,e1,c1,_⟩:=h1;obtain⟨o2,e2,c2,_⟩:=h2;exact⟨D.TIz,D.TOz,D.i1z,D.i2z,D.TITO,D.TIi1,D.TIi2,D.TOi1,D.TOi2,D.i12,ZN l1 hz (show Value.type "zip" ≠ .type "tuple" by decide),aTO,ZN l1 e1 (by rw[c1];decide),ZN l1 e2 (by rw[c2];decide),yV l2 hz (show Value.type "zip" ≠ .type "list" by decide),yV l2 hTO (show Value.type "tuple" ≠ .type "list" by decide),yV l2 e1 (by rw[c1];decide),yV l2 e2 (by rw[c2];decide)⟩
theorem JP{P:Program}{w:World}{K:Frag}{elts:List Expr}{kx:Nat}{px:Pos}(a b z TI TO i1 i2:Addr)(D:Dst z TI TO i1 i2)(aTO:a≠TO):
  Turn P w K (.Tuple elts kx px) (ItZT K a b) [z,TI,TO,i1,i2] z (λi h=>IsZip h z TI TO .none/\IsPair h TI (.ref i1) (.ref i2)/\(∃v u,IsPair h TO v u)/\h.IsTupleIter i1 a i/\h.IsListIter i2 b i) where
 mem:=by simp
 obj:=λi h st c hc=>by
  obtain⟨hz,hTI,⟨v,u,hTO⟩,⟨o1,e1,c1,d1⟩,⟨o2,e2,c2,d2⟩⟩:=st;have hc:c=z\/c=TI\/c=TO\/c=i1\/c=i2:=by simpa using hc
  rcases hc with rfl|rfl|rfl|rfl|rfl
  .exact ⟨_,hz,λv y=>by have y':Data.fields _=Data.cell v:=y;cases y'⟩
  .exact ⟨_,hTI,λv y=>by have y':Data.seq _=Data.cell v:=y;cases y'⟩
  .exact ⟨_,hTO,λv y=>by have y':Data.seq _=Data.cell v:=y;cases y'⟩
  .exact ⟨o1,e1,λv y=>by rw[d1]at y;cases y⟩
  .exact ⟨o2,e2,λv y=>by rw[d2]at y;cases y⟩
 keep:=λi h h' st k=>by
  obtain⟨hz,hTI,⟨v,u,hTO⟩,h1,h2⟩:=st;exact⟨k z (by simp) _ hz,k TI (by simp) _ hTI,⟨v,u,k TO (by simp) _ hTO⟩,h1.at λo q=>k i1 (by simp) o q,h2.at λo q=>k i2 (by simp) o q⟩
 item:=by
  intro X hP hw hK hc i pins s σ H E I hf st hg;subst hP hw hK;obtain⟨hz,hTI,⟨v0,u0,hTO⟩,h1,h2⟩:=st;obtain⟨xs,ys,x,y,hq1,hq2,hx,hy⟩:=hg;obtain⟨its,rv,tp0,hz1⟩:=I.tuple hq1;have tp:s.heap.IsTuple a its.toArray:=tp0;obtain⟨jts,rw',tq,hz2⟩:=I.list hq2;obtain⟨u,hu,ru⟩:=rv.get hx;obtain⟨v,hv,rv'⟩:=rw'.get hy;have Z:=Zd D aTO hz hTO h1 h2 tp tq.isList;refine XF Z hz hTI hTO h1 h2 tp tq.isList (x:=u) (y:=v) (by simpa using hu) (by simpa using hv) λh' a1 a2 a3 a4 a5 a6 hk=>?_;refine⟨_,rfl,wpAny_letOwnedTupleGo_zip a1 λh'' hz'' hs=>?_⟩;have lt:∀{c o},s.heap.get? c=some o->s.heap.objs.size≠c:=λe=>uW (Heap.lt_size e);have ne1:=lt hz;have k2:∀c o,c∉[z,TO,i1,i2]->s.heap.get? c=some o->h''.get? c=some o:=λc o m q=>by
   have m:c≠z/\c≠TO/\c≠i1/\c≠i2:=by simpa using m
   exact(hs.2 c m.1).trans (hk c o m.1 m.2.1 m.2.2.1 m.2.2.2 q)
  have I1:Inv X pins σ H {s with heap:=h'',toks:=s.toks}:=I.turnedL (t':=s.toks) k2 λc m=>hf c (by
   have m:c=z\/c=TO\/c=i1\/c=i2:=by simpa using m
   rcases m with rfl|rfl|rfl|rfl<;>simp)
  have hn:H s.heap.objs.size=none:=I.hok.fresh (kc _);have FP:=I.fpOk (b:=s.heap.objs.size) (kc _) hn;have hT2:h''.get? s.heap.objs.size=some {cls:=.type "tuple",data:=.seq #[u,v]}:=(hs.2 _ ne1).trans a5;have I2:=I1.track (p:=s.heap.objs.size) (o:=.tup [x,y]) hn (Heap.get?_none_of_le I.sz) FP.2.1 FP.2.2.2.2.1 FP.2.2.2.2.2
   ⟨Zz2,[u,v],.cons ru (.cons rv' .nil),⟨_,hT2,rfl,_,rfl⟩⟩
  refine⟨.ref s.heap.objs.size,_,I2,rfl,⟨_,x,y,hn,rfl,rfl,λzs hy'=>?_,λzs hy'=>?_⟩,⟨hz'',(hs.2 _ D.TIz).trans (hk _ _ D.TIz D.TITO D.TIi1 D.TIi2 hTI),⟨_,_,(hs.2 _ D.TOz).trans a2⟩,a3.at λo q=>(hs.2 _ D.i1z).trans q,a4.at λo q=>(hs.2 _ D.i2z).trans q⟩,λc hc=>?_⟩
  .rw [I.tuple_inj hy' hq1];exact hx
  .rw [I.list_inj hy' hq2];exact hy
  .have hb2:c≠s.heap.objs.size:=by
    have m:c=z\/c=TI\/c=TO\/c=i1\/c=i2:=by simpa using hc
    rcases m with rfl|rfl|rfl|rfl|rfl
    .exact ne1.symm
    .exact (lt hTI).symm
    .exact (lt hTO).symm
    .obtain ⟨o,g,_⟩:=h1;exact(lt g).symm
    .obtain ⟨o,g,_⟩:=h2;exact(lt g).symm
   rw[zr hb2];exact(hf c hc).1
 done:=by
  intro X hP hw hK hc i pins s σ H E I hf st hg;subst hP hw hK;obtain⟨hz,hTI,⟨v0,u0,hTO⟩,h1,h2⟩:=st;obtain⟨xs,ys,hq1,hq2,hx⟩:=hg;obtain⟨its,rv,tp0,hz1⟩:=I.tuple hq1;have tp:s.heap.IsTuple a its.toArray:=tp0;obtain⟨jts,rw',tq,hz2⟩:=I.list hq2;have l1:=rv.length;have l2:=rw'.length;have Z:=Zd D aTO hz hTO h1 h2 tp tq.isList;refine Wb (I.ok.hd hc) Z hz hTI h1 tp ?_ λh' hk=>⟨rfl,I.turnedL (t':=s.toks) (ch:=[z,i1]) (λc o m q=>?_) λc m=>hf c ?_⟩
  .simp;lia
  .have m:c≠z/\c≠i1:=by simpa using m
   exact hk c o m.1 m.2 q
  .have m:c=z\/c=i1:=by simpa using m
   rcases m with rfl|rfl<;>simp
 self:=λ_ _ _ _ _ st h=>wpAny_pyIter_zip st.1 h
def xQ(h:Heap)(l1 l2:Addr):Heap:=((((h.push {cls:=.type "tuple_iterator",data:=.fields #[.ref l1,.int 0 0]}).push {cls:=.type "list_iterator",data:=.fields #[.ref l2,.int 0 0]}).push {cls:=.type "tuple",data:=.seq #[.ref h.objs.size,.ref (h.objs.size+1)]}).push {cls:=.type "tuple",data:=.seq #[.none,.none]}).push {cls:=.type "zip",data:=.fields #[.none,.bool false,.bool false,.ref (h.objs.size+2),.ref (h.objs.size+3)]}
theorem Qu(l1 l2:Addr)(xs ys:Array Value):Meets (Builtin.«zip.__new__» ⟨[.type "zip",.ref l1,.ref l2],[]⟩) (λ_ R s=>s.heap.IsTuple l1 xs/\s.heap.IsList l2 ys/\R (.ok (.ret (.ref (s.heap.objs.size+4)))) {s with heap:=xQ s.heap l1 l2}) :=
 .of_wp λprog w A R s h=>by
  obtain⟨hp,g,d,tk,os⟩:=s;obtain⟨hl1,hl2,h⟩:=h;have hsub:=sub_zip;have hL1:Heap.IsTuple (Shared.heap ⟨hp,g,d,tk,os⟩) l1 xs:=hl1;have hL2:Heap.IsList (Shared.heap ⟨hp.push {cls:=.type "tuple_iterator",data:=.fields #[.ref l1,.int 0 0]},g,d,tk,os⟩) l2 ys:=Heap.IsList.push hl2 _
  wp_walk using wpAny_pyIter_tuple hL1,wpAny_pyIter_list hL2
  refine⟨_,rfl,?_⟩;have z1:(hp.push {cls:=.type "tuple_iterator",data:=.fields #[.ref l1,.int 0 0]}).objs.size=hp.objs.size+1:=Heap.size_push ..;simp only[Heap.size_push];exact h
section
variable{prog:Program}{w:World}{A:Around}{E:Value->Shared->Prop}{s:Shared}
theorem JQ{l1 l2:Addr}{xs ys:Array Value}{Q:Value->Shared->Prop}(hl1:s.heap.IsTuple l1 xs)(hl2:s.heap.IsList l2 ys)
  (h:∀h',IsZip h' (s.heap.objs.size+4) (s.heap.objs.size+2) (s.heap.objs.size+3) .none->IsPair h' (s.heap.objs.size+2) (.ref s.heap.objs.size) (.ref (s.heap.objs.size+1)) ->
   IsPair h' (s.heap.objs.size+3) .none .none->h'.IsTupleIter s.heap.objs.size l1 0->h'.IsListIter (s.heap.objs.size+1) l2 0->(∀c o,s.heap.get? c=some o->h'.get? c=some o)->Q (.ref (s.heap.objs.size+4)) {s with heap:=h'}):
  wpAny (model prog w) A (call (.type "zip") [.ref l1,.ref l2]) Q E s:=by
 refine callType_new F.called_zip ⋯ (F.typeCall_zip_2 _ _) (F.newCall_zip_2 _ _) (λobj=>F.args_object_init_3 obj _ _) F.entry_zip_new (Qu l1 l2 xs ys) ⟨hl1,hl2,?_⟩;have up:∀{h:Heap}{o:Obj}{c:Addr}{o':Obj},h.get? c=some o'->(h.push o).get? c=some o':=λe=>Heap.get?_push_of_some _ e;have g5:(xQ s.heap l1 l2).get? (s.heap.objs.size+4)=some {cls:=.type "zip",data:=.fields #[.none,.bool false,.bool false,.ref (s.heap.objs.size+2),.ref (s.heap.objs.size+3)]}:=by
  unfold xQ;have:=Heap.get?_push_size ((((s.heap.push {cls:=.type "tuple_iterator",data:=.fields #[.ref l1,.int 0 0]}).push {cls:=.type "list_iterator",data:=.fields #[.ref l2,.int 0 0]}).push {cls:=.type "tuple",data:=.seq #[.ref s.heap.objs.size,.ref (s.heap.objs.size+1)]}).push {cls:=.type "tuple",data:=.seq #[.none,.none]}) (o:={cls:=.type "zip",data:=.fields #[.none,.bool false,.bool false,.ref (s.heap.objs.size+2),.ref (s.heap.objs.size+3)]}) rfl;simpa only[Heap.size_push]using this
 have g4:(xQ s.heap l1 l2).get? (s.heap.objs.size+3)=some {cls:=.type "tuple",data:=.seq #[.none,.none]}:=by
  unfold xQ;have:=Heap.get?_push_size (((s.heap.push {cls:=.type "tuple_iterator",data:=.fields #[.ref l1,.int 0 0]}).push {cls:=.type "list_iterator",data:=.fields #[.ref l2,.int 0 0]}).push {cls:=.type "tuple",data:=.seq #[.ref s.heap.objs.size,.ref (s.heap.objs.size+1)]}) (o:={cls:=.type "tuple",data:=.seq #[.none,.none]}) rfl;exact up (by simpa only[Heap.size_push]using this)
 have g3:(xQ s.heap l1 l2).get? (s.heap.objs.size+2)=some {cls:=.type "tuple",data:=.seq #[.ref s.heap.objs.size,.ref (s.heap.objs.size+1)]}:=by
  unfold xQ;have:=Heap.get?_push_size ((s.heap.push {cls:=.type "tuple_iterator",data:=.fields #[.ref l1,.int 0 0]}).push {cls:=.type "list_iterator",data:=.fields #[.ref l2,.int 0 0]}) (o:={cls:=.type "tuple",data:=.seq #[.ref s.heap.objs.size,.ref (s.heap.objs.size+1)]}) rfl;exact up (up (by simpa only[Heap.size_push]using this))
 have g2:(xQ s.heap l1 l2).get? (s.heap.objs.size+1)=some {cls:=.type "list_iterator",data:=.fields #[.ref l2,.int 0 0]}:=by
  unfold xQ;have:=Heap.get?_push_size (s.heap.push {cls:=.type "tuple_iterator",data:=.fields #[.ref l1,.int 0 0]}) (o:={cls:=.type "list_iterator",data:=.fields #[.ref l2,.int 0 0]}) rfl;exact up (up (up (by simpa only[Heap.size_push]using this)))
 have g1:(xQ s.heap l1 l2).get? s.heap.objs.size=some {cls:=.type "tuple_iterator",data:=.fields #[.ref l1,.int 0 0]}:=up (up (up (up (Heap.get?_push_size _ rfl))));show _/\_;exact⟨⟨_,g5,rfl⟩,h _ g5 g3 g4 ⟨_,g1,rfl,rfl⟩ ⟨_,g2,rfl,rfl⟩ λc o x=>up (up (up (up (up x))))⟩
end
def zeL(K:Frag)(ta:TA):TI:=λσ H R=>ta σ H λvs H1=>∃a b,vs=[.ref a,.ref b]/\(∃xs,SqT K H1 a xs)/\(∃ys,SqL K H1 b ys)/\R (ItZT K a b) H1
theorem zcv{X:Cx}{l r:Expr}{ta:TA}{elts:List Expr}{kx:Nat}{px p pos:Pos}(hg:Gl X "zip")(hm:X.mg "zip"=none)(ha:PA X [l,r] ta)(hs:starEach [l,r] X.env=[(false,eval l X.env),(false,eval r X.env)]:=by rfl)(hs2:starEach [r] X.env=[(false,eval r X.env)]:=by rfl):
  PI X (.Tuple elts kx px) (.Call (.Name "zip" p) [l,r] [] pos) (zeL X.K ta):=by
 intro pins s σ H R I h;refine Call_ (yT I hg hm boot_zip (vN (thn (ha pos pins s σ H _ I h) λus s1 ⟨vs,H1,I1,r1,q1⟩=>?_) (by rw[hs,hs2]) (by rw[hs2];rfl)));obtain⟨a,b,e,⟨xs,hq1⟩,⟨ys,hq2⟩,q⟩:=q1;subst e;cases r1 with
 |cons r rr =>
  cases rr with
  |cons r' rr =>
   cases rr;cases r;cases r';obtain⟨its,rv,tp0,hz1⟩:=I1.tuple hq1;have tp:s1.heap.IsTuple a its.toArray:=tp0;obtain⟨jts,rw',tq,hz2⟩:=I1.list hq2;have alt:a<s1.heap.objs.size:=by
    obtain⟨o,e,_⟩:=tp;exact Heap.lt_size e
   refine JQ tp tq.isList λh' a1 a2 a3 a4 a5 hk=>?_;refine wpAny_pyIter_zip a1 ?_;refine⟨s1.heap.objs.size+4,[s1.heap.objs.size+4,s1.heap.objs.size+2,s1.heap.objs.size+3,s1.heap.objs.size,s1.heap.objs.size+1],_,_,H1,rfl,I1.kept (t':=s1.toks) hk,
    JP a b _ _ _ _ _ (Jk _) (λz=>absurd alt (by rw[z];exact bG.mpr (v8 _ _))),⟨a1,a2,⟨_,_,a3⟩,a4,a5⟩,λc hc=>?_,q⟩
   have m:c=s1.heap.objs.size+4\/c=s1.heap.objs.size+2\/c=s1.heap.objs.size+3\/c=s1.heap.objs.size\/c=s1.heap.objs.size+1:=by simpa using hc
   have le:s1.heap.objs.size<=c:=Z9 m;exact I1.fpOk le (I1.hok.fresh le)
theorem za7{K:Frag}{a b:Addr}{xs ys:List V}{g:TG}{tb:TS}{D:Ends}{σ:St}{H:Hp}(Pv:Nat->St->Hp->Prop)(hl:xs.length=ys.length)(h0:Pv 0 σ H)(hq:∀i σ H,i<=xs.length->Pv i σ H->SqT K H a xs/\SqL K H b ys)
  (hs:∀i x y σ H p,xs[i]?=some x->ys[i]?=some y->Pv i σ H->H p=none->g (.ref p) σ (upd H p (.tup [x,y])) λσ2 H2=>tb {D with nx:=Pv (i+1),ct:=Pv (i+1),bk:=D.nx} σ2 H2)(hd:∀σ H,Pv xs.length σ H->D.nx σ H):
  ∃W:Nat->Nat->St->Hp->Prop,(∃m,W 0 m σ H)/\∀i m σ H,W i m σ H ->
   ((ItZT K a b).stop i H/\D.nx σ H)\/((ItZT K a b).go i H/\∃N:St->Hp->Prop,(∀σ' H',N σ' H'->∃m',m'<m/\W (i+1) m' σ' H')/\∀x H',(ItZT K a b).yld i H x H'->g x σ H' λσ2 H2=>tb {D with nx:=N,ct:=N,bk:=D.nx} σ2 H2):=by
 refine⟨λi m σ H=>m=xs.length-i/\i<=xs.length/\Pv i σ H,⟨xs.length,by simp,kR _,h0⟩,?_⟩;rintro i m σ H ⟨rfl,hi,p⟩;obtain⟨z1,z2⟩:=hq i σ H hi p;by_cases hlt:i<xs.length
 .refine .inr ⟨⟨xs,ys,xs[i],ys[i]'(),z1,z2,kf _,kf _⟩,Pv (i+1),λσ' H' p'=>⟨xs.length-(i+1),(),rfl,hlt,p'⟩,λx H' y=>?_⟩;obtain⟨q,u,v,hn,e,e2,y1,y2⟩:=y;subst e e2;exact hs i u v σ H q (y1 xs z1) (y2 ys z2) p hn
 .have e:i=xs.length:=()
  subst e;exact .inl ⟨⟨xs,ys,z1,z2,kc _⟩,hd σ H p⟩
end _L2
namespace _JK
open PySem _L2 _Lin _Tre PySem.W
open _Sta (R Ok sbs exch reg OkS OkSs stN HasR zJ Low tr Pc PcsA PcsD zQ SetL plc)
variable{P:Program}{w:World}{K:Frag}{mg:Str->Option Value}{base:Heap}{kA:Addr}
def nV(m:Nat):V:=.int (m:Int)
def pq(p:Pc):List V:=[nV p.l,nV p.t,nV p.r,nV p.b]
def PcAt(H:Hp)(v:V)(p:Pc):Prop:=∃a,v=.ref a/\H a=some (.tup (pq p))
def z6(H:Hp):List V->List Pc->Prop:=Paired (PcAt H)
theorem PcAt.same{H H':Hp}(S:Same H H'){v:V}{p:Pc}(h:PcAt H v p):PcAt H' v p:=let ⟨a,e,z⟩:=h;⟨a,e,S _ _ z⟩
theorem z6.same{H H':Hp}(S:Same H H'):∀{vs:List V}{ps:List Pc},z6 H vs ps->z6 H' vs ps
 |_,_,.nil=>.nil
 |_,_,.cons h t=>.cons (h.same S) (z6.same S t)
theorem z6.len{H:Hp}{vs:List V}{ps:List Pc}(h:z6 H vs ps):vs.length=ps.length:=Paired.length h
theorem z6.snoc{H:Hp}{vs:List V}{ps:List Pc}{v:V}{p:Pc}(h:z6 H vs ps)(r:PcAt H v p):z6 H (vs++[v]) (ps++[p]):=Paired.snoc h r
theorem z6.get{H:Hp}:∀{vs:List V}{ps:List Pc}{i:Nat}{v:V},z6 H vs ps->vs[i]?=some v->∃p,ps[i]?=some p/\PcAt H v p
 |_,_,_,_,.nil,e=>by simp at e
 |_,_,0,_,.cons r _,e=>by simp at e;subst e;exact⟨_,rfl,r⟩
 |_,_,i+1,v,.cons _ t,e=>by
  obtain⟨p,h1,h2⟩:=z6.get (i:=i) (v:=v) t (by simpa using e);exact⟨p,by simpa using h1,h2⟩
def NpAt(H:Hp)(v:V)(q:Int×Pc):Prop:=∃a u,v=.ref a/\H a=some (.tup [.int q.1,u])/\PcAt H u q.2
def yl(H:Hp):List V->List (Int×Pc)->Prop:=Paired (NpAt H)
theorem NpAt.same{H H':Hp}(S:Same H H'){v:V}{q:Int×Pc}(h:NpAt H v q):NpAt H' v q:=let ⟨a,u,e,z,p⟩:=h;⟨a,u,e,S _ _ z,p.same S⟩
theorem yl.same{H H':Hp}(S:Same H H'):∀{vs:List V}{ps:List (Int×Pc)},yl H vs ps->yl H' vs ps
 |_,_,.nil=>.nil
 |_,_,.cons h t=>.cons (h.same S) (yl.same S t)
theorem yl.len{H:Hp}{vs:List V}{ps:List (Int×Pc)}(h:yl H vs ps):vs.length=ps.length:=Paired.length h
theorem yl.app{H:Hp}:∀{vs us:List V}{ps qs:List (Int×Pc)},yl H vs ps->yl H us qs->yl H (vs++us) (ps++qs)
 |_,_,_,_,.nil,s=>s
 |_,_,_,_,.cons r t,s=>.cons r (yl.app t s)
theorem yl.upd{H:Hp}{l:Addr}{xs:List V}{o':HO}(hl:H l=some (.lst xs)):∀{vs:List V}{ps:List (Int×Pc)},yl H vs ps->yl (upd H l o') vs ps
 |_,_,.nil=>.nil
 |_,_,.cons ⟨a,u,e,z,pa,e2,z2⟩ t=>.cons ⟨a,u,e,by rw[zr (xc z hl (by intro y;cases y))];exact z,pa,e2,by rw[zr (xc z2 hl (by intro y;cases y))];exact z2⟩ (yl.upd hl t)
theorem jQ{ws:List V}(h:1<=ws.length):cutV ws none (some (-1))=ws.dropLast:=by
 unfold cutV;rw[_HT.xv,bU,List.dropLast_eq_take];congr 1;show(if(-1:Int)<0 then(-1+(ws.length:Int)).toNat else min (-1:Int).toNat ws.length)-0=ws.length-1;rw[if_pos ⋯];lia
def ZO:Sp:=λvs H Q _=>∃(first last:Nat)(a:Addr)(ws:List Nat),vs=[.int first,.int last,.ref a]/\H a=some (.lst (ws.map nV))/\ws.length<=1000/\∀(l:Addr)(H':Hp),Same H H'->H' l=some (.lst ((plc first ws++[last]).map nV))->Q (.ref l) H'
structure Pts(H H0:Hp)(pa b:Addr)(ps:List T)(Ls:List R):Prop where
 parts:∃ws,H pa=some (.tup ws)/\AtL H ws ps
 xG:∃bvs As,H b=some (.lst bvs)/\yi H0 H bvs As/\OkSs As Ls/\∀A∈As,A.length<=600
 two:2<=ps.length
 good:∃nss,zE ps nss/\nss.flatten.length<=24
 small:∀p∈ps,sz p+3<=96
 sm:Same H0 H
def spPa:Sp:=λvs H Q _=>∃(pa b pp:Addr)(ps:List T)(Ls:List R)(p:Pc)(pcs:List Pc)(H0:Hp),vs=[.ref pa,.ref b,.ref pp]/\Pts H H0 pa b ps Ls/\H pp=some (.tup (pq p))/\p.t<=p.b/\PcsA Ls p.t p.b p.r ps p.l pcs/\∀(l:Addr)(us:List V)(H':Hp),Same H H'->H' l=some (.lst us)->z6 H' us pcs->Q (.ref l) H'
def spPd:Sp:=λvs H Q _=>∃(pa b pp:Addr)(ps:List T)(Ls:List R)(p:Pc)(pcs:List Pc)(H0:Hp),vs=[.ref pa,.ref b,.ref pp]/\Pts H H0 pa b ps Ls/\H pp=some (.tup (pq p))/\p.l<=p.r/\PcsD Ls p.l p.r p.b ps p.t pcs/\∀(l:Addr)(us:List V)(H':Hp),Same H H'->H' l=some (.lst us)->z6 H' us pcs->Q (.ref l) H'
theorem ZP:zn ["first","last","lengths","places","length"] ["first","last","lengths"] (zj Xo):=by trivial
theorem za8{f:Addr}{fd:FuncData}(F:Fun K "edges" "edges" Xo f fd):FnOk P w K mg base CX0 1 f fd ["first","last","lengths"] ZO:=by
 refine F.ok ZP (λvs H Q E h=>?_) (λcdv A outer s H vs Q E hr h=>?_)
 .refine E_4 h λfirst last a ws n8=>A_2 n8 λe9 _=>?_;clear n8 h;subst e9
  rfl
 .refine E_4 h λfirst last a ws n8=>A_4 n8 λe9 ha hn q=>?_;clear n8 h;subst e9
  refine⟨_,(ze (zo (i:=3) ZP.nd rfl (Or.inl rfl) (zO (za (pv 0) zb)))
   (ze (yZ PassesOwn.never rfl (zY (pv 2)) (zt (i:=4) ZP.nd rfl (Or.inl rfl))
   (zf (ya (yq k4 vn vo yt (pv 3) (za (zA ym (zk zC (pv 3) (yR yF zg) (λ_ _=>rfl)) (pv 4)) zb)))))
   (zf (zl (zA YN (pv 3) (zO (za (pv 1) zb))))))),?_⟩
  refine⟨_,rfl,Zz1,λl nl=>?_⟩;have S1:=zd (o:=.lst [nV first]) nl;have hl1:(upd H l (.lst [nV first])) l=some (.lst ((plc first []).map nV)):=zc;change tSeq _ _ _ _ (upd H l (.lst [nV first]));generalize upd H l (.lst [nV first])=H1 at S1 hl1;refine run_seq ⟨_,rfl,a,rfl,⟨_,SqL.of (S1 _ _ ha)⟩,?_⟩;refine wp (K:=K) (a:=a) (xs:=ws.map nV) (λi σ H2=>∃o:Option V,σ=[some (.int first),some (.int last),some (.ref a),some (.ref l),o]/\Same H H2/\H2 l=some (.lst ((plc first (ws.take i)).map nV))) ⟨none,rfl,S1,hl1⟩ (λi σ H2 _ h9=>by obtain⟨_,_,S,_⟩:=h9;exact(SqL.of (S _ _ ha))) ?_ ?_
  .intro i v σ H2 hi h8;refine E_1 h8 λo n8=>A_3 n8 λe9 S2 hl2=>?_;clear n8 h8;subst e9;rw[k6]at hi;obtain⟨m,hm,rfl⟩:=vA.mp hi;obtain⟨hil,ev⟩:=kh.mp hm;refine zH ?_;obtain⟨xs,ex⟩:=_Sta.XE (ws.take i) first
   have lp:=_Sta.jl first (ws.take i)
   rw[kJ]at lp;have hl3:H2 l=some (.lst (xs.map nV++[nV (first+(ws.take i).sum)])):=by rw[hl2,ex,kD];rfl
   refine⟨_,rfl,.inl ⟨rfl,_,SqL.of hl3⟩,_,rfl,1,rfl,l,_,_,_,rfl,rfl,SqL.of hl3,wZ _ _,_,rfl,_,_,rfl,rfl,l,_,_,rfl,rfl,hl2,by rw[ka];exact va (show _<=2000 by lia) ⋯,?_⟩;refine⟨_,rfl,z9 S2 nl,?_⟩;rw[zc,<-kF hil,ev,_Sta.XD,kD];show some (HO.lst (_++[V.int (((first+(ws.take i).sum:Nat):Int)+(m:Int))]))=some (HO.lst (_++[V.int (((first+(ws.take i).sum+m:Nat)):Int)]));rw[show(((first+(ws.take i).sum:Nat):Int)+(m:Int))=(((first+(ws.take i).sum+m:Nat)):Int)by lia]
  .intro σ H2 h8;refine E_1 h8 λo n8=>A_3 n8 λe9 S2 hl2=>?_;clear n8 h8;subst e9;rw[ka,kM]at hl2;refine⟨_,rfl,_,rfl,Zz1,λp1 np1=>?_⟩;have S3:=zd (o:=.lst [nV last]) np1;have hp1:(upd H2 p1 (.lst [nV last])) p1=some (.lst [nV last]):=zc;change rCat _ _ (upd H2 p1 (.lst [nV last])) _;generalize upd H2 p1 (.lst [nV last])=H3 at S3 hp1;have lp:=_Sta.jl first ws
   refine I_4 l p1 _ _ ⟨rfl,rfl,S3 _ _ hl2,hp1,by rw[ka,lp];exact kn (show ws.length+1+[nV last].length<=2000 by simp;lia) ⋯,λp2 np2=>?_⟩;have e:(plc first ws).map nV++[nV last]=(plc first ws++[last]).map nV:=by rw[kD];rfl
   rw[e];exact q p2 _ (S2.trans (S3.trans (zd np2))) zc
theorem scPa:zn ["parts","stairs","piece","high","widths","places"] ["parts","stairs","piece"] (zj sPa):=by trivial
theorem zeM{f fN fS fE:Addr}{fd dN dS dE:FuncData}(F:Fun K "pieces_across" "pieces_across" sPa f fd)(gLEFT:GI mg "LEFT" 0)(gTOP:GI mg "TOP" 1)(gRIGHT:GI mg "RIGHT" 2)(gBELOW:GI mg "BELOW" 3)(tzip:mg "zip"=none)(Na:Callee P w K mg base CX0 1 "narrowest" fN dN ["stairs","high"] XA)
  (So:Callee P w K mg base CX0 27 "stairs_of" fS dS ["tree","boxes"] (spSo 24))(Ed:Callee P w K mg base CX0 1 "edges" fE dE ["first","last","lengths"] ZO):FnOk P w K mg base CX0 28 f fd ["parts","stairs","piece"] spPa:=by
 refine F.ok scPa (λvs H Q E h=>?_) (λcdv A outer s H vs Q E hr h=>?_)
 .refine E_8 h λpa b pp ps Ls p pcs H0 n8=>A_2 n8 λe9 _=>?_;clear n8 h;subst e9;rfl
 .refine E_8 h λpa b pp ps Ls p pcs H0 n8=>A_6 n8 λe9 hP hpp htb hA q=>?_;clear n8 h;subst e9;refine⟨_,(ze (zo (i:=3) scPa.nd rfl (Or.inr rfl) (zA y4 (zk zG (pv 2) (zD rfl gBELOW) (λ_ _=>rfl)) (zk zG (pv 2) (zD rfl gTOP) (λ_ _=>rfl))))
   (ze (Zx (i:=4) (Nc:=["part","high","stairs"]) (ix:=[none,some 3,some 1]) scPa.nd rfl (Or.inl rfl) rfl rfl (by exact(wL (yo QZ (pv 0) xi (yj (yR yF zg))))) (λ_ _ _ _ _=>(zt (i:=0) (by show(["part","high","stairs"]:List Str).Nodup;decide +kernel) rfl (Or.inl rfl))) (λ_ _ _ _ _=>zS) (λ_ _ _ _ _=>(zh Na.ok (hr.mono ⋯) rfl Na.bound Na.kp Na.bd .nil zx (za (zh So.ok hr rfl So.bound So.kp So.bd .nil zx (za (pv 0) (za (pv 2) zb))) (za (pv 1) zb)))))
   (ze (zo (i:=5) scPa.nd rfl (Or.inl rfl) (zh Ed.ok (hr.mono ⋯) rfl Ed.bound Ed.kp Ed.bd .nil zx (za (zk zG (pv 2) (zD rfl gLEFT) (λ_ _=>rfl)) (za (zk zG (pv 2) (zD rfl gRIGHT) (λ_ _=>rfl)) (za (pv 4) zb)))))
   (zf (zl (zP (Nc:=["left","right","piece"]) (ix:=[none,none,some 2]) rfl rfl (by exact(j7 rfl tzip (za (pv 5) (za (yo xA (pv 5) (yj zg) xi) zb)))) (λ_ _ _ _ _=>(wP (K:=K) (n:=2) rfl rfl (z4 (zt (i:=0) (by show(["left","right","piece"]:List Str).Nodup;decide +kernel) rfl (Or.inl rfl)) (z4 (zt (i:=1) (by show(["left","right","piece"]:List Str).Nodup;decide +kernel) rfl (Or.inl rfl)) xg)))) (λ_ _ _ _ _=>zS) (λ_ _ _ _ _=>(yM (za (pv 0) (za (zk (yA (K:=K) rfl) (pv 2) (zD rfl gTOP) (λ_ _=>rfl)) (za (pv 1) (za (zk (yA (K:=K) rfl) (pv 2) (zD rfl gBELOW) (λ_ _=>rfl)) zb)))))))))))),?_⟩
  obtain⟨ws,hpa,hQ⟩:=hP.parts;obtain⟨bvs,As,hb,hB,hO,h600⟩:=hP.xG;obtain⟨nss,hG,n24⟩:=hP.good;have lq:=hQ.len;have two:=hP.two;have l24:ps.length<=24:=kn hG.le n24;obtain⟨wl,lw,hw,epc⟩:=hA.ws;refine x8 (v:=.int ((p.b-p.t:Nat):Int)) (by
   rw[show((p.b-p.t:Nat):Int)=(p.b:Int)-(p.t:Int)by lia];exact z5 (yk (zp rfl) zM (SqT.of hpp) rfl) (yk (zp rfl) zM (SqT.of hpp) rfl)) ?_
  refine⟨_,rfl,1,rfl,_,rfl,pa,ws,rfl,SqT.of hpa,?_,λpc nc=>?_⟩
  .rw [_HT.xv];show ¬(0=0/\(if(-1:Int)<0 then(-1+(ws.length:Int)).toNat else min (-1:Int).toNat ws.length)=ws.length);rw[if_pos ⋯];lia
  rw[jQ ()];have S1:=zd (o:=.tup ws.dropLast) nc;have hpc:(upd H pc (.tup ws.dropLast)) pc=some (.tup ws.dropLast):=zc;generalize upd H pc (.tup ws.dropLast)=H1 at S1 hpc;have ldl:ws.dropLast.length=wl.length:=by rw[bb];lia
  refine⟨pc,rfl,⟨_,SqT.of hpc⟩,wb (K:=K) (a:=pc) (xs:=ws.dropLast) (λi ys σ H2=>ys=(wl.take i).map nV/\Same H1 H2/\∃o,σ=[o,some (.int ((p.b-p.t:Nat):Int)),some (.ref b)]) ⟨rfl,Same.refl _,none,rfl⟩
   (λi ys σ H2 hi h9=>by obtain⟨e,S,_⟩:=h9;exact(⟨by rw[e,ka,kJ];exact kn (show _<=1000 by lia) ⋯,SqT.of (S _ _ hpc)⟩)) ?_ ?_⟩
  case refine_2 =>
   rintro i y ys σ H2 hy ⟨rfl,S2,o,rfl⟩;have hi:=(kh.mp hy).1;have hy':ws[i]?=some y:=by
    rw[kf hi,List.getElem_dropLast]at hy;rw[kf ()];exact hy
   obtain⟨tp,ep,hAp⟩:=hQ.get hy';have pm:tp∈ps:=kH ep;obtain⟨np,enp,gp⟩:=hG.get ep;have hiw:i<wl.length:=()
   obtain⟨P1,hP1,low1⟩:=hw i tp _ ep (kf hiw);have ln:=wT (kH enp);have S12:=S1.trans S2;dsimp only[zU,tYes];refine iteT ?_;refine⟨_,rfl,_,rfl,y,tp,np,b,bvs,As,Ls,P1,H0,rfl,hAp.same S12,gp,hP1,S12 _ _ hb,hB.same S12,hO,h600,(),by have:=hP.small tp pm;omega,⋯,hP.sm.trans S12,λl us A1 H3 S3 nl hl hs oA lA=>?_⟩;refine⟨_,rfl,l,us,A1,p.b-p.t,rfl,hl,hs,(),λo4 H4 S4 low4=>?_⟩;have e4:o4=some wl[i]:=Low.uniq (low4.of (P:=tr (reg A1)) (Q:=tr P1) λw k=>oA.2 k w) low1;subst e4;refine⟨?_,S2.trans (S3.trans S4),_,rfl⟩;rw[<-kF hiw,kD];rfl
  rintro ys σ H2 ⟨rfl,S2,_⟩ lw1 nlw;rw[ldl,kM];have S3:=S1.trans (S2.trans (zd (o:=.lst (wl.map nV)) nlw));have hlw:(upd H2 lw1 (.lst (wl.map nV))) lw1=some (.lst (wl.map nV)):=zc;generalize upd H2 lw1 (.lst (wl.map nV))=H3 at S3 hlw
  try dsimp only
  have hpp3:=S3 _ _ hpp;refine⟨_,rfl,pp,_,_,_,rfl,rfl,SqT.of hpp3,rfl,_,rfl,pp,_,_,_,rfl,rfl,SqT.of hpp3,rfl,_,rfl,p.l,p.r,lw1,wl,rfl,hlw,(),λlp H4 S4 hlp=>?_⟩;have S34:=S3.trans S4;have hpp4:=S4 _ _ hpp3;refine⟨_,rfl,_,rfl,_,rfl,lp,_,rfl,SqL.of hlp,λl2 nl2=>?_⟩;have pl:=_Sta.jl p.l wl;have ec:cutV ((plc p.l wl++[p.r]).map nV) (some 1) none=((plc p.l wl++[p.r]).drop 1).map nV:=by
   have:=wF ((plc p.l wl++[p.r]).map nV) 1 (by rw[ka,ki];simp);rw[b9];exact this
  rw[ec];have S5:=zd (o:=.lst (((plc p.l wl++[p.r]).drop 1).map nV)) nl2;have hl2:(upd H4 l2 (.lst (((plc p.l wl++[p.r]).drop 1).map nV))) l2=some (.lst (((plc p.l wl++[p.r]).drop 1).map nV)):=zc;have hlp5:=S5 _ _ hlp;have hpp5:=S5 _ _ hpp4;generalize upd H4 l2 (.lst (((plc p.l wl++[p.r]).drop 1).map nV))=H5 at S5 hl2 hlp5 hpp5;have lmin:min ((plc p.l wl++[p.r]).map nV).length (((plc p.l wl++[p.r]).drop 1).map nV).length=wl.length+1:=by
   rw[ka,ka,kZ,ki,pl];simp
  have lz:((plc p.l wl).zip ((plc p.l wl++[p.r]).drop 1)).length=wl.length+1:=by
   rw[List.length_zip,kZ,ki,pl];simp
  refine⟨lp,l2,rfl,⟨_,SqL.of hlp5⟩,⟨_,SqL.of hl2⟩,ZC (K:=K) (a:=lp) (b:=l2) (xs:=(plc p.l wl++[p.r]).map nV) (ys:=((plc p.l wl++[p.r]).drop 1).map nV) (λi ys σ H6=>z6 H6 ys ((((plc p.l wl).zip ((plc p.l wl++[p.r]).drop 1)).take i).map λq=>⟨q.1,p.t,q.2,p.b⟩)/\Same H5 H6/\∃o o2,σ=[o,o2,some (.ref pp)]) ⟨.nil,Same.refl _,none,none,rfl⟩
   (λi ys σ H6 hi h9=>by obtain⟨e,S,_⟩:=h9;exact(⟨by rw[e.len,ka,kJ];exact kn (show _<=1000 by lia) ⋯,SqL.of (S _ _ hlp5),SqL.of (S _ _ hl2)⟩)) ?_ ?_⟩
  case refine_2 =>
   intro i x y ys σ H6 tpa hx hy h8 ntp;refine A_3 h8 λhY S6 n8=>E_2 n8 λo o2 e9=>?_;clear n8 h8;subst e9;rw[k6]at hx hy;obtain⟨x1,hx1,rfl⟩:=vA.mp hx;obtain⟨y1,hy1,rfl⟩:=vA.mp hy;have hil:i<wl.length+1:=by
    have:=(kh.mp hy1).1;rw[kZ,ki,pl]at this;simp at this;omega
   have hx2:(plc p.l wl)[i]?=some x1:=by
    rw[vi ()]at hx1;exact hx1
   have St:=zd (o:=.tup [nV x1,nV y1]) ntp;have hpp6:=S6 _ _ hpp5;refine⟨tpa,_,rfl,SqT.of zc,rfl,_,_,rfl,_,_,rfl,rfl,?_⟩;dsimp only[zU,tYes];refine iteT ?_;generalize upd H6 tpa (.tup [nV x1,nV y1])=H7 at St;have hpp7:=St _ _ hpp6;refine YU (v1:=nV x1) (v2:=nV p.t) (v3:=nV y1) (v4:=nV p.b) (zp rfl) (yk (zp rfl) zM (SqT.of hpp7) rfl) (zp rfl) (yk (zp rfl) zM (SqT.of hpp7) rfl) (λtq ntq=>?_);have Sq:=zd (o:=.tup [nV x1,nV p.t,nV y1,nV p.b]) ntq;refine⟨?_,S6.trans (St.trans Sq),_,_,rfl⟩;have ez:((plc p.l wl).zip ((plc p.l wl++[p.r]).drop 1))[i]?=some (x1,y1):=List.getElem?_zip_eq_some.mpr ⟨hx2,hy1⟩;obtain⟨hzl,evz⟩:=kh.mp ez;rw[<-kF hzl,evz,kD];exact(hY.same (St.trans Sq)).snoc ⟨tq,rfl,zc⟩
  rintro ys σ H6 ⟨hY,S6,_⟩ lr nlr;rw[lmin,<-lz,kM,<-epc]at hY;exact q lr ys _ (S34.trans (S5.trans (S6.trans (zd nlr)))) zc (hY.same (zd nlr))
theorem scPd:zn ["parts","stairs","piece","wide","heights","places"] ["parts","stairs","piece"] (zj sPd):=by trivial
theorem zeN{f fN fS fE:Addr}{fd dN dS dE:FuncData}(F:Fun K "pieces_down" "pieces_down" sPd f fd)(gLEFT:GI mg "LEFT" 0)(gTOP:GI mg "TOP" 1)(gRIGHT:GI mg "RIGHT" 2)(gBELOW:GI mg "BELOW" 3)(tzip:mg "zip"=none)(Lo:Callee P w K mg base CX0 1 "lowest" fN dN ["stairs","wide"] Qr)
  (So:Callee P w K mg base CX0 27 "stairs_of" fS dS ["tree","boxes"] (spSo 24))(Ed:Callee P w K mg base CX0 1 "edges" fE dE ["first","last","lengths"] ZO):FnOk P w K mg base CX0 28 f fd ["parts","stairs","piece"] spPd:=by
 refine F.ok scPd (λvs H Q E h=>?_) (λcdv A outer s H vs Q E hr h=>?_)
 .refine E_8 h λpa b pp ps Ls p pcs H0 n8=>A_2 n8 λe9 _=>?_;clear n8 h;subst e9;rfl
 .refine E_8 h λpa b pp ps Ls p pcs H0 n8=>A_6 n8 λe9 hP hpp htb hA q=>?_;clear n8 h;subst e9;refine⟨_,(ze (zo (i:=3) scPd.nd rfl (Or.inr rfl) (zA y4 (zk zG (pv 2) (zD rfl gRIGHT) (λ_ _=>rfl)) (zk zG (pv 2) (zD rfl gLEFT) (λ_ _=>rfl))))
   (ze (Zx (i:=4) (Nc:=["part","wide","stairs"]) (ix:=[none,some 3,some 1]) scPd.nd rfl (Or.inl rfl) rfl rfl (by exact(wL (yo QZ (pv 0) xi (yj (yR yF zg))))) (λ_ _ _ _ _=>(zt (i:=0) (by show(["part","wide","stairs"]:List Str).Nodup;decide +kernel) rfl (Or.inl rfl))) (λ_ _ _ _ _=>zS) (λ_ _ _ _ _=>(zh Lo.ok (hr.mono ⋯) rfl Lo.bound Lo.kp Lo.bd .nil zx (za (zh So.ok hr rfl So.bound So.kp So.bd .nil zx (za (pv 0) (za (pv 2) zb))) (za (pv 1) zb)))))
   (ze (zo (i:=5) scPd.nd rfl (Or.inl rfl) (zh Ed.ok (hr.mono ⋯) rfl Ed.bound Ed.kp Ed.bd .nil zx (za (zk zG (pv 2) (zD rfl gTOP) (λ_ _=>rfl)) (za (zk zG (pv 2) (zD rfl gBELOW) (λ_ _=>rfl)) (za (pv 4) zb)))))
   (zf (zl (zP (Nc:=["top","below","piece"]) (ix:=[none,none,some 2]) rfl rfl (by exact(j7 rfl tzip (za (pv 5) (za (yo xA (pv 5) (yj zg) xi) zb)))) (λ_ _ _ _ _=>(wP (K:=K) (n:=2) rfl rfl (z4 (zt (i:=0) (by show(["top","below","piece"]:List Str).Nodup;decide +kernel) rfl (Or.inl rfl)) (z4 (zt (i:=1) (by show(["top","below","piece"]:List Str).Nodup;decide +kernel) rfl (Or.inl rfl)) xg)))) (λ_ _ _ _ _=>zS) (λ_ _ _ _ _=>(yM (za (zk (yA (K:=K) rfl) (pv 2) (zD rfl gLEFT) (λ_ _=>rfl)) (za (pv 0) (za (zk (yA (K:=K) rfl) (pv 2) (zD rfl gRIGHT) (λ_ _=>rfl)) (za (pv 1) zb)))))))))))),?_⟩
  obtain⟨ws,hpa,hQ⟩:=hP.parts;obtain⟨bvs,As,hb,hB,hO,h600⟩:=hP.xG;obtain⟨nss,hG,n24⟩:=hP.good;have lq:=hQ.len;have two:=hP.two;have l24:ps.length<=24:=kn hG.le n24;obtain⟨wl,lw,hw,epc⟩:=hA.ws;refine x8 (v:=.int ((p.r-p.l:Nat):Int)) (by
   rw[show((p.r-p.l:Nat):Int)=(p.r:Int)-(p.l:Int)by lia];exact z5 (yk (zp rfl) zM (SqT.of hpp) rfl) (yk (zp rfl) zM (SqT.of hpp) rfl)) ?_
  refine⟨_,rfl,1,rfl,_,rfl,pa,ws,rfl,SqT.of hpa,?_,λpc nc=>?_⟩
  .rw [_HT.xv];show ¬(0=0/\(if(-1:Int)<0 then(-1+(ws.length:Int)).toNat else min (-1:Int).toNat ws.length)=ws.length);rw[if_pos ⋯];lia
  rw[jQ ()];have S1:=zd (o:=.tup ws.dropLast) nc;have hpc:(upd H pc (.tup ws.dropLast)) pc=some (.tup ws.dropLast):=zc;generalize upd H pc (.tup ws.dropLast)=H1 at S1 hpc;have ldl:ws.dropLast.length=wl.length:=by rw[bb];lia
  refine⟨pc,rfl,⟨_,SqT.of hpc⟩,wb (K:=K) (a:=pc) (xs:=ws.dropLast) (λi ys σ H2=>ys=(wl.take i).map nV/\Same H1 H2/\∃o,σ=[o,some (.int ((p.r-p.l:Nat):Int)),some (.ref b)]) ⟨rfl,Same.refl _,none,rfl⟩
   (λi ys σ H2 hi h9=>by obtain⟨e,S,_⟩:=h9;exact(⟨by rw[e,ka,kJ];exact kn (show _<=1000 by lia) ⋯,SqT.of (S _ _ hpc)⟩)) ?_ ?_⟩
  case refine_2 =>
   rintro i y ys σ H2 hy ⟨rfl,S2,o,rfl⟩;have hi:=(kh.mp hy).1;have hy':ws[i]?=some y:=by
    rw[kf hi,List.getElem_dropLast]at hy;rw[kf ()];exact hy
   obtain⟨tp,ep,hAp⟩:=hQ.get hy';have pm:tp∈ps:=kH ep;obtain⟨np,enp,gp⟩:=hG.get ep;have hiw:i<wl.length:=()
   obtain⟨P1,hP1,low1⟩:=hw i tp _ ep (kf hiw);have ln:=wT (kH enp);have S12:=S1.trans S2;dsimp only[zU,tYes];refine iteT ?_;refine⟨_,rfl,_,rfl,y,tp,np,b,bvs,As,Ls,P1,H0,rfl,hAp.same S12,gp,hP1,S12 _ _ hb,hB.same S12,hO,h600,(),by have:=hP.small tp pm;omega,⋯,hP.sm.trans S12,λl us A1 H3 S3 nl hl hs oA lA=>?_⟩;refine⟨_,rfl,l,us,A1,p.r-p.l,rfl,hl,hs,(),λo4 H4 S4 low4=>?_⟩;have e4:o4=some wl[i]:=Low.uniq (low4.of (P:=reg A1) (Q:=P1) λw k=>oA.2 w k) low1;subst e4;refine⟨?_,S2.trans (S3.trans S4),_,rfl⟩;rw[<-kF hiw,kD];rfl
  rintro ys σ H2 ⟨rfl,S2,_⟩ lw1 nlw;rw[ldl,kM];have S3:=S1.trans (S2.trans (zd (o:=.lst (wl.map nV)) nlw));have hlw:(upd H2 lw1 (.lst (wl.map nV))) lw1=some (.lst (wl.map nV)):=zc;generalize upd H2 lw1 (.lst (wl.map nV))=H3 at S3 hlw
  try dsimp only
  have hpp3:=S3 _ _ hpp;refine⟨_,rfl,pp,_,_,_,rfl,rfl,SqT.of hpp3,rfl,_,rfl,pp,_,_,_,rfl,rfl,SqT.of hpp3,rfl,_,rfl,p.t,p.b,lw1,wl,rfl,hlw,(),λlp H4 S4 hlp=>?_⟩;have S34:=S3.trans S4;have hpp4:=S4 _ _ hpp3;refine⟨_,rfl,_,rfl,_,rfl,lp,_,rfl,SqL.of hlp,λl2 nl2=>?_⟩;have pl:=_Sta.jl p.t wl;have ec:cutV ((plc p.t wl++[p.b]).map nV) (some 1) none=((plc p.t wl++[p.b]).drop 1).map nV:=by
   have:=wF ((plc p.t wl++[p.b]).map nV) 1 (by rw[ka,ki];simp);rw[b9];exact this
  rw[ec];have S5:=zd (o:=.lst (((plc p.t wl++[p.b]).drop 1).map nV)) nl2;have hl2:(upd H4 l2 (.lst (((plc p.t wl++[p.b]).drop 1).map nV))) l2=some (.lst (((plc p.t wl++[p.b]).drop 1).map nV)):=zc;have hlp5:=S5 _ _ hlp;have hpp5:=S5 _ _ hpp4;generalize upd H4 l2 (.lst (((plc p.t wl++[p.b]).drop 1).map nV))=H5 at S5 hl2 hlp5 hpp5;have lmin:min ((plc p.t wl++[p.b]).map nV).length (((plc p.t wl++[p.b]).drop 1).map nV).length=wl.length+1:=by
   rw[ka,ka,kZ,ki,pl];simp
  have lz:((plc p.t wl).zip ((plc p.t wl++[p.b]).drop 1)).length=wl.length+1:=by
   rw[List.length_zip,kZ,ki,pl];simp
  refine⟨lp,l2,rfl,⟨_,SqL.of hlp5⟩,⟨_,SqL.of hl2⟩,ZC (K:=K) (a:=lp) (b:=l2) (xs:=(plc p.t wl++[p.b]).map nV) (ys:=((plc p.t wl++[p.b]).drop 1).map nV) (λi ys σ H6=>z6 H6 ys ((((plc p.t wl).zip ((plc p.t wl++[p.b]).drop 1)).take i).map λq=>⟨p.l,q.1,p.r,q.2⟩)/\Same H5 H6/\∃o o2,σ=[o,o2,some (.ref pp)]) ⟨.nil,Same.refl _,none,none,rfl⟩
   (λi ys σ H6 hi h9=>by obtain⟨e,S,_⟩:=h9;exact(⟨by rw[e.len,ka,kJ];exact kn (show _<=1000 by lia) ⋯,SqL.of (S _ _ hlp5),SqL.of (S _ _ hl2)⟩)) ?_ ?_⟩
  case refine_2 =>
   intro i x y ys σ H6 tpa hx hy h8 ntp;refine A_3 h8 λhY S6 n8=>E_2 n8 λo o2 e9=>?_;clear n8 h8;subst e9;rw[k6]at hx hy;obtain⟨x1,hx1,rfl⟩:=vA.mp hx;obtain⟨y1,hy1,rfl⟩:=vA.mp hy;have hil:i<wl.length+1:=by
    have:=(kh.mp hy1).1;rw[kZ,ki,pl]at this;simp at this;omega
   have hx2:(plc p.t wl)[i]?=some x1:=by
    rw[vi ()]at hx1;exact hx1
   have St:=zd (o:=.tup [nV x1,nV y1]) ntp;have hpp6:=S6 _ _ hpp5;refine⟨tpa,_,rfl,SqT.of zc,rfl,_,_,rfl,_,_,rfl,rfl,?_⟩;dsimp only[zU,tYes];refine iteT ?_;generalize upd H6 tpa (.tup [nV x1,nV y1])=H7 at St;have hpp7:=St _ _ hpp6;refine YU (v1:=nV p.l) (v2:=nV x1) (v3:=nV p.r) (v4:=nV y1) (yk (zp rfl) zM (SqT.of hpp7) rfl) (zp rfl) (yk (zp rfl) zM (SqT.of hpp7) rfl) (zp rfl) (λtq ntq=>?_);have Sq:=zd (o:=.tup [nV p.l,nV x1,nV p.r,nV y1]) ntq;refine⟨?_,S6.trans (St.trans Sq),_,_,rfl⟩;have ez:((plc p.t wl).zip ((plc p.t wl++[p.b]).drop 1))[i]?=some (x1,y1):=List.getElem?_zip_eq_some.mpr ⟨hx2,hy1⟩;obtain⟨hzl,evz⟩:=kh.mp ez;rw[<-kF hzl,evz,kD];exact(hY.same (St.trans Sq)).snoc ⟨tq,rfl,zc⟩
  rintro ys σ H6 ⟨hY,S6,_⟩ lr nlr;rw[lmin,<-lz,kM,<-epc]at hY;exact q lr ys _ (S34.trans (S5.trans (S6.trans (zd nlr)))) zc (hY.same (zd nlr))
def spPo:Sp:=λvs H Q _=>∃(x:V)(k:Str)(b pp:Addr)(ps:List T)(nss:List (List Int))(bvs:List V)(As:List Stc)(Ls:List R)(p:Pc)(pcs:List Pc)(H0:Hp),vs=[x,.ref b,.ref pp]/\At H x (.tup [.str k,.tup ps])/\zE ps nss/\nss.flatten.length<=24/\2<=ps.length/\sz (.tup [.str k,.tup ps])<=96/\H b=some (.lst bvs)/\yi H0 H bvs As/\OkSs As Ls/\(∀A∈As,A.length<=600)/\Same H0 H/\H pp=some (.tup (pq p))/\p.l<=p.r/\p.t<=p.b /\
 ((k=bar/\PcsA Ls p.t p.b p.r ps p.l pcs)\/(k=dash/\PcsD Ls p.l p.r p.b ps p.t pcs))/\∀(l:Addr)(us:List V)(H':Hp),Same H H'->H' l=some (.lst us)->z6 H' us pcs->Q (.ref l) H'
theorem scPo:zn ["tree","stairs","piece"] ["tree","stairs","piece"] (zj sPo):=by trivial
theorem zeO{f fA fD:Addr}{fd dA dD:FuncData}(F:Fun K "pieces_of" "pieces_of" sPo f fd)(gKIND:GI mg "KIND" 0)(gPARTS:GI mg "PARTS" 1)(Z:Ns K mg)(Pa:Callee P w K mg base CX0 28 "pieces_across" fA dA ["parts","stairs","piece"] spPa)
  (Pd:Callee P w K mg base CX0 28 "pieces_down" fD dD ["parts","stairs","piece"] spPd):FnOk P w K mg base CX0 29 f fd ["tree","stairs","piece"] spPo:=by
 obtain⟨gWIDE,gHIGH,gMOST_WORDS,gACROSS,tl,ti,tlist,tall,tmax,trev,_,_,_,_,_,_⟩:=Z;refine F.ok scPo (λvs H Q E h=>?_) (λcdv A outer s H vs Q E hr h=>?_)
 .refine E_12 h λx k b pp ps nss bvs As Ls p pcs H0 n8=>A_2 n8 λe9 _=>?_;clear n8 h;subst e9;rfl
 .refine E_12 h λx k b pp ps nss bvs As Ls p pcs H0 n8=>A_16 n8 λe9 hA hG n24 two hz hb hB hO h600 S0 hpp le1 le2 hk q=>?_;clear n8 h;subst e9;refine⟨_,(ze (zL (zy xq (zk zG (pv 0) (zD rfl gKIND) (λ_ _=>rfl)) (zbC rfl gACROSS) (zu _))
   (zf (zl (zh Pa.ok hr rfl Pa.bound Pa.kp Pa.bd .nil zx (za (zk zG (pv 0) (zD rfl gPARTS) (λ_ _=>rfl)) (za (pv 1) (za (pv 2) zb))))))
   zF)
   (zf (zl (zh Pd.ok hr rfl Pd.bound Pd.kp Pd.bd .nil zx (za (zk zG (pv 0) (zD rfl gPARTS) (λ_ _=>rfl)) (za (pv 1) (za (pv 2) zb))))))),?_⟩
  cases hA with
  |@tup a0 vs0 ss e hL =>
  obtain⟨b0,ws,rfl,e2,hQ⟩:=hL.knot;have hPts:Pts H H0 b0 b ps Ls:=⟨⟨ws,e2,hQ⟩,⟨bvs,As,hb,hB,hO,h600⟩,two,⟨nss,hG,n24⟩,λp hp=>by
   have:=xC k ps;have:=wz two hp;lia,S0⟩
  refine⟨_,rfl,a0,_,_,_,rfl,rfl,SqT.of e,rfl,rfl,_,rfl,?_⟩;have ek:decide (V.str k=V.str "|")=decide (k=bar):=by
   rw[decide_eq_decide];exact⟨λz=>by injection z,λz=>by rw[z];rfl⟩
  rw[ek];rcases hk with⟨rfl,hA⟩|⟨rfl,hD⟩
  .rw [decide_eq_true rfl];refine iteT ?_;refine⟨_,rfl,a0,_,_,_,rfl,rfl,SqT.of e,rfl,_,rfl,_,rfl,b0,b,pp,ps,Ls,p,pcs,H0,rfl,hPts,hpp,le2,hA,q⟩
  .rw [decide_eq_false ql];refine iteF ?_;refine zV ?_;dsimp only;refine⟨_,rfl,a0,_,_,_,rfl,rfl,SqT.of e,rfl,_,rfl,_,rfl,b0,b,pp,ps,Ls,p,pcs,H0,rfl,hPts,hpp,le1,hD,q⟩
end _JK
namespace _Sta
open _Tre _Lin
theorem SetL.get{Ls:List R}:∀{ts:List T}{pcs:List Pc}{res:List (List (Int×Pc))}{i:Nat}{t:T},SetL Ls ts pcs res->ts[i]?=some t->∃p a,pcs[i]?=some p/\res[i]?=some a/\zQ Ls t p a
 |_,_,_,_,_,.nil,e=>by simp at e
 |_,_,_,0,_,.cons h _,e=>by simp at e;subst e;exact⟨_,_,rfl,rfl,h⟩
 |_,_,_,i+1,t,.cons _ r,e=>by
  obtain⟨p,a,h1,h2,h3⟩:=SetL.get (i:=i) (t:=t) r (by simpa using e);exact⟨p,a,by simpa using h1,by simpa using h2,h3⟩
theorem SetL.len{Ls:List R}:∀{ts:List T}{pcs:List Pc}{res:List (List (Int×Pc))},SetL Ls ts pcs res->res.length=ts.length/\pcs.length=ts.length
 |_,_,_,.nil=>⟨rfl,rfl⟩
 |_,_,_,.cons _ r=>by simp only[kz];exact⟨by rw[r.len.1],by rw[r.len.2]⟩
theorem JR{α:Type}(L:List (List α))(i:Nat):(L.take i).flatten.length<=L.flatten.length:=by
 have:=congrArg (λz=>(bT z).length) (vH i L);simp only[vD,ki]at this;lia
theorem SetL.sizes{Ls:List R}{ts:List T}{pcs:List Pc}{res:List (List (Int×Pc))}{nss:List (List Int)}(g:zE ts nss)(h:SetL Ls ts pcs res):res.flatten.length=nss.flatten.length:=by
 rw[<-SetL.keys g h,<-List.map_flatten,ka]
def PcOk(p:Pc):Prop:=p.l<=p.r/\p.t<=p.b
theorem zbG{Ls:List R}(hL:∀L∈Ls,Up L){t:T}{P:R}{p:Pc}(h:HasR Ls t P)(m:Rm P p):PcOk p:=by
 have:=(HasR.up hL h).pos m;exact⟨by omega,()⟩
end _Sta
namespace _JK
open PySem _L2 _Lin _Tre PySem.W
open _Sta (R Ok sbs exch reg OkS OkSs stN HasR zJ Low tr Pc PcsA PcsD zQ SetL plc PcOk)
variable{P:Program}{w:World}{K:Frag}{mg:Str->Option Value}{base:Heap}{kA:Addr}
theorem z6.upd{H:Hp}{l:Addr}{xs:List V}{o':HO}(hl:H l=some (.lst xs)):∀{vs:List V}{ps:List Pc},z6 H vs ps->z6 (upd H l o') vs ps
 |_,_,.nil=>.nil
 |_,_,.cons ⟨a,e,z⟩ t=>.cons ⟨a,e,by rw[zr (xc z hl (by intro y;cases y))];exact z⟩ (z6.upd hl t)
def Ze(d:Nat):Sp:=λvs H Q _=>∃(x:V)(t:T)(n:List Int)(b pp:Addr)(bvs:List V)(As:List Stc)(Ls:List R)(p:Pc)(res:List (Int×Pc))(H0:Hp),vs=[x,.ref b,.ref pp]/\At H x t/\Good t n/\n.length<=24/\sz t+3<=4*d/\d<=24/\H b=some (.lst bvs)/\yi H0 H bvs As/\OkSs As Ls/\(∀A∈As,A.length<=600)/\(∀L∈Ls,_Sta.Up L)/\Same H0 H/\H pp=some (.tup (pq p))/\PcOk p /\
 zQ Ls t p res/\∀(l:Addr)(us:List V)(H':Hp),Same H H'->H' l=some (.lst us)->yl H' us res->Q (.ref l) H'
theorem wU:zn ["tree","stairs","piece","found","part","own"] ["tree","stairs","piece"] (zj qR):=by trivial
theorem zcw{f:Addr}{fd:FuncData}(F:Fun K "set_in" "set_in" qR f fd):FnOk P w K mg base CX0 30 f fd ["tree","stairs","piece"] (Ze 0):=by
 refine F.ok wU (λvs H Q E h=>?_) (λcdv A outer s H vs Q E hr h=>?_)
 .refine E_11 h λx t n b pp bvs As Ls p res H0 n8=>A_2 n8 λe9 _=>?_;clear n8 h;subst e9;rfl
 .refine E_11 h λx t n b pp bvs As Ls p res H0 n8=>A_6 n8 λe9 _ _ _ hz _=>?_;clear n8 h;subst e9;lia
theorem zcx{f fW fP:Addr}{fd dW dP:FuncData}{d:Nat}(F:Fun K "set_in" "set_in" qR f fd)(gPARTS:GI mg "PARTS" 1)(tzip:mg "zip"=none)(Wo:Callee P w K mg base CX0 1 "is_whole" fW dW ["thing"] wk)
  (Po:Callee P w K mg base CX0 29 "pieces_of" fP dP ["tree","stairs","piece"] spPo)(Se:Callee P w K mg base CX0 (d+30) "set_in" f fd ["tree","stairs","piece"] (Ze d)):FnOk P w K mg base CX0 (d+31) f fd ["tree","stairs","piece"] (Ze (d+1)):=by
 refine F.ok wU (λvs H Q E h=>?_) (λcdv A outer s H vs Q E hr h=>?_)
 .refine E_11 h λx t n b pp bvs As Ls p res H0 n8=>A_2 n8 λe9 _=>?_;clear n8 h;subst e9;rfl
 .refine E_11 h λx t n b pp bvs As Ls p res H0 n8=>A_16 n8 λe9 hA g n24 hz hd hb hB hO h600 hU S0 hpp pok hSI q=>?_;clear n8 h;subst e9;refine⟨_,(ze (zL (yw (zh Wo.ok (hr.mono ()) rfl Wo.bound Wo.kp Wo.bd .nil zx (za (pv 0) zb)))
   (zf (zl (zO (za (yM (za (pv 0) (za (pv 2) zb))) zb))))
   zF)
   (ze (zo (i:=3) wU.nd rfl (Or.inl rfl) (zO zb))
   (ze (yZ PassesOwn.never rfl (zcv rfl tzip (za (zk zG (pv 0) (zD rfl gPARTS) (λ_ _=>rfl)) (za (zh Po.ok (hr.mono ()) rfl Po.bound Po.kp Po.bd .nil zx (za (pv 0) (za (pv 1) (za (pv 2) zb)))) zb))) (jW rfl (z4 (zt (i:=4) wU.nd rfl (Or.inl rfl)) (z4 (zt (i:=5) wU.nd rfl (Or.inl rfl)) xg)))
   (zf (ya (yq k4 PySem.F.slot_list_extend PySem.F.type_list_extend Q3 (pv 3) (za (zh Se.ok hr rfl Se.bound Se.kp Se.bd .nil zx (za (pv 4) (za (pv 1) (za (pv 5) zb)))) zb)))))
   (zf (zl (pv 3)))))),?_⟩
  refine⟨_,rfl,x,t,rfl,hA,_,rfl,?_⟩;cases g with
  |leaf i =>
   cases hA;cases hSI;refine iteT ?_;refine⟨_,rfl,_,rfl,Zz2,λpt npt=>?_⟩;have St:=zd (o:=.tup [.int i,.ref pp]) npt;have hpt:(upd H pt (.tup [.int i,.ref pp])) pt=some (.tup [.int i,.ref pp]):=zc;generalize upd H pt (.tup [.int i,.ref pp])=H1 at St hpt;refine⟨Zz1,λl nl=>?_⟩;have Sl:=zd (o:=.lst [.ref pt]) nl;exact q l _ _ (St.trans Sl) zc (.cons ⟨pt,.ref pp,rfl,Sl _ _ hpt,pp,rfl,(St.trans Sl) _ _ hpp⟩ .nil)
  |@node k ps nss hk h2 hn hG =>
   obtain⟨pcs,ress,hcut,hSL,rfl⟩:∃pcs ress,((k=bar/\PcsA Ls p.t p.b p.r ps p.l pcs)\/(k=dash/\PcsD Ls p.l p.r p.b ps p.t pcs))/\SetL Ls ps pcs ress/\res=ress.flatten:=by
    cases hSI with
    |bar h r=>exact⟨_,_,.inl ⟨rfl,h⟩,r,rfl⟩
    |dash h r=>exact⟨_,_,.inr ⟨rfl,h⟩,r,rfl⟩
   have hpc:∀(i:Nat)(t:T)(q:Pc),ps[i]?=some t->pcs[i]?=some q->PcOk q:=λi t q e1 e2=>by
    rcases hcut with⟨_,h⟩|⟨_,h⟩
    .obtain ⟨_,_,P1,h1,h2⟩:=h.rm e1 e2;exact _Sta.zbG hU h1 h2
    .obtain ⟨_,_,P1,h1,h2⟩:=h.rm e1 e2;exact _Sta.zbG hU h1 h2
   have hA0:=hA;cases hA with
   |@tup a0 vs0 ss e hL =>
   obtain⟨b0,ws,rfl,e2,hQ⟩:=hL.knot;have lq:=hQ.len;have nsz:=xC k ps;have lps:=wm ps;have hlen:=hSL.len;have hsize:=hSL.sizes hG;refine iteF ?_;refine zV ?_;dsimp only;refine⟨⋯,λl nl=>?_⟩;have S1:=zd (o:=.lst []) nl;have hl1:(upd H l (.lst [])) l=some (.lst []):=zc;change tSeq _ _ _ _ (upd H l (.lst []));generalize upd H l (.lst [])=H1 at S1 hl1;refine run_seq ?_;refine⟨_,rfl,a0,_,_,_,rfl,rfl,SqT.of (S1 _ _ e),rfl,_,rfl,_,rfl,_,rfl,.ref a0,k,b,pp,ps,nss,bvs,As,Ls,p,pcs,H0,rfl,hA0.same S1,hG,n24,h2,(),S1 _ _ hb,hB.same S1,hO,h600,S0.trans S1,S1 _ _ hpp,pok.1,pok.2,hcut,λlpc us H2 S2 hlpc hPc=>?_⟩;have S12:=S1.trans S2;have lus:us.length=ps.length:=by rw[hPc.len,hlen.2]
   have hll:lpc≠l:=λz=>by
    rw[z,S2 _ _ hl1]at hlpc;injection hlpc with z2;injection z2 with z3;rw[<-z3]at lus;simp at lus;lia
   refine⟨b0,lpc,rfl,⟨_,SqT.of (S12 _ _ e2)⟩,⟨_,SqL.of hlpc⟩,?_⟩;refine za7 (K:=K) (a:=b0) (b:=lpc) (xs:=ws) (ys:=us) (λi σ H3=>∃(o1 o2:Option V)(vs:List V),σ=[some (.ref a0),some (.ref b),some (.ref pp),some (.ref l),o1,o2]/\Same H H3/\H3 l=some (.lst vs)/\yl H3 vs (ress.take i).flatten/\H3 lpc=some (.lst us)/\z6 H3 us pcs) () ⟨none,none,[],rfl,S12,S2 _ _ hl1,.nil,hlpc,hPc⟩
    (λi σ H3 hi h9=>by obtain⟨_,_,_,_,S3,_,_,z,_⟩:=h9;exact(⟨SqT.of (S3 _ _ e2),SqL.of z⟩)) ?_ ?_
   .intro i x1 y1 σ H3 tp hx hy h8 ntp;refine E_3 h8 λo1 o2 vs n8=>A_6 n8 λe9 S3 hl3 hN hlp3 hPc3=>?_;clear n8 h8;subst e9;obtain⟨t1,et,hAt⟩:=hQ.get hx;obtain⟨p1,r1,ep,er,hS1⟩:=hSL.get et;obtain⟨p1',ep',pa1,rfl,hpa1⟩:=hPc3.get hy;have e1:p1'=p1:=by rw[ep]at ep';injection ep' with z;exact z.symm
    subst e1;obtain⟨n1,en,gn⟩:=hG.get et;have pm:t1∈ps:=kH et;have two:=wz h2 pm;have ln:=wT (kH en);have St:=zd (o:=.tup [x1,.ref pa1]) ntp;refine⟨tp,_,rfl,SqT.of zc,rfl,_,_,rfl,_,_,rfl,rfl,?_⟩;generalize upd H3 tp (.tup [x1,.ref pa1])=H4 at St;have S4:=S3.trans St;refine⟨_,rfl,.inl ⟨rfl,_,SqL.of (St _ _ hl3)⟩,_,rfl,_,rfl,_,rfl,x1,t1,n1,b,pa1,bvs,As,Ls,p1',r1,H0,rfl,hAt.same S4,gn,(),(),(),S4 _ _ hb,hB.same S4,hO,h600,hU,S0.trans S4,St _ _ hpa1,hpc i t1 p1' et ep,hS1,λl5 us5 H5 S5 hl5 hN5=>?_⟩;have hl5':=S5 _ _ (St _ _ hl3);have lr:us5.length=n1.length:=by rw[hN5.len,<-zQ.keys gn hS1,ka]
    have lv:vs.length<=24:=by
     rw[hN.len];have:=_Sta.JR ress i;lia
    refine I_4 l l5 vs us5 ⟨rfl,rfl,hl5',hl5,kn (show _<=48 by lia) ⋯,?_⟩;obtain⟨hir,evr⟩:=kh.mp er;refine I_3 _ _ _ ⟨rfl,z9 (S4.trans S5) nl,zc,?_,?_,?_⟩
    .rw [<-kF hir,evr,vD,List.flatten_singleton];exact(((hN.same St).same S5).upd hl5').app (hN5.upd hl5')
    .rw [zr hll];exact S5 _ _ (St _ _ hlp3)
    .exact ((hPc3.same St).same S5).upd hl5'
   .intro σ H3 h8;refine E_3 h8 λo1 o2 vs n8=>A_6 n8 λe9 S3 hl3 hN _ _=>?_;clear n8 h8;subst e9;rw[lq,<-hlen.1,kM]at hN;exact⟨_,rfl,q l vs H3 S3 hl3 hN⟩
theorem JS{f fW fP:Addr}{fd dW dP:FuncData}(F:Fun K "set_in" "set_in" qR f fd)(gPARTS:GI mg "PARTS" 1)(tzip:mg "zip"=none)(Wo:Callee P w K mg base CX0 1 "is_whole" fW dW ["thing"] wk)
  (Po:Callee P w K mg base CX0 29 "pieces_of" fP dP ["tree","stairs","piece"] spPo)(bo:mg "set_in"=some (.ref f))(kp:ut K (.ref f)=true)(bd:Binds K fd ["tree","stairs","piece"] []):∀d,FnOk P w K mg base CX0 (d+30) f fd ["tree","stairs","piece"] (Ze d)
 |0=>zcw F
 |d+1=>zcx F gPARTS tzip Wo Po ⟨JS F gPARTS tzip Wo Po bo kp bd d,bo,kp,bd⟩
theorem za9{m n:Nat}{p:Array Nat}{ks:List Int}(o:_Srt.Ord m p)(hl:ks.length=m)(pm:ks.Perm (up n))(u:_Srt.Up (λi=>ks.getD i 0) p m):p.toList.map (λi=>ks.getD i 0)=up n:=by
 have lz:p.size=m:=o.sz;have p1:(p.toList.map (λi=>ks.getD i 0)).Perm ks:=by
  have q1:p.toList.Perm (vc m):=by
   have:=o.pm;rw[Array.perm_iff_toList_perm]at this;exact this
  have q2:=q1.map (λi=>ks.getD i 0);have e:(vc m).map (λi=>ks.getD i 0)=ks:=by
   apply ui
   .rw [ka,vL,hl]
   .intro i h1 h2;rw[vX,uk,_L2.getD_at h2]
  rw[e]at q2;exact q2
 have s1:(p.toList.map (λi=>ks.getD i 0)).Pairwise (· <= ·):=by
  rw[ug];intro i j hi hj hij;rw[ka,Array.length_toList,lz]at hi hj;have key:∀k,k<m->∀h,(p.toList.map (λi=>ks.getD i 0))[k]'h=_Srt.kv (λi=>ks.getD i 0) p k:=by
   intro k hk h;have e:p.toList[k]'(by rw[Array.length_toList,lz];exact hk)=p.getD k 0:=by simp[Array.getD,lz,hk]
   rw[vX,e];rfl
  rw[key i hi,key j hj];exact u.le () hj
 exact List.Perm.eq_of_pairwise (λ_ _ _ _ a b=>bJ a b) s1 (Ye n) (p1.trans pm)
def pc0:Pc:=⟨0,0,0,0⟩
theorem yl.get{H:Hp}:∀{vs:List V}{ps:List (Int×Pc)}{i:Nat}{v:V},yl H vs ps->vs[i]?=some v->∃p,ps[i]?=some p/\NpAt H v p
 |_,_,_,_,.nil,e=>by simp at e
 |_,_,0,_,.cons r _,e=>by simp at e;subst e;exact⟨_,rfl,r⟩
 |_,_,i+1,v,.cons _ t,e=>by
  obtain⟨p,h1,h2⟩:=yl.get (i:=i) (v:=v) t (by simpa using e);exact⟨p,by simpa using h1,h2⟩
theorem XG{H:Hp}{vs:List V}{res:List (Int×Pc)}(h:yl H vs res):∀(l:List Nat),(∀i∈l,i<res.length)->yl H (l.map λi=>vs.getD i .non) (l.map λi=>res.getD i (0,pc0))
 |[],_=>.nil
 |i::ls,hl=>by
  have hi:=hl i ke;have hv:i<vs.length:=by rw[h.len];exact hi
  obtain⟨q,e,r⟩:=h.get (kf hv);refine .cons ?_ (XG h ls λj hj=>hl j (kg _ hj));have e1:res.getD i (0,pc0)=q:=by rw[kE,e];rfl
  show NpAt H (vs.getD i .non) (res.getD i (0,pc0));rw[e1,_L2.getD_at hv];exact r
theorem XH{H:Hp}:∀{vs:List V}{res:List (Int×Pc)},yl H vs res->∃rest:List (List V),rest.length=vs.length/\∀(i:Nat)(x:V)(n:Int)(r:List V),vs[i]?=some x->(res.map (·.1))[i]?=some n->rest[i]?=some r->∃p,x=.ref p/\H p=some (.tup (.int n::r))/\r.length=1
 |_,_,.nil=>⟨[],rfl,λi x n r e=>by simp at e⟩
 |_,_,.cons ⟨a,u,e,z,p⟩ t=>by
  obtain⟨rest,l,h⟩:=XH t;refine⟨[u]::rest,by simp only[kz,l],λi x n r e1 e2 e3=>?_⟩
  match i,e1,e2,e3 with
  |0,e1,e2,e3 =>
   cases e1;cases e2;cases e3;exact⟨a,e,z,rfl⟩
  |i+1,e1,e2,e3=>exact h i x n r (by simpa using e1) (by simpa using e2) (by simpa using e3)
def Qv(C4 C6 C7:Addr):Sp:=λvs H Q E=>∃(x y:V)(t:T)(wide:Nat),vs=[x,y,.int wide]/\At H x t/\sz t<=1000 /\
 ((∃(n:List Int)(a:Addr)(xs:List V)(wss:List (List W)),zX t/\Good t n/\y=.ref a/\H a=some (.lst xs)/\Txs H xs wss/\xs.length=n.length/\(∀(P:R)(k:Nat)(H':Hp),HasR (Lvs wss) t P->Same H H'->Low P wide (some k)->Q (.int k) H')/\∀(P:R)(H':Hp),HasR (Lvs wss) t P->Same H H'->Low P wide none->E (.ref C7) none H')\/Refd C4 C6 H y t E)
def Zf(C4 C6 C7:Addr):Sp:=λvs H Q E=>∃(x y:V)(t:T)(wide high:Nat),vs=[x,y,.int wide,.int high]/\At H x t/\sz t<=1000 /\
 ((∃(n:List Int)(a:Addr)(xs:List V)(wss:List (List W))(P:R),zX t/\Good t n/\y=.ref a/\H a=some (.lst xs)/\Txs H xs wss/\xs.length=n.length/\HasR (Lvs wss) t P /\
  ((∃res,P wide high/\zQ (Lvs wss) t ⟨0,0,wide,high⟩ res/\∀(l:Addr)(us:List V)(pcs:List Pc)(H':Hp),Same H H'->H l=none->H' l=some (.lst us)->z6 H' us pcs->pcs.length=n.length->(∀(i:Nat)(p:Pc),pcs[i]?=some p->((i:Int),p)∈res)->Q (.ref l) H')\/(¬P wide high/\∀H',Same H H'->E (.ref C7) none H')))\/Refd C4 C6 H y t E)
theorem zbH:zn ["tree","texts","wide","least"] ["tree","texts","wide"] (zj sHin):=by trivial
theorem zdG{f fL C4 C6 C7:Addr}{fd dL:FuncData}(F:Fun K "height_in" "height_in" sHin f fd)(ex:Exc K mg "NoRoom" C7)(Lh:Callee P w K mg base (CXE P w) 29 "least_high" fL dL ["tree","texts","wide"] (spLh C4 C6)):FnOk P w K mg base (CXE P w) 30 f fd ["tree","texts","wide"] (Qv C4 C6 C7):=by
 refine F.okE zbH (λvs H Q E h=>?_) (λcdv A outer s H vs Q E hr hh h=>?_)
 .refine E_4 h λx y t wide n8=>A_2 n8 λe9 _=>?_;clear n8 h;subst e9;rfl
 .revert h;intro n7;refine E_4 n7 λx y t wide n8=>A_4 n8 λe9 hA hz h=>?_;clear n8 n7;subst e9;refine⟨_,(ze (zo (i:=3) zbH.nd rfl (Or.inl rfl) (zh Lh.ok hr rfl Lh.bound Lh.kp Lh.bd .nil y7 (za (pv 0) (za (pv 1) (za (pv 2) zb)))))
   (ze (zL (zy YD (pv 3) xR rfl)
   (zf (y6 ex hh rfl (za zW zb)))
   zF)
   (zf (zl (pv 3))))),?_⟩
  rcases h with⟨n,a,xs,wss,iT,g,rfl,ha,hT,hl,q,qe⟩|h
  .refine ⟨_,rfl,_,rfl,_,rfl,x,.ref a,t,wide,rfl,hA,hz,.inl ⟨n,a,xs,wss,iT,g,rfl,ha,hT,hl,λP1 o H1 hR S1 low=>?_⟩⟩;cases o with
   |none=>exact⟨_,rfl,rfl,_,rfl,iteT ⟨Zz1,qe P1 _ hR S1 low⟩⟩
   |some k=>exact⟨_,rfl,rfl,_,rfl,iteF ⟨_,rfl,q P1 k H1 hR S1 low⟩⟩
  .exact ⟨_,rfl,_,rfl,_,rfl,x,y,t,wide,rfl,hA,hz,.inr h⟩
theorem Ym:zn ["tree","texts","wide","high","found"] ["tree","texts","wide","high"] (zj jH):=by trivial
theorem zcy{f fH fS fB C4 C6 C7:Addr}{fd dH dS dB:FuncData}(F:Fun K "setting" "setting" jH f fd)(ex:Exc K mg "NoRoom" C7)(ts:mg "sorted"=none)(Hi:Callee P w K mg base (CXE P w) 30 "height_in" fH dH ["tree","texts","wide"] (Qv C4 C6 C7))
  (Se:Callee P w K mg base CX0 54 "set_in" fS dS ["tree","stairs","piece"] (Ze 24))(Bs:Callee P w K mg base CX0 6 "box_stairs" fB dB ["texts"] Qp):FnOk P w K mg base (CXE P w) 55 f fd ["tree","texts","wide","high"] (Zf C4 C6 C7):=by
 refine F.okE Ym (λvs H Q E h=>?_) (λcdv A outer s H vs Q E hr hh h=>?_)
 .refine E_5 h λx y t wide high n8=>A_2 n8 λe9 _=>?_;clear n8 h;subst e9;rfl
 .revert h;intro n7;refine E_5 n7 λx y t wide high n8=>A_4 n8 λe9 hA hz h=>?_;clear n8 n7;subst e9;refine⟨_,(ze (zL (zy xh (pv 3) (zh Hi.ok (hr.mono ⋯) rfl Hi.bound Hi.kp Hi.bd .nil y7 (za (pv 0) (za (pv 1) (za (pv 2) zb)))) (zu _))
   (zf (y6 ex hh rfl (za zW zb)))
   zF)
   (ze (zo (i:=4) Ym.nd rfl (Or.inl rfl) (zh Se.ok hr rfl Se.bound Se.kp Se.bd .nil zx (za (pv 0) (za (zh Bs.ok (hr.mono ⋯) rfl Bs.bound Bs.kp Bs.bd .nil zx (za (pv 1) zb)) (za (yM (za zg (za zg (za (pv 2) (za (pv 3) zb))))) zb)))))
   (zf (zl (zP (Nc:=["number","box"]) (ix:=[none,none]) rfl rfl (by refine' zY ?zz;case zz=>exact(zaP rfl ts (pv 4))) (λ_ _ _ _ _=>(wP (K:=K) (n:=2) rfl rfl (z4 (zt (i:=0) (by show(["number","box"]:List Str).Nodup;decide +kernel) rfl (Or.inl rfl)) (z4 (zt (i:=1) (by show(["number","box"]:List Str).Nodup;decide +kernel) rfl (Or.inl rfl)) xg)))) (λ_ _ _ _ _=>zS) (λ_ _ _ _ _=>(pv 1))))))),?_⟩
  rcases h with⟨n,a,xs,wss,P1,iT,g,rfl,ha,hT,hl,hP,h⟩|h
  .have up1:=_Sta.HasR.up (yQ wss) hP;refine⟨_,rfl,_,rfl,_,rfl,_,rfl,x,.ref a,t,wide,rfl,hA,hz,.inl ⟨n,a,xs,wss,iT,g,rfl,ha,hT,hl,λP2 k H1 hR S1 low=>?_,λP2 H1 hR S1 low=>?_⟩⟩
   .have eP:=_Sta.y9 hR hP;subst eP;refine⟨_,_,rfl,rfl,_,rfl,?_⟩;rcases h with⟨res,rm,hSI,q⟩|⟨nrm,qe⟩
    .have hk:¬((high:Int)<(k:Int)):=by
      have:=low.2 high rm;lia
     rw[decide_eq_false hk];refine iteF ?_;refine zV ?_;dsimp only;have n24:=(iT.okN g).2;have okw:=hT.okw;have ok40:=hT.ok40;have hsz:=g.szN;have lw:=hT.len;refine⟨_,rfl,_,rfl,a,xs,wss,rfl,S1 _ _ ha,hT.same S1,(),λlb rs H2 S2 nlb hlb hBs=>?_⟩;refine⟨_,rfl,_,rfl,Zz4,λpp npp=>?_⟩;have S3:=zd (o:=.tup [.int 0,.int 0,.int wide,.int high]) npp;have hpp:(upd H2 pp (.tup [.int 0,.int 0,.int wide,.int high])) pp=some (.tup (pq ⟨0,0,wide,high⟩)):=zc;generalize upd H2 pp (.tup [.int 0,.int 0,.int wide,.int high])=H3 at S3 hpp;refine I_11 x t n lb pp rs (wss.map stN) (Lvs wss) ⟨0,0,wide,high⟩ res H1 ⟨rfl,hA.same (S1.trans (S2.trans S3)),g,n24,(),⋯,S3 _ _ hlb,hBs.same S3,Yk okw,λA hA=>?_,yQ wss,S2.trans S3,hpp,⟨kR _,kR _⟩,hSI,λlf us H4 S4 hlf hN=>?_⟩
     .obtain ⟨ws,hw,rfl⟩:=vh.mp hA;exact Wy (okw ws hw) (ok40 ws hw)
     have S14:=S1.trans (S2.trans (S3.trans S4));have hks:=zQ.keys g hSI;obtain⟨yy,gy,l24,py⟩:=iT;have e:=Good.uniq g gy;subst e;have lres:res.length=n.length:=by rw[<-hks,ka]
     have lus:us.length=n.length:=by rw[hN.len,lres]
     have nd:n.Nodup:=py.nodup_iff.mpr (Xt _);obtain⟨rest,lrest,hrest⟩:=XH hN;rw[hks]at hrest;refine⟨_,rfl,lf,us,n,rest,rfl,SqL.of hlf,(),(),lrest,nd,hrest,λD p nD o u=>?_⟩;rw[lus]at o u;have eup:=za9 o rfl py u;have hps:yl H4 (p.toList.map λi=>us.getD i .non) (p.toList.map λi=>res.getD i (0,pc0)):=XG hN p.toList λi hi=>by
      have m:i∈p:=by simpa using hi
      have m2:i∈(bB (vc n.length)):=(Array.Perm.mem_iff o.pm).mp m;rw[lres];simpa using m2
     have efst:(p.toList.map λi=>res.getD i (0,pc0)).map (·.1)=up n.length:=by
      rw[<-eup,vE];apply vS;intro i _;show(res.getD i (0,pc0)).1=n.getD i 0;rw[<-hks,kE,kE,k6];cases res[i]?<;>rfl
     have hmem:∀q∈(p.toList.map λi=>res.getD i (0,pc0)),q∈res:=λq hq=>by
      obtain⟨i,hi,rfl⟩:=vh.mp hq;have m:i∈p:=by simpa using hi
      have m2:i∈(bB (vc n.length)):=(Array.Perm.mem_iff o.pm).mp m;have hil:i<res.length:=by rw[lres];simpa using m2
      rw[_L2.getD_at hil];exact vB hil
     generalize (p.toList.map λi=>us.getD i .non)=ss at hps;generalize (p.toList.map λi=>res.getD i (0,pc0))=pk at hps efst hmem;have S5:=zd (o:=.lst ss) nD;have hD:(upd H4 D (.lst ss)) D=some (.lst ss):=zc;have hps5:=hps.same S5;generalize upd H4 D (.lst ss)=H5 at S5 hD hps5;have lpk:pk.length=n.length:=by
      have:=congrArg List.length efst
      rwa [ka,wS]at this
     have lss:=hps.len;refine⟨D,rfl,⟨_,SqL.of hD⟩,ye (K:=K) (a:=D) (xs:=ss) (λi ys σ H'=>z6 H' ys ((pk.take i).map (·.2))/\Same H5 H'/\∃o o2,σ=[o,o2]) ⟨.nil,Same.refl _,none,none,rfl⟩
      (λi ys σ H' hi h9=>by obtain⟨h1,S3,_⟩:=h9;exact(⟨by rw[h1.len,ka,kJ];exact kn (show _<=1000000 by lia) ⋯,SqL.of (S3 _ _ hD)⟩)) ?_ ?_⟩
     case refine_2 =>
      intro i y ys σ H6 hy h8;refine A_3 h8 λhY S6 n8=>E_2 n8 λo1 o2 e9=>?_;clear n8 h8;subst e9;obtain⟨q1,eq1,⟨aq,uq,rfl,zq,hq⟩⟩:=hps5.get hy;obtain⟨hil,ev⟩:=kh.mp eq1;refine⟨aq,_,rfl,SqT.of (S6 _ _ zq),rfl,_,_,rfl,_,_,rfl,rfl,?_⟩;dsimp only[zU,tYes];refine iteT ⟨_,rfl,?_,S6,_,_,rfl⟩;rw[<-kF hil,ev,kD];exact hY.snoc (hq.same S6)
     rintro ys σ H6 ⟨hY,S6,_⟩ lr nlr;rw[lss,kM]at hY;have S7:=zd (o:=.lst ys) nlr;refine q lr ys _ _ (S14.trans (S5.trans (S6.trans S7))) ((S14.trans (S5.trans S6)).free nlr) zc (hY.same S7) (by rw[ka,lpk]) λi p1 e1=>?_;rw[k6]at e1;obtain⟨q1,eq1,rfl⟩:=vA.mp e1;have e2:(pk.map (·.1))[i]?=some q1.1:=by rw[k6,eq1];rfl
     rw[efst]at e2;have e3:q1.1=(i:Int):=by
      unfold up at e2;rw[k6]at e2;obtain⟨j,ej,e4⟩:=vA.mp e2;have:=(kh.mp ej).2;rw[uk]at this;rw[<-e4,this]
     rw[<-e3];exact hmem q1 (kH eq1)
    .have hk:((high:Int)<(k:Int)):=by
      have:¬k<=high:=λz=>nrm (up1.up low.1 (kc _) z);lia
     rw[decide_eq_true hk];exact iteT ⟨Zz1,qe _ S1⟩
   .have eP:=_Sta.y9 hR hP;subst eP;rcases h with⟨res,rm,_,_⟩|⟨_,qe⟩
    .exact (low high rm).elim
    .exact qe H1 S1
  .exact ⟨_,rfl,_,rfl,_,rfl,_,rfl,x,y,t,wide,rfl,hA,hz,.inr h⟩
end _JK
namespace _JK
open PySem _L2 _Lin _Tre PySem.W
open _Sta (R Ok sbs exch reg OkS OkSs stN HasR zJ Low tr)
section
variable{P:Program}{w:World}{K:Frag}{mg:Str->Option Value}{base:Heap}{kA:Addr}
theorem zcz:zn ["tree","texts","high"] ["tree","texts","high"] (zj Xn):=by trivial
theorem zba{f fT fL C4 C6:Addr}{fd dT dL:FuncData}(F:Fun K "least_wide" "least_wide" Xn f fd)(Ts:Callee P w K mg base (CXE P w) 28 "tree_stairs" fT dT ["tree","texts"] (Qq C4 C6))(Na:Callee P w K mg base CX0 1 "narrowest" fL dL ["stairs","high"] XA):
  FnOk P w K mg base (CXE P w) 29 f fd ["tree","texts","high"] (WB C4 C6):=by
 refine F.okE zcz (λvs H Q E h=>?_) (λcdv A outer s H vs Q E hr hh h=>?_)
 .refine E_4 h λx y t wide n8=>A_2 n8 λe9 _=>?_;clear n8 h;subst e9;rfl
 .revert h;intro n7;refine E_4 n7 λx y t wide n8=>A_4 n8 λe9 hA hz h=>?_;clear n8 n7;subst e9;refine⟨_,(zf (zl (zh Na.ok (hr.mono ⋯) rfl Na.bound Na.kp Na.bd .nil zx (za (zh Ts.ok hr rfl Ts.bound Ts.kp Ts.bd .nil y7 (za (pv 0) (za (pv 1) zb))) (za (pv 2) zb))))),?_⟩;rcases h with⟨n,a,xs,wss,iT,g,rfl,ha,hT,hl,q⟩|h
  .refine ⟨_,rfl,_,rfl,x,.ref a,t,rfl,hA,hz,.inl ⟨n,a,xs,wss,iT,g,rfl,ha,hT,hl,λP1 l us A1 H1 hR S1 nl hl1 hs oA lA=>?_⟩⟩;refine⟨_,rfl,l,us,A1,wide,rfl,hl1,hs,(),λo H2 S2 low=>?_⟩;exact q P1 o H2 hR (S1.trans S2) (low.of (P:=tr (reg A1)) (Q:=tr P1) λw k=>oA.2 k w)
  .exact ⟨_,rfl,_,rfl,x,y,t,rfl,hA,hz,.inr h⟩
end
end _JK
namespace _Shp
open PySem _L2 _Tre
mutual
inductive Sh:T->Nat->Prop where
 |leaf:Sh .non 1
 |node{k:Str}{ps:List T}{ms:List Nat}(hk:isK k)(h2:2<=ps.length)(hn:∀p∈ps,¬HasK p k)(h:ShL ps ms):Sh (.tup [.str k,.tup ps]) ms.sum
inductive ShL:List T->List Nat->Prop where
 |nil:ShL [] []
 |cons{t:T}{m:Nat}{ts:List T}{ms:List Nat}(h:Sh t m)(r:ShL ts ms):ShL (t::ts) (m::ms)
end
theorem ShL.app:∀{a b:List T}{x y:List Nat},ShL a x->ShL b y->ShL (a++b) (x++y)
 |_,_,_,_,.nil,s=>s
 |_,_,_,_,.cons h r,s=>.cons h (ShL.app r s)
theorem ShL.len:∀{a:List T}{x:List Nat},ShL a x->x.length=a.length
 |_,_,.nil=>rfl
 |_,_,.cons _ r=>by rw[kz,kz,r.len]
theorem ShL.get:∀{a:List T}{x:List Nat}{i:Nat}{t:T},ShL a x->a[i]?=some t->∃m,x[i]?=some m/\Sh t m
 |_,_,_,_,.nil,e=>by simp at e
 |_,_,0,_,.cons h r,e=>by simp at e;subst e;exact⟨_,rfl,h⟩
 |_,_,i+1,t,.cons _ r,e=>by
  obtain⟨m,h1,h2⟩:=ShL.get (i:=i) (t:=t) r (by simpa using e);exact⟨m,by simpa using h1,h2⟩
theorem ShL.rep:∀n:Nat,ShL (kq n .non) (kq n 1)
 |0=>.nil
 |n+1=>by
  rw[vf,vf];exact .cons .leaf (ShL.rep n)
mutual
theorem Sh.pos:∀{t:T}{m:Nat},Sh t m->1<=m
 |_,_,.leaf=>kc _
 |_,_,.node (ps:=ps) hk h2 hn h=>by
  have:=ShL.sum h;lia
theorem ShL.sum:∀{a:List T}{x:List Nat},ShL a x->a.length<=x.sum
 |_,_,.nil=>kc _
 |_,_,.cons h r=>by
  have:=h.pos;have:=ShL.sum r;rw[kz,k9];lia
end
mutual
theorem Sh.szN:∀{t:T}{m:Nat},Sh t m->sz t+3<=4*m
 |_,_,.leaf=>by simp[sz]
 |_,_,.node (k:=k) (ps:=ps) hk h2 hn h=>by
  have:=ShL.szN h;have:=xC k ps;have:=ShL.sum h;lia
theorem ShL.szN:∀{a:List T}{x:List Nat},ShL a x->szL a+3*a.length<=4*x.sum
 |_,_,.nil=>by simp[szL]
 |_,_,.cons h r=>by
  have:=h.szN;have:=ShL.szN r;rw[kz,k9];simp only[szL];lia
end
structure E where
 k:Str
 ps:List T
 ms:List Nat
def oth(k:Str):Str:=if k=bar then dash else bar
structure Ent(e:E):Prop where
 hk:isK e.k
 sh:ShL e.ps e.ms
 hn:∀p∈e.ps,¬HasK p e.k
theorem zcA(k:Str):isK (oth k):=by
 unfold oth;split
 .exact .inr rfl
 .exact .inl rfl
theorem zdH{k:Str}(h:isK k):oth k≠k:=by
 unfold oth;rcases h with e|e
 .rw [e,if_pos rfl];decide +kernel
 .rw [e,if_neg (by decide +kernel)];decide +kernel
def Alt:Str->List E->Prop
 |_,[]=>True
 |k,e::r=>e.k=k/\Alt (oth k) r
def zw(e:E):Nat:=2-e.ps.length
def wH(e:E):Nat:=1-e.ps.length
def many(p:List E):Nat:=(p.map λe=>e.ms.sum).sum
def z7(p:List E):Nat:=(p.map wH).sum
theorem xK(a b:List E):many (a++b)=many a+many b:=by unfold many;rw[kD,vO]
theorem xb(e:E):many [e]=e.ms.sum:=by unfold many;simp
theorem qV(a b:List E):z7 (a++b)=z7 a+z7 b:=by unfold z7;rw[kD,vO]
theorem qW(e:E):z7 [e]=wH e:=by unfold z7;simp
theorem Alt.snoc:∀{k:Str}{p:List E}{e:E},Alt k (p++[e])->∀f:E,f.k=e.k->Alt k (p++[f])
 |_,[],e,h,f,z=>⟨z.trans h.1,trivial⟩
 |k,a::r,e,h,f,z=>⟨h.1,Alt.snoc (p:=r) h.2 f z⟩
theorem Alt.push:∀{k:Str}{p:List E}{e:E},Alt k (p++[e])->Alt k (p++[e]++[⟨oth e.k,[],[]⟩])
 |k,[],e,h=>⟨h.1,by rw[h.1],trivial⟩
 |k,a::r,e,h=>⟨h.1,Alt.push (p:=r) h.2⟩
theorem Alt.pop:∀{k:Str}{p:List E}{e:E},Alt k (p++[e])->Alt k p
 |_,[],_,_=>trivial
 |_,a::r,e,h=>⟨h.1,Alt.pop (p:=r) h.2⟩
theorem Alt.two:∀{k:Str}{p:List E}{b e:E},Alt k (p++[b]++[e])->e.k=oth b.k
 |k,[],b,e,h=>by rw[h.1];exact h.2.1
 |k,a::r,b,e,h=>Alt.two (p:=r) h.2
def full(e:E):T:=.tup [.str e.k,.tup (e.ps++kq (zw e) .non)]
def yK(e:E):Nat:=e.ms.sum+zw e
theorem zcB(n:Nat):(kq n 1).sum=n:=by simp
theorem XI{k:Str}:¬HasK .non k:=λ⟨_,e⟩=>by cases e
theorem Ent.full{e:E}(h:Ent e):Sh (full e) (yK e):=by
 have:=Sh.node (ps:=e.ps++kq (zw e) .non) (ms:=e.ms++kq (zw e) 1) h.hk (by rw[ki,vx];unfold zw;omega) (λp hp=>by
  rcases kQ.mp hp with z|z
  .exact h.hn p z
  .rw [(List.mem_replicate.mp z).2];exact XI) (h.sh.app (ShL.rep _))
 rw[vO,zcB]at this;exact this
theorem Ent.add{e:E}(h:Ent e){t:T}{m:Nat}(s:Sh t m)(n:¬HasK t e.k):Ent ⟨e.k,e.ps++[t],e.ms++[m]⟩:=⟨h.hk,h.sh.app (.cons s .nil),λp hp=>by
 rcases kQ.mp hp with z|z
 .exact h.hn p z
 .rw [kj.mp z];exact n⟩
structure Pok(kind:Str)(most:Nat)(p:List E)(top:E):Prop where
 alt:Alt kind (p++[top])
 ent:∀e∈p++[top],Ent e
 sum:many (p++[top])+(zw top+z7 p)<=most
theorem Pok.start{kind:Str}{most:Nat}(hk:isK kind)(h:2<=most):Pok kind most [] ⟨kind,[],[]⟩ :=
 ⟨⟨rfl,trivial⟩,λe he=>by
  rw[uY]at he;rw[kj.mp he];exact⟨hk,.nil,λp hp=>absurd hp kN⟩,by
  rw[uY,xb];show 0+(2+0)<=most;omega⟩
theorem Pok.push{kind:Str}{most:Nat}{p:List E}{top:E}(h:Pok kind most p top)(r:many (p++[top])+(zw top+z7 p)+2<=most\/(many (p++[top])+(zw top+z7 p)+1<=most/\top.ps.length<2)):Pok kind most (p++[top]) ⟨oth top.k,[],[]⟩:=by
 refine⟨h.alt.push,λe he=>?_,?_⟩
 .rcases kQ.mp he with z|z
  .exact h.ent e z
  .rw [kj.mp z];exact⟨zcA _,.nil,λp hp=>absurd hp kN⟩
 .rw [xK,xb,qV,qW];show many (p++[top])+0+(2+(z7 p+wH top))<=most;unfold zw at r;unfold wH;omega
theorem Pok.leaf{kind:Str}{most:Nat}{p:List E}{top:E}(h:Pok kind most p top)(r:many (p++[top])+(zw top+z7 p)+1<=most\/top.ps.length<2):Pok kind most p ⟨top.k,top.ps++[.non],top.ms++[1]⟩:=by
 refine⟨h.alt.snoc _ rfl,λe he=>?_,?_⟩
 .rcases kQ.mp he with z|z
  .exact h.ent e (kU _ z)
  .rw [kj.mp z];exact(h.ent top (kG _ ke)).add .leaf XI
 .have h0:=h.sum;rw[xK,xb]at h0 r ⊢;have e1:(top.ms++[1]).sum=top.ms.sum+1:=by rw[vO];rfl
  have e2:zw ⟨top.k,top.ps++[.non],top.ms++[1]⟩=2-(top.ps.length+1):=by unfold zw;rw[ki];rfl
  show many p+(top.ms++[1]).sum+(zw ⟨top.k,top.ps++[.non],top.ms++[1]⟩+z7 p)<=most;rw[e1,e2];unfold zw at h0 r;lia
theorem Pok.close{kind:Str}{most:Nat}{p:List E}{b top:E}(h:Pok kind most (p++[b]) top):Pok kind most p ⟨b.k,b.ps++[full top],b.ms++[yK top]⟩:=by
 have hb:=h.ent b (kU _ (kG _ ke));have ht:=h.ent top (kG _ ke);have k2:=h.alt.two;refine⟨h.alt.pop.snoc _ rfl,λe he=>?_,?_⟩
 .rcases kQ.mp he with z|z
  .exact h.ent e (kU _ (kU _ z))
  .rw [kj.mp z];refine hb.add ht.full λh9=>?_;obtain⟨q,e⟩:=h9;unfold _Shp.full at e;injection e with e;injection e with e _;injection e with e;exact zdH hb.hk (k2.symm.trans e)
 .have h0:=h.sum;rw[xK,xK,xb,xb,qV,qW]at h0;rw[xK,xb];have e1:(b.ms++[yK top]).sum=b.ms.sum+(top.ms.sum+zw top):=by rw[vO,List.sum_singleton];rfl
  have e2:zw ⟨b.k,b.ps++[full top],b.ms++[yK top]⟩=2-(b.ps.length+1):=by unfold zw;rw[ki];rfl
  show many p+(b.ms++[yK top]).sum+(zw ⟨b.k,b.ps++[full top],b.ms++[yK top]⟩+z7 p)<=most;rw[e1,e2];unfold wH at h0;lia
theorem Pok.done{kind:Str}{most:Nat}{top:E}(h:Pok kind most [] top):top.k=kind/\Sh (full top) (yK top)/\yK top<=most:=by
 refine⟨h.alt.1,(h.ent top (kG _ ke)).full,?_⟩;have h0:=h.sum;rw[uY,xb]at h0;have:z7 []=0:=rfl;unfold yK;assumption
mutual
inductive Cn:T->Nat->Prop where
 |non:Cn .non 1
 |int(i:Int):Cn (.int i) 1
 |node{k:Str}{ps:List T}{ms:List Nat}(h2:2<=ps.length)(h:CnL ps ms):Cn (.tup [.str k,.tup ps]) ms.sum
inductive CnL:List T->List Nat->Prop where
 |nil:CnL [] []
 |cons{t:T}{m:Nat}{ts:List T}{ms:List Nat}(h:Cn t m)(r:CnL ts ms):CnL (t::ts) (m::ms)
end
theorem CnL.len:∀{a:List T}{x:List Nat},CnL a x->x.length=a.length
 |_,_,.nil=>rfl
 |_,_,.cons _ r=>by rw[kz,kz,r.len]
theorem CnL.get:∀{a:List T}{x:List Nat}{i:Nat}{t:T},CnL a x->a[i]?=some t->∃m,x[i]?=some m/\Cn t m
 |_,_,_,_,.nil,e=>by simp at e
 |_,_,0,_,.cons h r,e=>by simp at e;subst e;exact⟨_,rfl,h⟩
 |_,_,i+1,t,.cons _ r,e=>by
  obtain⟨m,h1,h2⟩:=CnL.get (i:=i) (t:=t) r (by simpa using e);exact⟨m,by simpa using h1,h2⟩
mutual
theorem Sh.cn:∀{t:T}{m:Nat},Sh t m->Cn t m
 |_,_,.leaf=>.non
 |_,_,.node _ h2 _ h=>.node h2 (ShL.cn h)
theorem ShL.cn:∀{a:List T}{x:List Nat},ShL a x->CnL a x
 |_,_,.nil=>.nil
 |_,_,.cons h r=>.cons h.cn (ShL.cn r)
end
mutual
theorem WC:∀{t:T}{n:List Int},Good t n->Cn t n.length
 |_,_,.leaf i=>.int i
 |_,_,.node (ps:=ps) (nss:=nss) _ h2 _ h=>by
  have:=XJ h;rw[uD];exact .node h2 this
theorem XJ:∀{ts:List T}{nss:List (List Int)},zE ts nss->CnL ts (nss.map List.length)
 |_,_,.nil=>.nil
 |_,_,.cons h r=>.cons (WC h) (XJ r)
end
theorem zbb{ms:List Nat}{i m:Nat}(h:ms[i]?=some m):(ms.take (i+1)).sum=(ms.take i).sum+m:=by
 rw[List.take_add_one,h,vO];simp
theorem Wc(ms:List Nat)(i:Nat):(ms.take i).sum<=ms.sum:=by
 have:=congrArg List.sum (vH i ms);rw[vO]at this;lia
end _Shp
namespace _L2
open PySem PySem.Spec PyProof.Rows
def gLst(K:Frag)(n:Nat)(t:TGs):TG:=λv σ H Q=>∃a xs,v=.ref a/\SqL K H a xs/\xs.length=n/\t xs σ H Q
theorem zdI{X:Cx}{es:List Expr}{k:Nat}{t:TGs}{n:Nat}{pos:Pos}(hc:X.calm=true)(h:PGs X es t)
  (hn:(assignEach es X.env).length=n:=by rfl)(hst:(assignEach es X.env).findIdx? (·.1)=none:=by rfl):PG X (.Tuple es k pos) (gLst X.K n t):=by
 intro pins s σ H v u Q I r hw;obtain⟨a,xs,e1,hq,hl,hw⟩:=hw;subst e1;cases r;obtain⟨its,rv,ht,hz⟩:=I.list hq;rw[assign_Tuple];refine wpAny_bind (wpAny_standAt ?_);unfold unpack;have e:(assignEach es X.env).length=its.toArray.size:=by simp[hn,<-hl,rv.length]
 rw[e,hst];refine wpAny_bind (wpAny_holding (PySem.W.kun_itemsOf (I.ok.hd hc) ht.isList λh' hx=>?_));have I1:Inv X pins σ H {s with heap:=h'}:=I.kept (t':=s.toks) λb o e=>hx b o (ve (Heap.lt_size e)) e;exact h pins _ σ H xs _ Q I1 (by simpa using rv) hw
open PySem.W
section
variable{X:Cx}
theorem Yn:yz X (.type "int") (λxs H Q=>∃b:Bool,xs=[.bl b]/\Q (.int (if b then 1 else 0)) H):=by
 intro pins s σ H xs us Q I r h;refine E_1 h λb n8=>A_2 n8 λe9 q=>?_;clear n8 h;subst e9;obtain⟨u,rfl,rfl⟩:=vals1 r;exact call_int_bool ⟨.int (if b then 1 else 0),H,I.tok _,⟨_,rfl⟩,q⟩
theorem zdJ{K:Frag}{o e:Expr}{es:List Expr}{to:TE}{t:TA}{name:Str}{apos cpos:Pos}{T id:String}{r:V->List V->Hp->VK->Prop}(hK:X.K=K)(pa:PlainAttrs T)(slot:Slot T name id)(hty:typeOf (.builtin id)=pure (.type "method_descriptor"))(hm:MtR X id r)(ho:PE X o to)(ha:PA X (e::es) t)
  (hbase:attributeBase o name X.env (eval o X.env)=eval o X.env:=by rfl)
  (hfew:((backTo cpos (starEach (e::es) X.env)).all (λx=>!x.1)&&(backToKw cpos (keywordEach [] X.env)).all (λx=>x.1.isSome)
   && decide ((e::es).length+([]:List Keyword).length+(if([]:List Keyword).isEmpty then 0 else 1)<30))=true:=by rfl)
  (hline:(apos.endLine==cpos.line)=true:=by rfl)(hs:starEach (e::es) X.env=(false,eval e X.env)::starEach es X.env:=by rfl)(hplain:(backTo cpos (starEach es X.env)).any (·.1)=false:=by rfl):
  PE X (.Call (.Attribute o name apos) (e::es) [] cpos) (tBM K T r to t):=by
 subst hK;exact yq pa slot hty hm ho ha hbase hfew hline hs hplain
end
end _L2
namespace _JK
open PySem _L2 _Lin _Tre PySem.W
open _Shp (Sh ShL E Ent Pok zw wH z7 many full yK oth Alt)
variable{P:Program}{w:World}{K:Frag}{mg:Str->Option Value}{base:Heap}{kA:Addr}
abbrev Qw:Stmt:=top 71
abbrev XL:Stmt:=top 72
mutual
theorem At.updL{H:Hp}{l:Addr}{xs ys:List V}(hl:H l=some (.lst xs)):∀{v:V}{t:T},At H v t->At (upd H l (.lst ys)) v t
 |_,_,.non=>.non
 |_,_,.bl b=>.bl b
 |_,_,.int i=>.int i
 |_,_,.str x=>.str x
 |_,_,.tup e h=>.tup (by rw[zr (xc e hl (by intro z;cases z))];exact e) (AtL.updL hl h)
 |_,_,.lst (a:=a) e=>by
  by_cases z:a=l
  .rw [z];exact .lst zc
  .exact .lst (by rw[zr z];exact e)
 |_,_,.dic e=>.dic (by rw[zr (xc e hl (by intro z;cases z))];exact e)
theorem AtL.updL{H:Hp}{l:Addr}{xs ys:List V}(hl:H l=some (.lst xs)):∀{vs:List V}{ts:List T},AtL H vs ts->AtL (upd H l (.lst ys)) vs ts
 |_,_,.nil=>.nil
 |_,_,.cons h r=>.cons (At.updL hl h) (AtL.updL hl r)
end
def EnA(H:Hp)(ab:Addr×Addr)(e:E):Prop:=H ab.1=some (.lst [.str e.k,.ref ab.2])/\∃us,H ab.2=some (.lst us)/\AtL H us e.ps
def EnAs(H:Hp):List (Addr×Addr)->List E->Prop:=Paired (EnA H)
def ads(abs:List (Addr×Addr)):List Addr:=abs.flatMap λab=>[ab.1,ab.2]
def rf(ab:Addr×Addr):V:=.ref ab.1
theorem xL(a b:List (Addr×Addr)):ads (a++b)=ads a++ads b:=by unfold ads;rw[List.flatMap_append]
theorem jm(ab:Addr×Addr):ads [ab]=[ab.1,ab.2]:=rfl
theorem WD{abs:List (Addr×Addr)}{ab:Addr×Addr}(h:ab∈abs):ab.1∈ads abs/\ab.2∈ads abs:=⟨List.mem_flatMap.mpr ⟨ab,h,ke⟩,List.mem_flatMap.mpr ⟨ab,h,kg _ ke⟩⟩
theorem EnA.same{H H':Hp}(S:Same H H'){ab:Addr×Addr}{e:E}(h:EnA H ab e):EnA H' ab e:=let ⟨a,us,b,c⟩:=h;⟨S _ _ a,us,S _ _ b,c.same S⟩
theorem EnAs.same{H H':Hp}(S:Same H H'){abs:List (Addr×Addr)}{p:List E}(h:EnAs H abs p):EnAs H' abs p:=Paired.imp' (λ_ _=>EnA.same S) h
theorem EnAs.len{H:Hp}{abs:List (Addr×Addr)}{p:List E}(h:EnAs H abs p):abs.length=p.length:=Paired.length h
theorem EnA.updL{H:Hp}{l:Addr}{xs ys:List V}(hl:H l=some (.lst xs)){ab:Addr×Addr}{e:E}(n1:ab.1≠l)(n2:ab.2≠l)(h:EnA H ab e):EnA (upd H l (.lst ys)) ab e:=let ⟨a,us,b,c⟩:=h;⟨by rw[zr n1];exact a,us,by rw[zr n2];exact b,c.updL hl⟩
theorem EnAs.updL{H:Hp}{l:Addr}{xs ys:List V}(hl:H l=some (.lst xs)):∀{abs:List (Addr×Addr)}{p:List E},l∉ads abs->EnAs H abs p->EnAs (upd H l (.lst ys)) abs p
 |_,_,_,.nil=>.nil
 |_,_,n,.cons h r=>.cons (h.updL hl (λz=>n (by rw[<-z];exact(WD ke).1)) (λz=>n (by rw[<-z];exact(WD ke).2))) (EnAs.updL hl (λz=>n (by
   unfold ads at z ⊢;rw[List.flatMap_cons];exact kG _ z)) r)
theorem EnAs.get{H:Hp}:∀{abs:List (Addr×Addr)}{p:List E}{i:Nat}{ab:Addr×Addr},EnAs H abs p->abs[i]?=some ab->∃e,p[i]?=some e/\EnA H ab e
 |_,_,_,_,.nil,e=>by simp at e
 |_,_,0,_,.cons r _,e=>by simp at e;subst e;exact⟨_,rfl,r⟩
 |_,_,i+1,ab,.cons _ t,e=>by
  obtain⟨p,h1,h2⟩:=EnAs.get (i:=i) (ab:=ab) t (by simpa using e);exact⟨p,by simpa using h1,h2⟩
structure PlAt(H0 H:Hp)(lp:Addr)(abs:List (Addr×Addr))(ab:Addr×Addr)(p:List E)(top:E):Prop where
 same:Same H0 H
 lst:H lp=some (.lst ((abs++[ab]).map rf))
 ens:EnAs H abs p
 en:EnA H ab top
 nd:(lp::ads (abs++[ab])).Nodup
 fr:∀z∈lp::ads (abs++[ab]),H0 z=none
section
variable{H0 H H':Hp}{lp:Addr}{abs:List (Addr×Addr)}{ab:Addr×Addr}{p:List E}{top:E}
theorem PlAt.alloc(h:PlAt H0 H lp abs ab p top)(S:Same H H'):PlAt H0 H' lp abs ab p top:=⟨h.same.trans S,S _ _ h.lst,h.ens.same S,h.en.same S,h.nd,h.fr⟩
theorem PlAt.last(h:PlAt H0 H lp abs ab p top):atI ((abs++[ab]).map rf) (-1)=some (.ref ab.1):=by
 rw[kD];exact wZ _ _
theorem PlAt.add(h:PlAt H0 H lp abs ab p top){us:List V}{v:V}{t:T}(hu:H ab.2=some (.lst us))(hA:AtL H us top.ps)(hv:At H v t)(ms:List Nat):PlAt H0 (upd H ab.2 (.lst (us++[v]))) lp abs ab p ⟨top.k,top.ps++[t],ms⟩:=by
 have nd:=h.nd;rw[xL,jm]at nd;have hfr:=h.fr ab.2 (by rw[xL,jm];exact kg _ (kG _ (kg _ ke)));obtain⟨n1,n2⟩:=vz.mp nd;obtain⟨n3,n4,n5⟩:=bC.mp n2;have d1:lp≠ab.2:=λz=>n1 (by rw[z];exact kG _ (kg _ ke));have d2:ab.1≠ab.2:=λz=>(vz.mp n4).1 (by rw[z];exact ke);have d3:ab.2∉ads abs:=λz=>n5 _ z _ (kg _ ke) rfl;refine⟨z9 h.same hfr,by rw[zr d1];exact h.lst,h.ens.updL hu d3,⟨by rw[zr d2];exact h.en.1,_,zc,?_⟩,h.nd,h.fr⟩;exact(hA.updL hu).app (.cons (hv.updL hu) .nil)
theorem PlAt.push(h:PlAt H0 H lp abs ab p top){a b:Addr}{k:Str}(S:Same H H')(na:H a=none)(nb:H b=none)(dab:a≠b)(ha:H' a=some (.lst [.str k,.ref b]))(hb:H' b=some (.lst [])):PlAt H0 (upd H' lp (.lst ((abs++[ab]).map rf++[.ref a]))) lp (abs++[ab]) (a,b) (p++[top]) ⟨k,[],[]⟩:=by
 have h':=h.alloc S;have hfr:=h.fr lp ke;obtain⟨n1,n2⟩:=vz.mp h.nd;have fre:∀z,H z=none->H0 z=none:=λz e=>h.same.free e;have inH:∀z∈lp::ads (abs++[ab]),H z≠none:=λz hz e=>by
  rcases kL.mp hz with q|q
  .rw [q,h.lst]at e;cases e
  .rw [xL]at q;rcases kQ.mp q with q|q
   .unfold ads at q;obtain⟨cd,hc,hq⟩:=List.mem_flatMap.mp q;obtain⟨i,hi,ei⟩:=vT.mp hc;obtain⟨e',_,hE⟩:=h.ens.get (i:=i) (ab:=cd) (by rw[kf hi,ei]);rcases kL.mp hq with r|r
    .rw [r,hE.1]at e;cases e
    .rw [kj.mp r]at e;obtain⟨us,e2,_⟩:=hE.2;rw[e2]at e;cases e
   .rcases kL.mp q with r|r
    .rw [r,h.en.1]at e;cases e
    .rw [kj.mp r]at e;obtain⟨us,e2,_⟩:=h.en.2;rw[e2]at e;cases e
 have la:a∉lp::ads (abs++[ab]):=λz=>inH a z na;have lb:b∉lp::ads (abs++[ab]):=λz=>inH b z nb;have d1:a≠lp:=λz=>la (by rw[z];exact ke);have d2:b≠lp:=λz=>lb (by rw[z];exact ke);have ens2:EnAs H' (abs++[ab]) (p++[top]):=Paired.snoc h'.ens h'.en;refine⟨z9 h'.same hfr,by rw[zc,kD (l₂:=[(a,b)])];rfl,ens2.updL h'.lst n1,⟨by rw[zr d1];exact ha,[],by rw[zr d2];exact hb,.nil⟩,?_,λz hz=>?_⟩
 .rw [xL (abs++[ab]),jm,<-List.cons_append];refine bC.mpr ⟨h.nd,vz.mpr ⟨λz=>dab (kj.mp z),vz.mpr ⟨kN,List.nodup_nil⟩⟩,λx hx y hy e=>?_⟩;rw[e]at hx;rcases kL.mp hy with r|r
  .rw [r]at hx;exact la hx
  .rw [kj.mp r]at hx;exact lb hx
 .rw [xL (abs++[ab]),jm,<-List.cons_append]at hz;rcases kQ.mp hz with q|q
  .exact h.fr z q
  .rcases kL.mp q with r|r
   .rw [r];exact fre _ na
   .rw [kj.mp r];exact fre _ nb
theorem PlAt.pop{b:E}(h:PlAt H0 H lp abs ab (p++[b]) top):∃abs' ab',abs=abs'++[ab']/\PlAt H0 (upd H lp (.lst ((abs++[ab]).map rf).dropLast)) lp abs' ab' p b/\EnA (upd H lp (.lst ((abs++[ab]).map rf).dropLast)) ab top:=by
 obtain⟨abs',ab',rfl,h1,h2⟩:=Paired.unsnoc h.ens;obtain⟨n1,n2⟩:=vz.mp h.nd;have hfr:=h.fr lp ke;rw[xL]at n1 n2;obtain⟨n3,n4,n5⟩:=bC.mp n2;have m1:lp∉ads (abs'++[ab']):=λz=>n1 (kU _ z);have ens2:EnAs H (abs'++[ab']) (p++[b]):=h.ens;have ens3:=ens2.updL (ys:=((abs'++[ab']++[ab]).map rf).dropLast) h.lst m1;obtain⟨_,_,e,g1,g2⟩:=Paired.unsnoc ens3;obtain⟨e1,e2⟩:=List.append_inj' e rfl;injection e2 with e2;subst e1 e2;refine⟨_,_,rfl,⟨z9 h.same hfr,by rw[zc,kD (l₂:=[ab]),k8,List.map_nil,uP],g1,g2,vz.mpr ⟨m1,n3⟩,λz hz=>h.fr z ?_⟩,h.en.updL h.lst (λz=>n1 ?_) (λz=>n1 ?_)⟩
 .rcases kL.mp hz with q|q
  .rw [q];exact ke
  .rw [xL _ [ab]];exact kg _ (kU _ q)
 .rw [<-z];exact kG _ ke
 .rw [<-z];exact kG _ (kg _ ke)
end
def JU:Sp:=λvs H Q _=>∃(lp:Addr)(abs:List (Addr×Addr))(ab:Addr×Addr)(p:List E)(top:E),vs=[.ref lp]/\H lp=some (.lst ((abs++[ab]).map rf))/\EnAs H abs p/\EnA H ab top/\abs.length<=1000/\∀H',Same H H'->Q (nV (zw top+z7 p)) H'
theorem qX:zn ["pile","lack","kind","parts"] ["pile"] (zj Qw):=by trivial
theorem zcC{f:Addr}{fd:FuncData}(F:Fun K "_law_lack" "_law_lack" Qw f fd)(tl:mg "len"=none)(tmax:mg "max"=none):FnOk P w K mg base CX0 1 f fd ["pile"] JU:=by
 refine F.ok qX (λvs H Q E h=>?_) (λcdv A outer s H vs Q E hr h=>?_)
 .refine E_5 h λlp abs ab p top n8=>A_2 n8 λe9 _=>?_;clear n8 h;subst e9;rfl
 .refine E_5 h λlp abs ab p top n8=>A_6 n8 λe9 hlp hE hT l1000 q=>?_;clear n8 h;subst e9;refine⟨_,(ze (zo (i:=1) qX.nd rfl (Or.inl rfl) (zi (qE rfl) (by rfl) tmax u6 (za zg (za (zA y4 zg (zi zm (by rfl) tl kO (za (zk zC (zk zC (pv 0) (yR yF zg) (λ_ _=>rfl)) zg (λ_ _=>rfl)) zb))) zb))))
   (ze (yZ PassesOwn.never rfl (zY (yo xA (pv 0) xi (yj (yR yF zg)))) (zdI rfl (z4 (zt (i:=2) qX.nd rfl (Or.inl rfl)) (z4 (zt (i:=3) qX.nd rfl (Or.inl rfl)) xg)))
   (zf (zo (i:=1) qX.nd rfl (Or.inl rfl) (zA ym (pv 1) (zi (qE rfl) (by rfl) tmax u6 (za zg (za (zA y4 zg (zi zm (by rfl) tl kO (za (pv 3) zb))) zb)))))))
   (zf (zl (pv 1))))),?_⟩
  obtain⟨h1,us,h2,hA⟩:=hT;have lA:=hA.len;have lE:=hE.len;have ez:atI ((abs++[ab]).map rf) (-1)=some (.ref ab.1):=by
   rw[kD];exact wZ _ _
  refine x8 (v:=nV (zw top)) (λQ q=>⟨_,rfl,1,rfl,lp,_,_,_,rfl,rfl,SqL.of hlp,ez,ab.1,_,_,_,rfl,rfl,SqL.of h1,rfl,ab.2,us,rfl,.inl (SqL.of h2),_,_,rfl,rfl,_,_,rfl,(by
   show Q (V.int (if(2:Int)-((us.length:Nat):Int)>0 then(2:Int)-((us.length:Nat):Int)else 0)) H;rw[show(if(2:Int)-((us.length:Nat):Int)>0 then(2:Int)-((us.length:Nat):Int)else 0)=((zw top:Nat):Int)by unfold zw;split<;>lia];exact q)⟩) ?_
  refine run_seq ⟨_,rfl,1,rfl,_,rfl,lp,_,rfl,SqL.of hlp,λp1 n1=>?_⟩;rw[jQ (by rw[ka,ki];exact bf _),kD,k8,List.map_nil,uP];have S1:=zd (o:=.lst (abs.map rf)) n1;have hp1:(upd H p1 (.lst (abs.map rf))) p1=some (.lst (abs.map rf)):=zc;have hE1:=hE.same S1;generalize upd H p1 (.lst (abs.map rf))=H1 at S1 hp1 hE1;refine⟨p1,rfl,⟨_,SqL.of hp1⟩,?_⟩;refine wp (K:=K) (a:=p1) (xs:=abs.map rf) (λi σ H2=>∃o2 o3:Option V,σ=[some (.ref lp),some (nV (zw top+z7 (p.take i))),o2,o3]/\H2=H1) ⟨none,none,rfl,rfl⟩ (λi σ H2 _ h9=>by obtain⟨_,_,_,e⟩:=h9;exact(by rw[e];exact SqL.of hp1)) ?_ ?_
  .intro i x σ H2 hi h8;refine E_2 h8 λo2 o3 n8=>A_2 n8 λe9 n90=>?_;clear n8 h8;subst e9;subst n90;rw[k6]at hi;obtain⟨cd,hcd,rfl⟩:=vA.mp hi;obtain⟨e,he,h3,ws,h4,hB⟩:=hE1.get hcd;have lB:=hB.len;refine⟨cd.1,_,rfl,SqL.of h3,rfl,_,_,rfl,_,_,rfl,rfl,?_⟩;refine⟨_,rfl,_,rfl,cd.2,ws,rfl,.inl (SqL.of h4),_,_,rfl,rfl,_,_,rfl,_,_,rfl,rfl,?_⟩;have e5:((zw top+z7 (p.take i):Nat):Int)+(if(1:Int)-((ws.length:Nat):Int)>0 then(1:Int)-((ws.length:Nat):Int)else 0)=((zw top+z7 (p.take (i+1)):Nat):Int):=by
    rw[List.take_add_one,he,_Shp.qV];show _=((zw top+(z7 (p.take i)+z7 [e]):Nat):Int);rw[_Shp.qW];unfold wH;split<;>lia
   exact⟨_,_,congrArg (λz=>[some (V.ref lp),some (V.int z),some (V.str e.k),some (V.ref cd.2)]) e5,rfl⟩
  .intro σ H2 h8;refine E_2 h8 λo2 o3 n8=>A_2 n8 λe9 n90=>?_;clear n8 h8;subst e9;subst n90;refine⟨_,rfl,?_⟩;rw[ka,lE,kM];exact q _ S1
theorem WE(k:Nat):(kq k [V.non]).flatten=kq k V.non:=by
 induction k with
 |zero=>rfl
 |succ k ih=>rw[vf,kP,ih,vf];rfl
theorem AtL.nons{H:Hp}:∀k:Nat,AtL H (kq k V.non) (kq k T.non)
 |0=>.nil
 |k+1=>by
  rw[vf,vf];exact .cons .non (AtL.nons k)
theorem xx(p:List E)(top:E):many (p++[top])=many p+top.ms.sum:=by rw[_Shp.xK,_Shp.xb]
theorem Ent.len{e:E}(h:Ent e):e.ps.length<=e.ms.sum:=h.sh.sum
theorem Pok.small{kind:Str}{most:Nat}{p:List E}{top:E}(h:Pok kind most p top):top.ps.length<=most:=by
 have h0:=h.sum;rw[xx]at h0;have:=Ent.len (h.ent top (kG _ ke));lia
theorem Qx(k:Str)(hk:isK k):∃c:Nat,atI [124,45] (if decide (V.str k=V.str "|")then(1:Int)else 0)=some c/\txt [c]=oth k:=by
 unfold oth;rcases hk with e|e
 .rw [e,decide_eq_true (show V.str bar=V.str "|" from rfl),if_pos rfl];exact⟨45,rfl,by decide +kernel⟩
 .rw [e,decide_eq_false (λz:V.str dash=V.str "|" => ql (V.str.inj z)),if_neg (λz=>ql z)];exact⟨124,rfl,by decide +kernel⟩
theorem XM{p:List E}(h:1<=p.length):∃p' b,p=p'++[b]:=by
 have hne:p≠[]:=by intro z;rw[z]at h;exact absurd h ⋯
 exact⟨p.dropLast,p.getLast hne,(vZ hne).symm⟩
def WF:Sp:=λvs H Q _=>∃(a:Addr)(ns:List Int)(kind:Str)(most:Nat),vs=[.ref a,.str kind,.int most]/\H a=some (.lst (ns.map V.int))/\ns.length<=100/\isK kind/\2<=most/\most<=24/\∀(v:V)(t:T)(m:Nat)(H':Hp),Same H H'->At H' v t->Sh t m->m<=most->Q v H'
theorem xD:zn ["cells","kind","most","pile","many","cell","room","closed"] ["cells","kind","most"] (zj XL):=by trivial
theorem zbc{f fL:Addr}{fd dL:FuncData}(F:Fun K "_law_shape" "_law_shape" XL f fd)(tl:mg "len"=none)(tint:mg "int"=none)(ttup:mg "tuple"=none)(La:Callee P w K mg base CX0 1 "_law_lack" fL dL ["pile"] JU):FnOk P w K mg base CX0 2 f fd ["cells","kind","most"] WF:=by
 refine F.ok xD (λvs H Q E h=>?_) (λcdv A outer s H vs Q E hr h=>?_)
 .refine E_4 h λa ns kind most n8=>A_2 n8 λe9 _=>?_;clear n8 h;subst e9;rfl
 .refine E_4 h λa ns kind most n8=>A_7 n8 λe9 ha hn hk m2 m24 q=>?_;clear n8 h;subst e9;refine⟨_,(ze (zL (PW.pt (xf (zy xh (pv 2) zg (zu _)) (xn (zy (Jg hr.units) (pv 0) (zO zb) (zu _)))))
   (zf (zl xR))
   zF)
   (ze (zo (i:=3) xD.nd rfl (Or.inl rfl) (zO (za (zO (za (pv 1) (za (zO zb) zb))) zb)))
   (ze (zo (i:=4) xD.nd rfl (Or.inl rfl) zg)
   (ze (yZ PassesOwn.never rfl (zY (pv 0)) (zt (i:=5) xD.nd rfl (Or.inl rfl))
   (ze (zo (i:=6) xD.nd rfl (Or.inl rfl) (zA y4 (zA y4 (pv 2) (pv 4)) (zh La.ok hr rfl La.bound La.kp La.bd .nil zx (za (pv 3) zb))))
    (zf (zL (PW.pt (wo (zy xq (zA yE (pv 5) zg) zg (zu _)) (x6 (PW.pt (xf (zy yS (pv 6) zg (zu _)) (xn (PW.pt (wo (zy xq (pv 6) zg (zu _)) (x6 (zy xh (zi zm (by rfl) tl kO (za (zk zC (zk zC (pv 3) (yR yF zg) (λ_ _=>rfl)) zg (λ_ _=>rfl)) zb)) zg (zu _)))))))))))
    (zf (ya (yq k4 vn vo yt (pv 3) (za (zO (za (zk Zz zW (xz Yn rfl tint uJ (za (yu xq (zk zC (zk zC (pv 3) (yR yF zg) (λ_ _=>rfl)) zg (λ_ _=>rfl)) zW (zu _)) zb)) (λ_ _=>rfl)) (za (zO zb) zb))) zb))))
    (zf (zL (PW.pt (wo (zy xq (zA yE (pv 5) zg) zg (zu _)) (wo (zy yS (zi zm (by rfl) tl kO (za (pv 3) zb)) zg (zu _)) (x6 (zy yS (zi zm (by rfl) tl kO (za (zk zC (zk zC (pv 3) (yR yF zg) (λ_ _=>rfl)) zg (λ_ _=>rfl)) zb)) zg (zu _))))))
     (ze (zo (i:=7) xD.nd rfl (Or.inl rfl) (YK k4 uK uL YL (pv 3)))
      (zf (ya (yq k4 vn vo yt (zk zC (zk zC (pv 3) (yR yF zg) (λ_ _=>rfl)) zg (λ_ _=>rfl)) (za (yM (za (zk zC (pv 7) zg (λ_ _=>rfl)) (za (xz xt rfl ttup ua (za (zk zC (pv 7) zg (λ_ _=>rfl)) zb)) zb))) zb)))))
     (zf (zL (PW.pt (xf (zy yS (pv 6) zg (zu _)) (xn (zy xh (zi zm (by rfl) tl kO (za (zk zC (zk zC (pv 3) (yR yF zg) (λ_ _=>rfl)) zg (λ_ _=>rfl)) zb)) zg (zu _)))))
      (ze (ya (yq k4 vn vo yt (zk zC (zk zC (pv 3) (yR yF zg) (λ_ _=>rfl)) zg (λ_ _=>rfl)) (za xR zb)))
       (zf (zo (i:=4) xD.nd rfl (Or.inl rfl) (zA ym (pv 4) zg))))
      zF))))))))
   (ze (wY PassesOwn.never (zy yS (zi zm (by rfl) tl kO (za (pv 3) zb)) zg (zu _))
   (ze (zo (i:=7) xD.nd rfl (Or.inl rfl) (YK k4 uK uL YL (pv 3)))
    (zf (ya (yq k4 vn vo yt (zk zC (zk zC (pv 3) (yR yF zg) (λ_ _=>rfl)) zg (λ_ _=>rfl)) (za (yM (za (zk zC (pv 7) zg (λ_ _=>rfl)) (za (xz xt rfl ttup ua (za (zA YN (zk zC (pv 7) zg (λ_ _=>rfl)) (zA YO (zO (za xR zb)) (zA y4 zg (zi zm (by rfl) tl kO (za (zk zC (pv 7) zg (λ_ _=>rfl)) zb))))) zb)) zb))) zb))))))
   (zf (zl (yM (za (pv 1) (za (xz xt rfl ttup ua (za (zA YN (zk zC (zk zC (pv 3) zg (λ_ _=>rfl)) zg (λ_ _=>rfl)) (zA YO (zO (za xR zb)) (zA y4 zg (zi zm (by rfl) tl kO (za (zk zC (zk zC (pv 3) zg (λ_ _=>rfl)) zg (λ_ _=>rfl)) zb))))) zb)) zb)))))))))),?_⟩
  refine⟨_,rfl,_,_,rfl,rfl,_,rfl,?_⟩;rw[decide_eq_false (show ¬((most:Nat):Int)<2 by lia)];refine iteF ?_;refine⟨_,rfl,Zz0,λle nle=>?_⟩;have S1:=zd (o:=.lst []) nle;have he:upd H le (.lst []) le=some (.lst []):=zc;have ha1:=S1 _ _ ha;generalize upd H le (.lst [])=H1 at S1 he ha1;refine I_4 _ _ 1 _ ⟨rfl,rfl,eq_empty ha1 he,⋯,_,rfl,?_⟩;refine ite2 (λ_=>q .non .non 1 H1 S1 .non .leaf ()) (λ_=>?_);refine zV ?_;dsimp only
  -- the pile
  refine wf ⟨_,rfl,Zz0,λb nb=>⟨Zz2,λa1 na1=>⟨Zz1,λlp nlp=>?_⟩⟩⟩;have S2:=zd (o:=.lst []) nb;have hb:upd H1 b (.lst []) b=some (.lst []):=zc;generalize upd H1 b (.lst [])=H2 at S2 hb na1 nlp;have S3:=zd (o:=.lst [.str kind,.ref b]) na1;have ha3:upd H2 a1 (.lst [.str kind,.ref b]) a1=some (.lst [.str kind,.ref b]):=zc;have hb3:=S3 _ _ hb;have nab:a1≠b:=λz=>by rw[z,hb]at na1;cases na1
  generalize upd H2 a1 (.lst [.str kind,.ref b])=H3 at S3 ha3 hb3 nlp;have S4:=zd (o:=.lst [.ref a1]) nlp;have hlp:upd H3 lp (.lst [.ref a1]) lp=some (.lst [.ref a1]):=zc;have n1:lp≠a1:=λz=>by rw[z,ha3]at nlp;cases nlp
  have n2:lp≠b:=λz=>by rw[z,hb3]at nlp;cases nlp
  generalize upd H3 lp (.lst [.ref a1])=H4 at S4 hlp;have S14:=S2.trans (S3.trans S4);have S04:=S1.trans S14;have pl0:PlAt H H4 lp [] (a1,b) [] ⟨kind,[],[]⟩:=⟨S04,hlp,.nil,⟨S4 _ _ ha3,[],S4 _ _ hb3,.nil⟩,vz.mpr ⟨λz=>by
    rcases kL.mp z with r|r
    .exact n1 r
    .exact n2 (kj.mp r),vz.mpr ⟨λz=>nab (kj.mp z),vz.mpr ⟨kN,List.nodup_nil⟩⟩⟩,λz hz=>by
    rcases kL.mp hz with r|r
    .rw [r];exact(S1.trans (S2.trans S3)).free nlp
    .rcases kL.mp r with r|r
     .rw [r];exact(S1.trans S2).free na1
     .rw [kj.mp r];exact S1.free nb⟩
  refine zH ?_
  try dsimp only
  refine run_seq ⟨_,rfl,a,rfl,⟨_,SqL.of (S04 _ _ ha)⟩,?_⟩;refine wp (K:=K) (a:=a) (xs:=ns.map V.int) (λi σ H5=>∃(abs:List (Addr×Addr))(ab:Addr×Addr)(p:List _Shp.E)(top:_Shp.E)(o5 o6 o7:Option V),σ=[some (.ref a),some (.str kind),some (.int most),some (.ref lp),some (nV (many (p++[top]))),o5,o6,o7]/\PlAt H H5 lp abs ab p top/\Pok kind most p top/\p.length<=i)
   ⟨[],_,[],_,none,none,none,rfl,pl0,Pok.start hk m2,kc _⟩ (λi σ H5 _ h9=>by obtain⟨_,_,_,_,_,_,_,_,pl,_,_⟩:=h9;exact(SqL.of (pl.same _ _ ha))) ?_ ?_
  .intro i x σ H5 hi h8;refine E_7 h8 λabs ab p top o5 o6 o7 n8=>A_4 n8 λe9 pl ok lp1=>?_;clear n8 h8;subst e9;rw[k6]at hi;obtain⟨c,hc,rfl⟩:=vA.mp hi;obtain⟨hil,_⟩:=kh.mp hc;refine zH ?_
   try dsimp only
   have lE:=pl.ens.len;refine⟨_,rfl,_,rfl,_,_,rfl,rfl,_,rfl,lp,abs,ab,p,top,rfl,pl.lst,pl.ens,pl.en,(),λH6 S6=>⟨_,_,rfl,rfl,?_⟩⟩;have pl6:=pl.alloc S6;have hsum:=ok.sum;have hsm:=Pok.small ok;obtain⟨h1,us,h2,hA⟩:=pl6.en;have lA:=hA.len;refine zH ?_
   try dsimp only
   have evL:∀{σ:St},σ[3]?=some (some (.ref lp))->Evl (tCB (λxs H Q=>∃p ys,xs=[.ref p]/\(SqL K H p ys\/SqT K H p ys)/\Q (.int ys.length) H) (xr (tOp (rIxL K) (tOp (rIxL K) (tVar 3) (tUn (rU λi=>.int (-i)) (tC (.int 1)))) (tC (.int 1))) tNil)) σ H6 (.int us.length):=λz=>yI (xB (xB (zp z) (zez zM) (SqL.of pl6.lst) pl6.last) zM (SqL.of h1) rfl) (SqL.of h2);refine xV (p:=c % 4=0/\((1:Int)<((most:Nat):Int)-((many (p++[top]):Nat):Int)-((zw top+z7 p:Nat):Int)\/(((most:Nat):Int)-((many (p++[top]):Nat):Int)-((zw top+z7 p:Nat):Int)=1/\((us.length:Nat):Int)<2)))
    (qc (z8 (wN (zbx (zp rfl) zM (show(0:Int)<4 by decide)) zM)) λ_=>Wz (z8 (z5 (zp rfl) zM)) λ_=>qc (z8 (wN (zp rfl) zM)) λ_=>z8 (z5 (evL rfl) zM)) (λcc=>?_) (λ_=>?_)
   .-- one more knot
    obtain⟨ch,hch,ech⟩:=Qx top.k (ok.ent top (kG _ ke)).hk;refine⟨_,rfl,.inl ⟨rfl,_,SqL.of pl6.lst⟩,_,rfl,1,rfl,lp,_,_,_,rfl,rfl,SqL.of pl6.lst,pl6.last,ab.1,_,_,_,rfl,rfl,SqL.of h1,rfl,rfl,_,rfl,[124,45],_,ch,congrArg V.str Wv,rfl,⋯,hch,Zz0,λb2 nb2=>⟨Zz2,λa2 na2=>?_⟩⟩;rw[ech];have T1:=zd (o:=.lst []) nb2;have hb2:upd H6 b2 (.lst []) b2=some (.lst []):=zc;have na6:=T1.free na2;generalize upd H6 b2 (.lst [])=H7 at T1 hb2 na2;have T2:=zd (o:=.lst [.str (oth top.k),.ref b2]) na2;have ha2:upd H7 a2 (.lst [.str (oth top.k),.ref b2]) a2=some (.lst [.str (oth top.k),.ref b2]):=zc;have hb2':=T2 _ _ hb2;have nab2:a2≠b2:=λz=>by rw[z,hb2]at na2;cases na2
    generalize upd H7 a2 (.lst [.str (oth top.k),.ref b2])=H8 at T2 ha2 hb2';have T12:=T1.trans T2;refine I_3 lp _ _ ⟨rfl,rfl,T12 _ _ pl6.lst,by rw[ka,ki];exact va (show _<=1000 by have:[ab].length=1:=rfl;lia) ⋯,?_⟩;refine⟨abs++[ab],(a2,b2),p++[top],⟨oth top.k,[],[]⟩,some (.int c),some (.int (((most:Nat):Int)-((many (p++[top]):Nat):Int)-((zw top+z7 p:Nat):Int))),o7,?_,pl6.push T12 na6 nb2 nab2 ha2 hb2',ok.push (by
     rw[lA]at cc;rcases cc.2 with z|z
     .exact .inl ()
     .exact .inr ⟨(),()⟩),by rw[ki];exact vd lp1⟩
    rw[xx (p++[top])];rfl
   .have lpl:∀{σ:St},σ[3]?=some (some (.ref lp))->Evl (tCB (λxs H Q=>∃p ys,xs=[.ref p]/\(SqL K H p ys\/SqT K H p ys)/\Q (.int ys.length) H) (xr (tVar 3) tNil)) σ H6 (.int (((abs++[ab]).map rf).length:Nat)):=λz=>yI (zp z) (SqL.of pl6.lst);refine xV (p:=c % 4=3/\((1:Int)<((((abs++[ab]).map rf).length:Nat):Int)/\(1:Int)<((us.length:Nat):Int)))
     (qc (z8 (wN (zbx (zp rfl) zM (show(0:Int)<4 by decide)) zM)) λ_=>qc (z8 (z5 (lpl rfl) zM)) λ_=>z8 (z5 (evL rfl) zM)) (λcc=>?_) (λ_=>?_)
    .-- the topmost knot is closed
     obtain⟨_,c1,c2⟩:=cc;rw[ka,ki]at c1;have c1:1<=p.length:=by have:[ab].length=1:=rfl;lia
     obtain⟨p',e,rfl⟩:=XM c1;obtain⟨abs',ab',rfl,pl7,en7⟩:=pl6.pop;refine⟨_,rfl,.inl ⟨rfl,_,SqL.of pl6.lst⟩,lp,_,.ref ab.1,rfl,rfl,pl6.lst,(by simp[rf]),?_⟩;generalize upd H6 lp (.lst ((abs'++[ab']++[ab]).map rf).dropLast)=H7 at pl7 en7;refine zH ?_
     try dsimp only
     obtain⟨g1,us7,g2,gA⟩:=en7;have l7:=gA.len;obtain⟨k1,ws,k2,kA⟩:=pl7.en;have lk:=kA.len;have okc:=ok.close;have smc:=Pok.small okc;rw[ki]at smc;refine⟨_,rfl,1,rfl,lp,_,_,_,rfl,rfl,SqL.of pl7.lst,pl7.last,ab'.1,_,_,_,rfl,rfl,SqL.of k1,rfl,.inl ⟨rfl,_,SqL.of k2⟩,_,rfl,ab.1,_,_,_,rfl,rfl,SqL.of g1,rfl,_,rfl,ab.1,_,_,_,rfl,rfl,SqL.of g1,rfl,ab.2,us7,rfl,.inl ⟨SqL.of g2,λt1 nt1=>⟨Zz2,λt2 nt2=>?_⟩⟩⟩;have T1:=zd (o:=.tup us7) nt1;have ht1:upd H7 t1 (.tup us7) t1=some (.tup us7):=zc;generalize upd H7 t1 (.tup us7)=H8 at T1 ht1 nt2;have T2:=zd (o:=.tup [.str top.k,.ref t1]) nt2;have ht2:upd H8 t2 (.tup [.str top.k,.ref t1]) t2=some (.tup [.str top.k,.ref t1]):=zc;generalize upd H8 t2 (.tup [.str top.k,.ref t1])=H9 at T2 ht2;have T12:=T1.trans T2;have ef:full top=.tup [.str top.k,.tup top.ps]:=by
      unfold _Shp.full;rw[show zw top=0 by unfold zw;lia,bP,vq]
     have hv:At H9 (.ref t2) (full top):=by
      rw[ef];exact .tup ht2 (.cons (.str _) (.cons (.tup (T2 _ _ ht1) (gA.same T12)) .nil))
     refine I_3 ab'.2 _ _ ⟨rfl,rfl,T12 _ _ k2,va (show ws.length<=1000 by lia) ⋯,?_⟩;have em:many (p'++[e]++[top])=many (p'++[⟨e.k,e.ps++[full top],e.ms++[yK top]⟩]):=by
      rw[xx,xx,xx,vO,List.sum_singleton];unfold _Shp.yK;rw[show zw top=0 by unfold zw;lia];lia
     exact⟨abs',ab',p',⟨e.k,e.ps++[full top],e.ms++[yK top]⟩,some (.int c),_,some (.ref ab.1),congrArg (λz=>[some (V.ref a),some (V.str kind),some (V.int most),some (V.ref lp),some (nV z),some (V.int c),some (V.int (((most:Nat):Int)-((many (p'++[e]++[top]):Nat):Int)-((zw top+z7 (p'++[e]):Nat):Int))),some (V.ref ab.1)]) em,(pl7.alloc T12).add (T12 _ _ k2) (kA.same T12) hv _,okc,by rw[ki]at lp1;lia⟩
    .refine xV (p:=(0:Int)<(((most:Nat):Int)-((many (p++[top]):Nat):Int)-((zw top+z7 p:Nat):Int))\/((us.length:Nat):Int)<2) (Wz (z8 (z5 (zp rfl) zM)) λ_=>z8 (z5 (evL rfl) zM)) (λcc=>?_) (λ_=>?_)
     .refine ⟨_,rfl,1,rfl,lp,_,_,_,rfl,rfl,SqL.of pl6.lst,pl6.last,ab.1,_,_,_,rfl,rfl,SqL.of h1,rfl,.inl ⟨rfl,_,SqL.of h2⟩,ab.2,_,_,rfl,rfl,h2,va (show us.length<=1000 by lia) ⋯,?_⟩;refine⟨_,rfl,_,_,rfl,rfl,?_⟩;have em:((many (p++[top]):Nat):Int)+1=((many (p++[⟨top.k,top.ps++[.non],top.ms++[1]⟩]):Nat):Int):=by
       rw[xx,xx,vO,List.sum_singleton];lia
      exact⟨abs,ab,p,⟨top.k,top.ps++[.non],top.ms++[1]⟩,some (.int c),_,o7,congrArg (λz=>[some (V.ref a),some (V.str kind),some (V.int most),some (V.ref lp),some (V.int z),some (V.int c),some (V.int (((most:Nat):Int)-((many (p++[top]):Nat):Int)-((zw top+z7 p:Nat):Int))),o7]) em,pl6.add h2 hA .non _,ok.leaf (by
       rw[lA]at cc;rcases cc with z|z
       .exact .inl ()
       .exact .inr ()),()⟩
     .refine zV ?_;exact I_7 abs ab p top _ _ _ ⟨rfl,pl6,ok,()⟩
  .intro σ H5 h8;refine E_7 h8 λabs ab p top o5 o6 o7 n8=>A_4 n8 λe9 pl ok lp1=>?_;clear n8 h8;subst e9;generalize many (p++[top])=MN
   try dsimp only
   refine run_seq ?_;refine⟨λm σ H6=>∃(abs:List (Addr×Addr))(ab:Addr×Addr)(p:List _Shp.E)(top:_Shp.E)(o7:Option V),m=p.length/\σ=[some (.ref a),some (.str kind),some (.int most),some (.ref lp),some (nV MN),o5,o6,o7]/\PlAt H H6 lp abs ab p top/\Pok kind most p top,⟨_,abs,ab,p,top,o7,rfl,rfl,pl,ok⟩,?_⟩;clear pl ok lp1;intro m σ H6 h8;refine E_5 h8 λabs ab p top o7 n8=>A_4 n8 λe9 n90 pl6 ok=>?_;clear n8 h8;subst e9;subst n90;have lE:=pl6.ens.len;have hsm:=Pok.small ok;refine⟨_,rfl,lp,_,rfl,.inl (SqL.of pl6.lst),_,_,rfl,rfl,_,rfl,?_⟩;rw[ka,ki];by_cases c1:1<=p.length
   .rw [decide_eq_true (show(1:Int)<((abs.length+[ab].length:Nat):Int)by have:[ab].length=1:=rfl;lia)];refine iteT ⟨_,λ_ _ y=>y,?_⟩;obtain⟨p',e,rfl⟩:=XM c1;obtain⟨abs',ab',rfl,pl7,en7⟩:=pl6.pop;refine⟨_,rfl,.inl ⟨rfl,_,SqL.of pl6.lst⟩,lp,_,.ref ab.1,rfl,rfl,pl6.lst,(by simp[rf]),?_⟩;generalize upd H6 lp (.lst ((abs'++[ab']++[ab]).map rf).dropLast)=H7 at pl7 en7;refine zH ?_
    try dsimp only
    obtain⟨g1,us7,g2,gA⟩:=en7;have l7:=gA.len;obtain⟨k1,ws,k2,kA⟩:=pl7.en;have lk:=kA.len;have okc:=ok.close;have smc:=Pok.small okc;rw[ki]at smc;refine⟨_,rfl,1,rfl,lp,_,_,_,rfl,rfl,SqL.of pl7.lst,pl7.last,ab'.1,_,_,_,rfl,rfl,SqL.of k1,rfl,.inl ⟨rfl,_,SqL.of k2⟩,_,rfl,ab.1,_,_,_,rfl,rfl,SqL.of g1,rfl,_,rfl,ab.1,_,_,_,rfl,rfl,SqL.of g1,rfl,Zz1,λl1 nl1=>?_⟩;have T1:=zd (o:=.lst [V.non]) nl1;have hl1:upd H7 l1 (.lst [V.non]) l1=some (.lst [V.non]):=zc;generalize upd H7 l1 (.lst [V.non])=H8 at T1 hl1;refine⟨_,rfl,ab.1,_,_,_,rfl,rfl,SqL.of (T1 _ _ g1),rfl,ab.2,us7,rfl,.inl (SqL.of (T1 _ _ g2)),_,_,rfl,rfl,l1,_,_,rfl,rfl,hl1,(),(),by show 1*((2:Int)-((us7.length:Nat):Int)).toNat<=sizeLine;exact kn (show _<=1000 by lia) ⋯,λl2 nl2=>?_⟩;rw[WE,show((2:Int)-((us7.length:Nat):Int)).toNat=zw top by unfold zw;lia];have T2:=zd (o:=.lst (kq (zw top) V.non)) nl2;have hl2:upd H8 l2 (.lst (kq (zw top) V.non)) l2=some (.lst (kq (zw top) V.non)):=zc;have T12:=T1.trans T2;generalize upd H8 l2 (.lst (kq (zw top) V.non))=H9 at T2 hl2 T12;refine I_4 ab.2 l2 us7 _ ⟨rfl,rfl,T12 _ _ g2,hl2,by rw[vx];unfold zw;exact kn (show _<=1000 by lia) ⋯,λl3 nl3=>?_⟩;have T3:=zd (o:=.lst (us7++kq (zw top) V.non)) nl3;have hl3:upd H9 l3 (.lst (us7++kq (zw top) V.non)) l3=some (.lst (us7++kq (zw top) V.non)):=zc;have T13:=T12.trans T3;generalize upd H9 l3 (.lst (us7++kq (zw top) V.non))=H10 at T3 hl3 T13;refine⟨l3,_,rfl,.inl ⟨SqL.of hl3,λt1 nt1=>⟨Zz2,λt2 nt2=>?_⟩⟩⟩;have T4:=zd (o:=.tup (us7++kq (zw top) V.non)) nt1;have ht1:upd H10 t1 (.tup (us7++kq (zw top) V.non)) t1=some (.tup (us7++kq (zw top) V.non)):=zc;have T14:=T13.trans T4;generalize upd H10 t1 (.tup (us7++kq (zw top) V.non))=H11 at T4 ht1 T14 nt2;have T5:=zd (o:=.tup [.str top.k,.ref t1]) nt2;have ht2:upd H11 t2 (.tup [.str top.k,.ref t1]) t2=some (.tup [.str top.k,.ref t1]):=zc;have TT:=T14.trans T5;generalize upd H11 t2 (.tup [.str top.k,.ref t1])=H12 at T5 ht2 TT;have hv:At H12 (.ref t2) (full top):=.tup ht2 (.cons (.str _) (.cons (.tup (T5 _ _ ht1) ((gA.same TT).app (AtL.nons _))) .nil));refine I_3 ab'.2 _ _ ⟨rfl,rfl,TT _ _ k2,va (show ws.length<=1000 by lia) ⋯,?_⟩;exact⟨_,by rw[ki];exact v9 _,abs',ab',p',⟨e.k,e.ps++[full top],e.ms++[yK top]⟩,some (.ref ab.1),rfl,rfl,(pl7.alloc TT).add (TT _ _ k2) (kA.same TT) hv _,okc⟩
   .rw [decide_eq_false (show ¬(1:Int)<((abs.length+[ab].length:Nat):Int)by have:[ab].length=1:=rfl;lia)];refine iteF ?_;have ep:p=[]:=vm.mp ();have ea:abs=[]:=vm.mp ();subst ep ea;obtain⟨ek,sh,le⟩:=ok.done;obtain⟨g1,us7,g2,gA⟩:=pl6.en;have l7:=gA.len;refine⟨_,rfl,_,rfl,lp,_,_,_,rfl,rfl,SqL.of pl6.lst,rfl,ab.1,_,_,_,rfl,rfl,SqL.of g1,rfl,Zz1,λl1 nl1=>?_⟩;have T1:=zd (o:=.lst [V.non]) nl1;have hl1:upd H6 l1 (.lst [V.non]) l1=some (.lst [V.non]):=zc;generalize upd H6 l1 (.lst [V.non])=H8 at T1 hl1;refine⟨_,rfl,lp,_,_,_,rfl,rfl,SqL.of (T1 _ _ pl6.lst),rfl,ab.1,_,_,_,rfl,rfl,SqL.of (T1 _ _ g1),rfl,ab.2,us7,rfl,.inl (SqL.of (T1 _ _ g2)),_,_,rfl,rfl,l1,_,_,rfl,rfl,hl1,(),(),by show 1*((2:Int)-((us7.length:Nat):Int)).toNat<=sizeLine;exact kn (show _<=1000 by lia) ⋯,λl2 nl2=>?_⟩;rw[WE,show((2:Int)-((us7.length:Nat):Int)).toNat=zw top by unfold zw;lia];have T2:=zd (o:=.lst (kq (zw top) V.non)) nl2;have hl2:upd H8 l2 (.lst (kq (zw top) V.non)) l2=some (.lst (kq (zw top) V.non)):=zc;have T12:=T1.trans T2;generalize upd H8 l2 (.lst (kq (zw top) V.non))=H9 at T2 hl2 T12;refine I_4 ab.2 l2 us7 _ ⟨rfl,rfl,T12 _ _ g2,hl2,by rw[vx];unfold zw;exact kn (show _<=1000 by omega) ⋯,λl3 nl3=>?_⟩;have T3:=zd (o:=.lst (us7++kq (zw top) V.non)) nl3;have hl3:upd H9 l3 (.lst (us7++kq (zw top) V.non)) l3=some (.lst (us7++kq (zw top) V.non)):=zc;have T13:=T12.trans T3;generalize upd H9 l3 (.lst (us7++kq (zw top) V.non))=H10 at T3 hl3 T13;refine⟨l3,_,rfl,.inl ⟨SqL.of hl3,λt1 nt1=>⟨Zz2,λt2 nt2=>?_⟩⟩⟩;have T4:=zd (o:=.tup (us7++kq (zw top) V.non)) nt1;have ht1:upd H10 t1 (.tup (us7++kq (zw top) V.non)) t1=some (.tup (us7++kq (zw top) V.non)):=zc;have T14:=T13.trans T4;generalize upd H10 t1 (.tup (us7++kq (zw top) V.non))=H11 at T4 ht1 T14 nt2;have T5:=zd (o:=.tup [.str kind,.ref t1]) nt2;have ht2:upd H11 t2 (.tup [.str kind,.ref t1]) t2=some (.tup [.str kind,.ref t1]):=zc;have TT:=T14.trans T5;generalize upd H11 t2 (.tup [.str kind,.ref t1])=H12 at T5 ht2 TT;have hv:At H12 (.ref t2) (full top):=by
     rw[<-ek]at ht2;exact .tup ht2 (.cons (.str _) (.cons (.tup (T5 _ _ ht1) ((gA.same TT).app (AtL.nons _))) .nil))
    exact q (.ref t2) (full top) (yK top) _ (pl6.same.trans TT) hv sh le
end _JK
namespace _JK
open PySem _L2 _Lin _Tre PySem.W
open _Shp (Sh ShL Cn CnL)
variable{P:Program}{w:World}{K:Frag}{mg:Str->Option Value}{base:Heap}{kA:Addr}
abbrev qY:Stmt:=top 73
abbrev qZ:Stmt:=top 74
theorem zcD(g:List Nat):(g.map λn:Nat=>(n:Int)).map V.int=g.map nV:=by rw[vE];rfl
theorem sum_nat:∀g:List Nat,(g.map λn:Nat=>(n:Int)).sum=((g.sum:Nat):Int)
 |[]=>rfl
 |a::r=>by rw[k8,k9,sum_nat r,k9];lia
def yH(d:Addr)(H H':Hp):Prop:=∀p o,p≠d->H p=some o->H' p=some o
theorem yH.refl(d:Addr)(H:Hp):yH d H H:=λ_ _ _ e=>e
theorem yH.of{d:Addr}{H H':Hp}(S:Same H H'):yH d H H':=λp o _ e=>S p o e
theorem yH.trans{d:Addr}{H H' H2:Hp}(a:yH d H H')(b:yH d H' H2):yH d H H2:=λp o n e=>b p o n (a p o n e)
theorem JV{d:Addr}{H:Hp}{o:HO}:yH d H (upd H d o):=λp u n e=>by rw[zr n];exact e
theorem yH.all{d:Addr}{H0 H H':Hp}(n:H0 d=none)(S:Same H0 H)(x:yH d H H'):Same H0 H':=λp o e=>x p o (zK e n) (S p o e)
section
variable{d:Addr}{H H':Hp}{us us':List V}
mutual
theorem At.x(hd:H d=some (.lst us))(hd':H' d=some (.lst us'))(S:yH d H H'):∀{v:V}{t:T},At H v t->At H' v t
 |_,_,.non=>.non
 |_,_,.bl b=>.bl b
 |_,_,.int i=>.int i
 |_,_,.str x=>.str x
 |_,_,.tup e h=>.tup (S _ _ (xc e hd (by intro z;cases z)) e) (AtL.x hd hd' S h)
 |_,_,.lst (a:=a) e=>by
  by_cases z:a=d
  .rw [z];exact .lst hd'
  .exact .lst (S _ _ z e)
 |_,_,.dic e=>.dic (S _ _ (xc e hd (by intro z;cases z)) e)
theorem AtL.x(hd:H d=some (.lst us))(hd':H' d=some (.lst us'))(S:yH d H H'):∀{vs:List V}{ts:List T},AtL H vs ts->AtL H' vs ts
 |_,_,.nil=>.nil
 |_,_,.cons h r=>.cons (At.x hd hd' S h) (AtL.x hd hd' S r)
end
end
def wn(d:Nat):Sp:=λvs H Q _=>∃(x:V)(t:T)(m:Nat),vs=[x]/\At H x t/\Cn t m/\sz t+3<=4*d/\d<=24/\∀H',Same H H'->Q (nV m) H'
def Zg(d:Nat):Sp:=λvs H Q _=>∃(x:V)(t:T)(m:Nat)(l:Addr)(ns:List Int),vs=[x,.ref l]/\At H x t/\Sh t m/\H l=some (.lst (ns.map V.int))/\m<=ns.length/\ns.length<=1000/\sz t+3<=4*d/\d<=24 /\
 ∀(v:V)(t':T)(H':Hp),yH l H H'->H' l=some (.lst ((ns.drop m).map V.int))->At H' v t'->Good t' (ns.take m)->(∀k,HasK t' k->HasK t k)->Q v H'
theorem WG:zn ["shape"] ["shape"] (zj qY):=by trivial
theorem JX{f:Addr}{fd:FuncData}(F:Fun K "_law_count" "_law_count" qY f fd):FnOk P w K mg base CX0 1 f fd ["shape"] (wn 0):=by
 refine F.ok WG (λvs H Q E h=>?_) (λcdv A outer s H vs Q E hr h=>?_)
 .refine E_3 h λx t m n8=>A_2 n8 λe9 _=>?_;clear n8 h;subst e9;rfl
 .refine E_3 h λx t m n8=>A_5 n8 λe9 _ _ hz _=>?_;clear n8 h;subst e9;lia
theorem JY{f:Addr}{fd:FuncData}{d:Nat}(F:Fun K "_law_count" "_law_count" qY f fd)(Z:Nt K mg kA)(tsum:mg "sum"=none)(Co:Callee P w K mg base CX0 (d+1) "_law_count" f fd ["shape"] (wn d)):FnOk P w K mg base CX0 (d+2) f fd ["shape"] (wn (d+1)):=by
 obtain⟨gKIND,gPARTS,gMOST_BOXES,gKINDS,kk,ti,tint,tbool,tstr,ttup,tlist,tl,tany,ts,tr,kI,kB,kS,kT⟩:=Z;refine F.ok WG (λvs H Q E h=>?_) (λcdv A outer s H vs Q E hr h=>?_)
 .refine E_3 h λx t m n8=>A_2 n8 λe9 _=>?_;clear n8 h;subst e9;rfl
 .refine E_3 h λx t m n8=>A_6 n8 λe9 hA hC hz hd q=>?_;clear n8 h;subst e9;refine⟨_,(ze (zL (PW.pt (xf (zy YD (pv 0) xR rfl) (xn (yw (zi yG (by rfl) ti vg (za (pv 0) (za (xp rfl tint uJ) zb)))))))
   (zf (zl zg))
   zF)
   (zf (zl (zi (Jm rfl) (by rfl) tsum PyProof.Rows.boot_sum (za (zP (Nc:=["part"]) (ix:=[none]) rfl rfl (by exact(wL (zk zG (pv 0) zg (λ_ _=>rfl)))) (λ_ _ _ _ _=>(zt (i:=0) (by show(["part"]:List Str).Nodup;decide +kernel) rfl (Or.inl rfl))) (λ_ _ _ _ _=>zS) (λ_ _ _ _ _=>(zh Co.ok hr rfl Co.bound Co.kp Co.bd .nil zx (za (pv 0) zb)))) zb))))),?_⟩
  cases hC with
  |non =>
   cases hA;exact⟨_,rfl,rfl,_,rfl,iteT (iteT (q H (Same.refl _)))⟩
  |int i =>
   cases hA;exact⟨_,rfl,rfl,_,rfl,iteF ⟨_,rfl,_,_,_,_,rfl,rfl,(At.int (H:=H) i).ty,kI (.int i),_,rfl,iteT (q H (Same.refl _))⟩⟩
  |@node k ps ms h2 hL2 =>
   have hty:=hA.ty (K:=K);cases hA with
   |@tup a0 vs0 ss e hL =>
   obtain⟨b0,ws,rfl,e2,hQ⟩:=hL.knot;have lq:=hQ.len;have lM:=hL2.len;have nsz:=xC k ps;have lps:=wm ps;refine⟨_,rfl,rfl,_,rfl,iteF ⟨_,rfl,_,_,_,_,rfl,rfl,hty,kI _,_,rfl,iteF ?_⟩⟩;refine zV ?_;dsimp only;refine⟨_,rfl,_,_,_,_,rfl,rfl,SqT.of e,rfl,b0,rfl,⟨_,SqT.of e2⟩,wb (K:=K) (a:=b0) (xs:=ws) (λi ys σ H'=>ys=(ms.take i).map nV/\Same H H'/\∃o,σ=[o]) ⟨rfl,Same.refl _,none,rfl⟩
    (λi ys σ H' hi h9=>by obtain⟨e3,S3,_⟩:=h9;exact(⟨by rw[e3,ka,kJ];exact kn (show _<=1000000 by lia) ⋯,SqT.of (S3 _ _ e2)⟩)) ?_ ?_⟩
   case refine_2 =>
    rintro i y ys σ H1 hy ⟨rfl,S1,o,rfl⟩;obtain⟨pt,ep,hAp⟩:=hQ.get hy;obtain⟨mi,em,hCi⟩:=hL2.get ep;have two:=wz h2 (kH ep);dsimp only[zU,tYes];refine iteT ⟨_,rfl,y,pt,mi,rfl,hAp.same S1,hCi,(),(),λH2 S2=>⟨?_,S1.trans S2,_,rfl⟩⟩;rw[List.take_add_one,em,kD];rfl
   rintro ys σ H1 ⟨rfl,S1,_⟩ la nl;rw[lq,<-lM,kM];have hla:upd H1 la (.lst (ms.map nV)) la=some (.lst ((ms.map λn:Nat=>(n:Int)).map V.int)):=by rw[zc,zcD]
   have S2:=S1.trans (zd (o:=.lst (ms.map nV)) nl);generalize upd H1 la (.lst (ms.map nV))=H2 at hla S2;refine⟨la,_,rfl,SqL.of hla,?_⟩;rw[sum_nat];exact q H2 S2
theorem XN{f:Addr}{fd:FuncData}(F:Fun K "_law_count" "_law_count" qY f fd)(Z:Nt K mg kA)(tsum:mg "sum"=none)(bo:mg "_law_count"=some (.ref f))(kp:ut K (.ref f)=true)(bd:Binds K fd ["shape"] []):∀d,FnOk P w K mg base CX0 (d+1) f fd ["shape"] (wn d)
 |0=>JX F
 |d+1=>JY F Z tsum ⟨XN F Z tsum bo kp bd d,bo,kp,bd⟩
theorem zbI:zn ["shape","left"] ["shape","left"] (zj qZ):=by trivial
theorem zcE{f:Addr}{fd:FuncData}(F:Fun K "_law_numbered" "_law_numbered" qZ f fd):FnOk P w K mg base CX0 1 f fd ["shape","left"] (Zg 0):=by
 refine F.ok zbI (λvs H Q E h=>?_) (λcdv A outer s H vs Q E hr h=>?_)
 .refine E_5 h λx t m l ns n8=>A_2 n8 λe9 _=>?_;clear n8 h;subst e9;rfl
 .refine E_5 h λx t m l ns n8=>A_8 n8 λe9 _ _ _ _ _ hz _=>?_;clear n8 h;subst e9;lia
theorem zcF{f:Addr}{fd:FuncData}{d:Nat}(F:Fun K "_law_numbered" "_law_numbered" qZ f fd)(ttup:mg "tuple"=none)(Nu:Callee P w K mg base CX0 (d+1) "_law_numbered" f fd ["shape","left"] (Zg d)):FnOk P w K mg base CX0 (d+2) f fd ["shape","left"] (Zg (d+1)):=by
 refine F.ok zbI (λvs H Q E h=>?_) (λcdv A outer s H vs Q E hr h=>?_)
 .refine E_5 h λx t m l ns n8=>A_2 n8 λe9 _=>?_;clear n8 h;subst e9;rfl
 .refine E_5 h λx t m l ns n8=>A_9 n8 λe9 hA hS hl hm hn hz hd q=>?_;clear n8 h;subst e9;refine⟨_,(ze (zL (zy YD (pv 0) xR rfl)
   (zf (zl (yq k4 uK uL YM (pv 1) (za zg zb))))
   zF)
   (zf (zl (yM (za (zk zG (pv 0) zg (λ_ _=>rfl)) (za (xz xt rfl ttup ua (za (zP (Nc:=["part","left"]) (ix:=[none,some 1]) rfl rfl (by exact(wL (zk zG (pv 0) zg (λ_ _=>rfl)))) (λ_ _ _ _ _=>(zt (i:=0) (by show(["part","left"]:List Str).Nodup;decide +kernel) rfl (Or.inl rfl))) (λ_ _ _ _ _=>zS) (λ_ _ _ _ _=>(zh Nu.ok hr rfl Nu.bound Nu.kp Nu.bd .nil zx (za (pv 0) (za (pv 1) zb))))) zb)) zb)))))),?_⟩
  cases hS with
  |leaf =>
   cases hA;obtain⟨i,r,rfl⟩:∃i r,ns=i::r:=by
    cases ns with
    |nil=>exact absurd hm ⋯
    |cons i r=>exact⟨i,r,rfl⟩
   refine⟨_,rfl,rfl,_,rfl,iteT ?_⟩;refine⟨_,rfl,.inl ⟨rfl,_,SqL.of hl⟩,l,_,0,0,.int i,rfl,rfl,hl,⋯,⋯,?_,rfl,?_⟩
   .exact PySem.StrLaws.seqIndex_nonneg (vU _) (by rw[ka,kz];lia)
   .exact q (.int i) (.int i) _ JV (by rw[zc];rfl) (.int i) (.leaf i) λk ⟨_,e⟩=>by cases e
  |@node k ps ms hk h2 hn2 hL2 =>
   cases hA with
   |@tup a0 vs0 ss e hL =>
   obtain⟨b0,ws,rfl,e2,hQ⟩:=hL.knot;have lq:=hQ.len;have lM:=hL2.len;have nsz:=xC k ps;have lps:=wm ps;have nb0:b0≠l:=xc e2 hl (by intro z;cases z);have na0:a0≠l:=xc e hl (by intro z;cases z);refine⟨_,rfl,rfl,_,rfl,iteF ?_⟩;refine zV ?_;dsimp only;refine⟨_,rfl,_,_,_,_,rfl,rfl,SqT.of e,rfl,_,rfl,_,_,_,_,rfl,rfl,SqT.of e,rfl,b0,rfl,⟨_,SqT.of e2⟩,wb (K:=K) (a:=b0) (xs:=ws) (λi ys σ H'=>(∃o,σ=[o,some (.ref l)])/\yH l H H'/\H' l=some (.lst ((ns.drop (ms.take i).sum).map V.int))/\∃(ts':List T)(nss:List (List Int)),AtL H' ys ts'/\zE ts' nss/\nss.flatten=ns.take (ms.take i).sum/\ts'.length=i/\∀(j:Nat)(t':T),ts'[j]?=some t'->∃t0∈ps,∀k,HasK t' k->HasK t0 k)
     ⟨⟨none,rfl⟩,yH.refl _ _,hl,[],[],.nil,.nil,rfl,rfl,λj t' e=>by simp at e⟩
    (λi ys σ H' hi h9=>by obtain⟨_,S3,_,ts',nss,hY,_,_,l3,_⟩:=h9;exact(⟨by rw[hY.len,l3];exact kn (show _<=1000000 by lia) ⋯,SqT.of (S3 _ _ nb0 e2)⟩)) ?_ ?_⟩
   case refine_2 =>
    rintro i y ys σ H1 hy ⟨⟨o,rfl⟩,S1,hl1,ts',nss,hY,hG,hf,l3,hK⟩;obtain⟨pt,ep,hAp⟩:=hQ.get hy;obtain⟨mi,em,hSi⟩:=hL2.get ep;have two:=wz h2 (kH ep);have et:=_Shp.zbb em;have sle:=_Shp.Wc ms (i+1);dsimp only[zU,tYes];refine iteT ⟨_,rfl,_,rfl,y,pt,mi,l,ns.drop (ms.take i).sum,rfl,hAp.x hl hl1 S1,hSi,hl1,by rw[kZ];lia,by rw[kZ];lia,(),(),λv t' H2 S2 hl2 hv gv kv=>⟨⟨_,rfl⟩,S1.trans S2,?_,ts'++[t'],nss++[(ns.drop (ms.take i).sum).take mi],?_,hG.app (.cons gv .nil),?_,by rw[ki,l3];rfl,λj u hu=>?_⟩⟩
    .rw [hl2,List.drop_drop,et]
    .exact (hY.x hl1 hl2 S2).app (.cons hv .nil)
    .rw [vD,hf,List.flatten_singleton,et,List.take_add]
    .by_cases hj:j<ts'.length
     .rw [vi hj]at hu;exact hK j u hu
     .rw [vk ()]at hu;have:j-ts'.length=0:=by
       cases h9:j-ts'.length with
       |zero=>rfl
       |succ z=>rw[h9]at hu;simp at hu
      rw[this]at hu;injection hu with hu;rw[<-hu];exact⟨pt,kH ep,kv⟩
   rintro ys σ H1 ⟨_,S1,hl1,ts',nss,hY,hG,hf,l3,hK⟩ la nl;rw[lq,<-lM,kM]at hl1 hf;have T1:=zd (o:=.lst ys) nl;have hla:upd H1 la (.lst ys) la=some (.lst ys):=zc;generalize upd H1 la (.lst ys)=H2 at T1 hla;refine⟨la,ys,rfl,.inl ⟨SqL.of hla,λt1 nt1=>⟨Zz2,λt2 nt2=>?_⟩⟩⟩;have T2:=zd (o:=.tup ys) nt1;have ht1:upd H2 t1 (.tup ys) t1=some (.tup ys):=zc;have T12:=T1.trans T2;generalize upd H2 t1 (.tup ys)=H3 at T2 ht1 T12 nt2;have T3:=zd (o:=.tup [.str k,.ref t1]) nt2;have ht2:upd H3 t2 (.tup [.str k,.ref t1]) t2=some (.tup [.str k,.ref t1]):=zc;have T13:=T12.trans T3;generalize upd H3 t2 (.tup [.str k,.ref t1])=H4 at T3 ht2 T13;refine q (.ref t2) (.tup [.str k,.tup ts']) H4 (S1.trans (.of T13)) (T13 _ _ hl1) (.tup ht2 (.cons (.str _) (.cons (.tup (T3 _ _ ht1) (hY.same T13)) .nil))) ?_ (λk2 ⟨z,e9⟩=>?_)
   .rw [<-hf];refine .node hk () (λt' ht' hk'=>?_) hG;obtain⟨j,hj,ej⟩:=vT.mp ht';obtain⟨t0,h0,hk0⟩:=hK j t' (by rw[kf hj,ej]);exact hn2 t0 h0 (hk0 k hk')
   .injection e9 with e9;injection e9 with e9 _;injection e9 with e9;rw[e9];exact⟨_,rfl⟩
theorem JZ{f:Addr}{fd:FuncData}(F:Fun K "_law_numbered" "_law_numbered" qZ f fd)(ttup:mg "tuple"=none)(bo:mg "_law_numbered"=some (.ref f))(kp:ut K (.ref f)=true)(bd:Binds K fd ["shape","left"] []):∀d,FnOk P w K mg base CX0 (d+1) f fd ["shape","left"] (Zg d)
 |0=>zcE F
 |d+1=>zcF F ttup ⟨JZ F ttup bo kp bd d,bo,kp,bd⟩
def XO:Sp:=λvs H Q _=>∃c k:Int,vs=[.int c,.int k] /\ -1000<=k/\k<=1000/\∀n:Int,Q (.int n) H
def Zh(K:Frag):Sp:=λvs H Q _=>∃(a:Addr)(ns:List Int)(k:Int),vs=[.ref a,.int k]/\SqL K H a (ns.map V.int)/\0<=k/\k<=1000/\∀n:Int,Q (.int n) H
theorem XQ:zn ["cell","k","number"] ["cell","k"] (zj Qc):=by trivial
theorem zcG{f:Addr}{fd:FuncData}(F:Fun K "_law_stir" "_law_stir" Qc f fd):FnOk P w K mg base CX0 1 f fd ["cell","k"] XO:=by
 refine F.ok XQ (λvs H Q E h=>?_) (λcdv A outer s H vs Q E hr h=>?_)
 .refine E_2 h λc k n8=>A_2 n8 λe9 _=>?_;clear n8 h;subst e9;rfl
 .refine E_2 h λc k n8=>A_4 n8 λe9 k1 k2 q=>?_;clear n8 h;subst e9;refine⟨_,ze (zo (i:=2) XQ.nd rfl (Or.inl rfl) (zA yE (zA wM (zA ym (zA ym (zA yE (pv 0) zg) (zA wM zg (pv 1))) zg) zg) zg))
   (ze (zo (i:=2) XQ.nd rfl (Or.inl rfl) (zA yE (zA wM (pv 2) (pv 2)) zg))
   (zf (zl (zA yE (zA wM (pv 2) zg) zg)))),?_⟩
  have m1:=uf c (show(2147483629:Int)≠0 by decide);have m2:=v6 c (show(0:Int)<2147483629 by decide);refine⟨_,rfl,_,_,rfl,rfl,(by show(0:Int)<2147483629;decide),_,rfl,_,_,rfl,rfl,.inl ⟨⋯,⋯⟩,_,_,rfl,rfl,_,_,rfl,rfl,_,_,rfl,rfl,.inl ⟨(),()⟩,_,_,rfl,rfl,(by show(0:Int)<2147483647;decide),?_⟩;generalize hA:(c % 2147483629+7919*k+1)*48271=a;have a1:=uf a (show(2147483647:Int)≠0 by decide);have a2:=v6 a (show(0:Int)<2147483647 by decide);refine⟨_,rfl,_,rfl,_,_,rfl,rfl,.inl ⟨(),()⟩,_,_,rfl,rfl,(by show(0:Int)<2147483629;decide),?_⟩;generalize a % 2147483647*(a % 2147483647)=b;have b1:=uf b (show(2147483629:Int)≠0 by decide);have b2:=v6 b (show(0:Int)<2147483629 by decide);exact⟨_,rfl,_,_,rfl,rfl,.inl ⟨(),()⟩,_,_,rfl,rfl,(by show(0:Int)<2147483563;decide),q _⟩
theorem zdK:zn ["script","k"] ["script","k"] (zj Qd):=by trivial
theorem zcH{f fS:Addr}{fd fdS:FuncData}(F:Fun K "_law_cell" "_law_cell" Qd f fd)(tl:mg "len"=none)(S:Callee P w K mg base CX0 1 "_law_stir" fS fdS ["cell","k"] XO):FnOk P w K mg base CX0 2 f fd ["script","k"] (Zh K):=by
 refine F.ok zdK (λvs H Q E h=>?_) (λcdv A outer s H vs Q E hr h=>?_)
 .refine E_3 h λa ns k n8=>A_2 n8 λe9 _=>?_;clear n8 h;subst e9;rfl
 .refine E_3 h λa ns k n8=>A_5 n8 λe9 hS k1 k2 q=>?_;clear n8 h;subst e9;refine⟨_,ze (zL (zy xh (pv 1) (zi zm (by rfl) tl kO (za (pv 0) zb)) (zu _)) (zf (zl (zk zC (pv 0) (pv 1) (λ_ _=>rfl)))) zF)
   (ze (zL (zy xq (zi zm (by rfl) tl kO (za (pv 0) zb)) zg (zu _))
    (zf (zl (zh S.ok hr rfl S.bound S.kp S.bd .nil zx (za (zA wM (pv 1) (pv 1)) (za (pv 1) zb))))) zF)
   (zf (zl (zh S.ok hr rfl S.bound S.kp S.bd .nil zx (za (zk zC (pv 0) (zA yE (pv 1) (zi zm (by rfl) tl kO (za (pv 0) zb))) (λ_ _=>rfl)) (za (pv 1) zb)))))),?_⟩
  refine⟨_,rfl,_,rfl,_,_,rfl,.inl hS,_,_,rfl,rfl,_,rfl,?_⟩;rw[ka];refine ite2 (λc1=>?_) (λc1=>?_)
  .have c1:=of_decide_eq_true c1;exact⟨_,rfl,_,rfl,_,_,_,_,rfl,rfl,hS,Js k1 c1,q _⟩
  .have c1:¬k<(ns.length:Int):=λz=>c1 (decide_eq_true z);refine⟨_,rfl,_,_,rfl,.inl hS,rfl,_,rfl,?_⟩;rw[ka];refine ite2 (λc2=>?_) (λc2=>?_)
   .exact ⟨_,rfl,_,rfl,_,_,rfl,rfl,.inl ⟨(),()⟩,_,rfl,_,_,rfl,(),by omega,λn=>q n⟩
   .have c2:ns.length≠0:=λz=>c2 (decide_eq_true (by rw[z];rfl));have hp:(0:Int)<(ns.length:Int):=()
    have m1:=uf k (show(ns.length:Int)≠0 by lia);have m2:=v6 k hp;exact⟨_,rfl,_,rfl,_,rfl,_,_,rfl,.inl hS,_,_,rfl,rfl,(by rw[ka];exact hp),_,_,_,_,rfl,rfl,hS,(by rw[ka];exact Js m1 m2),_,rfl,_,_,rfl,(),by omega,λn=>q n⟩
def zbJ(K:Frag):Sp:=λvs H Q _=>∃(a:Addr)(ns:List Int)(first most:Nat),vs=[.ref a,.int first,.int most]/\SqL K H a (ns.map V.int)/\ns.length<=63/\first<=100/\2<=most/\most<=24/\∀(v:V)(t:T)(n:List Int)(H':Hp),Same H H'->At H' v t->Good t n->n.Perm (up n.length)->n.length<=24->Q v H'
theorem wV:zn ["script","first","most","shape","left","order","k"] ["script","first","most"] (zj Xl):=by trivial
theorem zdL{f fS fC fO fN:Addr}{fd dS dC dO dN:FuncData}(F:Fun K "_law_tree" "_law_tree" Xl f fd)(tl:mg "len"=none)(tr:mg "range"=none)(tlist:mg "list"=none)(Sh:Callee P w K mg base CX0 2 "_law_shape" fS dS ["cells","kind","most"] WF)(Ce:Callee P w K mg base CX0 2 "_law_cell" fC dC ["script","k"] (Zh K))
  (Co:Callee P w K mg base CX0 25 "_law_count" fO dO ["shape"] (wn 24))(Nu:Callee P w K mg base CX0 25 "_law_numbered" fN dN ["shape","left"] (Zg 24)):FnOk P w K mg base CX0 26 f fd ["script","first","most"] (zbJ K):=by
 refine F.ok wV (λvs H Q E h=>?_) (λcdv A outer s H vs Q E hr h=>?_)
 .refine E_4 h λa ns first most n8=>A_2 n8 λe9 _=>?_;clear n8 h;subst e9
  rfl
 .refine E_4 h λa ns first most n8=>A_7 n8 λe9 hS h63 hf m2 m24 q=>?_;clear n8 h;subst e9
  refine⟨_,(ze (zo (i:=3) wV.nd rfl (Or.inl rfl) (zh Sh.ok (hr.mono (show 2<=25 by decide)) rfl Sh.bound Sh.kp Sh.bd .nil zx (za (yo xA (pv 0) (yj (pv 1)) (yj zg)) (za (zk Zz zW (zA yE (zh Ce.ok (hr.mono (show 2<=25 by decide)) rfl Ce.bound Ce.kp Ce.bd .nil zx (za (pv 0) (za zg zb))) zg) (λ_ _=>rfl)) (za (pv 2) zb)))))
   (ze (zo (i:=4) wV.nd rfl (Or.inl rfl) (qU rfl rfl tlist rfl tr (za (zh Co.ok (hr.mono (show 25<=25 by decide)) rfl Co.bound Co.kp Co.bd .nil zx (za (pv 3) zb)) zb)))
   (ze (zo (i:=5) wV.nd rfl (Or.inl rfl) (zO zb))
   (ze (yZ PassesOwn.never rfl (wD rfl tr (za (zi zm (by rfl) tl kO (za (pv 4) zb)) zb)) (zt (i:=6) wV.nd rfl (Or.inl rfl))
   (zf (ya (yq k4 vn vo yt (pv 5) (za (yq k4 uK uL YM (pv 4) (za (zA yE (zA Zq (zh Ce.ok (hr.mono (show 2<=25 by decide)) rfl Ce.bound Ce.kp Ce.bd .nil zx (za (pv 0) (za (zA ym (pv 1) (pv 6)) zb))) zg) (zi zm (by rfl) tl kO (za (pv 4) zb))) zb)) zb)))))
   (zf (zl (zh Nu.ok (hr.mono (show 25<=25 by decide)) rfl Nu.bound Nu.kp Nu.bd .nil zx (za (pv 3) (za (pv 5) zb))))))))),?_⟩
  refine⟨_,rfl,_,rfl,_,rfl,_,rfl,a,_,rfl,hS,λlc nlc=>?_⟩;have lcut:=wK (ns.map V.int) (some ((first:Nat):Int)) (some 63);obtain⟨cells,hcut⟩:=za2 ns (some ((first:Nat):Int)) (some 63);dsimp only;rw[hcut];rw[hcut,ka,ka]at lcut;have S1:=zd (o:=.lst (cells.map V.int)) nlc;have hlc:(upd H lc (.lst (cells.map V.int))) lc=some (.lst (cells.map V.int)):=zc;generalize upd H lc (.lst (cells.map V.int))=H1 at S1 hlc;refine⟨_,rfl,a,ns,0,rfl,S1.seq hS,⋯,⋯,λc0=>?_⟩;obtain⟨ch,hch,hkk⟩:=JD c0;refine⟨_,_,rfl,rfl,(show(0:Int)<2 by decide),[124,45],_,ch,congrArg V.str Wv,rfl,⋯,hch,_,rfl,lc,cells,_,most,rfl,hlc,(),hkk,m2,m24,λx t m H2 S2 hA hSh hm=>?_⟩;refine zH ?_
  try dsimp only
  have S02:=S1.trans S2;have szt:=hSh.szN;refine⟨_,rfl,x,t,m,rfl,hA,hSh.cn,(),⋯,λH3 S3=>⟨m,rfl,(),λll nll=>?_⟩⟩;have S03:=S02.trans S3;have S4:=zd (o:=.lst ((vc m).map λi:Nat=>V.int i)) nll;have h1:(upd H3 ll (.lst ((vc m).map λi:Nat=>V.int i))) ll=some (.lst ((up m).map V.int)):=by
   rw[zc];unfold up;rw[vE];rfl
  have fll:=S03.free nll;have S34:=S3.trans S4;have S04:=S03.trans S4;generalize upd H3 ll (.lst ((vc m).map λi:Nat=>V.int i))=H4 at S4 h1 S34 S04;refine zH ?_
  try dsimp only
  refine wf ⟨Zz0,λli nli=>?_⟩;have fli:=S04.free nli;have S5:=zd (o:=.lst []) nli;have h2:(upd H4 li (.lst [])) li=some (.lst []):=zc;have nn:ll≠li:=zK h1 nli;have h1:=S5 _ _ h1;have S05:=S04.trans S5;have hA5:=(hA.same S34).same S5;generalize upd H4 li (.lst [])=H5 at S5 h2 h1 S05 hA5;refine run_seq (t:=_) ?_;refine⟨_,rfl,ll,_,rfl,.inl (SqL.of h1),_,rfl,by rw[ka,wS];lia,by rw[ka,wS];lia,?_⟩;rw[show((((up m).map V.int).length:Nat):Int).toNat=m by rw[ka,wS];rfl];refine qD (lo:=0) (n:=m) (λi σ H6=>∃(us ls:List Int)(o:Option V),σ=[some (.ref a),some (.int first),some (.int most),some x,some (.ref ll),some (.ref li),o]/\Same H H6/\At H6 x t/\H6 ll=some (.lst (ls.map V.int))/\H6 li=some (.lst (us.map V.int))/\(us++ls).Perm (up m)/\us.length=i)
   ⟨[],_,none,rfl,S05,hA5,h1,h2,.refl _,rfl⟩ ?_ ?_
  .intro i σ H6 hi h8;refine E_3 h8 λus ls o n8=>A_7 n8 λe9 S6 hA6 hll hli pm lu=>?_;clear n8 h8;subst e9;refine zH ?_;rw[show(0:Int)+(i:Int)=(i:Int)from Int.zero_add _]
   try dsimp only
   have ln:=pm.length_eq;rw[ki,wS]at ln;have l0:0<ls.length:=()
   refine⟨_,rfl,.inl ⟨rfl,_,SqL.of hli⟩,_,rfl,.inl ⟨rfl,_,SqL.of hll⟩,_,rfl,_,rfl,_,rfl,_,_,rfl,rfl,a,ns,_,rfl,S6.seq hS,(),(),λc=>?_⟩;have b0:=uf (c / 4) (show(ls.length:Int)≠0 by lia);have b1:=v6 (c / 4) (show(0:Int)<ls.length by lia);obtain⟨k,hk⟩:=bz b0;have kl:k<ls.length:=()
   refine⟨_,_,rfl,rfl,(show CDiv c 4 from⟨⋯,⋯⟩),_,rfl,_,_,rfl,.inl (SqL.of hll),_,_,rfl,rfl,by rw[ka];lia,?_⟩;have hk':(c / 4) % (((ls.map V.int).length:Nat):Int)=k:=by rw[ka];exact hk
   refine⟨ll,ls.map V.int,k,k,.int ls[k],rfl,congrArg (λz=>[V.int z]) hk',hll,(),by omega,?_,by rw[k6,kf kl];rfl,?_⟩
   .rw [ka];have z:=PySem.StrLaws.seqIndex_nonneg (i:=(k:Int)) (n:=ls.length) () ();exact z
   .have S7:Same H (upd H6 ll (.lst ((ls.map V.int).eraseIdx k))):=z9 S6 fll;have k1:(upd H6 ll (.lst ((ls.map V.int).eraseIdx k))) ll=some (.lst ((ls.eraseIdx k).map V.int)):=by rw[zc,Yi]
    have k2:(upd H6 ll (.lst ((ls.map V.int).eraseIdx k))) li=some (.lst (us.map V.int)):=by rw[zr nn.symm];exact hli
    have k3:=hA6.updL (ys:=(ls.map V.int).eraseIdx k) hll;generalize upd H6 ll (.lst ((ls.map V.int).eraseIdx k))=H7 at S7 k1 k2 k3;refine I_3 li _ _ ⟨rfl,rfl,k2,by rw[ka];exact va (show _<=24 by lia) ⋯,?_⟩;refine I_3 (us++[ls[k]]) (ls.eraseIdx k) _ ⟨rfl,z9 S7 fli,k3.updL k2,by rw[zr nn];exact k1,by rw[zc,kD];rfl,?_,by rw[ki,lu];rfl⟩;rw[kY];exact((Zb kl).append_left us).trans pm
  .intro σ H6 h8;refine E_3 h8 λus ls o n8=>A_7 n8 λe9 S6 hA6 hll hli pm lu=>?_;clear n8 h8;subst e9;have ln:=pm.length_eq;rw[ki,wS]at ln;have el:ls=[]:=List.eq_nil_of_length_eq_zero ();rw[el,vq]at pm;have tk:us.take m=us:=by rw[<-lu,kM]
   refine⟨_,rfl,_,rfl,x,t,m,li,us,rfl,hA6,hSh,hli,(),(),(),⋯,λv t' H7 S7 hl7 hv gv _=>?_⟩;rw[tk]at gv;exact q v t' us H7 (yH.all fli S6 S7) hv gv (by rw[lu];exact pm) ()
end _JK
namespace _JK
open PySem _L2 _Lin _Tre PySem.W
def yB:List Nat:=[33,34,35,36,38,39,40,41,42,43,44,45,46,47,48,49,50,51,52,53,54,55,56,57,58,59,60,61,62,63,64,65,66,67,68,69,70,71,72,73,74,75,76,77,78,79,80,81,82,83,84,85,86,87,88,89,90,91,92,93,94,95,96,97,98,99,100,101,102,103,104,105,106,107,108,109,110,111,112,113,114,115,116,117,118,119,120,121,122,123,124,125,126]
theorem jw:yB.length=93:=rfl
theorem XR:∀c∈yB,good c:=by
 intro c hc;have:(yB.all λc=>decide (33<=c)&&(decide (c<=126)&&decide (c≠37)))=true:=by decide +kernel
 have:=vP.mp this c hc;simp only[vj,decide_eq_true_eq]at this;exact this
def J1:Sp:=λvs H Q _=>∃cell:Int,vs=[.int cell]/\∀u:W,okW u->Q (.str (txt u)) H
def J4(K:Frag):Sp:=λvs H Q _=>∃(a:Addr)(ns:List Int)(N:Nat),vs=[.ref a,.int N]/\SqL K H a (ns.map V.int)/\N<=24/\∀(l:Addr)(us:List V)(wss:List (List W))(H':Hp),Same H H'->H l=none->H' l=some (.lst us)->Txs H' us wss->wss.length=N->(∀v∈us,∃b,v=.ref b/\H b=none)->Q (.ref l) H'
section
variable{P:Program}{w:World}{K:Frag}{mg:Str->Option Value}{base:Heap}{kA:Addr}
theorem wB:zn ["cell","some","word","left","k"] ["cell"] (zj sLw):=by trivial
theorem zcI{f:Addr}{fd:FuncData}(F:Fun K "_law_word" "_law_word" sLw f fd)(tr:mg "range"=none):FnOk P w K mg base CX0 1 f fd ["cell"] J1:=by
 refine F.ok wB (λvs H Q E h=>?_) (λcdv A outer s H vs Q E hr h=>?_)
 .refine E_1 h λcell n8=>A_2 n8 λe9 _=>?_;clear n8 h;subst e9;rfl
 .refine E_1 h λcell n8=>A_2 n8 λe9 q=>?_;clear n8 h;subst e9;refine⟨_,(ze (zo (i:=1) wB.nd rfl (Or.inl rfl) zW)
   (ze (zo (i:=2) wB.nd rfl (Or.inl rfl) zW)
   (ze (zo (i:=3) wB.nd rfl (Or.inl rfl) (zA Zq (pv 0) zg))
   (ze (yZ PassesOwn.never rfl (wD rfl tr (za (zA ym zg (zA yE (pv 0) zg)) zb)) (zt (i:=4) wB.nd rfl (Or.inl rfl))
   (ze (zo (i:=2) wB.nd rfl (Or.inl rfl) (zA xF (pv 2) (zk Zz (pv 1) (zA yE (pv 3) zg) (λ_ _=>rfl))))
    (zf (zo (i:=3) wB.nd rfl (Or.inl rfl) (zA ym (zA Zq (pv 3) zg) (zA wM zg (pv 4)))))))
   (zf (zl (pv 2))))))),?_⟩
  have es:("!\"#$&'()*+,-./0123456789:;<=>?\x40ABCDEFGHIJKLMNOPQRSTUVWXYZ[\\]^_\x60abcdefghijklmnopqrstuvwxyz{|}~" : Str)=txt yB:=by decide +kernel
  have e0:("" : Str)=txt []:=by decide +kernel
  have k0:=uf cell (show(12:Int)≠0 by decide);have k1:=v6 cell (show(0:Int)<12 by decide);obtain⟨N,hN⟩:∃N:Nat,(1:Int)+cell % 12=N:=⟨(1+cell % 12).toNat,()⟩;refine⟨_,rfl,_,_,rfl,rfl,⟨⋯,⋯⟩,?_⟩;refine⟨_,rfl,_,_,rfl,rfl,(by show(0:Int)<12;decide),_,_,rfl,rfl,_,rfl,(),(),?_⟩;rw[hN];refine qD (lo:=0) (n:=N) (λi σ H5=>∃(l:W)(o:Option V)(n:Int),σ=[some (.int cell),some (.str (txt yB)),some (.str (txt l)),some (.int n),o]/\H5=H/\l.length=i/\∀c∈l,good c)
   ⟨[],none,_,by rw[<-es,<-e0];rfl,rfl,rfl,λc hc=>(kN hc).elim⟩ ?_ ?_
  .intro i σ H5 hi h8;refine E_3 h8 λl o n n8=>A_4 n8 λe9 n90 ll lg=>?_;clear n8 h8;subst e9;subst n90;refine zH ?_;have m0:=uf n (show(93:Int)≠0 by decide);have m1':=v6 n (show(0:Int)<93 by decide);have hn:(n % 93).toNat<yB.length:=by rw[jw];lia
   have en:atI yB (n % 93)=some yB[(n % 93).toNat]:=by
    have z:atI yB (((n % 93).toNat:Nat):Int)=some yB[(n % 93).toNat]:=xH (kf hn)
    rwa [show(((n % 93).toNat:Nat):Int)=n % 93 by lia]at z
   refine⟨_,rfl,_,rfl,_,rfl,_,_,rfl,rfl,(by show(0:Int)<93;decide),yB,_,yB[(n % 93).toNat],rfl,rfl,by rw[jw];decide,en,?_⟩;refine⟨_,_,rfl,rfl,?_,?_⟩
   .rw [zI,zI];exact kn (show l.length+1<=100 by lia) ⋯
   .rw [wc];refine⟨_,rfl,_,_,rfl,rfl,⟨⋯,⋯⟩,_,rfl,_,_,rfl,rfl,.inl ⟨⋯,⋯⟩,_,_,rfl,rfl,?_⟩;refine I_3 (l++[yB[(n % 93).toNat]]) _ _ ⟨rfl,rfl,by rw[ki,ll];rfl,λc hc=>?_⟩;rcases kQ.mp hc with z|z
    .exact lg c z
    .rw [kj.mp z];exact XR _ (vB hn)
  .intro σ H5 h8;refine E_3 h8 λl o n n8=>A_4 n8 λe9 n90 ll lg=>?_;clear n8 h8;subst e9;subst n90;exact⟨_,rfl,q l ⟨(),(),lg⟩⟩
theorem Zi:zn ["script","many","texts","k","size"] ["script","many"] (zj (top 77)):=by trivial
theorem zcJ{f fC fS fL:Addr}{fd dC dS dL:FuncData}(F:Fun K "_law_texts" "_law_texts" (top 77) f fd)(tr:mg "range"=none)(tint:mg "int"=none)(Ce:Callee P w K mg base CX0 2 "_law_cell" fC dC ["script","k"] (Zh K))(St:Callee P w K mg base CX0 1 "_law_stir" fS dS ["cell","k"] XO)(Lw:Callee P w K mg base CX0 1 "_law_word" fL dL ["cell"] J1):
  FnOk P w K mg base CX0 3 f fd ["script","many"] (J4 K):=by
 refine F.ok Zi (λvs H Q E h=>?_) (λcdv A outer s H vs Q E hr h=>?_)
 .refine E_3 h λa ns N n8=>A_2 n8 λe9 _=>?_;clear n8 h;subst e9;rfl
 .refine E_3 h λa ns N n8=>A_4 n8 λe9 hS hN q=>?_;clear n8 h;subst e9;refine⟨_,(ze (zo (i:=2) Zi.nd rfl (Or.inl rfl) (zO zb))
   (ze (yZ PassesOwn.never rfl (wD rfl tr (za (pv 1) zb)) (zt (i:=3) Zi.nd rfl (Or.inr rfl))
   (ze (zo (i:=4) Zi.nd rfl (Or.inl rfl) (zA yE (zh Ce.ok hr rfl Ce.bound Ce.kp Ce.bd .nil zx (za (pv 0) (za (zA ym zg (pv 3)) zb))) (zk zC (zO (za zg (za zg (za zg (za (zk zC (zO (za zg (za zg zb))) (xz Yn rfl tint uJ (za (yu yS (pv 1) zg (zu _)) zb)) (λ_ _=>rfl)) zb))))) (zA yE (zh Ce.ok hr rfl Ce.bound Ce.kp Ce.bd .nil zx (za (pv 0) (za zg zb))) zg) (λ_ _=>rfl))))
    (zf (ya (yq k4 vn vo yt (pv 2) (za (zP (Nc:=["j","script","k"]) (ix:=[none,some 0,some 3]) rfl rfl (by exact(wD rfl tr (za (pv 4) zb))) (λ_ _ _ _ _=>(zt (i:=0) (by show(["j","script","k"]:List Str).Nodup;decide +kernel) rfl (Or.inl rfl))) (λ_ _ _ _ _=>zS) (λ_ _ _ _ _=>(zh Lw.ok (hr.mono (show 1<=2 by decide)) rfl Lw.bound Lw.kp Lw.bd .nil zx (za (zA ym (zh St.ok (hr.mono (show 1<=2 by decide)) rfl St.bound St.kp St.bd .nil zx (za (zh Ce.ok hr rfl Ce.bound Ce.kp Ce.bd .nil zx (za (pv 1) (za (zA ym zg (pv 2)) zb))) (za (pv 0) zb))) (pv 0)) zb)))) zb))))))
   (zf (zl (pv 2))))),?_⟩
  refine wf ⟨Zz0,λlt nlt=>?_⟩;have S1:=zd (o:=.lst []) nlt;have h1:(upd H lt (.lst [])) lt=some (.lst []):=zc;generalize upd H lt (.lst [])=H1 at S1 h1;refine run_seq ⟨_,rfl,_,rfl,(),(),?_⟩;refine qD (lo:=0) (n:=N) (λi σ H2=>∃(us:List V)(wss:List (List W))(o3 o4:Option V),σ=[some (.ref a),some (.int N),some (.ref lt),o3,o4]/\Same H H2/\H2 lt=some (.lst us)/\Txs H2 us wss/\wss.length=i/\(∀v∈us,∃b,v=.ref b/\H b=none/\b≠lt))
   ⟨[],[],none,none,rfl,S1,h1,.nil,rfl,λv hv=>absurd hv kN⟩ ?_ ?_
  .intro i σ H2 hi h8;refine E_4 h8 λus wss o3 o4 n8=>A_6 n8 λe9 S2 hlt hT lw nin=>?_;clear n8 h8;subst e9;refine zH ?_;rw[show(0:Int)+(i:Int)=(i:Int)from Int.zero_add _]
   try dsimp only
   -- how many
   refine⟨_,rfl,_,rfl,_,_,rfl,rfl,a,ns,_,rfl,S2.seq hS,(),(),λc1=>?_⟩;refine⟨Zz2,λpd npd=>?_⟩;obtain⟨m1,hm1,m1a,m1b⟩:∃m1:Int,atI [V.int 41,V.int 6] (if decide ((4:Int)<((N:Nat):Int))=true then 1 else 0)=some (.int m1)/\1<=m1/\m1<=41:=by
    split
    .exact ⟨6,rfl,⋯,⋯⟩
    .exact ⟨41,rfl,⋯,⋯⟩
   refine⟨_,rfl,_,_,rfl,rfl,_,rfl,pd,_,_,_,rfl,rfl,SqL.of zc,hm1,?_⟩;have S5:=zd (o:=.lst [V.int 41,V.int 6]) npd;have S25:=S2.trans S5;generalize upd H2 pd (.lst [V.int 41,V.int 6])=H5 at S5 S25;refine⟨Zz4,λpe npe=>?_⟩;have S6:=zd (o:=.lst [V.int 6,V.int 6,V.int 12,V.int m1]) npe;have h6:upd H5 pe (.lst [V.int 6,V.int 6,V.int 12,V.int m1]) pe=some (.lst [V.int 6,V.int 6,V.int 12,V.int m1]):=zc;have S26:=S25.trans S6;have S56:=S5.trans S6;generalize upd H5 pe (.lst [V.int 6,V.int 6,V.int 12,V.int m1])=H6 at S6 S26 S56 h6;refine⟨_,rfl,a,ns,1,rfl,S26.seq hS,⋯,⋯,λc2=>?_⟩;obtain⟨mo,hmo,moa,mob⟩:∃mo:Int,atI [V.int 6,V.int 6,V.int 12,V.int m1] (c2 % 4)=some (.int mo)/\1<=mo/\mo<=41:=by
    rcases(show c2 % 4=0\/c2 % 4=1\/c2 % 4=2\/c2 % 4=3 by lia)with e|e|e|e<;>rw[e]
    .exact ⟨6,rfl,⋯,⋯⟩
    .exact ⟨6,rfl,⋯,⋯⟩
    .exact ⟨12,rfl,⋯,⋯⟩
    .exact ⟨m1,rfl,m1a,m1b⟩
   refine⟨_,_,rfl,rfl,(by show(0:Int)<4;decide),pe,_,_,_,rfl,rfl,SqL.of h6,hmo,_,_,rfl,rfl,(by show(0:Int)<mo;assumption),?_⟩;have e0:=uf c1 (show mo≠0 by lia);have e1:=v6 c1 (show 0<mo by assumption);obtain⟨M,hM⟩:∃M:Nat,c1 % mo=(M:Int):=⟨(c1 % mo).toNat,()⟩;refine zH ?_
   try dsimp only
   have hlt6:=S56 _ _ hlt;refine⟨_,rfl,.inl ⟨rfl,_,SqL.of hlt6⟩,_,rfl,_,rfl,(),(),?_⟩;rw[hM,show((M:Nat):Int).toNat=M from rfl];refine Jh (lo:=0) (n:=M) (λj ys σ H7=>∃ws:List W,ys=tx ws/\H7=H6/\(∀u∈ws,okW u)/\ws.length=j/\∃o,σ=[o,some (.ref a),some (.int (i:Int))]) ⟨[],rfl,rfl,λu hu=>absurd hu kN,rfl,none,rfl⟩
    (λj ys σ H7 hj h9=>by obtain⟨ws,e,_,_,l3,_⟩:=h9;exact(by rw[e,zR,l3];exact kn (show _<=1000000 by lia) ⋯)) ?_ ?_
   case refine_2 =>
    intro j ys σ H7 hj h8;obtain⟨ws,rfl,rfl,hw,l3,o,rfl⟩:=h8;dsimp only[zU,tYes];rw[show(0:Int)+(j:Int)=(j:Int)from Int.zero_add _];refine iteT ⟨_,rfl,_,rfl,_,_,rfl,rfl,a,ns,_,rfl,S26.seq hS,(),(),λc3=>⟨_,rfl,c3,_,rfl,(),(),λc4=>⟨_,rfl,_,_,rfl,rfl,_,rfl,λu hu=>?_⟩⟩⟩;refine⟨ws++[u],by rw[wj],rfl,λz hz=>?_,by rw[ki,l3];rfl,_,rfl⟩;rcases kQ.mp hz with y|y
    .exact hw z y
    .rw [kj.mp y];exact hu
   intro ys σ H7 h8 lo nlo;refine E_1 h8 λws n8=>A_5 n8 λe9 n90 hw l3 _=>?_;clear n8 h8;subst e9;subst n90;have S8:=zd (o:=.lst (tx ws)) nlo;have hlo:upd H7 lo (.lst (tx ws)) lo=some (.lst (tx ws)):=zc;have lne:lo≠lt:=(zK hlt6 nlo).symm;have flo:=S26.free nlo;have S28:=S26.trans S8;have hlt8:=S8 _ _ hlt6;have hT8:=(hT.same S56).same S8;generalize upd H7 lo (.lst (tx ws))=H8 at S8 hlo S28 hlt8 hT8;have lu:=hT.len;refine I_3 lt _ _ ⟨rfl,rfl,hlt8,va (show us.length<=100 by lia) ⋯,?_⟩;refine I_4 (us++[.ref lo]) (wss++[ws]) _ _ ⟨rfl,z9 S28 nlt,zc,?_,by rw[ki,lw];rfl,λv hv=>?_⟩
   .have up:∀{vs:List V}{ts:List (List W)},Txs H8 vs ts->(∀v∈vs,∃b,v=.ref b/\H b=none/\b≠lt)->Txs (upd H8 lt (.lst (us++[.ref lo]))) vs ts:=by
     intro vs ts h
     induction h with
     |nil=>intro _;exact .nil
     |cons h t ih =>
      intro z;obtain⟨p,e,hp,r⟩:=h;obtain⟨b,e2,_,nb⟩:=z _ ke;rw[e]at e2;cases e2;exact .cons ⟨p,e,by rw[zr nb];exact hp,r⟩ (ih λv hv=>z v (kg _ hv))
    exact(up hT8 nin).snoc ⟨lo,rfl,by rw[zr lne];exact hlo,hw,()⟩
   .rcases kQ.mp hv with y|y
    .exact nin v y
    .rw [kj.mp y];exact⟨lo,rfl,flo,lne⟩
  .intro σ H2 h8;refine E_4 h8 λus wss o3 o4 n8=>A_6 n8 λe9 S2 hlt hT lw nin=>?_;clear n8 h8;subst e9;exact⟨_,rfl,q lt us wss H2 S2 nlt hlt hT lw λv hv=>let ⟨b,e,n,_⟩:=nin v hv;⟨b,e,n⟩⟩
end
end _JK
namespace _Sta
open _Tre _Lin
theorem J7{P:R}{w k:Nat}{o:Option Nat}(h:P w k)(l:Low P w o):∃v,o=some v:=by
 cases o with
 |none=>exact(l k h).elim
 |some v=>exact⟨v,rfl⟩
open PySem _L2
mutual
theorem zQ.room{Ls:List R}:∀{t:T}{p:Pc}{res:List (Int×Pc)},zQ Ls t p res->∀{P:R},HasR Ls t P->Rm P p->∀q∈res,0<=q.1/\∃L,Ls[q.1.toNat]?=some L/\Rm L q.2
 |_,_,_,.leaf,P,h,rm,q,hq=>by
  rw[kj.mp hq];cases h with
  |leaf h0 h=>exact⟨h0,P,h,rm⟩
 |_,_,_,.bar h r,P,_,_,q,hq=>SetL.room r (λi t p e1 e2=>(PcsA.rm h e1 e2).2.2) q hq
 |_,_,_,.dash h r,P,_,_,q,hq=>SetL.room r (λi t p e1 e2=>(PcsD.rm h e1 e2).2.2) q hq
theorem SetL.room{Ls:List R}:∀{ts:List T}{pcs:List Pc}{res:List (List (Int×Pc))},SetL Ls ts pcs res->(∀(i:Nat)(t:T)(p:Pc),ts[i]?=some t->pcs[i]?=some p->∃P,HasR Ls t P/\Rm P p)->∀q∈res.flatten,0<=q.1/\∃L,Ls[q.1.toNat]?=some L/\Rm L q.2
 |_,_,_,.nil,_,q,hq=>by simp at hq
 |_,_,_,.cons h r,H,q,hq=>by
  rw[kP]at hq;rcases kQ.mp hq with z|z
  .obtain ⟨P,hP,rm⟩:=H 0 _ _ rfl rfl;exact zQ.room h hP rm q z
  .exact SetL.room r (λi t p e1 e2=>H (i+1) t p (by simpa using e1) (by simpa using e2)) q z
end
def inP(p:Pc)(x y:Nat):Bool:=decide (p.l<=x/\x<p.r/\p.t<=y/\y<p.b)
def wthn(p q:Pc):Prop:=p.l<=q.l/\q.l<q.r/\q.r<=p.r/\p.t<=q.t/\q.t<q.b/\q.b<=p.b
theorem wthn.trans{p q s:Pc}(a:wthn p q)(b:wthn q s):wthn p s:=by
 unfold wthn at *;lia
theorem WH{a b c:Prop}[Decidable a][Decidable b][Decidable c](h:c↔a\/b)(n:¬(a/\b)):(if b then 1 else 0)+(if decide a=true then 1 else 0)=(if c then 1 else 0:Nat):=by
 by_cases ha:a
 .have hb:¬b:=λz=>n ⟨ha,z⟩;simp[ha,hb,h]
 .by_cases hb:b
  .simp [ha,hb,h]
  .simp [ha,hb,h]
theorem PcsA.cov{Ls:List R}(hL:∀L∈Ls,Up L){top below right:Nat}:∀{ts:List T}{left:Nat}{pcs:List Pc},PcsA Ls top below right ts left pcs->left<right/\top<below/\(∀x y,pcs.countP (inP · x y)=if left<=x/\x<right/\top<=y/\y<below then 1 else 0)/\∀q∈pcs,wthn ⟨left,top,right,below⟩ q
 |_,left,_,.one h rm=>by
  have up:=(HasR.up hL h).pos rm;refine⟨by omega,by omega,λx y=>?_,λq hq=>?_⟩
  .rw [um,List.countP_nil,ur];unfold inP;by_cases c:left<=x/\x<right/\top<=y/\y<below
   .rw [if_pos c,if_pos (decide_eq_true c)]
   .rw [if_neg c,if_neg (by rw[decide_eq_false c];exact kt)]
  .rw [kj.mp hq];unfold wthn;exact⟨kc _,by show left<right;omega,kc _,kc _,by show top<below;omega,kc _⟩
 |_,left,_,.cons (w:=w) h lw r=>by
  obtain⟨a,b,c,d⟩:=PcsA.cov hL r;have up:=(HasR.up hL h).pos lw.1;refine⟨(),b,λx y=>?_,λq hq=>?_⟩
  .rw [um,c];exact WH (a:=left<=x/\x<left+w/\top<=y/\y<below) (by constructor<;>intro z<;>lia) (by omega)
  .rcases kL.mp hq with rfl|z
   .unfold wthn;exact⟨kc _,by show left<left+w;lia,by show left+w<=right;lia,kc _,b,kc _⟩
   .exact wthn.trans (q:=⟨left+w,top,right,below⟩) ⟨by show left<=left+w;lia,a,kc _,kc _,b,kc _⟩ (d q z)
theorem PcsD.cov{Ls:List R}(hL:∀L∈Ls,Up L){left right below:Nat}:∀{ts:List T}{top:Nat}{pcs:List Pc},PcsD Ls left right below ts top pcs->left<right/\top<below/\(∀x y,pcs.countP (inP · x y)=if left<=x/\x<right/\top<=y/\y<below then 1 else 0)/\∀q∈pcs,wthn ⟨left,top,right,below⟩ q
 |_,top,_,.one h rm=>by
  have up:=(HasR.up hL h).pos rm;refine⟨by omega,by omega,λx y=>?_,λq hq=>?_⟩
  .rw [um,List.countP_nil,ur];unfold inP;by_cases c:left<=x/\x<right/\top<=y/\y<below
   .rw [if_pos c,if_pos (decide_eq_true c)]
   .rw [if_neg c,if_neg (by rw[decide_eq_false c];exact kt)]
  .rw [kj.mp hq];unfold wthn;exact⟨kc _,by show left<right;omega,kc _,kc _,by show top<below;omega,kc _⟩
 |_,top,_,.cons (k:=k) h lw r=>by
  obtain⟨a,b,c,d⟩:=PcsD.cov hL r;have up:=(HasR.up hL h).pos lw.1;refine⟨a,(),λx y=>?_,λq hq=>?_⟩
  .rw [um,c];exact WH (a:=left<=x/\x<right/\top<=y/\y<top+k) (by constructor<;>intro z<;>lia) (by omega)
  .rcases kL.mp hq with rfl|z
   .unfold wthn;exact⟨kc _,a,kc _,kc _,by show top<top+k;lia,by show top+k<=below;lia⟩
   .exact wthn.trans (q:=⟨left,top+k,right,below⟩) ⟨kc _,a,kc _,by show top<=top+k;lia,b,kc _⟩ (d q z)
mutual
theorem zQ.cov{Ls:List R}(hL:∀L∈Ls,Up L):∀{t:T}{p:Pc}{res:List (Int×Pc)},zQ Ls t p res->p.l<p.r->p.t<p.b->(∀x y,(res.map (·.2)).countP (inP · x y)=if p.l<=x/\x<p.r/\p.t<=y/\y<p.b then 1 else 0)/\∀q∈res,wthn p q.2
 |_,p,_,.leaf,a,b=>⟨λx y=>by
   show([p]:List Pc).countP (inP · x y)=_;rw[um,List.countP_nil,ur];unfold inP;by_cases c:p.l<=x/\x<p.r/\p.t<=y/\y<p.b
   .rw [if_pos c,if_pos (decide_eq_true c)]
   .rw [if_neg c,if_neg (by rw[decide_eq_false c];exact kt)],λq hq=>by
   rw[kj.mp hq];exact⟨kc _,a,kc _,kc _,b,kc _⟩⟩
 |_,p,_,.bar h r,a,b=>by
  obtain⟨_,_,c,d⟩:=PcsA.cov hL h;obtain⟨e,f⟩:=SetL.cov hL r λq hq=>d q hq;exact⟨λx y=>by rw[e,c],f⟩
 |_,p,_,.dash h r,a,b=>by
  obtain⟨_,_,c,d⟩:=PcsD.cov hL h;obtain⟨e,f⟩:=SetL.cov hL r λq hq=>d q hq;exact⟨λx y=>by rw[e,c],f⟩
theorem SetL.cov{Ls:List R}(hL:∀L∈Ls,Up L){p0:Pc}:∀{ts:List T}{pcs:List Pc}{res:List (List (Int×Pc))},SetL Ls ts pcs res->(∀q∈pcs,wthn p0 q)->(∀x y,(res.flatten.map (·.2)).countP (inP · x y)=pcs.countP (inP · x y))/\∀q∈res.flatten,wthn p0 q.2
 |_,_,_,.nil,_=>⟨λ_ _=>rfl,λq hq=>by simp at hq⟩
 |_,_,_,.cons (p:=p) h r,H=>by
  have hp:=H p ke;obtain⟨c,d⟩:=zQ.cov hL h hp.2.1 hp.2.2.2.2.1;obtain⟨e,f⟩:=SetL.cov hL r λq hq=>H q (kg _ hq);refine⟨λx y=>?_,λq hq=>?_⟩
  .rw [kP,kD,List.countP_append,c,e,um,Nat.add_comm];congr 1;unfold inP;by_cases z:p.l<=x/\x<p.r/\p.t<=y/\y<p.b
   .rw [if_pos z,if_pos (decide_eq_true z)]
   .rw [if_neg z,if_neg (by rw[decide_eq_false z];exact kt)]
  .rw [kP]at hq;rcases kQ.mp hq with z|z
   .exact hp.trans (d q z)
   .exact f q z
end
end _Sta
namespace _Prt
open _Sta _Lin
def over(x:Nat)(l r:W):W:=r.take x++l++r.drop (x+l.length)
theorem zbd{x:Nat}{l r:W}(h:x+l.length<=r.length):(over x l r).length=r.length:=by
 unfold over;rw[ki,ki,kJ,kZ];lia
theorem zcK{x:Nat}{l r:W}(h:x+l.length<=r.length)(i:Nat):(over x l r)[i]?=if x<=i/\i<x+l.length then l[i-x]? else r[i]?:=by
 unfold over;have lt:(r.take x).length=x:=by rw[kJ];lia
 by_cases c:x<=i/\i<x+l.length
 .rw [if_pos c,vi (by rw[ki,lt];lia),vk (by rw[lt];lia),lt]
 .rw [if_neg c];by_cases d:i<x
  .rw [vi (by rw[ki,lt];lia),vi (by rw[lt];exact d),List.getElem?_take_of_lt d]
  .rw [vk (by rw[ki,lt];lia),ki,lt,v5];congr 1;lia
def lay1(rows:List W)(y x:Nat)(l:W):List W:=rows.set y (over x l (rows.getD y []))
def lay:List W->Nat->Nat->List W->List W
 |rows,_,_,[]=>rows
 |rows,y,x,l::ls=>lay (lay1 rows y x l) (y+1) x ls
theorem XS:∀(ls rows:List W)(y x:Nat)(l:W),lay rows y x (ls++[l])=lay1 (lay rows y x ls) (y+ls.length) x l
 |[],_,_,_,_=>rfl
 |a::r,rows,y,x,l=>by
  show lay (lay1 rows y x a) (y+1) x (r++[l])=lay1 (lay (lay1 rows y x a) (y+1) x r) (y+(r.length+1)) x l;rw[XS,show y+(r.length+1)=y+1+r.length by lia]
def Full(wide high:Nat)(rows:List W):Prop:=rows.length=high/\∀r∈rows,r.length=wide
theorem q8{wide high y x:Nat}{rows:List W}{l:W}(h:Full wide high rows)(hy:y<high)(hx:x+l.length<=wide):Full wide high (lay1 rows y x l):=by
 obtain⟨h1,h2⟩:=h;have hl:y<rows.length:=()
 have lr:(rows.getD y []).length=wide:=by
  rw[kE,kf hl];exact h2 _ (vB hl)
 refine⟨by unfold lay1;rw[List.length_set,h1],λr hr=>?_⟩;rcases List.mem_or_eq_of_mem_set hr with z|z
 .exact h2 r z
 .rw [z,zbd (),lr]
theorem jR{wide high x:Nat}:∀{ls rows:List W}{y:Nat},Full wide high rows->y+ls.length<=high->(∀l∈ls,x+l.length<=wide)->Full wide high (lay rows y x ls)
 |[],_,_,h,_,_=>h
 |a::r,rows,y,h,hy,hx=>jR (ls:=r) (q8 h (by rw[kz]at hy;lia) (hx a ke)) (by rw[kz]at hy;lia) λl hl=>hx l (kg _ hl)
def lns(p:Pc)(ws:List W):List W:=taken ((p.r:Int)-(p.l:Int)) ws
def blank(wide high:Nat):List W:=kq high (kq wide 32)
theorem Qy(wide high:Nat):Full wide high (blank wide high):=⟨vx,λr hr=>by rw[uS hr,vx]⟩
def pgs(wide high:Nat)(pcs:List Pc)(wss:List (List W)):Nat->List W
 |0=>blank wide high
 |k+1=>match pcs[k]?,wss[k]? with
  |some p,some ws=>lay (pgs wide high pcs wss k) p.t p.l (lns p ws)
  |_,_=>pgs wide high pcs wss k
theorem qp{wide high:Nat}{pcs:List Pc}{wss:List (List W)}{k:Nat}{p:Pc}{ws:List W}(e1:pcs[k]?=some p)(e2:wss[k]?=some ws):pgs wide high pcs wss (k+1)=lay (pgs wide high pcs wss k) p.t p.l (lns p ws):=by
 show(match pcs[k]?,wss[k]? with
  |some p,some ws=>lay (pgs wide high pcs wss k) p.t p.l (lns p ws)
  |_,_=>pgs wide high pcs wss k)=_
 rw[e1,e2]
theorem xm{wide high:Nat}{p:Pc}(i:wthn ⟨0,0,wide,high⟩ p):p.l<p.r/\p.r<=wide/\p.t<p.b/\p.b<=high:=⟨i.2.1,i.2.2.1,i.2.2.2.2.1,i.2.2.2.2.2⟩
structure Fit(wide high:Nat)(p:Pc)(ws:List W):Prop where
 ins:wthn ⟨0,0,wide,high⟩ p
 wid:∀u∈ws,u.length<=p.r-p.l
 cnt:(lns p ws).length<=p.b-p.t
theorem Fit.line{wide high:Nat}{p:Pc}{ws:List W}(h:Fit wide high p ws):∀l∈lns p ws,l.length<=p.r-p.l:=λl hl=>by
 have i:=xm h.ins;have:=zaQ (wide:=(p.r:Int)-(p.l:Int)) ws (λu hu=>by have:=h.wid u hu;lia) l hl;lia
theorem zdM{wide high:Nat}{p:Pc}{ws:List W}(i:wthn ⟨0,0,wide,high⟩ p)(rm:Rm (xl ws) p):Fit wide high p ws:=by
 obtain⟨a,b,c⟩:=rm;refine⟨i,b,?_⟩;have i:=xm i;unfold lns;rw[yP,show(p.r:Int)-(p.l:Int)=((p.r-p.l:Nat):Int)by lia];omega
theorem xy{wide high:Nat}{pcs:List Pc}{wss:List (List W)}(h:∀(k:Nat)(p:Pc)(ws:List W),pcs[k]?=some p->wss[k]?=some ws->Fit wide high p ws):∀k,Full wide high (pgs wide high pcs wss k)
 |0=>Qy wide high
 |k+1=>by
  have ih:=xy h k;cases e1:pcs[k]? with
  |none=>unfold pgs;rw[e1];exact ih
  |some p =>
   cases e2:wss[k]? with
   |none=>unfold pgs;rw[e1,e2];exact ih
   |some ws =>
    rw[qp e1 e2];have f:=h k p ws e1 e2;have i:=xm f.ins;have c:=f.cnt;refine jR ih () λl hl=>?_;have:=f.line l hl;lia
end _Prt
namespace _L2
open PySem PySem.Spec PyProof.Rows
section
variable{prog:Program}{w:World}{A:Around}{E:Value->Shared->Prop}{s:Shared}
theorem bind_eq{α β:Type}{M:Model}{m:Sem α}{f:α->Sem β}{a:α}{Q:β->Shared->Prop}(e:m=pure a)(h:wpAny M A (f a) Q E s):wpAny M A (m >>= f) Q E s:=by
 subst e;exact wpAny_bind (wpAny_pure h)
theorem J8(l:Addr)(items:Array Value)(n:Nat)(dct:Option Addr)(sl:Array (Option Value))(k:Nat)(tk0:Tok)(hk:k<2^63):
  Meets (Builtin.«enumerate.__new__» ⟨[.type "enumerate",.ref l],[("start",.int k tk0)]⟩) (λ_ R s=>s.heap.get? l=some {cls:=.type "list",dict:=dct,data:=.seq items n,slots:=sl} /\
   R (.ok (.ret (.ref (s.heap.push {cls:=.type "list_iterator",data:=.fields #[.ref l,.int 0 0]}).objs.size)))
    {s with heap:=(s.heap.push {cls:=.type "list_iterator",data:=.fields #[.ref l,.int 0 0]}).push {cls:=.type "enumerate",data:=.fields #[.none,.bool false,.ref s.heap.objs.size,rawInt k,.none,.none]}}) :=
 .of_wp λprog w A R s h=>by
  obtain⟨hp,g,d,tk,os⟩:=s;obtain⟨hl,h⟩:=h;have hsub:=sub_enumerate;have hL:Heap.IsList (Shared.heap ⟨hp,g,d,tk,os⟩) l items:=⟨_,hl,rfl,n,rfl⟩;have hf:Builtin.SmallTypes.fitsIndex (k:Int)=true:=by
   unfold Builtin.SmallTypes.fitsIndex;rw[vj,decide_eq_true_eq,decide_eq_true_eq];lia
  wp_walk using AutoSeq1.wpAny_loadPart' hl
  refine wpAny_stack_any λst=>wpAny_pure ?_;have key:∀(f:Value->Sem Value),wpAny (model prog w) A.in1 (pyIter (Value.ref l) >>= λi=>Builtin.SmallTypes.newRecord (Value.type "enumerate") (Builtin.SmallTypes.ownedTupleFields++[i,rawInt k,Value.none,Value.none]) >>= λr=>ret r) (λfin s'=>∃v,fin=Fin.done (Flow.ret v)/\R (Except.ok (Flow.ret v)) s') (λe s'=>R (Except.error e) s') ⟨hp,g,d,tk,os⟩:=by
   intro f
   wp_walk using wpAny_pyIter_list hL
   exact⟨_,rfl,h⟩
  have key2:∀b:Bool,True:=λ_=>trivial;split
  .rename_i c _ _ _ _ _;cases (c==Value.type "enumerate")
   .dsimp only;rw[if_neg kt]
    with_reducible refine bind_eq (a:=(Value.ref l,some (Value.int k tk0))) (by kernel_rfl) ?_
    dsimp only
    with_reducible refine bind_eq (a:=Value.int k tk0) (by kernel_rfl) ?_
    with_reducible refine bind_eq (a:=some (k:Int)) (by kernel_rfl) ?_
    dsimp only;rw[hf];exact key pure
   .dsimp only;rw[if_pos rfl]
    with_reducible refine bind_eq (a:=(Value.ref l,some (Value.int k tk0))) (by kernel_rfl) ?_
    dsimp only
    with_reducible refine bind_eq (a:=Value.int k tk0) (by kernel_rfl) ?_
    with_reducible refine bind_eq (a:=some (k:Int)) (by kernel_rfl) ?_
    dsimp only;rw[hf];exact key pure
  .dsimp only;rw[if_neg kt]
   with_reducible refine bind_eq (a:=(Value.ref l,some (Value.int k tk0))) (by kernel_rfl) ?_
   dsimp only
   with_reducible refine bind_eq (a:=Value.int k tk0) (by kernel_rfl) ?_
   with_reducible refine bind_eq (a:=some (k:Int)) (by kernel_rfl) ?_
   dsimp only;rw[hf];exact key pure
theorem zbe(a b:Value):checkTypeCall "enumerate" ⟨[a],[("start",b)]⟩=pure Unit.unit:=by kernel_rfl
theorem zbf(a b:Value):checkBuiltinCall "enumerate.__new__" ⟨[.type "enumerate",a],[("start",b)]⟩=pure Unit.unit:=by kernel_rfl
theorem zcL(o a b:Value):argsOk "object.__init__" ⟨[o,a],[("start",b)]⟩:=by
 unfold argsOk
 kernel_rfl
theorem J9{T newId:String}{self:Value}{rest:List Value}{kw:List (Str×Value)}(hl:typeLookup (.type T) "__init__" = pure (some (.builtin "object.__init__")))(hm:Bind.madeBy (.type T)=pure (some newId))(hne:(some newId != some "object.__new__")=true):
  Meets (Builtin.«object.__init__» ⟨self::rest,kw⟩) (λ_ R s=>s.TypeIs self T/\R (.ok (.ret .none)) s) :=
 .of_wp λprog w A R s hs=>by
  obtain⟨hT,hq⟩:=hs;cases rest with
  |nil =>
   cases kw with
   |nil=>exact wpAny_pure ⟨_,rfl,hq⟩
   |cons a r =>
    (repeat (any_goals (first|assumption|wp_step)))
    exact⟨_,rfl,hq⟩
  |cons a r =>
   (repeat (any_goals (first|assumption|wp_step)))
   exact⟨_,rfl,hq⟩
theorem zaa{T newId:String}{Bn:Builtin}{args:List Value}{kw:List (Str×Value)}{S:PySem.Spec}{Q:Value->Shared->Prop}(ft:TypeCalled T newId "object.__init__")(hne:(some newId != some "object.__new__")=true)
  (hct:checkTypeCall T ⟨args,kw⟩=pure Unit.unit)(hcn:checkBuiltinCall newId ⟨.type T::args,kw⟩=pure Unit.unit)(hok:∀obj,argsOk "object.__init__" ⟨obj::args,kw⟩)(entryN:entryFor table newId=some Bn)
  (g:Meets (Bn ⟨.type T::args,kw⟩) S)(h:S A.in1 (wants (λobj s₁=>s₁.TypeIs obj T/\Q obj s₁) E) s):wpAny (model prog w) A (call (.type T) args kw) Q E s:=by
 obtain⟨c,tl,hmro⟩:=ft.mro;have hmade:=ft.made;have hsub:=ft.sub;have h1:=ft.notType;have h2:=ft.canCreate;refine wpAny_call (codeAny_of_tree ?_);show wpAny _ _ (callAny (.type T) _) _ _ _;refine wpAny_pure ⟨Code.quiet_builtin _ (by decide +kernel),codeAny_builtin F.entry_type_call ?_⟩;rw[Around.under_plain (weight_type_call_type T args kw) (units_type_call_type T args kw)]
 (repeat (any_goals (first|assumption|wp_step)))
 refine codeAny_mono (codeAny_call_builtin ft.plain entryN (wpAny_of_eq hcn (g prog w A.in1 _ s h))) λr s₁ hr=>?_
 match r,hr with
 |.error e,hr=>exact hr
 |.ok (.ret obj),hr =>
  obtain⟨hT,hq⟩:=hr;have hli:=ft.init.lookup;have hbi:=ft.init.bind obj
  (repeat (any_goals (first|assumption|wp_step)))
  refine codeAny_mono (codeAny_call_builtin ft.init.plain F.entry_object_init (ft.init.check _ _ _ _ _ _ _ _ hT (hok obj) (J9 ft.init.lookup ft.made hne prog w A.in1 (wants (λr s₂=>r=.none/\Q obj s₂) E) s₁ ⟨hT,rfl,hq⟩))) λr₂ s₂ hr₂=>?_
  match r₂,hr₂ with
  |.error e,hr₂=>exact hr₂
  |.ok (.ret r),hr₂ =>
   obtain⟨rfl,hq⟩:=hr₂
   (repeat (any_goals (first|assumption|wp_step)))
  |.ok .next,hr₂=>exact hr₂.elim
  |.ok .brk,hr₂=>exact hr₂.elim
  |.ok .cont,hr₂=>exact hr₂.elim
 |.ok .next,hr=>exact hr.elim
 |.ok .brk,hr=>exact hr.elim
 |.ok .cont,hr=>exact hr.elim
end
section
variable{prog:Program}{w:World}{A:Around}{E:Value->Shared->Prop}{s:Shared}{env:Env}
theorem Qz{l:Addr}{items:Array Value}{k:Nat}{tk0:Tok}{Q:Value->Shared->Prop}(hk:k<2^63)(hL:s.heap.IsList l items)
  (h:∀h',IsEnum h' (s.heap.objs.size+1) s.heap.objs.size k .none->h'.IsListIter s.heap.objs.size l 0->h'.objs.size=s.heap.objs.size+2->(∀b o,s.heap.get? b=some o->h'.get? b=some o)->Q (.ref (s.heap.objs.size+1)) {s with heap:=h'}):
  wpAny (model prog w) A (call (.type "enumerate") [.ref l] [("start",.int k tk0)]) Q E s:=by
 obtain⟨⟨c,dct,dt,sl⟩,hl,hc,n,hd⟩:=hL;cases (show c=.type "list" from hc);cases (show dt=.seq items n from hd);refine zaa F.called_enumerate ⋯ (zbe _ _) (zbf _ _) (λobj=>zcL obj _ _) F.entry_enumerate_new (J8 l items n dct sl k tk0 hk) ⟨hl,?_⟩;have hz:(s.heap.push {cls:=.type "list_iterator",data:=.fields #[.ref l,.int 0 0]}).objs.size=s.heap.objs.size+1:=Heap.size_push ..;show _/\_;rw[hz];have he:IsEnum ((s.heap.push {cls:=.type "list_iterator",data:=.fields #[.ref l,.int 0 0]}).push {cls:=.type "enumerate",data:=.fields #[.none,.bool false,.ref s.heap.objs.size,rawInt k,.none,.none]}) (s.heap.objs.size+1) s.heap.objs.size k .none:=by
  have:=Heap.get?_push_size (s.heap.push {cls:=.type "list_iterator",data:=.fields #[.ref l,.int 0 0]}) (o:={cls:=.type "enumerate",data:=.fields #[.none,.bool false,.ref s.heap.objs.size,rawInt k,.none,.none]}) rfl
  rwa [hz]at this
 exact⟨⟨_,he,rfl⟩,h _ he ⟨_,Heap.get?_push_of_some _ (Heap.get?_push_size _ rfl),rfl,rfl⟩ (by rw[Heap.size_push,hz]) λb o x=>Heap.get?_push_of_some _ (Heap.get?_push_of_some _ x)⟩
theorem Zj{M:Model}{pos:Pos}{T:String}{e:Expr}{kws:List Keyword}{Q:Value->Shared->Prop}
  (h:wpAny M A (spliced (backTo pos (starEach [e] env))) (λvs s₁=>wpAny M A (evalAll ((backToKw pos (keywordEach kws env)).map (·.2))) (λkvs s₂=>wpAny M A (call (.type T) vs (((backToKw pos (keywordEach kws env)).filterMap (·.1)).zip kvs)) Q E s₂) E s₁) E s)
  (he:starEach [e] env=[(false,eval e env)])(hall:(backToKw pos (keywordEach kws env)).all (·.1.isSome)=true)(hkw:(backToKw pos (keywordEach kws env)).any (·.1.isNone)=false):
  wpAny M A (callWith pos (.type T) [] (backTo pos (starEach [e] env)) (backToKw pos (keywordEach kws env))) Q E s:=by
 rw[he]at h ⊢;have hp:(backTo pos [(false,eval e env)]).any (·.1)=false:=rfl;unfold callWith;refine wpAny_bind (wpAny_holding (wpAny_mono (evalArgs_kwB (Q:=λa s₁=>wpAny M A (call (.type T) a.pos a.kw) Q E s₁) hall h) (λa s₁ h₁=>wpAny_bind (wpAny_standAt ?_)) λ_ _ x=>x));simp only[hp,hkw,Bool.or_false];refine wpAny_bind (wpAny_pure (wpAny_bind (wpAny_mono h₁ (λr s₂ hr=>wpAny_bind (wpAny_holding (wpAny_point (wpAny_pure hr)))) λ_ _ x=>x)))
end
def ItES(K:Frag)(a:Addr)(k:Nat):It :=
 ⟨λi H=>∃xs x,SqL K H a xs/\xs[i]?=some x,λi H x H'=>∃p y,H p=none/\x=.ref p/\H'=upd H p (.tup [.int ((k+i:Nat):Int),y])/\∀xs,SqL K H a xs->xs[i]?=some y,λi H=>∃xs,SqL K H a xs/\xs.length<=i⟩
theorem zbg{prog:Program}{w:World}{A:Around}{it:Addr}{fp:List Addr}{n:Nat}{P:Nat->Value->Prop}{St:Nat->Heap->Prop}(k:Nat)(D:Draws prog w A it fp n P St):
  Draws prog w A it fp (k+n) (λi v=>P (i-k) v) (λi h=>k<=i/\St (i-k) h) where
 live:=λi h st=>D.live _ h st.2
 frame:=λi h h' st hk=>⟨st.1,D.frame _ h h' st.2 hk⟩
 item:=λi s Q E hi st hQ=>D.item (i-k) s Q E (by have:=st.1;omega) st.2 λx h' tk a b c=>hQ x h' tk a ⟨by have:=st.1;lia,by rw[show i+1-k=i-k+1 by have:=st.1;lia];exact b⟩ c
 done:=λs Q E st hE=>D.done s Q E (by have:=st.2;rwa [show k+n-k=n by lia]at this) hE
theorem QA{P:Program}{w:World}{K:Frag}{elts:List Expr}{kx:Nat}{px:Pos}(a e it:Addr)(k:Nat)(hei:e≠it):
  Turn P w K (.Tuple elts kx px) (ItES K a k) [e,it] e (λi h=>(∃old,IsEnum h e it ((k+i:Nat):Int) old)/\h.IsListIter it a i) where
 mem:=by simp
 obj:=λi h st b hb=>by
  obtain⟨⟨old,he⟩,⟨o,ho,c,d⟩⟩:=st;rcases kL.mp hb with rfl|hb
  .exact ⟨_,he,λv z=>by
    have z':Data.fields _=Data.cell v:=z;cases z'⟩
  .obtain rfl:=kj.mp hb;exact⟨o,ho,λv z=>by rw[d]at z;cases z⟩
 keep:=λi h h' st q=>⟨let ⟨old,he⟩:=st.1;⟨old,q e (by simp) _ he⟩,st.2.at λo z=>q it (by simp) o z⟩
 item:=by
  intro X hP hw hK hc i pins s σ H E I hf st hg;subst hP hw hK;obtain⟨⟨old,he⟩,hit⟩:=st;obtain⟨xs,x,hq,hx⟩:=hg;obtain⟨its,rv,tp,hz⟩:=I.list hq;obtain⟨u,hu,ru⟩:=rv.get hx;have hil:i<xs.length:=(kh.mp hx).1;have tp':s.heap.IsList a its.toArray:=tp.isList;have nai:a≠it:=λz=>by
   obtain⟨o,g1,g2,_⟩:=tp';obtain⟨o',g1',g2',_⟩:=hit;rw[z,g1']at g1;cases g1;rw[g2']at g2;exact absurd g2 ⋯
  have nae:a≠e:=λz=>by
   obtain⟨o,g1,g2,_⟩:=tp';rw[z,he]at g1;cases g1;have g3:Value.type "enumerate" = Value.type "list" := g2;exact absurd g3 ⋯
  have D:=zbg k (Draws.list (prog:=X.prog) (w:=X.w) (A:=X.A.in1) (by exact I.ok.hd hc) it a nai its.toArray);refine wpAny_pyNext_enum_itemD (i:=k+i) D he ⟨v8 _ _,by rw[vI];exact⟨hit,tp'⟩⟩ (by rw[ko,<-rv.length];lia) hei (by simp[hei,nae.symm]) λy h' tk hP ho hs' hT hsz hk=>?_;rw[vI]at hP;have ey:y=u:=by
   rw[bE,hu]at hP;exact(Option.some.inj hP).symm
  subst ey;have hs2':=hs'.2;rw[show k+i+1-k=i+1 by lia]at hs2';refine⟨_,rfl,wpAny_letOwnedTupleGo_enum ho λh2 he2 hs2=>?_⟩;have ne1:s.heap.objs.size≠e:=uW (Heap.lt_size he);have k2:∀b o,b≠e->b≠it->s.heap.get? b=some o->h2.get? b=some o:=λb o n1 n2 q=>(hs2.2 b n1).trans (hk b o n1 n2 q);have I1:Inv X pins σ H {s with heap:=h2,toks:=tk+1}:=I.turned2 k2 (hf e (by simp)) (hf it (by simp));have hn:H s.heap.objs.size=none:=I.hok.fresh (kc _);have FP:=I.fpOk (b:=s.heap.objs.size) (kc _) hn;have hT2:h2.get? s.heap.objs.size=some {cls:=.type "tuple",data:=.seq #[.int ((k+i:Nat):Int) tk,y]}:=(hs2.2 _ ne1).trans hT;have I2:=I1.track (p:=s.heap.objs.size) (o:=.tup [.int ((k+i:Nat):Int),x]) hn (Heap.get?_none_of_le I.sz) FP.2.1 FP.2.2.2.2.1 FP.2.2.2.2.2
   ⟨Zz2,[.int ((k+i:Nat):Int) tk,y],.cons ⟨tk,rfl⟩ (.cons ru .nil),⟨_,hT2,rfl,_,rfl⟩⟩
  refine⟨.ref s.heap.objs.size,_,I2,rfl,⟨_,x,hn,rfl,rfl,λys hy=>?_⟩,⟨⟨y,by rw[show((k+(i+1):Nat):Int)=((k+i:Nat):Int)+1 by lia];exact he2⟩,hs2'.1.at λo q=>(hs2.2 it hei.symm).trans q⟩,λb hb=>?_⟩
  .rw [I.list_inj hy hq];exact hx
  .have hb2:b≠s.heap.objs.size:=by
    rcases kL.mp hb with rfl|hb
    .exact ne1.symm
    .obtain rfl:=kj.mp hb;obtain⟨o,g,_⟩:=hit;exact ve (Heap.lt_size g)
   rw[zr hb2];exact(hf b hb).1
 done:=by
  intro X hP hw hK hc i pins s σ H E I hf st hg;subst hP hw hK;obtain⟨⟨old,he⟩,hit⟩:=st;obtain⟨xs,hq,hx⟩:=hg;obtain⟨its,rv,tp,hz⟩:=I.list hq;have tp':s.heap.IsList a its.toArray:=tp.isList;have hl:=rv.length;have hT:s.TypeIs (.ref e) "enumerate" := ⟨_,he,rfl⟩;obtain⟨f0,f1,f2,f3,f4,f5⟩:=hf it (by simp);unfold pyNext;refine wpAny_bind (wpAny_attempt (wpAny_callSpecial?_slot (name:=Str.ofString "__next__") hT F.slot_enumerate_next ?_));refine wpAny_call_entry F.slot_enumerate_next hT F.entry_enumerate_next ?_ (F.args_enumerate_next_1 _);show wpAny _ _ (field (.ref e) 2 >>= _) _ _ _;refine wpAny_bind (wpAny_field he rfl (x:=.ref it) rfl ?_);refine wpAny_bind (wpAny_nextOf_list_end (by exact I.ok.hd hc) hit tp' (by simp;lia) λh' x ext hex=>?_);obtain⟨o,g1,g2⟩:=hex;refine wpAny_bind (wpAny_isInstance (T := "StopIteration") (b:=true) ⟨o,g1,g2⟩ isSubtype_stop ?_);exact wpAny_pure ⟨rfl,I.turned (t':=s.toks) (λb ob nb q=>ext b ob nb q) f0 f1 f3 f4 f5⟩
 self:=λ_ _ _ _ _ st h=>let ⟨⟨_,he⟩,_⟩:=st;wpAny_pyIter_enum he h
def iEnS(K:Frag)(tl tk:TE):TI:=λσ H R=>tl σ H λv H1=>tk σ H1 λu H2=>∃(a:Addr)(k:Nat),v=.ref a/\u=.int (k:Int)/\k<2^63/\(∃xs,SqL K H2 a xs)/\R (ItES K a k) H2
theorem zbh{X:Cx}{l sx:Expr}{tl tk:TE}{elts:List Expr}{kx:Nat}{px p kp pos:Pos}(hg:Gl X "enumerate")(hm:X.mg "enumerate"=none)(ha:PE X l tl)(hb:PE X sx tk)(hs:starEach [l] X.env=[(false,eval l X.env)]:=by rfl):
  PI X (.Tuple elts kx px) (.Call (.Name "enumerate" p) [l] [⟨some "start",sx,kp⟩] pos) (iEnS X.K tl tk):=by
 intro pins s σ H R I h;refine wpAny_Call_Name_kw (yT I hg hm boot_enumerate ?_ ⋯ ⋯);refine Zj (thn ((za ha zb hs) pos pins s σ H (λvs H1=>match vs with
  |[v]=>tk σ H1 λu H2=>∃(a:Addr)(k:Nat),v=.ref a/\u=.int (k:Int)/\k<2^63/\(∃xs,SqL X.K H2 a xs)/\R (ItES X.K a k) H2
  |_=>False) I h) λus s1 ⟨vs,H1,I1,r1,q1⟩=>?_) hs rfl rfl
 match vs,q1 with
 |[v],q1 =>
 obtain⟨u,rfl,ru⟩:=vals1 r1;refine thn ((Wh (nm:=some "start") hb QX) pos pins s1 σ H1 (λws H2=>match ws with
  |[u]=>∃(a:Addr)(k:Nat),v=.ref a/\u=.int (k:Int)/\k<2^63/\(∃xs,SqL X.K H2 a xs)/\R (ItES X.K a k) H2
  |_=>False) I1 q1) λus2 s2 ⟨ws,H2,I2,r2,q2⟩=>?_
 match ws,q2 with
 |[z],q2 =>
 obtain⟨u2,rfl,ru2⟩:=vals1 r2;refine E_2 q2 λa k n8=>A_5 n8 λe9 n90 hk n92 q=>?_;clear n8 q2;subst e9;subst n90;obtain⟨xs,hq⟩:=n92;cases (show u=Value.ref a from ru);obtain⟨t2,rfl⟩:=(show ∃t,u2=Value.int (k:Int) t from ru2);show wpAny _ _ (call (.type "enumerate") [.ref a] [(Str.ofString "start",.int k t2)]) _ _ _;obtain⟨its,rv,tp,hz⟩:=I2.list hq;refine Qz hk tp.isList λh' he hit hsz hk'=>?_;refine wpAny_pyIter_enum he ?_;refine I_5 (s2.heap.objs.size+1) [s2.heap.objs.size+1,s2.heap.objs.size] _ _ H2 ⟨rfl,I2.kept (t':=s2.toks) hk',QA a _ _ k (Nat.succ_ne_self _),⟨⟨_,he⟩,hit⟩,λb hb=>?_,q⟩;rcases kL.mp hb with rfl|hb
 .exact I2.fpOk (v7 _) (I2.hok.fresh (v7 _))
 .obtain rfl:=kj.mp hb;exact I2.fpOk (kc _) (I2.hok.fresh (kc _))
theorem zab{K:Frag}{a:Addr}{k:Nat}{xs:List V}{g:TG}{tb:TS}{D:Ends}{σ:St}{H:Hp}(Pv:Nat->St->Hp->Prop)(h0:Pv 0 σ H)(hl:∀i σ H,i<=xs.length->Pv i σ H->SqL K H a xs)
  (hs:∀i x σ H p,xs[i]?=some x->Pv i σ H->H p=none->g (.ref p) σ (upd H p (.tup [.int ((k+i:Nat):Int),x])) λσ2 H2=>tb {D with nx:=Pv (i+1),ct:=Pv (i+1),bk:=D.nx} σ2 H2)(hd:∀σ H,Pv xs.length σ H->D.nx σ H):
  ∃W:Nat->Nat->St->Hp->Prop,(∃m,W 0 m σ H)/\∀i m σ H,W i m σ H ->
   ((ItES K a k).stop i H/\D.nx σ H)\/((ItES K a k).go i H/\∃N:St->Hp->Prop,(∀σ' H',N σ' H'->∃m',m'<m/\W (i+1) m' σ' H')/\∀x H',(ItES K a k).yld i H x H'->g x σ H' λσ2 H2=>tb {D with nx:=N,ct:=N,bk:=D.nx} σ2 H2):=by
 refine⟨λi m σ H=>m=xs.length-i/\i<=xs.length/\Pv i σ H,⟨xs.length,by simp,kR _,h0⟩,?_⟩;rintro i m σ H ⟨rfl,hi,p⟩;have q:=hl i σ H hi p;by_cases hlt:i<xs.length
 .refine .inr ⟨⟨xs,xs[i],q,by simp[hlt]⟩,Pv (i+1),λσ' H' p'=>⟨xs.length-(i+1),by omega,rfl,hlt,p'⟩,λx H' y=>?_⟩;obtain⟨pp,v,hn,e1,e2,y⟩:=y;subst e1 e2;exact hs i v σ H pp (y xs q) p hn
 .have e:i=xs.length:=()
  subst e;exact .inl ⟨⟨xs,q,kc _⟩,hd σ H p⟩
end _L2
namespace _L2
open PySem
theorem zcM{K:Frag}{a b:Addr}{xs ys:List V}{g:TG}{tb:TS}{D:Ends}{σ:St}{H:Hp}(Pv:Nat->St->Hp->Prop)(hl:xs.length=ys.length)(h0:Pv 0 σ H)(hq:∀i σ H,i<=xs.length->Pv i σ H->SqL K H a xs/\SqL K H b ys)
  (hs:∀i x y σ H p,xs[i]?=some x->ys[i]?=some y->Pv i σ H->H p=none->g (.ref p) σ (upd H p (.tup [x,y])) λσ2 H2=>tb {D with nx:=Pv (i+1),ct:=Pv (i+1),bk:=D.nx} σ2 H2)(hd:∀σ H,Pv xs.length σ H->D.nx σ H):
  ∃W:Nat->Nat->St->Hp->Prop,(∃m,W 0 m σ H)/\∀i m σ H,W i m σ H ->
   ((ItZ K a b).stop i H/\D.nx σ H)\/((ItZ K a b).go i H/\∃N:St->Hp->Prop,(∀σ' H',N σ' H'->∃m',m'<m/\W (i+1) m' σ' H')/\∀x H',(ItZ K a b).yld i H x H'->g x σ H' λσ2 H2=>tb {D with nx:=N,ct:=N,bk:=D.nx} σ2 H2):=by
 refine⟨λi m σ H=>m=xs.length-i/\i<=xs.length/\Pv i σ H,⟨xs.length,by simp,kR _,h0⟩,?_⟩;rintro i m σ H ⟨rfl,hi,p⟩;obtain⟨z1,z2⟩:=hq i σ H hi p;by_cases hlt:i<xs.length
 .refine .inr ⟨⟨xs,ys,xs[i],ys[i]'(),z1,z2,kf _,kf _⟩,Pv (i+1),λσ' H' p'=>⟨xs.length-(i+1),(),rfl,hlt,p'⟩,λx H' y=>?_⟩;obtain⟨q,u,v,hn,e,e2,y1,y2⟩:=y;subst e e2;exact hs i u v σ H q (y1 xs z1) (y2 ys z2) p hn
 .have e:i=xs.length:=()
  subst e;exact .inl ⟨⟨xs,ys,z1,z2,()⟩,hd σ H p⟩
open PySem.Spec PyProof.Rows PySem.Builtin PySem.Builtin.Str _Lin
theorem zbi(x y:Str):Txt.split x y≠[]:=by
 unfold Txt.split;split
 .simp
 .split
  .simp
  .rw [StrLaws.partsBetween_eq];obtain⟨p,q,e⟩:=StrLaws.partsFrom_ne x y.length 0 (occurrences x y 0 x.length (x.length+1));rw[e];simp
theorem Wd{ws:List W}(hn:ws≠[])(hw:∀w∈ws,32∉w):Txt.split (txt (glue ws)) (txt [32])=ws.map txt:=by
 have j:=StrLaws.join_split (txt (glue ws)) (txt [32]);have fr:=StrLaws.split_free (txt (glue ws)) 32;have fr:∀p∈Txt.split (txt (glue ws)) (txt [32]),32∉p.cps.toList:=fr;have nn:Txt.split (txt (glue ws)) (txt [32])≠[]:=zbi _ _;generalize Txt.split (txt (glue ws)) (txt [32])=ps at j fr nn;have e:(ps.map λp=>p.cps.toList).map txt=ps:=by
  rw[vE]
  conv=>rhs;rw[<-List.map_id ps]
  exact vS λp _=>j8 p
 rw[<-e,wE]at j;have j:=Zy j;have ne:(ps.map λp=>p.cps.toList)≠[]:=λz=>nn (bO.mp z);have q:=jG _ _ ne hn (λa ha=>by
  obtain⟨p,hp,rfl⟩:=vh.mp ha;exact fr p hp) (λb hb=>hw b hb) j
 rw[<-q,e]
section
variable{X:Cx}
theorem zac:MtR X "str.split" (λx vs H Q=>∃ws:List W,x=.str (txt (glue ws))/\vs=[.str " "]/\ws≠[]/\(∀w∈ws,32∉w)/\(glue ws).length<=1000000/\ws.length<=1000000/\∀l,H l=none->Q (.ref l) (upd H l (.lst (ws.map λw=>V.str (txt w))))):=by
 intro pins s σ H x xs v us Q I rx rxs h;refine E_1 h λws n8=>A_7 n8 λe9 n90 hn hw hl hl2 q=>?_;clear n8 h;subst e9;subst n90;refine E_1 rx λt e9=>?_;clear rx;subst e9;obtain⟨z,rfl,u,rfl⟩:=vals1 rxs;have eb:(" " : Str)=txt [32]:=by decide +kernel
 rw[eb];have hs:=Wd hn hw;have hx:(txt (glue ws)).length<=1000000:=by rw[zI];exact hl
 have big:(1000002:Nat)<=sizeLine:=⋯
 generalize txt (glue ws)=x at hs hx;have hy:((txt [32]).length==0)=false:=by decide +kernel
 have fin:∀(l:List (Str×Tok))(k:Nat),l.map (·.1)=Txt.split x (txt [32])->EP X pins σ Q (.ref s.heap.objs.size) {s with heap:=s.heap.push {cls:=.type "list",data:=.seq (strValues l).toArray},toks:=k}:=λl k e =>
  ⟨.ref s.heap.objs.size,_,I.laid (t':=k) (λb u e=>Heap.get?_push_of_some _ e) (kc _) (show yg X.prog X.w _ _ _ (.lst (ws.map λw=>V.str (txt w)))from⟨by rw[ka];lia,strValues l,_,qL (e.trans hs),Heap.get?_push_size _ rfl⟩),rfl,q _ (I.hok.fresh (kc _))⟩
 have hnn:(partsBetween x (occurrences x (txt [32]) 0 x.length (x.length+1)) (txt [32]).length).length<=sizeLine:=by
  have e1:=StrLaws.occ_length_le x (txt [32]) 0 x.length (x.length+1);rw[length_partsBetween];lia
 cases h1:(decide (x.length<(txt [32]).length)||decide (strKind x<strKind (txt [32])))
 .cases hf:(occurrences x (txt [32]) 0 x.length (x.length+1)).isEmpty
  .refine call_meets F.slot_str_split (typeIs_str _ _ _) F.entry_str_split (F.args_str_split_2 _ _) (meets_str_split_sep x (txt [32]) t u h1 hy hf () hnn) ?_;show wants _ _ _ {s with toks:=_,heap:=s.heap.push {cls:=.type "list",data:=.seq (strsFrom s.toks (partsBetween x (occurrences x (txt [32]) 0 x.length (x.length+1)) (txt [32]).length)).toArray}};rw[strsFrom_eq];exact fin (numbered s.toks _) _ ((numbered_texts _ _).trans ((if_neg (ne_true_of_eq_false h1)).trans (if_neg (ne_true_of_eq_false hf))).symm)
  .exact call_meets F.slot_str_split (typeIs_str _ _ _) F.entry_str_split (F.args_str_split_2 _ _) (meets_str_split_not_found x (txt [32]) t u h1 hy hf)
    (fin [(x,t)] s.toks ((if_neg (ne_true_of_eq_false h1)).trans (if_pos hf)).symm)
 .exact call_meets F.slot_str_split (typeIs_str _ _ _) F.entry_str_split (F.args_str_split_2 _ _) (meets_str_split_cannot_occur x (txt [32]) t u h1)
   (fin [(x,t)] s.toks (if_pos h1).symm)
end
def cutN(w:List Nat)(lo hi:Option Int):List Nat:=(w.drop (_HT.sIx w.length 0 lo)).take (_HT.sIx w.length w.length hi-_HT.sIx w.length 0 lo)
def QB(n:Nat)(d:Int):Option Int->Int
 |none=>d
 |some i=>Max.max (0:Int) (Min.min (if i<0 then i+(n:Int)else i) (n:Int))
theorem WI(n d:Nat)(v:Option Int):QB n (d:Int) v=((_HT.sIx n d v:Nat):Int):=by
 cases v with
 |none=>rfl
 |some i =>
  show Max.max (0:Int) (Min.min (if i<0 then i+(n:Int)else i) (n:Int))=(((if i<0 then(i+(n:Int)).toNat else Min.min i.toNat n):Nat):Int);by_cases c:i<0
  .rw [if_pos c,if_pos c];lia
  .rw [if_neg c,if_neg c];lia
theorem zad(n:Nat)(lo hi:Option Int):strSliceIndices lo hi 1 n=(vc (_HT.sIx n n hi-_HT.sIx n 0 lo)).map λk=>_HT.sIx n 0 lo+k:=by
 have e1:=WI n 0 lo;have e2:=WI n n hi;have key:strSliceIndices lo hi 1 n=sliceRange (QB n ((0:Nat):Int) lo) (QB n (n:Int) hi) 1:=by
  cases lo<;>cases hi<;>rfl
 rw[key,e1,e2];generalize _HT.sIx n 0 lo=a;generalize _HT.sIx n n hi=b;unfold sliceRange;simp only[show((1:Int)>0)=True from by simp,if_true];have ec:(if(a:Int)<(b:Int)then((b:Int)-a+1-1) / 1 else 0).toNat=b-a:=by
  split
  .rw [Int.ediv_one];lia
  .show 0=b-a;lia
 rw[ec];refine vS λk _=>?_;lia
theorem YH(n:Nat)(lo:Option Int):_HT.sIx n 0 lo<=n:=by
 cases lo with
 |none=>exact kR _
 |some i =>
  show(if i<0 then(i+(n:Int)).toNat else min i.toNat n)<=n;split<;>lia
theorem zcN(n:Nat)(hi:Option Int):_HT.sIx n n hi<=n:=by
 cases hi with
 |none=>exact kc _
 |some i =>
  show(if i<0 then(i+(n:Int)).toNat else min i.toNat n)<=n;split<;>lia
theorem zbj(w:List Nat)(lo hi:Option Int):(cutN w lo hi).length<=w.length:=by
 unfold cutN;rw[kJ,kZ];lia
theorem zae(w:List Nat)(lo hi:Option Int):(if((1:Int)==1&&(strSliceIndices lo hi 1 (txt w).length).length==(txt w).length)=true then txt w else ⟨((strSliceIndices lo hi 1 (txt w).length).filterMap ((txt w).cps[·]?)).toArray⟩)=txt (cutN w lo hi):=by
 rw[zI,zad];have a1:=YH w.length lo;have b1:=zcN w.length hi;have pk:=StrLaws.picks w (_HT.sIx w.length w.length hi-_HT.sIx w.length 0 lo) (_HT.sIx w.length 0 lo) (by omega);have e:(((vc (_HT.sIx w.length w.length hi-_HT.sIx w.length 0 lo)).map λk=>_HT.sIx w.length 0 lo+k).filterMap ((txt w).cps[·]?))=cutN w lo hi:=by
  unfold cutN;rw[<-pk];refine congrArg (λf=>List.filterMap f _) (funext λi=>?_);show w.toArray[i]?=w[i]?;simp
 rw[e];split
 .rename_i c;rw[ka,vL]at c;have c:_HT.sIx w.length w.length hi-_HT.sIx w.length 0 lo=w.length:=by simpa using c
  unfold cutN;have z:_HT.sIx w.length 0 lo=0\/w.length=0:=()
  rw[c];rcases z with z|z
  .rw [z,bU,kM]
  .rw [vm.mp z];simp
 .rfl
section
variable{X:Cx}
def rSlS:V->Option Int->Option Int->Hp->VK->Prop:=λx lo hi H Q=>∃w:List Nat,x=.str (txt w)/\w.length<=1000000/\Q (.str (txt (cutN w lo hi))) H
theorem XT:SlR X rSlS:=by
 intro pins s σ H x v vl vu lo hi sl Q I rx hs pl pu h;refine E_1 h λw n8=>A_3 n8 λe9 hl q=>?_;clear n8 h;subst e9;refine E_1 rx λt e9=>?_;clear rx;subst e9;refine⟨"str",_,F.slot_str_getitem.lookup,typeIs_str _ _ _,?_⟩;have big:(1000002:Nat)<=sizeLine:=⋯
 have fin:∀(l u:Option (Int×Tok)),l.map (·.1)=lo->u.map (·.1)=hi->(sliceMade (txt w) t l u none).post (EP X pins σ Q) s:=λl u e1 e2=>by
  unfold sliceMade slicePicked;rw[e1,e2];refine post_val_or_str ?_;have e:=zae w lo hi;refine⟨?_,λt' k=>?_⟩
  .rw [show(if((Option.map (λx:Int×Tok=>x.1) none).getD 1==1&&(strSliceIndices lo hi ((Option.map (λx:Int×Tok=>x.1) none).getD 1) (txt w).length).length==(txt w).length)=true then txt w else ⟨((strSliceIndices lo hi ((Option.map (λx:Int×Tok=>x.1) none).getD 1) (txt w).length).filterMap ((txt w).cps[·]?)).toArray⟩)=txt (cutN w lo hi)from e,zI];have:=zbj w lo hi;lia
  .rw [show(if((Option.map (λx:Int×Tok=>x.1) none).getD 1==1&&(strSliceIndices lo hi ((Option.map (λx:Int×Tok=>x.1) none).getD 1) (txt w).length).length==(txt w).length)=true then txt w else ⟨((strSliceIndices lo hi ((Option.map (λx:Int×Tok=>x.1) none).getD 1) (txt w).length).filterMap ((txt w).cps[·]?)).toArray⟩)=txt (cutN w lo hi)from e];exact⟨.str (txt (cutN w lo hi)),H,I.tok k,⟨t',rfl⟩,q⟩
 obtain⟨o,ho,hc,hd⟩:=hs;cases pl with
 |none =>
  cases pu with
  |none=>exact wpAny_getItem_str_slice (l:=none) (u:=none) (st:=none) ⟨o,ho,hc,hd⟩ rfl (fin none none rfl rfl)
  |int j tj=>exact wpAny_getItem_str_slice (l:=none) (u:=some (j,tj)) (st:=none) ⟨o,ho,hc,hd⟩ rfl (fin none (some (j,tj)) rfl rfl)
 |int i ti =>
  cases pu with
  |none=>exact wpAny_getItem_str_slice (l:=some (i,ti)) (u:=none) (st:=none) ⟨o,ho,hc,hd⟩ rfl (fin (some (i,ti)) none rfl rfl)
  |int j tj=>exact wpAny_getItem_str_slice (l:=some (i,ti)) (u:=some (j,tj)) (st:=none) ⟨o,ho,hc,hd⟩ rfl (fin (some (i,ti)) (some (j,tj)) rfl rfl)
end
end _L2
namespace _Sta
open PySem _L2 _Lin _Tre
def Tl(P:R)(c:Nat):Prop:=∀w h,P w h->P w c
def Tls:List R->List Nat->Prop
 |[],[]=>True
 |P::Ps,c::cs=>Tl P c/\Tls Ps cs
 |_,_=>False
theorem zdN{P Q:R}{c d:Nat}(u:Up P)(v:Up Q)(p:Tl P c)(q:Tl Q d):Tl (bes P Q) (c+d):=λw h ⟨a,b,e,x,y⟩=>⟨a,b,e,u.up (p a h x) (kc _) (),v.up (q b h y) (kc _) ()⟩
theorem zdO{P Q:R}{c d:Nat}(p:Tl P c)(q:Tl Q d):Tl (dwn P Q) (c+d):=λw h ⟨a,b,e,x,y⟩=>⟨c,d,kc _,p w a x,q w b y⟩
theorem ZQ{f:R->R->R}(hf:∀P Q,Up P->Up Q->Up (f P Q))(hb:∀P Q M N,Up P->Up Q->Tl P M->Tl Q N->Tl (f P Q) (M+N)):∀(Ps:List R)(Ms:List Nat)(P:R)(M:Nat),Up P->(∀Q∈Ps,Up Q)->Tl P M->Tls Ps Ms->Tl (Ps.foldl f P) (M+Ms.sum)
 |[],[],P,M,_,_,b,_=>b
 |Q::Ps,N::Ms,P,M,u,us,b,⟨bq,bs⟩=>by
  have:=ZQ hf hb Ps Ms (f P Q) (M+N) (hf P Q u (us Q ke)) (λU hU=>us U (kg _ hU)) (hb P Q M N u (us Q ke) b bq) bs;rw[k9,<-uE];exact this
theorem zbK:∀nss:List (List Int),(nss.map λn=>40*n.length).sum=40*nss.flatten.length
 |[]=>rfl
 |n::r=>by
  rw[k8,k9,zbK r,kP,ki];lia
mutual
theorem tall{wss:List (List W)}(h40:∀ws∈wss,ws.length<=40)(hU:∀L∈wss.map xl,Up L):∀{t:T}{n:List Int},Good t n->∀{P:R},HasR (wss.map xl) t P->Tl P (40*n.length)
 |_,_,.leaf i,P,hR=>by
  cases hR with
  |leaf h0 h =>
   rw[k6]at h;obtain⟨ws,hw,rfl⟩:=vA.mp h;intro w h ⟨a,b,c⟩;have:=h40 ws (kH hw);have:=Xf ws (w:Int);exact⟨a,b,by show max 1 (cnt ws (w:Int))<=40*1;lia⟩
 |_,_,.node (ps:=ps) (nss:=nss) hk h2 hn hG,P,hR=>by
  have s40:=zbK nss;cases hR with
  |bar h =>
   have:=QC h40 hU hG h;have u:=zJ.up hU h;cases nss with
   |nil=>exact absurd this (by simp[Tls])
   |cons n0 r =>
    rw[k8,k9]at s40;rw[<-s40];exact ZQ (λ_ _ a b=>Xu a b) (λ_ _ _ _ a b c d=>zdN a b c d) _ _ _ _ (u _ ke) (λQ hQ=>u Q (kg _ hQ)) this.1 this.2
  |dash h =>
   have:=QC h40 hU hG h;have u:=zJ.up hU h;cases nss with
   |nil=>exact absurd this (by simp[Tls])
   |cons n0 r =>
    rw[k8,k9]at s40;rw[<-s40];exact ZQ (λ_ _ a b=>Xv a b) (λ_ _ _ _ _ _ c d=>zdO c d) _ _ _ _ (u _ ke) (λQ hQ=>u Q (kg _ hQ)) this.1 this.2
theorem QC{wss:List (List W)}(h40:∀ws∈wss,ws.length<=40)(hU:∀L∈wss.map xl,Up L):∀{ts:List T}{nss:List (List Int)},zE ts nss->∀{Ps:List R},zJ (wss.map xl) ts Ps->Tls Ps (nss.map λn=>40*n.length)
 |_,_,.nil,Ps,hR=>by
  cases hR;exact trivial
 |_,_,.cons h r,Ps,hR=>by
  cases hR with
  |cons h' r'=>exact⟨tall h40 hU h h',QC h40 hU r r'⟩
end
end _Sta
namespace _JK
open PySem _L2 _Lin _Tre PySem.W
open _Sta (R HasR Low Pc zQ)
open _Prt (over lay lay1 lns pgs Full Fit)
theorem xv(n d:Nat):_HT.sIx n d none=d:=rfl
theorem zaf{r:W}{x:Nat}(h:x<=r.length):cutN r none (some (x:Int))=r.take x:=by
 unfold cutN;rw[_HT.jh,xv,bU,br h,Nat.sub_zero]
theorem zag{r:W}{x:Nat}(h:x<=r.length):cutN r (some (x:Int)) none=r.drop x:=by
 unfold cutN;rw[_HT.jh,xv,br h,vK (by rw[kZ];lia)]
def PcR(res:List (Int×Pc))(pcs:List Pc)(m:Nat):Prop:=pcs.length=m/\∀(i:Nat)(p:Pc),pcs[i]?=some p->((i:Int),p)∈res
theorem zbk{H:Hp}{l:Addr}{xs ys:List V}(hl:H l=some (.lst xs)){vs:List V}{ps:List Pc}(h:z6 H vs ps):z6 (upd H l (.lst ys)) vs ps :=
 Paired.imp' (λ_ _ h9=>by obtain⟨p,e,z⟩:=h9;exact(⟨p,e,by rw[zr (xc z hl (by intro z;cases z))];exact z⟩)) h
theorem QD(wide k:Nat)(wss:List (List W)):(kq (Int.toNat (k:Int)) [V.str (txt (kq (Int.toNat (wide:Int)) 32))]).flatten=tx (pgs wide k [] wss 0):=by
 show _=tx (kq k (kq wide 32));rw[uc,uc];unfold tx;rw[List.map_replicate]
 induction k with
 |zero=>rfl
 |succ k ih=>rw[vf,kP,ih];rfl
def zbL:Sp:=λvs H Q _=>∃(r l:W)(x:Nat),vs=[.str (txt r),.str (txt l),.int x]/\x+l.length<=r.length/\r.length<=1000/\Q (.str (txt (over x l r))) H
def QE(C4 C6 C7:Addr):Sp:=λvs H Q E=>∃(x:V)(t:T)(wide:Nat)(n:List Int)(a:Addr)(xs:List V)(wss:List (List W))(P:R),vs=[x,.ref a,.int wide]/\At H x t/\sz t<=1000/\zX t/\Good t n/\H a=some (.lst xs)/\Txs H xs wss/\xs.length=n.length/\HasR (Lvs wss) t P/\1<=wide/\wide<=400 /\
 ((∃(high:Nat)(res:List (Int×Pc)),Low P wide (some high)/\zQ (Lvs wss) t ⟨0,0,wide,high⟩ res/\∀(l:Addr)(pcs:List Pc)(H':Hp),Same H H'->H l=none->PcR res pcs n.length->H' l=some (.lst (tx (pgs wide high pcs wss n.length)))->Q (.ref l) H')\/(Low P wide none/\∀H',Same H H'->E (.ref C7) none H'))
theorem XU{wss:List (List W)}{t:T}{n:List Int}{P:R}{wide high:Nat}{res:List (Int×Pc)}{pcs:List Pc}(hR:HasR (Lvs wss) t P)(hP:P wide high)(hS:zQ (Lvs wss) t ⟨0,0,wide,high⟩ res)(hp:PcR res pcs n.length):∀(k:Nat)(p:Pc)(ws:List W),pcs[k]?=some p->wss[k]?=some ws->Fit wide high p ws:=by
 intro k p ws e1 e2;have m:=hp.2 k p e1;have ps:=(_Sta.HasR.up (yQ wss) hR).pos hP;have cv:=(zQ.cov (yQ wss) hS (by show 0<wide;lia) (by show 0<high;lia)).2 _ m;obtain⟨_,L,eL,rm⟩:=zQ.room hS hR (by unfold _Sta.Rm;exact hP) _ m;have:Lvs wss=wss.map _Sta.xl:=rfl;rw[this,uc,k6,e2]at eL;cases eL;exact _Prt.zdM cv rm
section
variable{P:Program}{w:World}{K:Frag}{mg:Str->Option Value}{base:Heap}{kA:Addr}
theorem zcO:zn ["words","wide"] ["words","wide"] (zj Xi):=by trivial
theorem zbl{f fR fT C:Addr}{fd fdR fdT:FuncData}(F:Fun K "lines" "lines" Xi f fd)(Z:Nm K mg)(Re:Callee P w K mg base (CXE P w) 4 "refuse_no_words" fR fdR ["things"] (jJ C))
  (Ta:Callee P w K mg base CX0 1 "taken" fT fdT ["words","wide"] ZF):FnOk P w K mg base (CXE P w) 5 f fd ["words","wide"] (Wu C):=by
 obtain⟨gOUT,gMOST,ti,tstr,tlist,tl,tall,tany,tord,_,_,_,_,_,_,_,_,_,_,_,_⟩:=Z;refine F.okE zcO (λvs H Q E h=>?_) (λcdv A outer s H vs Q E hr hh h=>?_)
 .refine E_2 h λx wide n8=>A_2 n8 λe9 _=>?_;clear n8 h;subst e9;rfl
 .revert h;intro n7;refine E_2 n7 λx wide n8=>A_2 n8 λe9 h=>?_;clear n8 n7;subst e9;refine⟨_,(ze (ya (zh Re.ok hr rfl Re.bound Re.kp Re.bd .nil y7 (za (pv 0) zb)))
   (ze (zL (yw (zi (Z4 rfl) (by rfl) tany PyProof.Rows.boot_any (za (zP (Nc:=["word","wide"]) (ix:=[none,some 1]) rfl rfl (by refine' zY ?zz;case zz=>exact(pv 0)) (λ_ _ _ _ _=>(zt (i:=0) (by show(["word","wide"]:List Str).Nodup;decide +kernel) rfl (Or.inl rfl))) (λ_ _ _ _ _=>zS) (λ_ _ _ _ _=>(yu yS (zi yf (by rfl) tl kO (za (pv 0) zb)) (pv 1) (zu _)))) zb)))
   (zf zaD)
   zF)
   (zf (zl (zh Ta.ok (hr.mono ⋯) rfl Ta.bound Ta.kp Ta.bd .nil zx (za (pv 0) (za (pv 1) zb))))))),?_⟩
  rcases h with⟨a,ws,rfl,ha,hw,hn,hwd,q⟩|⟨bad,qe⟩
  .refine ⟨_,rfl,_,rfl,.inl ⟨a,ws,rfl,ha,hw,hn,λH1 S1=>?_⟩⟩;have ha1:=S1 _ _ ha;refine⟨_,rfl,a,rfl,⟨_,SqL.of ha1⟩,ye (K:=K) (a:=a) (xs:=tx ws) (λi ys σ H'=>ys=((ws.take i).map λu=>decide (wide<(u.length:Int))).map V.bl/\H'=H1/\∃o,σ=[o,some (.int wide)]) ⟨rfl,rfl,none,rfl⟩
    (λi ys σ H' hi h9=>by obtain⟨e,e2,_⟩:=h9;exact(⟨by rw[e,ka,ka,kJ];exact kn (show _<=1000 by lia) ⋯,by rw[e2];exact SqL.of ha1⟩)) ?_ ?_⟩
   .intro ys σ H' h8 la nl;obtain⟨e,rfl,_⟩:=h8;rw[zR,kM]at e;subst e;have S2:=S1.trans (zd (o:=.lst ((ws.map λu=>decide (wide<(u.length:Int))).map V.bl)) nl);refine⟨la,ws.map λu=>decide (wide<(u.length:Int)),rfl,SqL.of zc,_,rfl,?_⟩;rw[zaX,decide_eq_true hwd];refine iteF ?_;refine⟨_,rfl,_,rfl,a,ws,wide,rfl,S2 _ _ ha,hw,hn,λl H3 S3 n3 h3=>?_⟩;exact q l H3 (S2.trans S3) (S2.free n3) h3
   .intro i x ys σ H' hx h8;obtain⟨e,rfl,o,rfl⟩:=h8;subst e;obtain⟨v,hv,rfl⟩:=yW hx;obtain⟨hil,ev⟩:=kh.mp hv;dsimp only[zU,tYes];refine iteT ?_;refine z5 (qb (zp rfl) (kn (hw v (kH hv)).2.1 ⋯)) (zp rfl) _ ?_;refine⟨?_,rfl,_,rfl⟩;rw[<-kF hil,ev,kD,kD];rfl
  .exact ⟨_,rfl,_,rfl,.inr ⟨bad,λH' S=>qe H' S⟩⟩
theorem zeP:zn ["row","line","left"] ["row","line","left"] (zj sLov):=by trivial
theorem zdP{f:Addr}{fd:FuncData}(F:Fun K "laid_over" "laid_over" sLov f fd)(tl:mg "len"=none):FnOk P w K mg base CX0 1 f fd ["row","line","left"] zbL:=by
 refine F.ok zeP (λvs H Q E h=>?_) (λcdv A outer s H vs Q E hr h=>?_)
 .refine E_3 h λr l x n8=>A_2 n8 λe9 _=>?_;clear n8 h;subst e9;rfl
 .refine E_3 h λr l x n8=>A_4 n8 λe9 hx hr1 q=>?_;clear n8 h;subst e9;refine⟨_,(zf (zl (zA xF (zA xF (yo XT (pv 0) xi (yj (pv 2))) (pv 1)) (yo XT (pv 0) (yj (zA ym (pv 2) (zi yf (by rfl) tl kO (za (pv 1) zb)))) xi)))),?_⟩;refine⟨_,rfl,_,rfl,_,rfl,r,rfl,kn hr1 ⋯,_,rfl,_,_,rfl,rfl,?_,?_⟩
  .rw [zI,zI,zaf (),kJ];exact kn (show _<=2000 by lia) ⋯
  .rw [wc,zaf ()];refine⟨_,rfl,_,rfl,_,rfl,_,rfl,?_,_,_,rfl,rfl,_,rfl,r,rfl,kn hr1 ⋯,_,_,rfl,rfl,?_,?_⟩
   .rw [zI];exact kn (show l.length<=1000 by lia) ⋯
   .rw [zI,zI,zI,<-Int.natCast_add,zag (by omega),kZ,ki,kJ];exact kn (show _<=3000 by omega) ⋯
   .rw [zI,<-Int.natCast_add,zag (by omega),wc];exact q
theorem qr:zn ["tree","texts","wide","high","rows","words","box","number","line"] ["tree","texts","wide"] (zj sPrd):=by trivial
theorem zdQ{f fR fH fS fL fO C4 C6 C7:Addr}{fd dR dH dS dL dO:FuncData}(F:Fun K "printed" "printed" sPrd f fd)(ex:Exc K mg "NoRoom" C7)(gMW:GI mg "MOST_WIDE" 400)(gLEFT:GI mg "LEFT" 0)(gTOP:GI mg "TOP" 1)(gRIGHT:GI mg "RIGHT" 2)(tzip:mg "zip"=none)(tenum:mg "enumerate"=none)
  (Rt:Callee P w K mg base (CXE P w) 8 "refuse_no_texts" fR dR ["tree","texts"] (Qn C4 C6))(Hi:Callee P w K mg base (CXE P w) 30 "height_in" fH dH ["tree","texts","wide"] (Qv C4 C6 C7))(Se:Callee P w K mg base (CXE P w) 55 "setting" fS dS ["tree","texts","wide","high"] (Zf C4 C6 C7))
  (Li:Callee P w K mg base (CXE P w) 5 "lines" fL dL ["words","wide"] (Wu C6))(Lo:Callee P w K mg base CX0 1 "laid_over" fO dO ["row","line","left"] zbL):
  FnOk P w K mg base (CXE P w) 56 f fd ["tree","texts","wide"] (QE C4 C6 C7):=by
 refine F.okE qr (λvs H Q E h=>?_) (λcdv A outer s H vs Q E hr hh h=>?_)
 .refine E_8 h λx t wide n a xs wss P1 n8=>A_2 n8 λe9 _=>?_;clear n8 h;subst e9;rfl
 .revert h;intro n7;refine E_8 n7 λx t wide n a xs wss P1 n8=>A_12 n8 λe9 hA hz iT g ha hT hl hR w1 w4 h=>?_;clear n8 n7;subst e9;refine⟨_,(ze (ya (zh Rt.ok (hr.mono (show 8<=55 by decide)) rfl Rt.bound Rt.kp Rt.bd .nil y7 (za (pv 0) (za (pv 1) zb))))
   (ze (zL (yL (YF xZ xZ zg (pv 2) (zD rfl gMW)))
   (zf (y6 ex hh rfl (za zW zb)))
   zF)
   (ze (zo (i:=3) qr.nd rfl (Or.inl rfl) (zh Hi.ok (hr.mono (show 30<=55 by decide)) rfl Hi.bound Hi.kp Hi.bd .nil y7 (za (pv 0) (za (pv 1) (za (pv 2) zb)))))
   (ze (zo (i:=4) qr.nd rfl (Or.inl rfl) (zA YO (zO (za (zA zb6 zW (pv 2)) zb)) (pv 3)))
   (ze (PS.nox (yZ PassesOwn.never rfl (j7 rfl tzip (za (pv 1) (za (zh Se.ok hr rfl Se.bound Se.kp Se.bd .nil xU (za (pv 0) (za (pv 1) (za (pv 2) (za (pv 3) zb))))) zb))) (jW rfl (z4 (zt (i:=5) qr.nd rfl (Or.inl rfl)) (z4 (zt (i:=6) qr.nd rfl (Or.inl rfl)) xg)))
   (zf (id (yZ PassesOwn.never rfl (zbh rfl tenum (zh Li.ok (hr.mono (show 5<=55 by decide)) rfl Li.bound Li.kp Li.bd .nil xU (za (pv 5) (za (zA y4 (zk zG (pv 6) (zD rfl gRIGHT) (λ_ _=>rfl)) (zk zG (pv 6) (zD rfl gLEFT) (λ_ _=>rfl))) zb))) (zk zG (pv 6) (zD rfl gTOP) (λ_ _=>rfl))) (jW rfl (z4 (zt (i:=7) qr.nd rfl (Or.inl rfl)) (z4 (zt (i:=8) qr.nd rfl (Or.inl rfl)) xg)))
    (zf (QP (zh Lo.ok (hr.mono (show 1<=55 by decide)) rfl Lo.bound Lo.kp Lo.bd .nil zx (za (zk zC (pv 4) (pv 7) (λ_ _=>rfl)) (za (pv 8) (za (zk zG (pv 6) (zD rfl gLEFT) (λ_ _=>rfl)) zb)))) (QO (pv 4) (pv 7) set_list))))))))
   (zf (zl (pv 4)))))))),?_⟩
  have n24:=(iT.okN g).2;refine⟨_,rfl,_,rfl,x,.ref a,t,rfl,hA,hz,.inl ⟨n,a,xs,_,iT,g,rfl,ha,hT.jts,(),.inl ⟨hl,by simp,λH1 S1=>?_⟩⟩⟩;dsimp only;refine YT (p:=¬(1<=(wide:Int)/\(wide:Int)<=400)) (zb2 (z8 (p:=1<=(wide:Int)/\(wide:Int)<=400) (by
   rw[Bool.decide_and];exact Jb zM (zp rfl) zM))) (λc=>absurd ⟨(),()⟩ c) (λ_=>?_)
  refine zV ?_;have up1:=_Sta.HasR.up (yQ wss) hR;refine⟨_,rfl,_,rfl,_,rfl,x,.ref a,t,wide,rfl,hA.same S1,hz,.inl ⟨n,a,xs,wss,iT,g,rfl,S1 _ _ ha,hT.same S1,hl,λP2 k H2 hR2 S2 low2=>?_,λP2 H2 hR2 S2 low2=>?_⟩⟩
  case refine_2 =>
   rw[_Sta.y9 hR2 hR]at low2;rcases h with⟨high,res,low,_⟩|⟨_,qe⟩
   .have:=low2.uniq low;cases this
   .exact qe H2 (S1.trans S2)
  rw[_Sta.y9 hR2 hR]at low2;rcases h with⟨high,res,low,hSI,q⟩|⟨low,_⟩
  case inr =>
   have:=low2.uniq low;cases this
  have ek:=low2.uniq low;cases ek;have rm:=low.1;have tall:=_Sta.tall hT.ok40 (yQ wss) g hR wide k rm;have hk:=low.2 _ tall;have S12:=S1.trans S2;refine zH ?_
  try dsimp only
  have e1:(" " : Str)=txt [32]:=by decide +kernel
  -- the page of blanks
  refine⟨_,rfl,32,_,by rw[e1],rfl,(),(),Zz1,λp0 np0=>?_⟩;refine⟨_,rfl,p0,_,_,rfl,rfl,zc,(),(),?_,λlr nlr=>?_⟩
  .rw [vG,uc,Nat.one_mul];exact kn (show k<=1000 by lia) ⋯
  have eb:(kq (Int.toNat (k:Int)) [V.str (txt (kq (Int.toNat (wide:Int)) 32))]).flatten=tx (pgs wide k [] wss 0):=QD wide k wss;rw[eb];have S3:=(zd (o:=.lst [V.str (txt (kq (Int.toNat (wide:Int)) 32))]) np0).trans (zd (o:=.lst (tx (pgs wide k [] wss 0))) nlr);have flr:H lr=none:=S12.free ((zd (o:=.lst [V.str (txt (kq (Int.toNat (wide:Int)) 32))]) np0).free nlr);have hlr:(upd (upd H2 p0 (.lst [V.str (txt (kq (Int.toNat (wide:Int)) 32))])) lr (.lst (tx (pgs wide k [] wss 0)))) lr=some (.lst (tx (pgs wide k [] wss 0))):=zc;have S13:=S12.trans S3;generalize upd (upd H2 p0 (.lst [V.str (txt (kq (Int.toNat (wide:Int)) 32))])) lr (.lst (tx (pgs wide k [] wss 0)))=H3 at S3 hlr S13;refine zH ?_
  try dsimp only
  -- box by box
  refine⟨_,rfl,_,rfl,_,rfl,_,rfl,_,rfl,x,.ref a,t,wide,k,rfl,hA.same S13,hz,.inl ⟨n,a,xs,wss,P1,iT,g,rfl,S13 _ _ ha,hT.same S13,hl,hR,.inl ⟨res,rm,hSI,λD us pcs H4 S4 nD hD hPc lpc hres=>?_⟩⟩⟩;have hPR:PcR res pcs n.length:=⟨lpc,hres⟩;have hF:=XU (n:=n) hR rm hSI hPR;have hG:=_Prt.xy hF;have S14:=S13.trans S4;have lu:=hPc.len;have lw:=hT.len;have dne:D≠lr:=(zK hlr nD).symm;refine⟨a,D,rfl,⟨_,SqL.of (S14 _ _ ha)⟩,⟨_,SqL.of hD⟩,zcM (K:=K) (a:=a) (b:=D) (xs:=xs) (ys:=us) (λi σ H5=>∃(o5 o6 o7 o8:Option V),σ=[some x,some (.ref a),some (.int wide),some (.int k),some (.ref lr),o5,o6,o7,o8]/\Same H H5/\H5 lr=some (.lst (tx (pgs wide k pcs wss i)))/\H5 D=some (.lst us)/\z6 H5 us pcs)
   () ⟨none,none,none,none,rfl,S14,S4 _ _ hlr,hD,hPc⟩ (λi σ H5 hi h9=>by obtain⟨_,_,_,_,_,S5,_,z,_⟩:=h9;exact(⟨SqL.of (S5 _ _ ha),SqL.of z⟩)) ?_ ?_⟩
  .intro i x1 y1 σ H5 tp hx1 hy1 h8 ntp;refine E_4 h8 λo5 o6 o7 o8 n8=>A_5 n8 λe9 S5 hlr5 hD5 hPc5=>?_;clear n8 h8;subst e9;obtain⟨ws,ew,pa,rfl,hpa,hw,h40⟩:=hT.get hx1;obtain⟨p1,ep,pp,rfl,hpp⟩:=hPc5.get hy1;have f1:=hF i p1 ws ep ew;have fi:=_Prt.xm f1.ins;have St:=zd (o:=.tup [.ref pa,.ref pp]) ntp;refine⟨tp,_,rfl,SqT.of zc,rfl,_,_,rfl,_,_,rfl,rfl,?_⟩;generalize upd H5 tp (.tup [.ref pa,.ref pp])=H6 at St;have S6:=S5.trans St;have hlr6:=St _ _ hlr5;have hD6:=St _ _ hD5;have hPc6:=hPc5.same St;have hpp6:=St _ _ hpp
   -- its lines
   refine⟨_,rfl,_,rfl,_,_,_,_,rfl,rfl,SqT.of hpp6,rfl,_,rfl,_,_,_,_,rfl,rfl,SqT.of hpp6,rfl,_,_,rfl,rfl,.ref pa,_,rfl,.inl ⟨pa,ws,rfl,S6 _ _ hpa,hw,(),λu hu=>?_,λll H7 S7 nll hll=>?_⟩⟩
   .have:=f1.wid u hu;lia
   have lne:ll≠lr:=(zK hlr6 nll).symm;have S07:=S6.trans S7;refine⟨_,rfl,_,_,_,_,rfl,rfl,SqT.of (S7 _ _ hpp6),rfl,ll,p1.t,rfl,rfl,(),⟨_,SqL.of hll⟩,?_⟩;refine zab (K:=K) (a:=ll) (k:=p1.t) (xs:=tx (lns p1 ws)) (λj σ H8=>∃(o7 o8:Option V),σ=[some x,some (.ref a),some (.int wide),some (.int k),some (.ref lr),some (.ref pa),some (.ref pp),o7,o8]/\Same H H8/\H8 lr=some (.lst (tx (lay (pgs wide k pcs wss i) p1.t p1.l ((lns p1 ws).take j))))/\H8 D=some (.lst us)/\z6 H8 us pcs/\H8 ll=some (.lst (tx (lns p1 ws)))/\H8 pp=some (.tup (pq p1)))
    ⟨_,_,rfl,S07,S7 _ _ hlr6,S7 _ _ hD6,hPc6.same S7,hll,S7 _ _ hpp6⟩ (λj σ H8 hj h9=>by obtain⟨_,_,_,_,_,_,_,z,_⟩:=h9;exact(SqL.of z)) ?_ ?_
   .intro j v σ H8 tq hv h8 ntq;refine E_2 h8 λo7 o8 n8=>A_7 n8 λe9 S8 hlr8 hD8 hPc8 hll8 hpp8=>?_;clear n8 h8;subst e9;obtain⟨l1,el,rfl⟩:=yW hv;obtain⟨hjl,ev⟩:=kh.mp el;have Sq:=zd (o:=.tup [.int ((p1.t+j:Nat):Int),.str (txt l1)]) ntq;refine⟨tq,_,rfl,SqT.of zc,rfl,_,_,rfl,_,_,rfl,rfl,?_⟩;generalize upd H8 tq (.tup [.int ((p1.t+j:Nat):Int),.str (txt l1)])=H9 at Sq;have S9:=S8.trans Sq;have hlr9:=Sq _ _ hlr8;have hpp9:=Sq _ _ hpp8;have fl:Full wide k (lay (pgs wide k pcs wss i) p1.t p1.l ((lns p1 ws).take j)):=_Prt.jR (hG i) (by rw[kJ];have:=f1.cnt;lia) λl hl=>by
     have:=f1.line l (uv hl);lia
    have hy:p1.t+j<(lay (pgs wide k pcs wss i) p1.t p1.l ((lns p1 ws).take j)).length:=by rw[fl.1];have:=f1.cnt;lia
    have e9:atI (tx (lay (pgs wide k pcs wss i) p1.t p1.l ((lns p1 ws).take j))) ((p1.t+j:Nat):Int)=some (.str (txt ((lay (pgs wide k pcs wss i) p1.t p1.l ((lns p1 ws).take j)).getD (p1.t+j) []))):=by
     refine xH ?_;unfold tx;rw[k6,kf hy,_L2.getD_at hy];rfl
    have lr9:((lay (pgs wide k pcs wss i) p1.t p1.l ((lns p1 ws).take j)).getD (p1.t+j) []).length=wide:=by
     rw[_L2.getD_at hy];exact fl.2 _ (vB hy)
    have ll9:=f1.line l1 (kH el);refine⟨_,rfl,_,rfl,lr,_,_,_,rfl,rfl,SqL.of hlr9,e9,_,rfl,_,rfl,_,_,_,_,rfl,rfl,SqT.of hpp9,rfl,_,l1,p1.l,rfl,by rw[lr9];lia,by rw[lr9];lia,?_⟩;refine⟨_,rfl,_,rfl,lr,_,_,p1.t+j,rfl,rfl,hlr9,?_,?_⟩
    .rw [zR];unfold ixN;rw[if_pos (),if_pos (),uc]
    .have pne:pp≠lr:=xc hpp9 hlr9 (by intro z;cases z);refine⟨_,_,rfl,z9 S9 flr,?_,by rw[zr dne];exact Sq _ _ hD8,zbk hlr9 (hPc8.same Sq),by rw[zr lne];exact Sq _ _ hll8,by rw[zr pne];exact hpp9⟩;rw[zc,<-kF hjl,ev,_Prt.XS,kJ,br (vw hjl)];unfold lay1 tx;rw[List.map_set]
   .intro σ H8 h8;refine E_2 h8 λo7 o8 n8=>A_7 n8 λe9 S8 hlr8 hD8 hPc8 hll8 hpp8=>?_;clear n8 h8;subst e9;rw[zR,kM,<-_Prt.qp ep ew]at hlr8;exact I_4 _ _ _ _ ⟨rfl,S8,hlr8,hD8,hPc8⟩
  .intro σ H5 h8;refine E_4 h8 λo5 o6 o7 o8 n8=>A_5 n8 λe9 S5 hlr5 hD5 hPc5=>?_;clear n8 h8;subst e9;rw[hl]at hlr5;exact⟨_,rfl,q lr pcs H5 S5 flr hPR hlr5⟩
end
end _JK
namespace _Lin
def str1:W->List Nat->List W
 |cur,[]=>if cur=[]then []else [cur]
 |cur,c::r=>if c=32 then(if cur=[]then str1 [] r else cur::str1 [] r)else str1 (cur++[c]) r
def spl:List Nat->List W
 |[]=>[[]]
 |c::r=>if c=32 then []::spl r else match spl r with
  |[]=>[[c]]
  |p::ps=>(c::p)::ps
theorem XV:∀t:List Nat,spl t≠[]
 |[]=>by simp[spl]
 |c::r=>by
  unfold spl;split
  .simp
  .split<;>simp
theorem zah{p:W}{ps:List W}(h:ps≠[]):glue (p::ps)=p++32::glue ps:=by
 cases ps with
 |nil=>exact absurd rfl h
 |cons a r=>rfl
theorem qt:∀t:List Nat,glue (spl t)=t
 |[]=>rfl
 |c::r=>by
  have ih:=qt r;have ne:=XV r;unfold spl;split
  .rename_i e;rw[zah ne,ih,e];rfl
  .cases h:spl r with
   |nil=>exact absurd h ne
   |cons p ps =>
    rw[h]at ih;show glue ((c::p)::ps)=c::r;rw[<-ih];cases ps with
    |nil=>rfl
    |cons a b=>rfl
theorem jS:∀t:List Nat,∀p∈spl t,32∉p
 |[],p,hp=>by
  rw[kj.mp hp];simp
 |c::r,p,hp=>by
  have ih:=jS r;unfold spl at hp;split at hp
  .rcases kL.mp hp with e|e
   .rw [e];simp
   .exact ih p e
  .rename_i nc;cases h:spl r with
   |nil=>exact absurd h (XV r)
   |cons q qs =>
    rw[h]at hp ih;rcases kL.mp hp with e|e
    .rw [e];intro z;rcases kL.mp z with y|y
     .exact nc y.symm
     .exact ih q ke y
    .exact ih p (kg _ e)
theorem wI:∀(p cur:W),32∉p->str1 cur p=if cur++p=[]then []else [cur++p]
 |[],cur,_=>by
  rw[vq];rfl
 |c::r,cur,h=>by
  have hc:c≠32:=λz=>h (by rw[z];exact ke);unfold str1;rw[if_neg hc,wI r (cur++[c]) (λz=>h (kg _ z)),kY];rfl
theorem wC:∀(p cur r:W),str1 cur (p++32::r)=str1 cur p++str1 [] r
 |[],cur,r=>by
  show str1 cur (32::r)=str1 cur []++str1 [] r;unfold str1;rw[if_pos rfl];split
  .cases r<;>rfl
  .cases r<;>rfl
 |c::p,cur,r=>by
  show str1 cur (c::(p++32::r))=str1 cur (c::p)++str1 [] r;by_cases hc:c=32
  .have e:∀t,str1 cur (c::t)=if cur=[]then str1 [] t else cur::str1 [] t:=λt=>by
    conv=>lhs;unfold str1
    rw[if_pos hc]
   rw[e,e,wC p [] r];split
   .rfl
   .rfl
  .have e:∀t,str1 cur (c::t)=str1 (cur++[c]) t:=λt=>by
    conv=>lhs;unfold str1
    rw[if_neg hc]
   rw[e,e,wC p (cur++[c]) r]
theorem ja:∀rows:List W,str1 [] (glue rows)=(rows.map (str1 [])).flatten
 |[]=>rfl
 |[a]=>by
  show str1 [] a=str1 [] a++[];rw[vq]
 |a::b::r=>by
  show str1 [] (a++32::glue (b::r))=str1 [] a++((b::r).map (str1 [])).flatten;rw[wC,ja (b::r)]
theorem Zk:∀ps:List W,(∀p∈ps,32∉p)->str1 [] (glue ps)=ps.filter λp=>decide (p≠[]):=λps h=>by
 rw[ja]
 induction ps with
 |nil=>rfl
 |cons p ps ih =>
  rw[k8,kP,ih λz hz=>h z (kg _ hz),wI p [] (h p ke),uY,ub];by_cases e:p=[]
  .subst e;rfl
  .rw [if_neg e,decide_eq_true e];rfl
end _Lin
namespace _JK
open PySem _L2 _Lin
variable{P:Program}{w:World}{K:Frag}{mg:Str->Option Value}{base:Heap}{kA:Addr}
structure Q4 where
 l:Int
 t:Int
 r:Int
 b:Int
def bq(b:Q4):List V:=[.int b.l,.int b.t,.int b.r,.int b.b]
def BxAt(H:Hp)(v:V)(b:Q4):Prop:=∃p,v=.ref p/\H p=some (.tup (bq b))
def qu(H:Hp):List V->List Q4->Prop:=Paired (BxAt H)
theorem qu.len{H:Hp}{vs:List V}{bs:List Q4}(h:qu H vs bs):vs.length=bs.length:=Paired.length h
theorem qu.get{H:Hp}:∀{vs:List V}{bs:List Q4}{i:Nat}{v:V},qu H vs bs->vs[i]?=some v->∃b,bs[i]?=some b/\BxAt H v b
 |_,_,_,_,.nil,e=>by simp at e
 |_,_,0,_,.cons r _,e=>by simp at e;subst e;exact⟨_,rfl,r⟩
 |_,_,i+1,v,.cons _ t,e=>by
  obtain⟨p,h1,h2⟩:=qu.get (i:=i) (v:=v) t (by simpa using e);exact⟨p,by simpa using h1,h2⟩
def Grid(rows:List W)(wide high:Nat):Prop:=rows.length=high/\(∀r∈rows,r.length=wide)/\1<=wide/\wide<=400/\high<=1000
def prn(b:Q4)(wide high:Nat):Bool:=decide (0<=b.l/\0<=b.t/\b.b<=(high:Int)/\b.r<=(wide:Int))
def cut1(b:Q4)(r:W):W:=(r.drop b.l.toNat).take (b.r.toNat-b.l.toNat)
def cutB(rows:List W)(b:Q4):List W:=(rows.drop b.t.toNat).take (b.b.toNat-b.t.toNat)
def wds(rows:List W)(b:Q4):List W:=((cutB rows b).map λr=>str1 [] (cut1 b r)).flatten
theorem six{n d:Nat}{i:Int}(h0:0<=i)(h1:i<=n):_HT.sIx n d (some i)=i.toNat:=by
 obtain⟨j,rfl⟩:=bz h0;rw[_HT.jh];lia
theorem Yo{rows:List W}{b:Q4}(h0:0<=b.t)(h1:b.t<=b.b)(h2:b.b<=(rows.length:Int)):cutV (tx rows) (some b.t) (some b.b)=tx (cutB rows b):=by
 unfold cutV cutB tx;rw[ka,six h0 (),six () h2,List.map_take,b9]
theorem zbm{r:W}{b:Q4}(h0:0<=b.l)(h1:b.l<=b.r)(h2:b.r<=(r.length:Int)):cutN r (some b.l) (some b.r)=cut1 b r:=by
 unfold cutN cut1;rw[six h0 (),six () h2]
theorem jT{rows:List W}{b:Q4}{r:W}(h:r∈cutB rows b):r∈rows:=uQ (uv h)
theorem XW(rows:List W)(b:Q4):(cutB rows b).length<=rows.length:=by
 unfold cutB;rw[kJ,kZ];omega
theorem zbn(r:W)(b:Q4):(cut1 b r).length<=r.length:=by
 unfold cut1;rw[kJ,kZ];omega
theorem zcP{rows:List W}{b:Q4}(h0:0<=b.t)(h1:b.t<b.b)(h2:b.b<=(rows.length:Int)):cutB rows b≠[]:=λz=>by
 have:=congrArg List.length z;unfold cutB at this;rw[kJ,kZ]at this;simp at this;omega
theorem WJ{B:Nat}:∀{ls:List W},(∀l∈ls,l.length<=B)->(ls.map List.length).sum<=B*ls.length
 |[],_=>kc _
 |a::r,h=>by
  have:=WJ (B:=B) (ls:=r) λl hl=>h l (kg _ hl);have:=h a ke;rw[k8,k9,kz,Nat.mul_add];lia
theorem XX:∀ls:List W,(glue ls).length<=(ls.map List.length).sum+ls.length
 |[]=>kR _
 |[a]=>by
  show a.length<=a.length+0+1;lia
 |a::b::r=>by
  have:=XX (b::r);show(a++32::glue (b::r)).length<=(a.length+((b::r).map List.length).sum)+((b::r).length+1);rw[ki,kz];lia
theorem WK:∀t:List Nat,(spl t).length<=t.length+1
 |[]=>kc _
 |c::r=>by
  have ih:=WK r;unfold spl;split
  .rw [kz,kz];lia
  .split
   .rw [kz,kz];show 0+1<=_;lia
   .rename_i p ps e;rw[e]at ih;rw[kz,kz]at *;lia
theorem zdR(rows:List W)(b:Q4):(spl (glue ((cutB rows b).map (cut1 b)))).filter (λp=>decide (p≠[]))=wds rows b:=by
 rw[<-Zk _ (jS _),qt,ja,vE];rfl
theorem zbo(v:W):(!decide (V.str (txt v)=V.str ""))=decide (v≠[]):=by
 have e:("" : Str)=txt []:=by decide +kernel
 rw[e];by_cases c:v=[]
 .subst c;simp
 .rw [decide_eq_true c,decide_eq_false λz=>c (Zy (V.str.inj z))];rfl
structure Np(K:Frag)(mg:Str->Option Value):Prop where
 gLEFT:GI mg "LEFT" 0
 gTOP:GI mg "TOP" 1
 gRIGHT:GI mg "RIGHT" 2
 gBELOW:GI mg "BELOW" 3
 tl:mg "len"=none
 tall:mg "all"=none
def zbM:Sp:=λvs H Q _=>∃(a p:Addr)(rows:List W)(wide high:Nat)(b:Q4),vs=[.ref a,.ref p]/\H a=some (.lst (tx rows))/\Grid rows wide high/\H p=some (.tup (bq b))/\b.t<b.b/\∀H',Same H H'->Q (.bl (prn b wide high)) H'
def zbN:Sp:=λvs H Q _=>∃(a p:Addr)(rows:List W)(wide high:Nat)(b:Q4),vs=[.ref a,.ref p]/\H a=some (.lst (tx rows))/\Grid rows wide high/\H p=some (.tup (bq b))/\b.t<b.b/\b.l<b.r/\prn b wide high=true/\∀(l:Addr)(H':Hp),Same H H'->H l=none->H' l=some (.lst (tx (wds rows b)))->Q (.ref l) H'
theorem zeQ:zn ["rows","box"] ["rows","box"] (zj sPrn):=by trivial
theorem zdS{f:Addr}{fd:FuncData}(F:Fun K "is_printed" "is_printed" sPrn f fd)(Z:Np K mg):FnOk P w K mg base CX0 1 f fd ["rows","box"] zbM:=by
 obtain⟨gLEFT,gTOP,gRIGHT,gBELOW,tl,tall⟩:=Z;refine F.ok zeQ (λvs H Q E h=>?_) (λcdv A outer s H vs Q E hr h=>?_)
 .refine E_6 h λa p rows wide high b n8=>A_2 n8 λe9 _=>?_;clear n8 h;subst e9;rfl
 .refine E_6 h λa p rows wide high b n8=>A_6 n8 λe9 ha n91 hp tb q=>?_;clear n8 h;subst e9;obtain⟨g1,g2,g3,g4,g5⟩:=n91;refine⟨_,(ze (zL (PW.pt (xf (zy xh (zk zG (pv 1) (zD rfl gLEFT) (λ_ _=>rfl)) zg (zu _)) (xf (zy xh (zk zG (pv 1) (zD rfl gTOP) (λ_ _=>rfl)) zg (zu _)) (xn (zy yS (zk zG (pv 1) (zD rfl gBELOW) (λ_ _=>rfl)) (zi zm (by rfl) tl kO (za (pv 0) zb)) (zu _))))))
   (zf (zl xP))
   zF)
   (zf (zl (zi (xW rfl) (by rfl) tall uI (za (zP (Nc:=["row","box"]) (ix:=[none,some 1]) rfl rfl (by refine' zY ?zz;case zz=>exact(yo xA (pv 0) (yj (zk zG (pv 1) (zD rfl gTOP) (λ_ _=>rfl))) (yj (zk zG (pv 1) (zD rfl gBELOW) (λ_ _=>rfl))))) (λ_ _ _ _ _=>(zt (i:=0) (by show(["row","box"]:List Str).Nodup;decide +kernel) rfl (Or.inl rfl))) (λ_ _ _ _ _=>zS) (λ_ _ _ _ _=>(yu xZ (zk (yA (K:=K) rfl) (pv 1) (zD rfl gRIGHT) (λ_ _=>rfl)) (zi yf (by rfl) tl kO (za (pv 0) zb)) (zu _)))) zb))))),?_⟩
  refine YT (p:=b.l<0\/(b.t<0\/(rows.length:Int)<b.b)) (Jc (z8 (z5 (yk (zp rfl) zM (SqT.of hp) rfl) zM)) (Jc (z8 (z5 (yk (zp rfl) zM (SqT.of hp) rfl) zM)) (z8 (by rw[<-zR rows];exact(z5 (yk (zp rfl) zM (SqT.of hp) rfl) (yI (zp rfl) (SqL.of ha))))))) (λc=>?_) (λc=>?_)
  .have e:prn b wide high=false:=decide_eq_false ();rw[<-e];exact q H (Same.refl _)
  .refine zV ?_;dsimp only;have c1:0<=b.l/\0<=b.t/\b.b<=(rows.length:Int):=by omega
   refine⟨_,rfl,_,rfl,_,_,_,_,rfl,rfl,SqT.of hp,rfl,_,rfl,_,rfl,_,_,_,_,rfl,rfl,SqT.of hp,rfl,_,rfl,a,_,rfl,SqL.of ha,λpc nc=>?_⟩;rw[Yo c1.2.1 () c1.2.2];have S1:=zd (o:=.lst (tx (cutB rows b))) nc;have hpc:(upd H pc (.lst (tx (cutB rows b)))) pc=some (.lst (tx (cutB rows b))):=zc;have hp1:=S1 _ _ hp;generalize upd H pc (.lst (tx (cutB rows b)))=H1 at S1 hpc hp1;have ln:=XW rows b;refine⟨pc,rfl,⟨_,SqL.of hpc⟩,ye (K:=K) (a:=pc) (xs:=tx (cutB rows b)) (λi ys σ H'=>ys=(kq i (decide (b.r<=(wide:Int)))).map V.bl/\H'=H1/\∃o,σ=[o,some (.ref p)]) ⟨rfl,rfl,none,rfl⟩
    (λi ys σ H' hi h9=>by obtain⟨e,e2,_⟩:=h9;exact(⟨by rw[e,ka,vx];rw[zR]at hi;exact kn (show i<=1000 by lia) ⋯,by rw[e2];exact SqL.of hpc⟩)) ?_ ?_⟩
   case refine_2 =>
    rintro i x ys σ H' hx ⟨rfl,rfl,o,rfl⟩;obtain⟨v,hv,rfl⟩:=yW hx;have lv:=g2 v (jT (kH hv));dsimp only[zU,tYes];refine iteT ?_;refine⟨_,rfl,_,_,_,_,rfl,rfl,SqT.of hp1,rfl,_,rfl,_,rfl,?_,_,_,rfl,rfl,?_,rfl,_,rfl⟩
    .rw [zI,lv];exact kn g4 ⋯
    .rw [zI,lv,List.replicate_succ',kD];rfl
   rintro ys σ H' ⟨rfl,rfl,_⟩ pl npl;rw[zR];refine⟨pl,kq (cutB rows b).length (decide (b.r<=(wide:Int))),rfl,SqL.of zc,?_⟩;have e:((kq (cutB rows b).length (decide (b.r<=(wide:Int)))).all id)=prn b wide high:=by
    have ne:=zcP c1.2.1 tb c1.2.2;have:0<(cutB rows b).length:=bM.mpr ne;unfold prn;by_cases c:b.r<=(wide:Int)
    .rw [decide_eq_true c,decide_eq_true (by omega),vP];intro x hx;exact uS hx
    .rw [decide_eq_false c,decide_eq_false ()];obtain⟨k,e⟩:∃k,(cutB rows b).length=k+1:=⟨_,(Nat.succ_pred_eq_of_pos this).symm⟩;rw[e,vf];rfl
   rw[e];exact q _ (S1.trans (zd npl))
theorem zbO:zn ["rows","box","signs"] ["rows","box"] (zj sWof):=by trivial
theorem zdT{f:Addr}{fd:FuncData}(F:Fun K "words_of" "words_of" sWof f fd)(Z:Np K mg):FnOk P w K mg base CX0 1 f fd ["rows","box"] zbN:=by
 obtain⟨gLEFT,gTOP,gRIGHT,gBELOW,tl,tall⟩:=Z;refine F.ok zbO (λvs H Q E h=>?_) (λcdv A outer s H vs Q E hr h=>?_)
 .refine E_6 h λa p rows wide high b n8=>A_2 n8 λe9 _=>?_;clear n8 h;subst e9;rfl
 .refine E_6 h λa p rows wide high b n8=>A_8 n8 λe9 ha n91 hp tb lr pr q=>?_;clear n8 h;subst e9;obtain⟨g1,g2,g3,g4,g5⟩:=n91;refine⟨_,(ze (zo (i:=2) zbO.nd rfl (Or.inl rfl) (yq ue u9 ba zaS zW (by exact(za (zP (Nc:=["row","box"]) (ix:=[none,some 1]) rfl rfl (by refine' zY ?zz;case zz=>exact(yo xA (pv 0) (yj (zk zG (pv 1) (zD rfl gTOP) (λ_ _=>rfl))) (yj (zk zG (pv 1) (zD rfl gBELOW) (λ_ _=>rfl))))) (λ_ _ _ _ _=>(zt (i:=0) (by show(["row","box"]:List Str).Nodup;decide +kernel) rfl (Or.inl rfl))) (λ_ _ _ _ _=>zS) (λ_ _ _ _ _=>(yo XT (pv 0) (yj (zk (yA (K:=K) rfl) (pv 1) (zD rfl gLEFT) (λ_ _=>rfl))) (yj (zk (yA (K:=K) rfl) (pv 1) (zD rfl gRIGHT) (λ_ _=>rfl)))))) zb))))
   (zf (zl (zP (Nc:=["word"]) (ix:=[none]) rfl rfl (by refine' zY ?zz;case zz=>exact(yq ue PySem.F.slot_str_split PySem.F.type_str_split zac (pv 2) (by exact(za zW zb)))) (λ_ _ _ _ _=>(zt (i:=0) (by show(["word"]:List Str).Nodup;decide +kernel) rfl (Or.inl rfl))) (λ_ _ _ _ _=>(wO (zy jg (pv 0) zW (zu _)))) (λ_ _ _ _ _=>(pv 0)))))),?_⟩
  have c1:=of_decide_eq_true pr;refine⟨rfl,_,rfl,_,rfl,_,_,_,_,rfl,rfl,SqT.of hp,rfl,_,rfl,_,rfl,_,_,_,_,rfl,rfl,SqT.of hp,rfl,_,rfl,a,_,rfl,SqL.of ha,λpc nc=>?_⟩;rw[Yo c1.2.1 () ()];have S1:=zd (o:=.lst (tx (cutB rows b))) nc;have hpc:(upd H pc (.lst (tx (cutB rows b)))) pc=some (.lst (tx (cutB rows b))):=zc;have hp1:=S1 _ _ hp;generalize upd H pc (.lst (tx (cutB rows b)))=H1 at S1 hpc hp1;have ln:=XW rows b;refine⟨pc,rfl,⟨_,SqL.of hpc⟩,ye (K:=K) (a:=pc) (xs:=tx (cutB rows b)) (λi ys σ H'=>ys=tx (((cutB rows b).take i).map (cut1 b))/\H'=H1/\∃o,σ=[o,some (.ref p)]) ⟨rfl,rfl,none,rfl⟩
   (λi ys σ H' hi h9=>by obtain⟨e,e2,_⟩:=h9;exact(⟨by rw[e,zR,ka,kJ];exact kn (show _<=1000 by lia) ⋯,by rw[e2];exact SqL.of hpc⟩)) ?_ ?_⟩
  case refine_2 =>
   rintro i x ys σ H' hx ⟨rfl,rfl,o,rfl⟩;obtain⟨v,hv,rfl⟩:=yW hx;obtain⟨hil,ev⟩:=kh.mp hv;have lv:=g2 v (jT (kH hv));dsimp only[zU,tYes];refine iteT ?_;refine⟨_,rfl,_,rfl,_,_,_,_,rfl,rfl,SqT.of hp1,rfl,_,rfl,_,rfl,_,_,_,_,rfl,rfl,SqT.of hp1,rfl,_,rfl,v,rfl,(),?_,rfl,_,rfl⟩;rw[zbm c1.1 () (),wj,<-kF hil,ev,kD];rfl
  rintro ys σ H' ⟨rfl,rfl,_⟩ pl npl;rw[zR,kM];have S2:=S1.trans (zd (o:=.lst (tx ((cutB rows b).map (cut1 b)))) npl);have hpl:(upd H' pl (.lst (tx ((cutB rows b).map (cut1 b))))) pl=some (.lst (tx ((cutB rows b).map (cut1 b)))):=zc;generalize upd H' pl (.lst (tx ((cutB rows b).map (cut1 b))))=H2 at S2 hpl;have sm:(((cutB rows b).map (cut1 b)).map List.length).sum+((cutB rows b).map (cut1 b)).length<=500000:=by
   have:=WJ (B:=400) (ls:=(cutB rows b).map (cut1 b)) λl hl=>by
    obtain⟨r,hr,rfl⟩:=vh.mp hl;have:=zbn r b;have:=g2 r (jT hr);lia
   rw[ka]at this ⊢;lia
  refine⟨pl,_,rfl,rfl,SqL.of hpl,(),?_⟩;have gl:=XX ((cutB rows b).map (cut1 b));have we:=zdR rows b;generalize glue ((cutB rows b).map (cut1 b))=g at gl we ⊢;have sl:=WK g;refine⟨_,rfl,rfl,spl g,by rw[qt],rfl,XV g,jS g,by rw[qt];lia,(),λps nps=>?_⟩;have S3:=S2.trans (zd (o:=.lst (tx (spl g))) nps);have hps:(upd H2 ps (.lst (tx (spl g)))) ps=some (.lst (tx (spl g))):=zc;have e2:(upd H2 ps (.lst ((spl g).map λw=>V.str (txt w))))=upd H2 ps (.lst (tx (spl g))):=rfl;rw[e2];generalize upd H2 ps (.lst (tx (spl g)))=H3 at S3 hps;refine⟨ps,rfl,⟨_,SqL.of hps⟩,ye (K:=K) (a:=ps) (xs:=tx (spl g)) (λi ys σ H'=>ys=tx (((spl g).take i).filter λp=>decide (p≠[]))/\H'=H3/\∃o,σ=[o]) ⟨rfl,rfl,none,rfl⟩
   (λi ys σ H' hi h9=>by obtain⟨e,e2,_⟩:=h9;exact(⟨by rw[e,zR];exact kn (kn (uM _ _) (by rw[kJ];show _<=1000000;lia)) ⋯,by rw[e2];exact SqL.of hps⟩)) ?_ ?_⟩
  case refine_2 =>
   rintro i x ys σ H' hx ⟨rfl,rfl,o,rfl⟩;obtain⟨v,hv,rfl⟩:=yW hx;obtain⟨hil,ev⟩:=kh.mp hv;dsimp only[zU];refine⟨_,rfl,rfl,_,rfl,?_⟩;rw[zbo,<-kF hil,ev,bv];by_cases c:v≠[]
   .rw [decide_eq_true c];refine iteT ⟨_,rfl,?_,rfl,_,rfl⟩;rw[wj,ub,decide_eq_true c];rfl
   .rw [decide_eq_false c];refine iteF ⟨?_,rfl,_,rfl⟩;rw[ub,decide_eq_false c];show _=tx (_++[]);rw[vq]
  rintro ys σ H' ⟨rfl,rfl,_⟩ p5 n5;rw[zR,kM,we];exact q p5 _ (S3.trans (zd n5)) (S3.free n5) zc
def Wl(H0 H:Hp)(v:V)(ws:List W):Prop:=∃p,v=.ref p/\H0 p=none/\H p=some (.lst (tx ws))
def Wls(H0 H:Hp):List V->List (List W)->Prop:=Paired (Wl H0 H)
theorem Wl.same{H0 H H':Hp}(S:Same H H'){v:V}{ws:List W}(h:Wl H0 H v ws):Wl H0 H' v ws:=let ⟨p,e,n,z⟩:=h;⟨p,e,n,S _ _ z⟩
theorem Wls.same{H0 H H':Hp}(S:Same H H'):∀{vs:List V}{bs:List (List W)},Wls H0 H vs bs->Wls H0 H' vs bs
 |_,_,.nil=>.nil
 |_,_,.cons h t=>.cons (h.same S) (Wls.same S t)
theorem Wls.len{H0 H:Hp}{vs:List V}{bs:List (List W)}(h:Wls H0 H vs bs):vs.length=bs.length:=Paired.length h
theorem Wls.app{H0 H:Hp}:∀{vs us:List V}{bs cs:List (List W)},Wls H0 H vs bs->Wls H0 H us cs->Wls H0 H (vs++us) (bs++cs)
 |_,_,_,_,.nil,s=>s
 |_,_,_,_,.cons r t,s=>.cons r (Wls.app t s)
theorem Wls.notin{H0 H:Hp}{l:Addr}(hl:H l=none):∀{vs:List V}{bs:List (List W)},Wls H0 H vs bs->V.ref l∉vs
 |_,_,.nil,z=>by simp at z
 |_,_,.cons ⟨p,e,_,hp⟩ t,z=>by
  rcases kL.mp z with y|y
  .rw [e]at y;cases y;rw[hl]at hp;cases hp
  .exact Wls.notin hl t y
def zbP(C:Addr):Sp:=λvs H Q E=>∃(a p:Addr)(rows:List W)(wide high:Nat)(bvs:List V)(bs:List Q4),vs=[.ref a,.ref p]/\H a=some (.lst (tx rows))/\Grid rows wide high/\H p=some (.lst bvs)/\qu H bvs bs/\(∀b∈bs,b.t<b.b)/\bs.length<=1000 /\
 (((∀b∈bs,b.l<b.r/\prn b wide high=true)/\∀(l:Addr)(us:List V)(H':Hp),Same H H'->H l=none->H' l=some (.lst us)->Wls H H' us (bs.map (wds rows))->us.Nodup->V.ref l∉us->Q (.ref l) H') \/
  ((∃b∈bs,prn b wide high=false)/\∀H',Same H H'->E (.ref C) none H'))
theorem zeR:zn ["rows","boxes"] ["rows","boxes"] (zj sWin):=by trivial
theorem zdU{f fP fW C:Addr}{fd dP dW:FuncData}(F:Fun K "words_in" "words_in" sWin f fd)(Z:Np K mg)(ex:Exc K mg "NoPlace" C)(Pr:Callee P w K mg base CX0 1 "is_printed" fP dP ["rows","box"] zbM)(Wf:Callee P w K mg base CX0 1 "words_of" fW dW ["rows","box"] zbN):
  FnOk P w K mg base (CXE P w) 3 f fd ["rows","boxes"] (zbP C):=by
 obtain⟨gLEFT,gTOP,gRIGHT,gBELOW,tl,tall⟩:=Z;refine F.okE zeR (λvs H Q E h=>?_) (λcdv A outer s H vs Q E hr hh h=>?_)
 .refine E_7 h λa p rows wide high bvs bs n8=>A_2 n8 λe9 _=>?_;clear n8 h;subst e9;rfl
 .revert h;intro n7;refine E_7 n7 λa p rows wide high bvs bs n8=>A_8 n8 λe9 ha hG hp hB htb hn h=>?_;clear n8 n7;subst e9;have hl:=hB.len;refine⟨_,(ze (zL (yL (yw (zi (xW rfl) (by rfl) tall uI (za (zP (Nc:=["box","rows"]) (ix:=[none,some 0]) rfl rfl (by refine' zY ?zz;case zz=>exact(pv 1)) (λ_ _ _ _ _=>(zt (i:=0) (by show(["box","rows"]:List Str).Nodup;decide +kernel) rfl (Or.inl rfl))) (λ_ _ _ _ _=>zS) (λ_ _ _ _ _=>(zh Pr.ok (hr.mono (show 1<=2 by decide)) rfl Pr.bound Pr.kp Pr.bd .nil zx (za (pv 1) (za (pv 0) zb))))) zb))))
   (zf (y6 ex hh rfl (za zW zb)))
   zF)
   (zf (zl (zP (Nc:=["box","rows"]) (ix:=[none,some 0]) rfl rfl (by refine' zY ?zz;case zz=>exact(pv 1)) (λ_ _ _ _ _=>(zt (i:=0) (by show(["box","rows"]:List Str).Nodup;decide +kernel) rfl (Or.inl rfl))) (λ_ _ _ _ _=>zS) (λ_ _ _ _ _=>(zh Wf.ok (hr.mono (show 1<=2 by decide)) rfl Wf.bound Wf.kp Wf.bd .nil zx (za (pv 1) (za (pv 0) zb)))))))),?_⟩
  refine⟨_,rfl,p,rfl,⟨_,SqL.of hp⟩,ye (K:=K) (a:=p) (xs:=bvs) (λi ys σ H'=>ys=(((bs.take i).map λb=>prn b wide high)).map V.bl/\Same H H'/\∃o,σ=[o,some (.ref a)]) ⟨rfl,Same.refl _,none,rfl⟩
   (λi ys σ H' hi h9=>by obtain⟨e,S,_⟩:=h9;exact(⟨by rw[e,ka,ka,kJ];exact kn (show _<=1000 by lia) ⋯,SqL.of (S _ _ hp)⟩)) ?_ ?_⟩
  case refine_2 =>
   rintro i x ys σ H' hx ⟨rfl,S,o,rfl⟩;obtain⟨b,hb,q,rfl,hq⟩:=hB.get hx;obtain⟨hil,ev⟩:=kh.mp hb;dsimp only[zU,tYes];refine iteT ?_;refine⟨_,rfl,_,rfl,a,q,rows,wide,high,b,rfl,S _ _ ha,hG,S _ _ hq,htb b (kH hb),λH2 S2=>⟨?_,S.trans S2,_,rfl⟩⟩;rw[<-kF hil,ev,kD,kD];rfl
  rintro ys σ H1 ⟨rfl,S1,_⟩ pl npl;rw[hl,kM];have S2:=S1.trans (zd (o:=.lst ((bs.map λb=>prn b wide high).map V.bl)) npl);have hpl:(upd H1 pl (.lst ((bs.map λb=>prn b wide high).map V.bl))) pl=some (.lst ((bs.map λb=>prn b wide high).map V.bl)):=zc;generalize upd H1 pl (.lst ((bs.map λb=>prn b wide high).map V.bl))=H2 at S2 hpl;refine⟨pl,_,rfl,SqL.of hpl,_,rfl,?_⟩;rcases h with⟨hok,q⟩|⟨⟨b,hb,hno⟩,qe⟩
  .have e:(bs.map λb=>prn b wide high).all id=true:=by
    rw[vP];intro x hx;obtain⟨b,hb,rfl⟩:=vh.mp hx;exact(hok b hb).2
   rw[e];refine iteF ?_;refine zV ?_;dsimp only;refine⟨_,rfl,p,rfl,⟨_,SqL.of (S2 _ _ hp)⟩,ye (K:=K) (a:=p) (xs:=bvs) (λi ys σ H'=>Wls H H' ys ((bs.take i).map (wds rows))/\ys.Nodup/\Same H H'/\∃o,σ=[o,some (.ref a)]) ⟨.nil,.nil,S2,none,rfl⟩
    (λi ys σ H' hi h9=>by obtain⟨e,_,S,_⟩:=h9;exact(⟨by rw[e.len,ka,kJ];exact kn (show _<=1000 by lia) ⋯,SqL.of (S _ _ hp)⟩)) ?_ ?_⟩
   case refine_2 =>
    intro i x ys σ H' hx h8;refine A_4 h8 λhw nd S n8=>E_1 n8 λo e9=>?_;clear n8 h8;subst e9;obtain⟨b,hb,r,rfl,hr⟩:=hB.get hx;obtain⟨hil,ev⟩:=kh.mp hb;obtain⟨b1,b2⟩:=hok b (kH hb);dsimp only[zU,tYes];refine iteT ?_;refine⟨_,rfl,_,rfl,a,r,rows,wide,high,b,rfl,S _ _ ha,hG,S _ _ hr,htb b (kH hb),b1,b2,λl H3 S3 nl hl3=>⟨?_,?_,S.trans S3,_,rfl⟩⟩
    .rw [<-kF hil,ev,kD];exact(hw.same S3).app (.cons ⟨l,rfl,S.free nl,hl3⟩ .nil)
    .rw [bC];refine⟨nd,vz.mpr ⟨kN,List.nodup_nil⟩,λz hz y hy e=>?_⟩;rw[kj.mp hy]at e;rw[e]at hz;exact hw.notin nl hz
   rintro ys σ H3 ⟨hw,nd,S3,_⟩ l nl;rw[hl,kM]at hw;exact q l ys _ (S3.trans (zd nl)) (S3.free nl) zc (hw.same (zd nl)) nd (hw.notin nl)
  .have e:(bs.map λb=>prn b wide high).all id=false:=by
    rw[List.all_eq_false];exact⟨_,vh.mpr ⟨b,hb,rfl⟩,by rw[hno];decide⟩
   rw[e];exact iteT ⟨Zz1,qe H2 S2⟩
end _JK
namespace _L2
open PySem PySem.Spec PyProof.Rows PySem.W
def zeS(CP:Addr->Prop)(tb:(Addr->St->Hp->Prop)->TS)(ts:TS):TS:=λD σ H=>tb (λC σ1 H1=>CP C/\ts D σ1 H1) D σ H
theorem zcQ{X:Cx}{x:Str}{P:Addr}{body:List Stmt}{b₀:Stmt}{suite:List Stmt}{tb:(Addr->St->Hp->Prop)->TS}{ts:TS}{np hpos pos:Pos}(hst:X.stack=X.env::X.outer)(hf:X.env.frame=some X.env.locals)
  (hg:Gl X x)(hm:X.mg x=some (.ref P))(cP:yU X.K P)(hb:∀pl Ec,PSs (X.tr pl Ec) body (tb Ec))(hs:∀e,PSs (X.su e) (b₀::suite) ts)
  (hd:(x==("__debug__" : Str))=false:=by decide):
  PS X (.Try body [.ExceptHandler (some (.Name x np)) none (b₀::suite) hpos] [] [] pos) (zeS (λC=>mroIn X.K C (.ref P)=some true) tb ts):=by
 intro pins s σ H D I h;refine wpAny_Try_except ?_;have hB:=hb pins _ [] s σ H D (I.tr _) h;refine wpAny_mono hB (λf s1 q=>?_) λe s1 q=>?_
 .have q':=q.untr;cases f with
  |next =>
   obtain⟨σ',H',I',z⟩:=q';exact wpAny_execs_nil ⟨σ',H',I',z⟩
  |brk=>exact q'
  |cont=>exact q'
  |ret u=>exact q'
 revert q;intro n7;refine E_5 n7 λea T C σ1 H1 n8=>A_5 n8 λe9 I1 fly hC q=>?_;clear n8 n7;subst e9;obtain⟨oe,vs,a0,oT,ts',e1,e2,e3,e4,e5,e6,e7,e8⟩:=fly.ob;have frN:∀b∈frs X.stack,b≠ea/\b≠T:=λb hb=>by
  obtain⟨_,o,ho,hnf⟩:=I1.stack.mem hb;exact⟨(λz=>by rw[z,e1]at ho;cases ho;exact hnf vs e3),(λz=>by rw[z,e6]at ho;cases ho;exact hnf ts' e7)⟩
 -- the heap without the frames and the exception's records
 have ff:s1.heap.FunFrames (hideAll s1.heap (ea::T::frs X.stack)) X.stack:=I1.hid _ λb hb=>kg _ (kg _ hb);have fl:Heap.FlyingW (hideAll s1.heap (ea::T::frs X.stack)) X.stack ea (.ref C) a0 s1.heap :=
  ⟨λb o z=>of_hideAll _ z,hideAll_none _ ke,ff,oe,vs,T,oT,ts',e1,⟨e2,e4⟩,e3,e5,hideAll_none _ (kg _ ke),fly.ne,e6,e7,e8⟩
 have frA:X.A.frames=some (X.env::X.outer):=by rw[<-hst];exact I.ok.frames
 have back:∀{h':Heap},Heap.StaysIn (hideAll s1.heap (ea::T::frs X.stack)) h'->s1.heap.UpToSlots h'->Inv X pins σ1 H1 {s1 with heap:=h'}:=λ{h'} st up=>by
  refine I1.exc fly (λb o n1 n2 n3 z=>st b o (hideAll_get _ z ?_)) λb o n1 z=>?_
  .intro m;rcases kL.mp m with m|m
   .exact n2 m
   .rcases kL.mp m with m|m
    .exact n3 m
    .exact n1 m
  .obtain ⟨_,o',ho,hnf⟩:=I1.stack.mem n1;rw[z]at ho;cases ho;exact up b o z hnf
 rw[hst]at fl back;refine wpAny_looks_onW frA hf fl λh4 held4 up4=>?_;refine wpAny_landsW held4 λh5 fl5 up5=>?_;have I5:Inv X pins σ1 H1 {s1 with heap:=h5}:=back fl5.1 (up4.trans up5);have J5:yr ea C h5:=by
  obtain⟨o,z1,z2⟩:=fl5.there;exact⟨o,z1,z2⟩
 refine wpAny_handleBy_cons (codeAny_handlers_test (x5 (X:=X.su (.ref ea)) (I5.su _) hg hm ?_ hd)) (by intro z;cases z);refine jr (K:=X.K) (P:=P) I5.kIn J5 cP hC ?_;refine codeAny_handlers_suite ?_;refine lands_againW fl5 λh6 fl6 up6=>?_;have I6:Inv X pins σ1 H1 {s1 with heap:=h6}:=back fl6.1 ((up4.trans up5).trans up6);refine wpAny_mono (hs _ pins _ _ _ _ (I6.su _) q) (λf s9 q9=>?_) λ_ _ z=>False.elim z;cases f with
 |next =>
  obtain⟨σ9,H9,I9,z⟩:=q9;exact⟨_,H9,I9.unsu I.ok,z⟩
 |brk =>
  obtain⟨σ9,H9,I9,z⟩:=q9;exact⟨_,H9,I9.unsu I.ok,z⟩
 |cont =>
  obtain⟨σ9,H9,I9,z⟩:=q9;exact⟨_,H9,I9.unsu I.ok,z⟩
 |ret u =>
  obtain⟨v,σ9,H9,I9,r,z⟩:=q9;exact⟨v,_,H9,I9.unsu I.ok,r,z⟩
end _L2
namespace _L2
open PySem
theorem zai{X:Cx}{K:Frag}(hK:X.K=K):yz X (.builtin "isinstance") (λxs H Q=>∃x c t b,xs=[x,c]/\WZ c=true/\TyX K H x t/\kC K t (clsV c)=some b/\Q (.bl b) H):=by
 subst hK;exact yG
end _L2
namespace _JK
open PySem _L2 _Lin _Tre PySem.W
open _Sta (R HasR Low Pc zQ)
open _Prt (over lay lay1 lns pgs Full Fit)
abbrev sNor:Stmt:=top 78
abbrev sHgh:Stmt:=top 79
structure Kd(K:Frag)(mg:Str->Option Value)(C0 C7:Addr):Prop where
 m0:mg "PartError"=some (.ref C0)
 m7:mg "NoRoom"=some (.ref C7)
 c0:yU K C0
 c7:yU K C7
 up:mroIn K C7 (.ref C0)=some true
 u7:mroIn K C7 (.ref C7)=some true
 k7:kitOne K (.ref C7) (.ref C7)=some true
structure Tw(H:Hp)(x:V)(t:T)(n:List Int)(a:Addr)(xs:List V)(wss:List (List W))(P:R):Prop where
 hA:At H x t
 hz:sz t<=1000
 hI:zX t
 hG:Good t n
 hL:H a=some (.lst xs)
 hT:Txs H xs wss
 hl:xs.length=n.length
 hR:HasR (Lvs wss) t P
theorem Tw.same{H H':Hp}{x:V}{t:T}{n:List Int}{a:Addr}{xs:List V}{wss:List (List W)}{P:R}(S:Same H H')(h:Tw H x t n a xs wss P):Tw H' x t n a xs wss P:=⟨h.hA.same S,h.hz,h.hI,h.hG,S _ _ h.hL,h.hT.same S,h.hl,h.hR⟩
def zbQ:Sp:=λvs H Q _=>∃(x:V)(t:T)(wide high:Nat)(n:List Int)(a:Addr)(xs:List V)(wss:List (List W))(P:R),vs=[x,.ref a,.int wide,.int high]/\Tw H x t n a xs wss P/\¬P wide high/\∀H',Same H H'->Q (.bl true) H'
def zbR:Sp:=λvs H Q _=>∃(x:V)(t:T)(wide:Nat)(n:List Int)(a:Addr)(xs:List V)(wss:List (List W))(P:R),vs=[x,.ref a,.int wide]/\Tw H x t n a xs wss P/\1<=wide/\wide<=400 /\
 ((∃high:Nat,Low P wide (some high)/\∀H',Same H H'->Q (.int high) H')\/(Low P wide none/\∀H',Same H H'->Q (.int 0) H'))
section
variable{P:Program}{w:World}{K:Frag}{mg:Str->Option Value}{base:Heap}{kA:Addr}
theorem Yy:zn ["tree","texts","wide","high","kinds","e"] ["tree","texts","wide","high"] (zj sNor):=by trivial
theorem zdV{f fS C0 C4 C6 C7:Addr}{fd dS:FuncData}(F:Fun K "_law_no_room" "_law_no_room" sNor f fd)(ti:mg "isinstance"=none)(Z:Kd K mg C0 C7)
  (Se:Callee P w K mg base (CXE P w) 55 "setting" fS dS ["tree","texts","wide","high"] (Zf C4 C6 C7)):FnOk P w K mg base CX0 56 f fd ["tree","texts","wide","high"] zbQ:=by
 refine F.ok Yy (λvs H Q E h=>?_) (λcdv A outer s H vs Q E hr h=>?_)
 .refine E_9 h λx t wide high n a xs wss P' n8=>A_2 n8 λe9 _=>?_;clear n8 h;subst e9;rfl
 .refine E_9 h λx t wide high n a xs wss P' n8=>A_4 n8 λe9 T no q=>?_;clear n8 h;subst e9;refine⟨_,ze (zo (i:=4) Yy.nd rfl (Or.inl rfl) (zO zb))
   (ze (zdb (i:=5) rfl rfl Yy.nd rfl rfl rfl Z.m0 Z.c0
    (λpl Ec=>zf (ya (YS Se.ok hr rfl Se.bound Se.kp Se.bd .nil rfl (za (pv 0) (za (pv 1) (za (pv 2) (za (pv 3) zb)))))))
    (λee=>zf (zo (i:=4) Yy.nd rfl (Or.inl rfl) (zO (za (zi (zai (K:=K) rfl) (by rfl) ti vg (za (pv 5) (za (Jr rfl Z.m7) zb))) zb)))))
   (zf (zl (yu (zc9 hr.units0) (pv 4) (zO (za xP zb)) (zu _))))),?_⟩
  refine wf ⟨Zz0,λl0 n0=>?_⟩;have S0:=zd (o:=.lst []) n0;have T0:=T.same S0;refine⟨_,rfl,_,rfl,_,rfl,_,rfl,x,.ref a,t,wide,high,rfl,T0.hA,T0.hz,.inl ⟨n,a,xs,wss,P',T0.hI,T0.hG,rfl,T0.hL,T0.hT,T0.hl,T0.hR,.inr ⟨no,λH1 S1=>⟨C7,rfl,Z.up,λea hea=>?_⟩⟩⟩⟩;have SE:=zd (o:=.ext (yr ea C7)) hea;have hE:(upd H1 ea (.ext (yr ea C7))) ea=some (.ext (yr ea C7)):=zc;generalize upd H1 ea (.ext (yr ea C7))=H2 at SE hE ⊢;refine⟨_,rfl,_,_,_,_,rfl,rfl,.exc hE Z.c7,Z.k7,Zz1,λlk nk=>?_⟩;have Sk:=zd (o:=.lst [.bl true]) nk;have hK:(upd H2 lk (.lst [.bl true])) lk=some (.lst [.bl true]):=zc;generalize upd H2 lk (.lst [.bl true])=H3 at Sk hK ⊢;refine⟨_,rfl,Zz1,λl9 n9=>?_⟩;have S9:=zd (o:=.lst [.bl true]) n9;exact I_4 lk l9 _ _ ⟨rfl,rfl,SqL.of (S9 _ _ hK),SqL.of zc,rfl,rfl,q _ ((S0.trans S1).trans (SE.trans (Sk.trans S9)))⟩
theorem Yz:zn ["tree","texts","wide","found"] ["tree","texts","wide"] (zj sHgh):=by trivial
theorem zdW{f fS C0 C4 C6 C7:Addr}{fd dS:FuncData}(F:Fun K "_law_high" "_law_high" sHgh f fd)(tl:mg "len"=none)(Z:Kd K mg C0 C7)
  (Pd:Callee P w K mg base (CXE P w) 56 "printed" fS dS ["tree","texts","wide"] (QE C4 C6 C7)):FnOk P w K mg base CX0 57 f fd ["tree","texts","wide"] zbR:=by
 refine F.ok Yz (λvs H Q E h=>?_) (λcdv A outer s H vs Q E hr h=>?_)
 .refine E_8 h λx t wide n a xs wss P' n8=>A_2 n8 λe9 _=>?_;clear n8 h;subst e9;rfl
 .refine E_8 h λx t wide n a xs wss P' n8=>A_5 n8 λe9 T w1 w4 q=>?_;clear n8 h;subst e9;refine⟨_,ze (zo (i:=3) Yz.nd rfl (Or.inl rfl) (zO zb))
   (ze (zcQ rfl rfl rfl Z.m7 Z.c7
    (λpl Ec=>zf (zo (i:=3) Yz.nd rfl (Or.inl rfl) (YS Pd.ok hr rfl Pd.bound Pd.kp Pd.bd .nil rfl (za (pv 0) (za (pv 1) (za (pv 2) zb))))))
    (λee=>zf (zo (i:=3) Yz.nd rfl (Or.inl rfl) (zO zb))))
   (zf (zl (zi zm (by rfl) tl kO (za (pv 3) zb))))),?_⟩
  refine wf ⟨Zz0,λl0 n0=>?_⟩;have S0:=zd (o:=.lst []) n0;have T0:=T.same S0;have hU:=yQ wss;rcases q with⟨high,low,q⟩|⟨low,q⟩
  .have rm:P' wide high:=low.1;obtain⟨res,hSI⟩:=_Sta.XC hU T.hR (p:=⟨0,0,wide,high⟩) (by unfold _Sta.Rm;exact rm) (kR _) (kR _);refine⟨_,rfl,_,rfl,_,rfl,x,t,wide,n,a,xs,wss,P',rfl,T0.hA,T0.hz,T0.hI,T0.hG,T0.hL,T0.hT,T0.hl,T0.hR,w1,w4,.inl ⟨high,res,low,hSI,λl pcs H1 S1 _ hp hl=>?_⟩⟩;refine⟨_,rfl,_,_,rfl,.inl (SqL.of hl),?_⟩;rw[zR,(_Prt.xy (XU (n:=n) T.hR rm hSI hp) n.length).1];exact q _ (S0.trans S1)
  .refine ⟨_,rfl,_,rfl,_,rfl,x,t,wide,n,a,xs,wss,P',rfl,T0.hA,T0.hz,T0.hI,T0.hG,T0.hL,T0.hT,T0.hl,T0.hR,w1,w4,.inr ⟨low,λH1 S1=>⟨C7,rfl,Z.u7,?_⟩⟩⟩;refine⟨Zz0,λl1 n1=>?_⟩;exact⟨_,rfl,_,_,rfl,.inl (SqL.of zc),q _ ((S0.trans S1).trans (zd n1))⟩
end
end _JK
namespace _Tim
open PySem PyProof.Rows
abbrev SM:=StateT SortSt Sem
def gal:Bool->Keyed->Array Keyed->Nat->Nat->Nat->SM (Option Nat):=sortPriv% PySem.Builtin.gallop
def mlo:Array Keyed->Array Keyed->SM (Array Keyed):=sortPriv% PySem.Builtin.mergeLo
def mhi:Array Keyed->Array Keyed->SM (Array Keyed):=sortPriv% PySem.Builtin.mergeHi
def setG:Nat->SM Unit:=sortPriv% PySem.Builtin.setMinGallop
theorem zcR(g:Nat):setG g=modify λt=>SortSt.mk' (kindOf t) (arrOf t) (pendingOf t) g (failedOf t):=rfl
def galF(far:Nat->SM (Option Bool))(n h:Nat):SM (Option Nat):=do
 let mut la:=0
 let mut of:=1
 let mut l:=0
 let mut r:=0
 let some yes <-far h|return none
 if yes then
  let mx:=n-h
  for _ in [0:n] do
   if of≥mx then break
   let some c <-far (h+of)|return none
   if !c then break
   la:=of
   of:=2*of+1
  l:=h+la+1
  r:=h+min of mx
 else
  let mx:=h+1
  for _ in [0:n] do
   if of≥mx then break
   let some c <-far (h-of)|return none
   if c then break
   la:=of
   of:=2*of+1
  l:=h+1-min of mx
  r:=h-la
 for _ in [0:n] do
  if l≥r then break
  let m:=l+(r-l) / 2
  let some c <-far m|return none
  if c then l:=m+1 else r:=m
 return some r
theorem zaj(lf:Bool)(ky:Keyed)(xs:Array Keyed)(bs n h:Nat):gal lf ky xs bs n h=galF (λi=>do
  let x <-elem' xs (bs+i)
  if lf then lt' x ky else return (<-lt' ky x).map (!·)) n h:=rfl
def bsF(far:Nat->SM (Option Bool))(n l0 r0:Nat):SM (Option Nat):=do
 let mut l:=l0
 let mut r:=r0
 for _ in [0:n] do
  if l≥r then break
  let some c <-far (l+(r-l) / 2)|return none
  if c then l:=l+(r-l) / 2+1 else r:=l+(r-l) / 2
 return some r
theorem XY{b:Bool}(h:b=true->False):b=false:=by
 cases b with
 |false=>rfl
 |true=>exact absurd rfl h
section
variable{prog:Program}{w:World}{A:Around}{E:Value->Shared->Prop}{s:Shared}{κ:PyProof.Rows.KeyKind}
theorem md{l r:Nat}(g:¬l≥r):l<=l+(r-l) / 2/\l+(r-l) / 2<r:=()
theorem hf1{l r m k x:Nat}(h:m<r)(d:r+x<=k+l):m+(x+1)<=k+l:=()
theorem hf2{l r m k x:Nat}(h:l<=m)(d:r+x<=k+l):r+(x+1)<=k+(m+1):=()
theorem WL{st:SortSt}{far:Nat->SM (Option Bool)}{f:Nat->Bool}{n l r:Nat}{Q:Option Nat->SortSt->Prop}(hf:∀(i:Nat)(Q:Option Bool->SortSt->Prop),i<n->Q (some (f i)) st->wpS (model prog w) A E s (far i) Q st)
  (mono:∀i j,i<=j->j<n->f j=true->f i=true)(h1:l<=r)(h2:r<=n)(h3:∀i,i<l->f i=true)(h4:∀i,r<=i->i<n->f i=false)
  (q:∀k,k<=n->(∀i,i<k->f i=true)->(∀i,k<=i->i<n->f i=false)->Q (some k) st):wpS (model prog w) A E s (bsF far n l r) Q st:=by
 unfold bsF;dsimp only;refine wpS_bind (wpS_mono (wpS_forRange (I:=λx c t=>t=st/\∃l r,c=(none,l,r)/\l<=r/\r<=n/\r+x<=n+l/\(∀i,i<l->f i=true)/\(∀i,r<=i->i<n->f i=false))
  (Q:=λc t=>t=st/\∃r,r<=n/\c.1=none/\c.2.2=r/\(∀i,i<r->f i=true)/\(∀i,r<=i->i<n->f i=false)) ?step ?fin ⟨rfl,l,r,rfl,h1,h2,(),h3,h4⟩) ?post)
 case fin =>
  rintro c t ⟨rfl,l,r,rfl,a,b,d,u,v⟩;obtain rfl:l=r:=()
  exact⟨rfl,l,b,rfl,rfl,u,v⟩
 case step =>
  rintro x c t _ hx ⟨rfl,l,r,rfl,a,b,d,u,v⟩;dsimp only;by_cases g:l≥r
  .rw [if_pos g];obtain rfl:l=r:=()
   exact wpS_pure ⟨rfl,l,b,rfl,rfl,u,v⟩
  .rw [if_neg g];have hm:=md g;have hmn:=kW hm.2 b;refine wpS_bind (hf _ _ hmn ?_);dsimp only;cases e:f (l+(r-l) / 2)with
   |true =>
    rw[if_pos rfl];exact wpS_pure ⟨rfl,_,r,rfl,hm.2,b,hf2 hm.1 d,λi hi=>mono i _ (vY hi) hmn e,v⟩
   |false =>
    rw[if_neg ⋯];exact wpS_pure ⟨rfl,l,_,rfl,hm.1,vw hmn,hf1 hm.2 d,u,λi hi hn=>XY λz=>by rw[mono _ i hi hn z]at e;cases e⟩
 case post =>
  rintro⟨c1,c2,c3⟩ t ⟨rfl,r,b,rfl,rfl,u,v⟩;exact wpS_pure (q _ b u v)
theorem XZ{st:SortSt}{far:Nat->SM (Option Bool)}{f:Nat->Bool}{n h:Nat}{Q:Option Nat->SortSt->Prop}(hf:∀(i:Nat)(Q:Option Bool->SortSt->Prop),i<n->Q (some (f i)) st->wpS (model prog w) A E s (far i) Q st)(hh:h<n)
  (mono:∀i j,i<=j->j<n->f j=true->f i=true)(q:∀k,k<=n->(∀i,i<k->f i=true)->(∀i,k<=i->i<n->f i=false)->Q (some k) st):wpS (model prog w) A E s (galF far n h) Q st:=by
 unfold galF;dsimp only;refine wpS_bind (hf h _ hh ?_);dsimp only;cases eh:f h with
 |true =>
  rw[if_pos rfl];refine wpS_bind (wpS_mono (wpS_forRange (I:=λx c t=>t=st/\∃la of,c=(none,la,of)/\la<of/\x+1<=of/\h+la<n/\f (h+la)=true)
   (Q:=λc t=>t=st/\∃la of,c=(none,la,of)/\la<of/\h+la<n/\f (h+la)=true/\(n-h<=of\/(h+of<n/\f (h+of)=false))) ?step ?fin ⟨rfl,0,1,rfl,⋯,⋯,by omega,eh⟩) ?post)
  case fin =>
   rintro c t ⟨rfl,la,of,rfl,a,b,d,e⟩;exact⟨rfl,la,of,rfl,a,d,e,.inl ()⟩
  case step =>
   rintro x c t _ hx ⟨rfl,la,of,rfl,a,b,d,e⟩;dsimp only;by_cases g:of≥n-h
   .rw [if_pos g];exact wpS_pure ⟨rfl,la,of,rfl,a,d,e,.inl g⟩
   .rw [if_neg g];refine wpS_bind (hf _ _ () ?_);dsimp only;cases e2:f (h+of)with
    |true =>
     rw[if_neg ⋯];exact wpS_pure ⟨rfl,of,_,rfl,(),(),(),e2⟩
    |false =>
     rw[if_pos ⋯];exact wpS_pure ⟨rfl,la,of,rfl,a,d,e,.inr ⟨(),e2⟩⟩
  case post =>
   rintro c t ⟨rfl,la,of,rfl,a,d,e,z⟩;refine WL (l:=h+la+1) (r:=h+min of (n-h)) hf mono (by omega) (by omega) (λi hi=>mono i _ () d e) (λi hi hn=>XY λy=>?_) q;rcases z with z|⟨z1,z2⟩
   .lia
   .rw [mono (h+of) i () hn y]at z2;cases z2
 |false =>
  rw[if_neg ⋯];refine wpS_bind (wpS_mono (wpS_forRange (I:=λx c t=>t=st/\∃la of,c=(none,la,of)/\la<of/\x+1<=of/\la<=h/\f (h-la)=false)
   (Q:=λc t=>t=st/\∃la of,c=(none,la,of)/\la<of/\la<=h/\f (h-la)=false/\(h+1<=of\/(of<=h/\f (h-of)=true))) ?step2 ?fin2 ⟨rfl,0,1,rfl,⋯,⋯,(),eh⟩) ?post2)
  case fin2 =>
   rintro c t ⟨rfl,la,of,rfl,a,b,d,e⟩;exact⟨rfl,la,of,rfl,a,d,e,.inl ()⟩
  case step2 =>
   rintro x c t _ hx ⟨rfl,la,of,rfl,a,b,d,e⟩;dsimp only;by_cases g:of≥h+1
   .rw [if_pos g];exact wpS_pure ⟨rfl,la,of,rfl,a,d,e,.inl g⟩
   .rw [if_neg g];refine wpS_bind (hf _ _ (by omega) ?_);dsimp only;cases e2:f (h-of)with
    |true =>
     rw[if_pos rfl];exact wpS_pure ⟨rfl,la,of,rfl,a,d,e,.inr ⟨(),e2⟩⟩
    |false =>
     rw[if_neg ⋯];exact wpS_pure ⟨rfl,of,_,rfl,(),(),(),e2⟩
  case post2 =>
   rintro c t ⟨rfl,la,of,rfl,a,d,e,z⟩;refine WL (l:=h+1-min of (h+1)) (r:=h-la) hf mono (by omega) () (λi hi=>?_) (λi hi hn=>XY λy=>by rw[mono (h-la) i hi hn y]at e;cases e) q;rcases z with z|⟨z1,z2⟩
   .omega
   .exact mono i (h-of) (by omega) (by omega) z2
def ky(κ:PyProof.Rows.KeyKind)(p:Keyed):κ.α:=(κ.keyOf p.1).getD κ.dflt
def Gd(κ:PyProof.Rows.KeyKind)(p:Keyed):Prop:=∃a,κ.keyOf p.1=some a
theorem yv{xs:Array Keyed}{i:Nat}{p:Keyed}(h:xs[i]?=some p):KK κ xs i=ky κ p:=by
 unfold KK ky;rw[h]
theorem YA{p:Keyed}{a:κ.α}(h:κ.keyOf p.1=some a):ky κ p=a:=by
 unfold ky;rw[h];rfl
theorem Zl{st:SortSt}{x y:Keyed}{Q:Option Bool->SortSt->Prop}(hO:κ.OneLt)(hk:kindOf st=oneType')(hx:Gd κ x)(hy:Gd κ y)(h:Q (some (κ.blt (ky κ x) (ky κ y))) st):wpS (model prog w) A E s (lt' x y) Q st:=by
 obtain⟨a,ha⟩:=hx;obtain⟨b,hb⟩:=hy;rw[YA ha,YA hb]at h;rw[lt'_eq];refine wpS_bind (wpS_get ?_);rw[hk,keyLt'_oneType];refine wpS_bind (wpS_lift (wpAny_attempt (hO prog w A _ s x.1 y.1 a b ha hb ⟨rfl,?_⟩)));exact wpS_pure h
theorem yd{st:SortSt}{xs:Array Keyed}{i:Nat}{p:Keyed}{Q:Keyed->SortSt->Prop}(e:xs[i]?=some p)(h:Q p st):wpS (model prog w) A E s (elem' xs i) Q st:=by
 rw[elem'_eq,e];exact wpS_pure h
theorem xu{xs:Array Keyed}{i:Nat}{p:Keyed}(hx:∀p∈xs.toList,Gd κ p)(e:xs[i]?=some p):Gd κ p:=hx p (kH (by rw[Array.getElem?_toList];exact e))
theorem some_at{xs:Array Keyed}{i:Nat}(h:i<xs.size):∃p,xs[i]?=some p:=⟨xs[i],getElem?_pos xs i h⟩
theorem jU{st:SortSt}{k:Keyed}{xs:Array Keyed}{bs n h:Nat}{Q:Option Nat->SortSt->Prop}(hO:κ.OneLt)(hk:kindOf st=oneType')(hx:∀p∈xs.toList,Gd κ p)(hy:Gd κ k)(hb:bs+n<=xs.size)(hh:h<n)
  (so:∀i j,bs<=i->i<=j->j<bs+n->κ.kle (KK κ xs i) (KK κ xs j))(q:∀m,m<=n->(∀i,i<m->κ.klt (KK κ xs (bs+i)) (ky κ k))->(∀i,m<=i->i<n->κ.kle (ky κ k) (KK κ xs (bs+i)))->Q (some m) st):
  wpS (model prog w) A E s (gal true k xs bs n h) Q st:=by
 rw[zaj];refine XZ (f:=λi=>κ.blt (KK κ xs (bs+i)) (ky κ k)) (λi Q hi hq=>?_) hh (λi j hij hj e=>KeyOrd.klt_of_kle_of_klt (so _ _ () () ()) e) λm hm a b=>q m hm a b;obtain⟨p,hp⟩:=some_at (xs:=xs) (i:=bs+i) ();refine wpS_bind (yd hp ?_);rw[if_pos rfl];rw[yv hp]at hq;exact Zl hO hk (xu hx hp) hy hq
theorem jV{st:SortSt}{k:Keyed}{xs:Array Keyed}{bs n h:Nat}{Q:Option Nat->SortSt->Prop}(hO:κ.OneLt)(hk:kindOf st=oneType')(hx:∀p∈xs.toList,Gd κ p)(hy:Gd κ k)(hb:bs+n<=xs.size)(hh:h<n)
  (so:∀i j,bs<=i->i<=j->j<bs+n->κ.kle (KK κ xs i) (KK κ xs j))(q:∀m,m<=n->(∀i,i<m->κ.kle (KK κ xs (bs+i)) (ky κ k))->(∀i,m<=i->i<n->κ.klt (ky κ k) (KK κ xs (bs+i)))->Q (some m) st):
  wpS (model prog w) A E s (gal false k xs bs n h) Q st:=by
 rw[zaj];refine XZ (f:=λi=>!κ.blt (ky κ k) (KK κ xs (bs+i))) (λi Q hi hq=>?_) hh (λi j hij hj e=>?_) λm hm a b=>q m hm (λi hi=>?_) λi h1 h2=>?_
 .obtain ⟨p,hp⟩:=some_at (xs:=xs) (i:=bs+i) ();refine wpS_bind (yd hp ?_);rw[if_neg ⋯];rw[yv hp]at hq;exact wpS_bind (Zl hO hk hy (xu hx hp) (wpS_pure hq))
 .have e:κ.kle (KK κ xs (bs+j)) (ky κ k):=by unfold KeyOrd.kle;simpa using e
  have:=KeyOrd.kle_trans (so (bs+i) (bs+j) () () ()) e;unfold KeyOrd.kle at this;rw[this];rfl
 .have:=a i hi;unfold KeyOrd.kle;simpa using this
 .have:=b i h1 h2;unfold KeyOrd.klt;simpa using this
end
section
variable{κ:PyProof.Rows.KeyKind}
def le(κ:PyProof.Rows.KeyKind)(p q:Keyed):Prop:=κ.kle (ky κ p) (ky κ q)
abbrev _Srt(κ:PyProof.Rows.KeyKind)(l:List Keyed):Prop:=l.Pairwise (le κ)
theorem le_trans{x y z:Keyed}(a:le κ x y)(b:le κ y z):le κ x z:=KeyOrd.kle_trans a b
theorem le_rfl(x:Keyed):le κ x x:=KeyOrd.kle_refl _
theorem yO{l:List Keyed}{i:Nat}{p x:Keyed}(so:_Srt κ l)(e:l[i]?=some p)(h:le κ x p):∀y∈l.drop i,le κ x y:=λy hy=>by
 obtain⟨m,hm⟩:=vM hy;rw[v5]at hm;cases m with
 |zero =>
  have hm:l[i]?=some y:=hm;rw[e]at hm;rw[<-Option.some.inj hm];exact h
 |succ m =>
  obtain⟨h1,e1⟩:=kh.mp e;obtain⟨h2,e2⟩:=kh.mp hm;have:=ug.mp so i (i+(m+1)) h1 h2 ();rw[e1,e2]at this;exact le_trans h this
theorem drop_cons{l:List Keyed}{i:Nat}{p:Keyed}(e:l[i]?=some p):l.drop i=p::l.drop (i+1):=by
 obtain⟨h1,e1⟩:=kh.mp e;rw[vQ h1,e1]
structure ML(κ:PyProof.Rows.KeyKind)(p q:List Keyed)(o:Array Keyed)(i j:Nat):Prop where
 so:_Srt κ o.toList
 le:∀x∈o.toList,∀y,(y∈p.drop i\/y∈q.drop j)->le κ x y
 pm:(o.toList++(p.drop i++q.drop j)).Perm (p++q)
 n:o.size=i+j
theorem X0{o:List Keyed}{a:Keyed}(so:_Srt κ o)(h:∀x∈o,le κ x a):_Srt κ (o++[a]) :=
 vt.mpr ⟨so,uy _ _,λx hx y hy=>by rw[kj.mp hy];exact h x hx⟩
theorem ML.takeP{p q:List Keyed}{o:Array Keyed}{i j:Nat}{a:Keyed}(M:ML κ p q o i j)(sp:_Srt κ p)(e:p[i]?=some a)(h:∀y∈q.drop j,_Tim.le κ a y):ML κ p q (o.push a) (i+1) j:=by
 have d:=drop_cons e;refine⟨?_,?_,?_,?_⟩
 .rw [Array.toList_push];exact X0 M.so λx hx=>M.le x hx a (.inl (by rw[d];exact ke))
 .intro x hx y hy;rw[Array.toList_push]at hx;rcases kQ.mp hx with hx|hx
  .refine M.le x hx y (hy.imp (λz=>?_) id);rw[d];exact kg _ z
  .rw [kj.mp hx];rcases hy with hy|hy
   .exact yO sp e (le_rfl a) y (by rw[d];exact kg _ hy)
   .exact h y hy
 .have:=M.pm;rw[d]at this;rw[Array.toList_push,kY];exact this
 .rw [Array.size_push,M.n];lia
theorem ML.takeQ{p q:List Keyed}{o:Array Keyed}{i j:Nat}{b:Keyed}(M:ML κ p q o i j)(sq:_Srt κ q)(e:q[j]?=some b)(h:∀y∈p.drop i,_Tim.le κ b y):ML κ p q (o.push b) i (j+1):=by
 have d:=drop_cons e;refine⟨?_,?_,?_,?_⟩
 .rw [Array.toList_push];exact X0 M.so λx hx=>M.le x hx b (.inr (by rw[d];exact ke))
 .intro x hx y hy;rw[Array.toList_push]at hx;rcases kQ.mp hx with hx|hx
  .refine M.le x hx y (hy.imp id (λz=>?_));rw[d];exact kg _ z
  .rw [kj.mp hx];rcases hy with hy|hy
   .exact h y hy
   .exact yO sq e (le_rfl b) y (by rw[d];exact kg _ hy)
 .have:=M.pm;rw[d]at this;rw[Array.toList_push,kY];refine List.Perm.trans (List.Perm.append_left _ ?_) this;show(b::(p.drop i++q.drop (j+1))).Perm (p.drop i++b::q.drop (j+1));exact List.perm_middle.symm
 .rw [Array.size_push,M.n];lia
theorem X1{p:Array Keyed}{i k:Nat}(h:i+k<p.size):p.extract i (i+(k+1))=(p.extract i (i+k)).push p[i+k]:=by
 have:=Array.push_extract_getElem (as:=p) (i:=i) (j:=i+k) h;rw[br ()]at this;exact this.symm
theorem qv(o x:Array Keyed)(a:Keyed):o++x.push a=(o++x).push a:=by
 apply Array.ext';simp
theorem ML.takePs{p q:Array Keyed}{o:Array Keyed}{i j:Nat}(M:ML κ p.toList q.toList o i j)(sp:_Srt κ p.toList):∀k,i+k<=p.size->(∀m a,m<k->p[i+m]?=some a->∀y∈q.toList.drop j,_Tim.le κ a y)->ML κ p.toList q.toList (o++p.extract i (i+k)) (i+k) j
 |0,_,_=>by
  have e:o++p.extract i (i+0)=o:=by simp;lia
  rw[e];exact M
 |k+1,hk,h=>by
  have ih:=ML.takePs M sp k () λm a hm=>h m a ();rw[X1 (by assumption),qv];exact ih.takeP sp (by rw[Array.getElem?_toList];exact getElem?_pos p _ (by assumption)) (h k _ () (getElem?_pos p _ (by assumption)))
theorem ML.takeQs{p q:Array Keyed}{o:Array Keyed}{i j:Nat}(M:ML κ p.toList q.toList o i j)(sq:_Srt κ q.toList):∀k,j+k<=q.size->(∀m b,m<k->q[j+m]?=some b->∀y∈p.toList.drop i,_Tim.le κ b y)->ML κ p.toList q.toList (o++q.extract j (j+k)) i (j+k)
 |0,_,_=>by
  have e:o++q.extract j (j+0)=o:=by simp;lia
  rw[e];exact M
 |k+1,hk,h=>by
  have ih:=ML.takeQs M sq k () λm a hm=>h m a ();rw[X1 (by assumption),qv];exact ih.takeQ sq (by rw[Array.getElem?_toList];exact getElem?_pos q _ (by assumption)) (h k _ () (getElem?_pos q _ (by assumption)))
def Mgd(κ:PyProof.Rows.KeyKind)(p q r:Array Keyed):Prop:=_Srt κ r.toList/\r.toList.Perm (p.toList++q.toList)
theorem jn(p:Array Keyed)(i:Nat):(p.extract i p.size).toList=p.toList.drop i:=by
 rw[Array.toList_extract,uh];exact vK (by rw[kZ,Array.length_toList];exact kc _)
theorem xM{l:List Keyed}(i:Nat)(so:_Srt κ l):_Srt κ (l.drop i):=so.sublist (List.drop_sublist i l)
theorem ML.fin{p q o:Array Keyed}{i j:Nat}(M:ML κ p.toList q.toList o i j)(sp:_Srt κ p.toList)(sq:_Srt κ q.toList)(h:j=q.size\/i=p.size):Mgd κ p q (o++p.extract i p.size++q.extract j q.size):=by
 have e:(o++p.extract i p.size++q.extract j q.size).toList=o.toList++(p.toList.drop i++q.toList.drop j):=by
  rw[Array.toList_append,Array.toList_append,jn,jn,kY]
 refine⟨?_,by rw[e];exact M.pm⟩;rw[e];refine vt.mpr ⟨M.so,?_,λx hx y hy=>M.le x hx y (kQ.mp hy)⟩;refine vt.mpr ⟨xM i sp,xM j sq,λx hx y hy=>?_⟩;rcases h with h|h
 .rw [h,List.drop_eq_nil_of_le (by rw[Array.length_toList];exact kc _)]at hy;exact(kN hy).elim
 .rw [h,List.drop_eq_nil_of_le (by rw[Array.length_toList];exact kc _)]at hx;exact(kN hx).elim
theorem ML.fin2{p q o:Array Keyed}{i j:Nat}(M:ML κ p.toList q.toList o i j)(sp:_Srt κ p.toList)(sq:_Srt κ q.toList)(h:∀x∈q.toList,∀y∈p.toList.drop i,_Tim.le κ x y):Mgd κ p q (o++q.extract j q.size++p.extract i p.size):=by
 have e:(o++q.extract j q.size++p.extract i p.size).toList=o.toList++(q.toList.drop j++p.toList.drop i):=by
  rw[Array.toList_append,Array.toList_append,jn,jn,kY]
 refine⟨?_,?_⟩
 .rw [e];refine vt.mpr ⟨M.so,?_,λx hx y hy=>M.le x hx y ((kQ.mp hy).symm)⟩;exact vt.mpr ⟨xM j sq,xM i sp,λx hx y hy=>h x (uQ hx) y hy⟩
 .rw [e];exact(List.Perm.append_left _ u8).trans M.pm
end
abbrev AK:=Array Keyed
abbrev G7:=Option AK×AK×Nat×Nat×Nat×Nat×Nat
def b3(p q o:AK)(i j mg ca cb:Nat):SM (ForInStep G7):=do
 let x <-elem' p i
 if(i+1+1==p.size)=true then pure (.done (some (o.push x++q.extract j q.size++p.extract (i+1) p.size),o.push x,i+1,j,mg,ca,cb))
 else if(decide (ca<7)&&decide (cb<7))=true then pure (.done (none,o.push x,i+1,j,mg,ca,cb))
 else pure (.yield (none,o.push x,i+1,j,mg,ca,cb))
def b2(p q o:AK)(i j mg ca c0:Nat):SM (ForInStep G7):=do
 let y <-elem' q j
 if(j+1==q.size)=true then pure (.done (some (o.push y++p.extract i p.size++q.extract (j+1) q.size),o.push y,i,j+1,mg,ca,c0))
 else do
  let x <-elem' p i
  let r <-gal true x q (j+1) (q.size-(j+1)) 0
  match r with
  |some k=>if k>0 then(if(j+1+k==q.size)=true then pure (.done (some (o.push y++q.extract (j+1) (j+1+k)++p.extract i p.size++q.extract (j+1+k) q.size),o.push y++q.extract (j+1) (j+1+k),i,j+1+k,mg,ca,k))
    else b3 p q (o.push y++q.extract (j+1) (j+1+k)) i (j+1+k) mg ca k)else b3 p q (o.push y) i (j+1) mg ca k
  |_=>pure (.done (some (o.push y++p.extract i p.size++q.extract (j+1) q.size),o.push y,i,j+1,mg,ca,c0))
def b1(p q o:AK)(i j mg d0 c0:Nat):SM (ForInStep G7):=do
 setG mg
 let y <-elem' q j
 let r <-gal false y p i (p.size-i) 0
 match r with
 |some k=>if k>0 then(if(i+k+1==p.size)=true then pure (.done (some (o++p.extract i (i+k)++q.extract j q.size++p.extract (i+k) p.size),o++p.extract i (i+k),i+k,j,mg,k,c0))
   else if(i+k==p.size)=true then pure (.done (some (o++p.extract i (i+k)++p.extract (i+k) p.size++q.extract j q.size),o++p.extract i (i+k),i+k,j,mg,k,c0))
   else b2 p q (o++p.extract i (i+k)) (i+k) j mg k c0)else b2 p q o i j mg k c0
 |_=>pure (.done (some (o++p.extract i p.size++q.extract j q.size),o,i,j,mg,d0,c0))
structure Sm(t u:SortSt):Prop where
 k:kindOf t=kindOf u
 a:arrOf t=arrOf u
 p:pendingOf t=pendingOf u
 f:failedOf t=failedOf u
theorem Sm.refl(t:SortSt):Sm t t:=⟨rfl,rfl,rfl,rfl⟩
theorem Sm.trans{t u v:SortSt}(a:Sm t u)(b:Sm u v):Sm t v:=⟨a.k.trans b.k,a.a.trans b.a,a.p.trans b.p,a.f.trans b.f⟩
structure Two(κ:PyProof.Rows.KeyKind)(p q:AK):Prop where
 O:κ.OneLt
 gp:∀x∈p.toList,Gd κ x
 gq:∀x∈q.toList,Gd κ x
 sp:_Srt κ p.toList
 sq:_Srt κ q.toList
 p1:1<=p.size
 q1:1<=q.size
 first:∀b,q[0]?=some b->∀y∈p.toList,le κ b y
 last:∀a,p[p.size-1]?=some a->∀y∈q.toList,le κ y a
def Go(κ:PyProof.Rows.KeyKind)(p q:AK)(N:Nat)(o:AK)(i j:Nat):Prop:=ML κ p.toList q.toList o i j/\i+1<p.size/\j<q.size/\N<=i+j
def Ok7(κ:PyProof.Rows.KeyKind)(p q:AK)(N:Nat)(c:G7):Prop:=match c.1 with
 |some r=>Mgd κ p q r
 |none=>Go κ p q N c.2.1 c.2.2.1 c.2.2.2.1
def St7(κ:PyProof.Rows.KeyKind)(p q:AK)(N:Nat)(c:ForInStep G7):Prop:=match c with
 |.done c=>Ok7 κ p q N c
 |.yield c=>c.1=none/\Ok7 κ p q N c
section
variable{prog:Program}{w:World}{A:Around}{E:Value->Shared->Prop}{s:Shared}{κ:PyProof.Rows.KeyKind}
theorem at_l{p:AK}{i:Nat}{x:Keyed}(h:p[i]?=some x):p.toList[i]?=some x:=by
 rw[Array.getElem?_toList];exact h
theorem YB{p:AK}(sp:_Srt κ p.toList){i j:Nat}(h:i<=j)(hj:j<p.size):κ.kle (KK κ p i) (KK κ p j):=by
 obtain⟨x,ex⟩:=some_at (xs:=p) (i:=i) ();obtain⟨y,ey⟩:=some_at hj;rw[yv ex,yv ey];refine yO sp (at_l ex) (le_rfl x) y ?_;have:=at_l ey;rw[show j=i+(j-i)by lia,<-v5]at this;exact kH this
theorem wJ{p q:AK}(T:Two κ p q){i:Nat}(h:i+1=p.size):∀x∈q.toList,∀y∈p.toList.drop i,le κ x y:=λx hx y hy=>by
 obtain⟨a,ea⟩:=some_at (xs:=p) (i:=i) ();have l:=T.last a (by rw[show p.size-1=i by lia];exact ea);exact yO T.sp (at_l ea) (l x hx) y hy
theorem zak{st:SortSt}{p q o:AK}{i j mg ca cb N:Nat}(T:Two κ p q)(M:ML κ p.toList q.toList o i j)(hi:i+1<p.size)(hj:j<q.size)(hN:N<=i+j+1)(h:∀x,p[i]?=some x->∀y∈q.toList.drop j,le κ x y):
  wpS (model prog w) A E s (b3 p q o i j mg ca cb) (λc t=>t=st/\St7 κ p q N c) st:=by
 unfold b3;obtain⟨x,ex⟩:=some_at (xs:=p) (i:=i) ();refine wpS_bind (yd ex ?_);have M2:=M.takeP T.sp (at_l ex) (h x ex);by_cases g:i+1+1=p.size
 .rw [if_pos (beq_iff_eq.mpr g)];exact wpS_pure ⟨rfl,M2.fin2 T.sp T.sq (wJ T g)⟩
 .rw [if_neg (λz=>g (beq_iff_eq.mp z))];have G:Go κ p q N (o.push x) (i+1) j:=⟨M2,(),hj,()⟩;cases (decide (ca<7)&&decide (cb<7))with
  |true =>
   rw[if_pos rfl];exact wpS_pure ⟨rfl,G⟩
  |false =>
   rw[if_neg ⋯];exact wpS_pure ⟨rfl,rfl,G⟩
theorem zal{st:SortSt}{p q o:AK}{i j mg ca c0 N:Nat}(T:Two κ p q)(hk:kindOf st=oneType')(M:ML κ p.toList q.toList o i j)(hi:i+1<p.size)(hj:j<q.size)(hN:N<=i+j+1)(h:∀y,q[j]?=some y->∀x∈p.toList.drop i,le κ y x):
  wpS (model prog w) A E s (b2 p q o i j mg ca c0) (λc t=>t=st/\St7 κ p q N c) st:=by
 unfold b2;obtain⟨y,ey⟩:=some_at hj;refine wpS_bind (yd ey ?_);have M2:=M.takeQ T.sq (at_l ey) (h y ey);by_cases g:j+1=q.size
 .rw [if_pos (beq_iff_eq.mpr g)];exact wpS_pure ⟨rfl,M2.fin T.sp T.sq (.inl g)⟩
 .rw [if_neg (λz=>g (beq_iff_eq.mp z))];obtain⟨x,ex⟩:=some_at (xs:=p) (i:=i) ();refine wpS_bind (yd ex (wpS_bind (jU T.O hk T.gq (xu T.gp ex) (by omega) () (λa b _ h1 h2=>YB T.sq h1 (by omega)) λk hk2 lo hi2=>?_)));dsimp only;have M3:=M2.takeQs T.sq k (by omega) λm b hm eb z hz=>by
   have:=lo m hm;rw[yv eb]at this;exact yO T.sp (at_l ex) (KeyOrd.kle_of_klt this) z hz
  have nx:j+1+k<q.size->∀x',p[i]?=some x'->∀z∈q.toList.drop (j+1+k),le κ x' z:=λhlt x' ex' z hz=>by
   rw[ex]at ex';obtain rfl:=Option.some.inj ex';obtain⟨z0,ez⟩:=some_at hlt;have:=hi2 k (kc _) (by omega);rw[yv ez]at this;exact yO T.sq (at_l ez) this z hz
  by_cases g1:k>0
  .rw [if_pos g1];by_cases g2:j+1+k=q.size
   .rw [if_pos (beq_iff_eq.mpr g2)];exact wpS_pure ⟨rfl,M3.fin T.sp T.sq (.inl g2)⟩
   .rw [if_neg (λz=>g2 (beq_iff_eq.mp z))];exact zak T M3 hi (by omega) () (nx (by omega))
  .rw [if_neg g1];obtain rfl:k=0:=()
   exact zak T M2 hi () () (nx ())
theorem zZ{σ α:Type}{st:σ}{c:Prop}[Decidable c]{m n:StateT σ Sem α}{Q:α->σ->Prop}{M:Model}(h1:c->wpS M A E s m Q st)(h2:¬c->wpS M A E s n Q st):wpS M A E s (if c then m else n) Q st:=by
 by_cases h:c
 .rw [if_pos h];exact h1 h
 .rw [if_neg h];exact h2 h
theorem zam{σ α:Type}{st:σ}{c:Prop}[Decidable c]{m n:StateT σ Sem α}{Q:α->σ->Prop}{M:Model}(h:c)(h1:wpS M A E s m Q st):wpS M A E s (if c then m else n) Q st:=by
 rw[if_pos h];exact h1
theorem jb{σ α:Type}{st:σ}{c:Prop}[Decidable c]{m n:StateT σ Sem α}{Q:α->σ->Prop}{M:Model}(h:¬c)(h1:wpS M A E s n Q st):wpS M A E s (if c then m else n) Q st:=by
 rw[if_neg h];exact h1
theorem qw{st:SortSt}{g:Nat}{Q:Unit->SortSt->Prop}(h:∀t,Sm t st->Q Unit.unit t):wpS (model prog w) A E s (setG g) Q st:=by
 rw[zcR];exact wpS_modify (h _ ⟨rfl,rfl,rfl,rfl⟩)
theorem zan{st:SortSt}{p q o:AK}{i j mg d0 c0 N:Nat}(T:Two κ p q)(hk:kindOf st=oneType')(G:Go κ p q N o i j):
  wpS (model prog w) A E s (b1 p q o i j mg d0 c0) (λc t=>Sm t st/\St7 κ p q (N+1) c) st:=by
 obtain⟨M,hi,hj,hN⟩:=G;unfold b1;refine wpS_bind (qw λt S=>?_);have hk:=S.k.trans hk;obtain⟨y,ey⟩:=some_at hj;refine wpS_bind (yd ey (wpS_bind (jV T.O hk T.gp (xu T.gq ey) () () (λa b _ h1 h2=>YB T.sp h1 ()) λk hk2 lo hi2=>?_)));dsimp only;have M3:=M.takePs T.sp k () λm a hm ea z hz=>by
  have:=lo m hm;rw[yv ea]at this;exact yO T.sq (at_l ey) this z hz
 have nx:i+k<p.size->∀y',q[j]?=some y'->∀z∈p.toList.drop (i+k),le κ y' z:=λhlt y' ey' z hz=>by
  rw[ey]at ey';obtain rfl:=Option.some.inj ey';obtain⟨z0,ez⟩:=some_at hlt;have:=hi2 k (kc _) ();rw[yv ez]at this;exact yO T.sp (at_l ez) (KeyOrd.kle_of_klt this) z hz
 have up:∀{c:ForInStep G7}{t':SortSt},t'=t/\St7 κ p q (N+1) c->Sm t' st/\St7 κ p q (N+1) c:=λ{c t'} z=>⟨z.1 ▸ S,z.2⟩;by_cases g1:k>0
 .rw [if_pos g1];by_cases g2:i+k+1=p.size
  .rw [if_pos (beq_iff_eq.mpr g2)];exact wpS_pure ⟨S,M3.fin2 T.sp T.sq (wJ T g2)⟩
  .rw [if_neg (λz=>g2 (beq_iff_eq.mp z))];by_cases g3:i+k=p.size
   .rw [if_pos (beq_iff_eq.mpr g3)];exact wpS_pure ⟨S,M3.fin T.sp T.sq (.inr g3)⟩
   .rw [if_neg (λz=>g3 (beq_iff_eq.mp z))];exact wpS_mono (zal T hk M3 () hj () (nx ())) λ_ _=>up
 .rw [if_neg g1];obtain rfl:k=0:=()
  exact wpS_mono (zal T hk M (by omega) hj () (nx ())) λ_ _=>up
end
abbrev G6:=Option AK×AK×Nat×Nat×Nat×Nat
abbrev G5:=Option AK×AK×Nat×Nat×Nat
def Ok6(κ:PyProof.Rows.KeyKind)(p q:AK)(N:Nat)(c:G6):Prop:=match c.1 with
 |some r=>Mgd κ p q r
 |none=>Go κ p q N c.2.1 c.2.2.1 c.2.2.2.1
def Ok5(κ:PyProof.Rows.KeyKind)(p q:AK)(N:Nat)(c:G5):Prop:=match c.1 with
 |some r=>Mgd κ p q r
 |none=>Go κ p q N c.2.1 c.2.2.1 c.2.2.2.1
theorem jo{κ:PyProof.Rows.KeyKind}{p q o:AK}{N N' i j:Nat}(h:Go κ p q N o i j)(l:N'<=N):Go κ p q N' o i j:=⟨h.1,h.2.1,h.2.2.1,kn l h.2.2.2⟩
def a1t(p q:AK)(mg:Nat)(o:AK)(i j cb:Nat):SM (ForInStep G6):=do
 let y <-elem' q j
 if(j+1==q.size)=true then pure (.done (some (o.push y++p.extract i p.size++q.extract (j+1) q.size),o.push y,i,j+1,0,cb+1))
 else if cb+1≥mg then pure (.done (none,o.push y,i,j+1,0,cb+1))else pure (.yield (none,o.push y,i,j+1,0,cb+1))
def a1f(p q:AK)(mg:Nat)(o:AK)(i j ca:Nat):SM (ForInStep G6):=do
 let x <-elem' p i
 if(i+1+1==p.size)=true then pure (.done (some (o.push x++q.extract j q.size++p.extract (i+1) p.size),o.push x,i+1,j,ca+1,0))
 else if ca+1≥mg then pure (.done (none,o.push x,i+1,j,ca+1,0))else pure (.yield (none,o.push x,i+1,j,ca+1,0))
def a1(p q:AK)(mg:Nat)(o:AK)(i j ca cb:Nat):SM (ForInStep G6):=do
 let y <-elem' q j
 let x <-elem' p i
 let r <-lt' y x
 match r with
 |some b=>if b=true then a1t p q mg o i j cb else a1f p q mg o i j ca
 |_=>pure (.done (some (o++p.extract i p.size++q.extract j q.size),o,i,j,ca,cb))
def St6(κ:PyProof.Rows.KeyKind)(p q:AK)(N:Nat)(c:ForInStep G6):Prop:=match c with
 |.done c=>Ok6 κ p q N c
 |.yield c=>c.1=none/\Ok6 κ p q N c
section
variable{prog:Program}{w:World}{A:Around}{E:Value->Shared->Prop}{s:Shared}{κ:PyProof.Rows.KeyKind}
theorem zdX{st:SortSt}{p q o:AK}{mg i j ca cb N:Nat}(T:Two κ p q)(hk:kindOf st=oneType')(G:Go κ p q N o i j):wpS (model prog w) A E s (a1 p q mg o i j ca cb) (λc t=>t=st/\St6 κ p q (N+1) c) st:=by
 obtain⟨M,a,b,d⟩:=G;unfold a1;obtain⟨v,ev⟩:=some_at b;obtain⟨u,eu⟩:=some_at (xs:=p) (i:=i) ();refine wpS_bind (yd ev (wpS_bind (yd eu (wpS_bind (Zl T.O hk (xu T.gq ev) (xu T.gp eu) ?_)))));dsimp only;cases e:κ.blt (ky κ v) (ky κ u)with
 |true =>
  have M2:=M.takeQ T.sq (at_l ev) λz hz=>yO T.sp (at_l eu) (KeyOrd.kle_of_klt e) z hz;refine zam rfl (wpS_bind (yd ev (zZ (λg=>wpS_pure ⟨rfl,M2.fin T.sp T.sq (.inl (beq_iff_eq.mp g))⟩) λg=>?_)));have G2:Go κ p q (N+1) (o.push v) i (j+1):=⟨M2,a,uH b λz=>g (beq_iff_eq.mpr z),vd d⟩;exact zZ (λ_=>wpS_pure ⟨rfl,G2⟩) λ_=>wpS_pure ⟨rfl,rfl,G2⟩
 |false =>
  have M2:=M.takeP T.sp (at_l eu) λz hz=>yO T.sq (at_l ev) e z hz;refine jb ⋯ (wpS_bind (yd eu (zZ (λg=>wpS_pure ⟨rfl,M2.fin2 T.sp T.sq (wJ T (beq_iff_eq.mp g))⟩) λg=>?_)));have G2:Go κ p q (N+1) (o.push u) (i+1) j:=⟨M2,uH a λz=>g (beq_iff_eq.mpr z),b,()⟩;exact zZ (λ_=>wpS_pure ⟨rfl,G2⟩) λ_=>wpS_pure ⟨rfl,rfl,G2⟩
end
def l1(p q:AK)(mg:Nat)(o:AK)(i j:Nat):SM G6:=forIn [0:p.size+q.size] ((none,o,i,j,0,0):G6) λ_ c=>a1 p q mg c.2.1 c.2.2.1 c.2.2.2.1 c.2.2.2.2.1 c.2.2.2.2.2
def l2(p q o:AK)(i j mg ca cb:Nat):SM G7:=forIn [0:p.size+q.size] ((none,o,i,j,mg,ca,cb):G7) λ_ c=>if c.2.2.2.2.1>1 then b1 p q c.2.1 c.2.2.1 c.2.2.2.1 (c.2.2.2.2.1-1) c.2.2.2.2.2.1 c.2.2.2.2.2.2 else b1 p q c.2.1 c.2.2.1 c.2.2.2.1 c.2.2.2.2.1 c.2.2.2.2.2.1 c.2.2.2.2.2.2
def o2(c:G7):SM (ForInStep G5):=match c.1 with
 |some r=>pure (.done (some r,c.2.1,c.2.2.1,c.2.2.2.1,c.2.2.2.2.1))
 |none=>do
  setG (c.2.2.2.2.1+1)
  pure (.yield (none,c.2.1,c.2.2.1,c.2.2.2.1,c.2.2.2.2.1+1))
def o1(p q:AK)(mg:Nat)(c:G6):SM (ForInStep G5):=match c.1 with
 |some r=>pure (.done (some r,c.2.1,c.2.2.1,c.2.2.2.1,mg))
 |none=>do
  liftM (rule "list.sort.gallop")
  let d <-l2 p q c.2.1 c.2.2.1 c.2.2.2.1 (mg+1) c.2.2.2.2.1 c.2.2.2.2.2
  o2 d
def lo(p q:AK)(c:G5):SM G5:=forIn [0:p.size+q.size] c λ_ c=>do
 let d <-l1 p q c.2.2.2.2 c.2.1 c.2.2.1 c.2.2.2.1
 o1 p q c.2.2.2.2 d
def lend(c:G5):SM AK:=match c.1 with
 |some r=>pure r
 |none=>liftM (unsupported "internal:list.sort.merge-bound" : Sem AK)
theorem zdY(p q:AK):mlo p q=(do
 liftM (rule "list.sort.merge-lo")
 let b <-elem' q 0
 if(1==q.size)=true then pure (#[b]++p.extract 0 p.size++q.extract 1 q.size)
 else if(0+1==p.size)=true then pure (#[b]++q.extract 1 q.size++p.extract 0 p.size)
 else do
  let t <-get
  let c <-lo p q (none,#[b],0,1,gallopOf t)
  lend c):=by kernel_rfl
section
variable{prog:Program}{w:World}{A:Around}{E:Value->Shared->Prop}{s:Shared}{κ:PyProof.Rows.KeyKind}{p q:AK}{st0 st:SortSt}
theorem zdZ{o:AK}{i j mg N:Nat}(T:Two κ p q)(hk:kindOf st=oneType')(G:Go κ p q N o i j):wpS (model prog w) A E s (l1 p q mg o i j) (λc t=>t=st/\Ok6 κ p q (N+1) c) st:=by
 unfold l1;refine wpS_forRange (I:=λy c t=>t=st/\c.1=none/\Ok6 κ p q (N+y) c) ?_ ?_ ⟨rfl,rfl,G⟩
 .rintro y ⟨c1,o,i,j,ca,cb⟩ t _ hy ⟨rfl,e,G⟩;dsimp only at e;subst e;refine wpS_mono (zdX T hk (show Go κ p q (N+y) o i j from G)) ?_;rintro(⟨c1,o,i,j,ca,cb⟩|⟨c1,o,i,j,ca,cb⟩) t' ⟨rfl,G'⟩
  .cases c1 with
   |some r=>exact⟨rfl,G'⟩
   |none=>exact⟨rfl,jo (show Go κ p q _ o i j from G') (vd (v8 _ _))⟩
  .exact ⟨rfl,G'⟩
 .rintro ⟨c1,o,i,j,ca,cb⟩ t ⟨rfl,e,G⟩;dsimp only at e;subst e;have p1:=T.p1;exact⟨rfl,jo (show Go κ p q _ o i j from G) ()⟩
theorem zd0{o:AK}{i j mg ca cb N:Nat}(T:Two κ p q)(hk:kindOf st=oneType')(G:Go κ p q N o i j):wpS (model prog w) A E s (l2 p q o i j mg ca cb) (λc t=>Sm t st/\Ok7 κ p q N c) st:=by
 unfold l2;refine wpS_forRange (I:=λ_ c t=>Sm t st/\c.1=none/\Ok7 κ p q N c) ?_ (λc t h=>⟨h.1,h.2.2⟩) ⟨Sm.refl _,rfl,G⟩;rintro y ⟨c1,o,i,j,mg,ca,cb⟩ t _ hy ⟨S,e,G⟩;dsimp only at e;subst e;have G:Go κ p q N o i j:=G;refine zZ (λ_=>wpS_mono (zan T (S.k.trans hk) G) ?_) (λ_=>wpS_mono (zan T (S.k.trans hk) G) ?_)
 all_goals
  rintro(⟨c1,o,i,j,mg,ca,cb⟩|⟨c1,o,i,j,mg,ca,cb⟩) t' ⟨S',G'⟩
  .cases c1 with
   |some r=>exact⟨S'.trans S,G'⟩
   |none=>exact⟨S'.trans S,jo (show Go κ p q _ o i j from G') (v7 _)⟩
  .obtain ⟨e,G'⟩:=G';dsimp only at e;subst e;exact⟨S'.trans S,rfl,jo (show Go κ p q _ o i j from G') (v7 _)⟩
def St5(κ:PyProof.Rows.KeyKind)(p q:AK)(N:Nat)(c:ForInStep G5):Prop:=match c with
 |.done c=>∃r,c.1=some r/\Mgd κ p q r
 |.yield c=>c.1=none/\Ok5 κ p q N c
theorem zd1{c:G7}{N:Nat}(G:Ok7 κ p q N c):wpS (model prog w) A E s (o2 c) (λc t=>Sm t st/\St5 κ p q N c) st:=by
 obtain⟨c1,o,i,j,mg,ca,cb⟩:=c;cases c1 with
 |some r=>exact wpS_pure ⟨Sm.refl _,r,rfl,G⟩
 |none=>exact wpS_bind (qw λt S=>wpS_pure ⟨S,rfl,G⟩)
theorem zd2{c:G6}{mg N:Nat}(T:Two κ p q)(hk:kindOf st=oneType')(G:Ok6 κ p q N c):wpS (model prog w) A E s (o1 p q mg c) (λc t=>Sm t st/\St5 κ p q N c) st:=by
 obtain⟨c1,o,i,j,ca,cb⟩:=c;cases c1 with
 |some r=>exact wpS_pure ⟨Sm.refl _,r,rfl,G⟩
 |none=>exact wpS_bind (wpS_lift (wpAny_rule ⟨rfl,wpS_bind (wpS_mono (zd0 T hk G) λd t h=>wpS_mono (zd1 h.2) λc t' z=>⟨z.1.trans h.1,z.2⟩)⟩))
theorem zd3{o:AK}{i j mg:Nat}(T:Two κ p q)(hk:kindOf st=oneType')(G:Go κ p q 1 o i j):wpS (model prog w) A E s (lo p q (none,o,i,j,mg)) (λc t=>Sm t st/\∃r,c.1=some r/\Mgd κ p q r) st:=by
 unfold lo;refine wpS_forRange (I:=λx c t=>Sm t st/\c.1=none/\Ok5 κ p q (x+1) c) ?_ ?_ ⟨Sm.refl _,rfl,G⟩
 .rintro x ⟨c1,o,i,j,mg⟩ t _ hx ⟨S,e,G⟩;dsimp only at e;subst e;refine wpS_bind (wpS_mono (zdZ T (S.k.trans hk) (show Go κ p q (x+1) o i j from G)) ?_);rintro d t' ⟨rfl,G'⟩;refine wpS_mono (zd2 T (S.k.trans hk) G') ?_;rintro(c|c) t' ⟨S',G''⟩
  .exact ⟨S'.trans S,G''⟩
  .exact ⟨S'.trans S,G''⟩
 .rintro ⟨c1,o,i,j,mg⟩ t ⟨S,e,G⟩;dsimp only at e;subst e;obtain⟨_,a,b,d⟩:Go κ p q _ o i j:=G;lia
theorem zcS{Q:AK->SortSt->Prop}(T:Two κ p q)(hk:kindOf st=oneType')(h:∀r t,Sm t st->Mgd κ p q r->Q r t):wpS (model prog w) A E s (mlo p q) Q st:=by
 rw[zdY];have p1:=T.p1;have q1:=T.q1;obtain⟨b0,eb0⟩:=some_at (xs:=q) (i:=0) (by assumption);refine wpS_bind (wpS_lift (wpAny_rule ⟨rfl,wpS_bind (yd eb0 ?_)⟩));have M0:ML κ p.toList q.toList #[] 0 0:=⟨List.Pairwise.nil,λx hx=>(kN hx).elim,List.Perm.refl _,rfl⟩;have M1:ML κ p.toList q.toList #[b0] 0 1:=M0.takeQ T.sq (at_l eb0) λy hy=>T.first b0 eb0 y (uQ hy);refine zZ (λg=>wpS_pure (h _ _ (Sm.refl _) (M1.fin T.sp T.sq (.inl (beq_iff_eq.mp g))))) λg1=>zZ (λg=>wpS_pure (h _ _ (Sm.refl _) (M1.fin2 T.sp T.sq (wJ T (beq_iff_eq.mp g))))) λg2=>wpS_bind (wpS_get (wpS_bind (wpS_mono (zd3 T hk ⟨M1,?_,?_,kc _⟩) ?_)))
 .have:¬0+1=p.size:=λz=>g2 (beq_iff_eq.mpr z);lia
 .have:¬1=q.size:=λz=>g1 (beq_iff_eq.mpr z);lia
 .rintro ⟨c1,c2⟩ t ⟨S,r,e,m⟩;dsimp only at e;subst e;exact wpS_pure (h r t S m)
end
section
variable{κ:PyProof.Rows.KeyKind}
theorem xN{l:List Keyed}{i:Nat}{p x:Keyed}(so:_Srt κ l)(e:l[i]?=some p)(h:le κ p x):∀y∈l.take (i+1),le κ y x:=λy hy=>by
 obtain⟨m,hm⟩:=vM hy;rw[vV]at hm;split at hm
 case isFalse=>cases hm
 case isTrue hmi =>
 by_cases z:m=i
 .subst z;rw[e]at hm;rw[<-Option.some.inj hm];exact h
 .obtain ⟨h1,e1⟩:=kh.mp e;obtain⟨h2,e2⟩:=kh.mp hm;have:=ug.mp so m i h2 h1 ();rw[e1,e2]at this;exact le_trans this h
theorem take_snoc{l:List Keyed}{i:Nat}{p:Keyed}(e:l[i]?=some p):l.take (i+1)=l.take i++[p]:=by
 obtain⟨h1,e1⟩:=kh.mp e;rw[List.take_succ_eq_append_getElem h1,e1]
structure MH(κ:PyProof.Rows.KeyKind)(p q:List Keyed)(o:Array Keyed)(i j:Nat):Prop where
 so:_Srt κ o.toList.reverse
 le:∀x∈o.toList,∀y,(y∈p.take i\/y∈q.take j)->le κ y x
 pm:((p.take i++q.take j)++o.toList.reverse).Perm (p++q)
 n:o.size+i+j=p.length+q.length
theorem MH.takeP{p q:List Keyed}{o:Array Keyed}{i j:Nat}{a:Keyed}(M:MH κ p q o (i+1) j)(sp:_Srt κ p)(e:p[i]?=some a)(h:∀y∈q.take j,_Tim.le κ y a):MH κ p q (o.push a) i j:=by
 have d:=take_snoc e;have ma:a∈p.take (i+1):=by rw[d];exact kG _ ke
 refine⟨?_,?_,?_,?_⟩
 .rw [Array.toList_push,bi];exact uj.mpr ⟨λx hx=>M.le x (uV.mp hx) a (.inl ma),M.so⟩
 .intro x hx y hy;rw[Array.toList_push]at hx;rcases kQ.mp hx with hx|hx
  .refine M.le x hx y (hy.imp (λz=>?_) id);rw[d];exact kU _ z
  .rw [kj.mp hx];rcases hy with hy|hy
   .exact xN sp e (le_rfl a) y (by rw[d];exact kU _ hy)
   .exact h y hy
 .have:=M.pm;rw[d]at this;rw[Array.toList_push,bi];refine List.Perm.trans ?_ this;show(p.take i++q.take j++a::o.toList.reverse).Perm _;rw[kY,kY,kY];refine List.Perm.append_left _ ?_;exact List.perm_middle
 .have:=M.n;rw[Array.size_push];lia
theorem MH.takeQ{p q:List Keyed}{o:Array Keyed}{i j:Nat}{b:Keyed}(M:MH κ p q o i (j+1))(sq:_Srt κ q)(e:q[j]?=some b)(h:∀y∈p.take i,_Tim.le κ y b):MH κ p q (o.push b) i j:=by
 have d:=take_snoc e;have mb:b∈q.take (j+1):=by rw[d];exact kG _ ke
 refine⟨?_,?_,?_,?_⟩
 .rw [Array.toList_push,bi];exact uj.mpr ⟨λx hx=>M.le x (uV.mp hx) b (.inr mb),M.so⟩
 .intro x hx y hy;rw[Array.toList_push]at hx;rcases kQ.mp hx with hx|hx
  .refine M.le x hx y (hy.imp id (λz=>?_));rw[d];exact kU _ z
  .rw [kj.mp hx];rcases hy with hy|hy
   .exact h y hy
   .exact xN sq e (le_rfl b) y (by rw[d];exact kU _ hy)
 .have:=M.pm;rw[d]at this;rw[Array.toList_push,bi];refine List.Perm.trans ?_ this;show(p.take i++q.take j++([b]++o.toList.reverse)).Perm _;rw[<-kY,<-kY]
 .have:=M.n;rw[Array.size_push];lia
theorem WM{p:Array Keyed}{m i:Nat}(h:m<i)(hi:i<=p.size):(p.extract m i).reverse=(p.extract (m+1) i).reverse.push p[m]:=by
 apply Array.ext';rw[Array.toList_push,Array.toList_reverse,Array.toList_reverse,Array.toList_extract,Array.toList_extract,uh,uh,vQ (by rw[Array.length_toList];lia),show i-m=(i-(m+1))+1 by lia,List.take_succ_cons,List.reverse_cons];rfl
theorem MH.takePs{p q:Array Keyed}{o:Array Keyed}{j:Nat}(sp:_Srt κ p.toList):∀k i,MH κ p.toList q.toList o (i+k) j->i+k<=p.size->(∀m a,i<=m->m<i+k->p[m]?=some a->∀y∈q.toList.take j,_Tim.le κ y a)->MH κ p.toList q.toList (o++(p.extract i (i+k)).reverse) i j
 |0,i,M,_,_=>by
  have e:o++(p.extract i (i+0)).reverse=o:=by simp;lia
  rw[e];exact M
 |k+1,i,M,hk,h=>by
  have ih:=MH.takePs sp k (i+1) (by rw[show i+1+k=i+(k+1)by lia];exact M) () λm a h1 h2=>h m a () ();rw[show i+1+k=i+(k+1)by lia]at ih;rw[WM () hk,qv];exact ih.takeP sp (by rw[Array.getElem?_toList];exact getElem?_pos p _ ()) (h i _ () () (getElem?_pos p _ ()))
theorem MH.takeQs{p q:Array Keyed}{o:Array Keyed}{i:Nat}(sq:_Srt κ q.toList):∀k j,MH κ p.toList q.toList o i (j+k)->j+k<=q.size->(∀m b,j<=m->m<j+k->q[m]?=some b->∀y∈p.toList.take i,_Tim.le κ y b)->MH κ p.toList q.toList (o++(q.extract j (j+k)).reverse) i j
 |0,j,M,_,_=>by
  have e:o++(q.extract j (j+0)).reverse=o:=by simp;lia
  rw[e];exact M
 |k+1,j,M,hk,h=>by
  have ih:=MH.takeQs sq k (j+1) (by rw[show j+1+k=j+(k+1)by lia];exact M) () λm a h1 h2=>h m a () ();rw[show j+1+k=j+(k+1)by lia]at ih;rw[WM () hk,qv];exact ih.takeQ sq (by rw[Array.getElem?_toList];exact getElem?_pos q _ ()) (h j _ () () (getElem?_pos q _ ()))
theorem YC(p:Array Keyed)(i:Nat):(p.extract 0 i).toList=p.toList.take i:=by
 rw[Array.toList_extract,uh];rfl
theorem xO{l:List Keyed}(i:Nat)(so:_Srt κ l):_Srt κ (l.take i):=so.sublist (List.take_sublist i l)
theorem MH.fin{p q o:Array Keyed}{i j:Nat}(M:MH κ p.toList q.toList o i j)(sp:_Srt κ p.toList)(sq:_Srt κ q.toList)(h:i=0\/j=0):Mgd κ p q (p.extract 0 i++q.extract 0 j++o.reverse):=by
 have e:(p.extract 0 i++q.extract 0 j++o.reverse).toList=(p.toList.take i++q.toList.take j)++o.toList.reverse:=by
  rw[Array.toList_append,Array.toList_append,YC,YC,Array.toList_reverse]
 refine⟨?_,by rw[e];exact M.pm⟩;rw[e];refine vt.mpr ⟨?_,M.so,λx hx y hy=>M.le y (uV.mp hy) x (kQ.mp hx)⟩;refine vt.mpr ⟨xO i sp,xO j sq,λx hx y hy=>?_⟩;rcases h with h|h
 .rw [h]at hx;exact(kN hx).elim
 .rw [h]at hy;exact(kN hy).elim
theorem MH.fin2{p q o:Array Keyed}{i j:Nat}(M:MH κ p.toList q.toList o i j)(sp:_Srt κ p.toList)(sq:_Srt κ q.toList)(h:∀x∈q.toList.take j,∀y∈p.toList,_Tim.le κ x y):Mgd κ p q (q.extract 0 j++p.extract 0 i++o.reverse):=by
 have e:(q.extract 0 j++p.extract 0 i++o.reverse).toList=(q.toList.take j++p.toList.take i)++o.toList.reverse:=by
  rw[Array.toList_append,Array.toList_append,YC,YC,Array.toList_reverse]
 refine⟨?_,?_⟩
 .rw [e];refine vt.mpr ⟨?_,M.so,λx hx y hy=>M.le y (uV.mp hy) x ((kQ.mp hx).symm)⟩;exact vt.mpr ⟨xO j sq,xO i sp,λx hx y hy=>h x hx y (uv hy)⟩
 .rw [e];exact(List.Perm.append_right _ u8).trans M.pm
end
abbrev H7:=Option AK×Nat×Nat×AK×Nat×Nat×Nat
def h3(p q:AK)(i j:Nat)(o:AK)(mg ca cb:Nat):SM (ForInStep H7):=do
 let x <-elem' p (i-1)
 if(i-1==0)=true then pure (.done (some (p.extract 0 (i-1)++q.extract 0 j++(o.push x).reverse),i-1,j,o.push x,mg,ca,cb))
 else if(decide (ca<7)&&decide (cb<7))=true then pure (.done (none,i-1,j,o.push x,mg,ca,cb))
 else pure (.yield (none,i-1,j,o.push x,mg,ca,cb))
def h2(p q:AK)(i j:Nat)(o:AK)(mg ca c0:Nat):SM (ForInStep H7):=do
 let y <-elem' q (j-1)
 if(j-1==1)=true then pure (.done (some (q.extract 0 (j-1)++p.extract 0 i++(o.push y).reverse),i,j-1,o.push y,mg,ca,c0))
 else do
  let x <-elem' p (i-1)
  let r <-gal true x q 0 (j-1) (j-1-1)
  match r with
  |some m=>if j-1-m>0 then(if(m==1)=true then pure (.done (some (q.extract 0 m++p.extract 0 i++(o.push y++(q.extract m (j-1)).reverse).reverse),i,m,o.push y++(q.extract m (j-1)).reverse,mg,ca,j-1-m))
    else if(m==0)=true then pure (.done (some (p.extract 0 i++q.extract 0 m++(o.push y++(q.extract m (j-1)).reverse).reverse),i,m,o.push y++(q.extract m (j-1)).reverse,mg,ca,j-1-m))
    else h3 p q i m (o.push y++(q.extract m (j-1)).reverse) mg ca (j-1-m))else h3 p q i (j-1) (o.push y) mg ca (j-1-m)
  |_=>pure (.done (some (p.extract 0 i++q.extract 0 (j-1)++(o.push y).reverse),i,j-1,o.push y,mg,ca,c0))
def h1(p q:AK)(i j:Nat)(o:AK)(mg d0 c0:Nat):SM (ForInStep H7):=do
 setG mg
 let y <-elem' q (j-1)
 let r <-gal false y p 0 i (i-1)
 match r with
 |some m=>if i-m>0 then(if(m==0)=true then pure (.done (some (p.extract 0 m++q.extract 0 j++(o++(p.extract m i).reverse).reverse),m,j,o++(p.extract m i).reverse,mg,i-m,c0))
   else h2 p q m j (o++(p.extract m i).reverse) mg (i-m) c0)else h2 p q i j o mg (i-m) c0
 |_=>pure (.done (some (p.extract 0 i++q.extract 0 j++o.reverse),i,j,o,mg,d0,c0))
def HGo(κ:PyProof.Rows.KeyKind)(p q:AK)(N i j:Nat)(o:AK):Prop:=MH κ p.toList q.toList o i j/\1<=i/\1<j/\N<=o.size/\i<=p.size/\j<=q.size
def OkH7(κ:PyProof.Rows.KeyKind)(p q:AK)(N:Nat)(c:H7):Prop:=match c.1 with
 |some r=>Mgd κ p q r
 |none=>HGo κ p q N c.2.1 c.2.2.1 c.2.2.2.1
def StH7(κ:PyProof.Rows.KeyKind)(p q:AK)(N:Nat)(c:ForInStep H7):Prop:=match c with
 |.done c=>OkH7 κ p q N c
 |.yield c=>c.1=none/\OkH7 κ p q N c
section
variable{prog:Program}{w:World}{A:Around}{E:Value->Shared->Prop}{s:Shared}{κ:PyProof.Rows.KeyKind}
theorem x4{p q:AK}(T:Two κ p q):∀x∈q.toList.take 1,∀y∈p.toList,le κ x y:=λx hx y hy=>by
 obtain⟨m,hm⟩:=vM hx;rw[vV]at hm;split at hm
 case isFalse=>cases hm
 case isTrue hmi =>
 obtain rfl:m=0:=()
 exact T.first x (by rw[<-Array.getElem?_toList];exact hm) y hy
theorem zao{st:SortSt}{p q o:AK}{i j mg ca cb N:Nat}(T:Two κ p q)(M:MH κ p.toList q.toList o (i+1) j)(hi:i+1<=p.size)(hj:1<j)(hj2:j<=q.size)(hN:N<=o.size+1)(h:∀x,p[i]?=some x->∀y∈q.toList.take j,le κ y x):
  wpS (model prog w) A E s (h3 p q (i+1) j o mg ca cb) (λc t=>t=st/\StH7 κ p q N c) st:=by
 unfold h3;simp only[Nat.add_sub_cancel];obtain⟨x,ex⟩:=some_at (xs:=p) (i:=i) (by assumption);refine wpS_bind (yd ex ?_);have M2:=M.takeP T.sp (at_l ex) (h x ex);by_cases g:i=0
 .rw [if_pos (beq_iff_eq.mpr g)];exact wpS_pure ⟨rfl,M2.fin T.sp T.sq (.inl g)⟩
 .rw [if_neg (λz=>g (beq_iff_eq.mp z))];have G:HGo κ p q N i j (o.push x):=⟨M2,(),hj,by rw[Array.size_push];exact hN,(),hj2⟩;cases (decide (ca<7)&&decide (cb<7))with
  |true =>
   rw[if_pos rfl];exact wpS_pure ⟨rfl,G⟩
  |false =>
   rw[if_neg ⋯];exact wpS_pure ⟨rfl,rfl,G⟩
theorem zap{st:SortSt}{p q o:AK}{i j mg ca c0 N:Nat}(T:Two κ p q)(hk:kindOf st=oneType')(M:MH κ p.toList q.toList o (i+1) (j+1))(hi:i+1<=p.size)(hj:1<j+1)(hj2:j+1<=q.size)(hN:N<=o.size+1)(h:∀y,q[j]?=some y->∀x∈p.toList.take (i+1),le κ x y):
  wpS (model prog w) A E s (h2 p q (i+1) (j+1) o mg ca c0) (λc t=>t=st/\StH7 κ p q N c) st:=by
 unfold h2;simp only[Nat.add_sub_cancel];obtain⟨y,ey⟩:=some_at (xs:=q) (i:=j) (by assumption);refine wpS_bind (yd ey ?_);have M2:=M.takeQ T.sq (at_l ey) (h y ey);by_cases g:j=1
 .rw [if_pos (beq_iff_eq.mpr g)];exact wpS_pure ⟨rfl,M2.fin2 T.sp T.sq (by rw[g];exact x4 T)⟩
 .rw [if_neg (λz=>g (beq_iff_eq.mp z))];obtain⟨x,ex⟩:=some_at (xs:=p) (i:=i) (by assumption);refine wpS_bind (yd ex (wpS_bind (jU T.O hk T.gq (xu T.gp ex) () (by omega) (λa b _ h1 h2=>YB T.sq h1 ()) λm hm lo hi2=>?_)));dsimp only;simp only[ur]at lo hi2;have M3:=MH.takeQs (p:=p) (q:=q) (o:=o.push y) (i:=i+1) T.sq (j-m) m (by rw[show m+(j-m)=j by lia];exact M2) () λu b h1 h2 eb z hz=>by
   have:=hi2 u h1 ();rw[yv eb]at this;exact xN T.sp (at_l ex) this z hz
  rw[show m+(j-m)=j by lia]at M3;have nx:∀x',p[i]?=some x'->∀z∈q.toList.take m,le κ z x':=λx' ex' z hz=>by
   rw[ex]at ex';obtain rfl:=Option.some.inj ex';obtain⟨u,hu⟩:=vM hz;rw[vV]at hu;split at hu
   case isFalse=>cases hu
   case isTrue hum =>
   have:=lo u hum;rw[yv (by rw[<-Array.getElem?_toList];exact hu)]at this;exact KeyOrd.kle_of_klt this
  by_cases g1:j-m>0
  .rw [if_pos g1];by_cases g2:m=1
   .rw [if_pos (beq_iff_eq.mpr g2)];exact wpS_pure ⟨rfl,M3.fin2 T.sp T.sq (by rw[g2];exact x4 T)⟩
   .rw [if_neg (λz=>g2 (beq_iff_eq.mp z))];by_cases g3:m=0
    .rw [if_pos (beq_iff_eq.mpr g3)];exact wpS_pure ⟨rfl,M3.fin T.sp T.sq (.inr g3)⟩
    .rw [if_neg (λz=>g3 (beq_iff_eq.mp z))];refine zao T M3 hi () () ?_ nx;rw[Array.size_append,Array.size_push];lia
  .rw [if_neg g1];obtain rfl:m=j:=()
   refine zao T M2 hi () () ?_ nx;rw[Array.size_push];lia
theorem zaq{st:SortSt}{p q o:AK}{i j mg d0 c0 N:Nat}(T:Two κ p q)(hk:kindOf st=oneType')(G:HGo κ p q N i j o):
  wpS (model prog w) A E s (h1 p q i j o mg d0 c0) (λc t=>Sm t st/\StH7 κ p q (N+1) c) st:=by
 obtain⟨M,hi,hj,hN,hi2,hj2⟩:=G;unfold h1;refine wpS_bind (qw λt S=>?_);have hk:=S.k.trans hk;obtain⟨j,rfl⟩:∃j',j=j'+1:=⟨j-1,()⟩;simp only[Nat.add_sub_cancel];obtain⟨y,ey⟩:=some_at (xs:=q) (i:=j) (by assumption);refine wpS_bind (yd ey (wpS_bind (jV T.O hk T.gp (xu T.gq ey) () (by omega) (λa b _ h1 h2=>YB T.sp h1 ()) λm hm lo hi3=>?_)));dsimp only;simp only[ur]at lo hi3;have M3:=MH.takePs (p:=p) (q:=q) (o:=o) (j:=j+1) T.sp (i-m) m (by rw[show m+(i-m)=i by lia];exact M) () λu a h1 h2 ea z hz=>by
  have:=hi3 u h1 ();rw[yv ea]at this;exact xN T.sq (at_l ey) (KeyOrd.kle_of_klt this) z hz
 rw[show m+(i-m)=i by lia]at M3;have nx:∀y',q[j]?=some y'->∀z∈p.toList.take m,le κ z y':=λy' ey' z hz=>by
  rw[ey]at ey';obtain rfl:=Option.some.inj ey';obtain⟨u,hu⟩:=vM hz;rw[vV]at hu;split at hu
  case isFalse=>cases hu
  case isTrue hum =>
  have:=lo u hum;rw[yv (by rw[<-Array.getElem?_toList];exact hu)]at this;exact this
 have up:∀{c:ForInStep H7}{t':SortSt},t'=t/\StH7 κ p q (N+1) c->Sm t' st/\StH7 κ p q (N+1) c:=λ{c t'} z=>⟨z.1 ▸ S,z.2⟩;by_cases g1:i-m>0
 .rw [if_pos g1];by_cases g2:m=0
  .rw [if_pos (beq_iff_eq.mpr g2)];exact wpS_pure ⟨S,M3.fin T.sp T.sq (.inl g2)⟩
  .rw [if_neg (λz=>g2 (beq_iff_eq.mp z))];obtain⟨m,rfl⟩:∃m',m=m'+1:=⟨m-1,()⟩;refine wpS_mono (zap T hk M3 () hj hj2 ?_ nx) λ_ _=>up;rw[Array.size_append];lia
 .rw [if_neg g1];obtain rfl:m=i:=()
  obtain⟨m,rfl⟩:∃m',m=m'+1:=⟨m-1,()⟩;exact wpS_mono (zap T hk M (by omega) hj hj2 () nx) λ_ _=>up
abbrev H6:=Option AK×Nat×Nat×AK×Nat×Nat
abbrev H5:=Option AK×Nat×Nat×AK×Nat
def OkH6(κ:PyProof.Rows.KeyKind)(p q:AK)(N:Nat)(c:H6):Prop:=match c.1 with
 |some r=>Mgd κ p q r
 |none=>HGo κ p q N c.2.1 c.2.2.1 c.2.2.2.1
def OkH5(κ:PyProof.Rows.KeyKind)(p q:AK)(N:Nat)(c:H5):Prop:=match c.1 with
 |some r=>Mgd κ p q r
 |none=>HGo κ p q N c.2.1 c.2.2.1 c.2.2.2.1
theorem qx{p q o:AK}{N N' i j:Nat}(h:HGo κ p q N i j o)(l:N'<=N):HGo κ p q N' i j o:=⟨h.1,h.2.1,h.2.2.1,kn l h.2.2.2.1,h.2.2.2.2⟩
end
def e1t(p q:AK)(mg i j:Nat)(o:AK)(ca:Nat):SM (ForInStep H6):=do
 let x <-elem' p (i-1)
 if(i-1==0)=true then pure (.done (some (p.extract 0 (i-1)++q.extract 0 j++(o.push x).reverse),i-1,j,o.push x,ca+1,0))
 else if ca+1≥mg then pure (.done (none,i-1,j,o.push x,ca+1,0))else pure (.yield (none,i-1,j,o.push x,ca+1,0))
def e1f(p q:AK)(mg i j:Nat)(o:AK)(cb:Nat):SM (ForInStep H6):=do
 let y <-elem' q (j-1)
 if(j-1==1)=true then pure (.done (some (q.extract 0 (j-1)++p.extract 0 i++(o.push y).reverse),i,j-1,o.push y,0,cb+1))
 else if cb+1≥mg then pure (.done (none,i,j-1,o.push y,0,cb+1))else pure (.yield (none,i,j-1,o.push y,0,cb+1))
def e1(p q:AK)(mg i j:Nat)(o:AK)(ca cb:Nat):SM (ForInStep H6):=do
 let y <-elem' q (j-1)
 let x <-elem' p (i-1)
 let r <-lt' y x
 match r with
 |some b=>if b=true then e1t p q mg i j o ca else e1f p q mg i j o cb
 |_=>pure (.done (some (p.extract 0 i++q.extract 0 j++o.reverse),i,j,o,ca,cb))
def StH6(κ:PyProof.Rows.KeyKind)(p q:AK)(N:Nat)(c:ForInStep H6):Prop:=match c with
 |.done c=>OkH6 κ p q N c
 |.yield c=>c.1=none/\OkH6 κ p q N c
def k1(p q:AK)(mg i j:Nat)(o:AK):SM H6:=forIn [0:p.size+q.size] ((none,i,j,o,0,0):H6) λ_ c=>e1 p q mg c.2.1 c.2.2.1 c.2.2.2.1 c.2.2.2.2.1 c.2.2.2.2.2
def k2(p q:AK)(i j:Nat)(o:AK)(mg ca cb:Nat):SM H7:=forIn [0:p.size+q.size] ((none,i,j,o,mg,ca,cb):H7) λ_ c=>if c.2.2.2.2.1>1 then h1 p q c.2.1 c.2.2.1 c.2.2.2.1 (c.2.2.2.2.1-1) c.2.2.2.2.2.1 c.2.2.2.2.2.2 else h1 p q c.2.1 c.2.2.1 c.2.2.2.1 c.2.2.2.2.1 c.2.2.2.2.2.1 c.2.2.2.2.2.2
def u2(c:H7):SM (ForInStep H5):=match c.1 with
 |some r=>pure (.done (some r,c.2.1,c.2.2.1,c.2.2.2.1,c.2.2.2.2.1))
 |none=>do
  setG (c.2.2.2.2.1+1)
  pure (.yield (none,c.2.1,c.2.2.1,c.2.2.2.1,c.2.2.2.2.1+1))
def u1(p q:AK)(mg:Nat)(c:H6):SM (ForInStep H5):=match c.1 with
 |some r=>pure (.done (some r,c.2.1,c.2.2.1,c.2.2.2.1,mg))
 |none=>do
  liftM (rule "list.sort.gallop")
  let d <-k2 p q c.2.1 c.2.2.1 c.2.2.2.1 (mg+1) c.2.2.2.2.1 c.2.2.2.2.2
  u2 d
def ho(p q:AK)(c:H5):SM H5:=forIn [0:p.size+q.size] c λ_ c=>do
 let d <-k1 p q c.2.2.2.2 c.2.1 c.2.2.1 c.2.2.2.1
 u1 p q c.2.2.2.2 d
def hend(c:H5):SM AK:=match c.1 with
 |some r=>pure r
 |none=>liftM (unsupported "internal:list.sort.merge-bound" : Sem AK)
theorem zd4(p q:AK):mhi p q=(do
 liftM (rule "list.sort.merge-hi")
 let a <-elem' p (p.size-1)
 if(p.size-1==0)=true then pure (p.extract 0 (p.size-1)++q.extract 0 q.size++#[a].reverse)
 else if(q.size==1)=true then pure (q.extract 0 q.size++p.extract 0 (p.size-1)++#[a].reverse)
 else do
  let t <-get
  let c <-ho p q (none,p.size-1,q.size,#[a],gallopOf t)
  hend c):=by kernel_rfl
section
variable{prog:Program}{w:World}{A:Around}{E:Value->Shared->Prop}{s:Shared}{κ:PyProof.Rows.KeyKind}{p q:AK}{st:SortSt}
theorem zd5{o:AK}{mg i j ca cb N:Nat}(T:Two κ p q)(hk:kindOf st=oneType')(G:HGo κ p q N i j o):wpS (model prog w) A E s (e1 p q mg i j o ca cb) (λc t=>t=st/\StH6 κ p q (N+1) c) st:=by
 obtain⟨M,a,b,d,i2,j2⟩:=G;obtain⟨i,rfl⟩:∃i',i=i'+1:=⟨i-1,()⟩;obtain⟨j,rfl⟩:∃j',j=j'+1:=⟨j-1,()⟩;unfold e1;obtain⟨v,ev⟩:=some_at (xs:=q) (i:=j) j2;obtain⟨u,eu⟩:=some_at (xs:=p) (i:=i) i2;refine wpS_bind (yd ev (wpS_bind (yd eu (wpS_bind (Zl T.O hk (xu T.gq ev) (xu T.gp eu) ?_)))));dsimp only;cases e:κ.blt (ky κ v) (ky κ u)with
 |true =>
  have M2:=M.takeP T.sp (at_l eu) λz hz=>xN T.sq (at_l ev) (KeyOrd.kle_of_klt e) z hz;refine zam rfl (wpS_bind (yd eu (zZ (λg=>wpS_pure ⟨rfl,M2.fin T.sp T.sq (.inl (beq_iff_eq.mp g))⟩) λg=>?_)));have G2:HGo κ p q (N+1) i (j+1) (o.push u):=⟨M2,uX λz=>g (beq_iff_eq.mpr z),b,by rw[Array.size_push];exact vd d,ud i2,j2⟩;exact zZ (λ_=>wpS_pure ⟨rfl,G2⟩) λ_=>wpS_pure ⟨rfl,rfl,G2⟩
 |false =>
  have M2:=M.takeQ T.sq (at_l ev) λz hz=>xN T.sp (at_l eu) e z hz;refine jb ⋯ (wpS_bind (yd ev (zZ (λg=>wpS_pure ⟨rfl,M2.fin2 T.sp T.sq (by rw[show j=1 from beq_iff_eq.mp g];exact x4 T)⟩) λg=>?_)));have g:¬j=1:=λz=>g (beq_iff_eq.mpr z);have G2:HGo κ p q (N+1) (i+1) j (o.push v):=⟨M2,a,(),by rw[Array.size_push];exact vd d,i2,ud j2⟩;exact zZ (λ_=>wpS_pure ⟨rfl,G2⟩) λ_=>wpS_pure ⟨rfl,rfl,G2⟩
theorem zd6{o:AK}{i j mg N:Nat}(T:Two κ p q)(hk:kindOf st=oneType')(G:HGo κ p q N i j o):wpS (model prog w) A E s (k1 p q mg i j o) (λc t=>t=st/\OkH6 κ p q (N+1) c) st:=by
 unfold k1;refine wpS_forRange (I:=λy c t=>t=st/\c.1=none/\OkH6 κ p q (N+y) c) ?_ ?_ ⟨rfl,rfl,G⟩
 .rintro y ⟨c1,i,j,o,ca,cb⟩ t _ hy ⟨rfl,e,G⟩;dsimp only at e;subst e;refine wpS_mono (zd5 T hk (show HGo κ p q (N+y) i j o from G)) ?_;rintro(⟨c1,i,j,o,ca,cb⟩|⟨c1,i,j,o,ca,cb⟩) t' ⟨rfl,G'⟩
  .cases c1 with
   |some r=>exact⟨rfl,G'⟩
   |none=>exact⟨rfl,qx (show HGo κ p q _ i j o from G') (vd (v8 _ _))⟩
  .exact ⟨rfl,G'⟩
 .rintro ⟨c1,i,j,o,ca,cb⟩ t ⟨rfl,e,G⟩;dsimp only at e;subst e;have p1:=T.p1;exact⟨rfl,qx (show HGo κ p q _ i j o from G) ()⟩
theorem zd7{o:AK}{i j mg ca cb N:Nat}(T:Two κ p q)(hk:kindOf st=oneType')(G:HGo κ p q N i j o):wpS (model prog w) A E s (k2 p q i j o mg ca cb) (λc t=>Sm t st/\OkH7 κ p q N c) st:=by
 unfold k2;refine wpS_forRange (I:=λ_ c t=>Sm t st/\c.1=none/\OkH7 κ p q N c) ?_ (λc t h=>⟨h.1,h.2.2⟩) ⟨Sm.refl _,rfl,G⟩;rintro y ⟨c1,i,j,o,mg,ca,cb⟩ t _ hy ⟨S,e,G⟩;dsimp only at e;subst e;have G:HGo κ p q N i j o:=G;refine zZ (λ_=>wpS_mono (zaq T (S.k.trans hk) G) ?_) (λ_=>wpS_mono (zaq T (S.k.trans hk) G) ?_)
 all_goals
  rintro(⟨c1,i,j,o,mg,ca,cb⟩|⟨c1,i,j,o,mg,ca,cb⟩) t' ⟨S',G'⟩
  .cases c1 with
   |some r=>exact⟨S'.trans S,G'⟩
   |none=>exact⟨S'.trans S,qx (show HGo κ p q _ i j o from G') (v7 _)⟩
  .obtain ⟨e,G'⟩:=G';dsimp only at e;subst e;exact⟨S'.trans S,rfl,qx (show HGo κ p q _ i j o from G') (v7 _)⟩
def StH5(κ:PyProof.Rows.KeyKind)(p q:AK)(N:Nat)(c:ForInStep H5):Prop:=match c with
 |.done c=>∃r,c.1=some r/\Mgd κ p q r
 |.yield c=>c.1=none/\OkH5 κ p q N c
theorem zd8{c:H7}{N:Nat}(G:OkH7 κ p q N c):wpS (model prog w) A E s (u2 c) (λc t=>Sm t st/\StH5 κ p q N c) st:=by
 obtain⟨c1,i,j,o,mg,ca,cb⟩:=c;cases c1 with
 |some r=>exact wpS_pure ⟨Sm.refl _,r,rfl,G⟩
 |none=>exact wpS_bind (qw λt S=>wpS_pure ⟨S,rfl,G⟩)
theorem zd9{c:H6}{mg N:Nat}(T:Two κ p q)(hk:kindOf st=oneType')(G:OkH6 κ p q N c):wpS (model prog w) A E s (u1 p q mg c) (λc t=>Sm t st/\StH5 κ p q N c) st:=by
 obtain⟨c1,i,j,o,ca,cb⟩:=c;cases c1 with
 |some r=>exact wpS_pure ⟨Sm.refl _,r,rfl,G⟩
 |none=>exact wpS_bind (wpS_lift (wpAny_rule ⟨rfl,wpS_bind (wpS_mono (zd7 T hk G) λd t h=>wpS_mono (zd8 h.2) λc t' z=>⟨z.1.trans h.1,z.2⟩)⟩))
theorem zea{o:AK}{i j mg:Nat}(T:Two κ p q)(hk:kindOf st=oneType')(G:HGo κ p q 1 i j o):wpS (model prog w) A E s (ho p q (none,i,j,o,mg)) (λc t=>Sm t st/\∃r,c.1=some r/\Mgd κ p q r) st:=by
 unfold ho;refine wpS_forRange (I:=λx c t=>Sm t st/\c.1=none/\OkH5 κ p q (x+1) c) ?_ ?_ ⟨Sm.refl _,rfl,G⟩
 .rintro x ⟨c1,i,j,o,mg⟩ t _ hx ⟨S,e,G⟩;dsimp only at e;subst e;refine wpS_bind (wpS_mono (zd6 T (S.k.trans hk) (show HGo κ p q (x+1) i j o from G)) ?_);rintro d t' ⟨rfl,G'⟩;refine wpS_mono (zd9 T (S.k.trans hk) G') ?_;rintro(c|c) t' ⟨S',G''⟩
  .exact ⟨S'.trans S,G''⟩
  .exact ⟨S'.trans S,G''⟩
 .rintro ⟨c1,i,j,o,mg⟩ t ⟨S,e,G⟩;dsimp only at e;subst e;obtain⟨M,a,b,d,_⟩:HGo κ p q _ i j o:=G;have:=M.n;rw[Array.length_toList,Array.length_toList]at this;lia
theorem zcT{Q:AK->SortSt->Prop}(T:Two κ p q)(hk:kindOf st=oneType')(h:∀r t,Sm t st->Mgd κ p q r->Q r t):wpS (model prog w) A E s (mhi p q) Q st:=by
 rw[zd4];have p1:=T.p1;have q1:=T.q1;obtain⟨a0,ea0⟩:=some_at (xs:=p) (i:=p.size-1) (by omega);refine wpS_bind (wpS_lift (wpAny_rule ⟨rfl,wpS_bind (yd ea0 ?_)⟩));have M0:MH κ p.toList q.toList #[] (p.size-1+1) q.size:=by
  refine⟨List.Pairwise.nil,λx hx=>(kN hx).elim,?_,?_⟩
  .rw [vK (by rw[Array.length_toList];omega),vK (by rw[Array.length_toList];exact kc _)];show(p.toList++q.toList++[]).Perm _;rw[vq]
  .rw [Array.length_toList,Array.length_toList];show 0+_+_=_;lia
 have M1:MH κ p.toList q.toList #[a0] (p.size-1) q.size:=M0.takeP T.sp (at_l ea0) λy hy=>T.last a0 ea0 y (uv hy);refine zZ (λg=>wpS_pure (h _ _ (Sm.refl _) (M1.fin T.sp T.sq (.inl (beq_iff_eq.mp g))))) λg1=>zZ (λg=>wpS_pure (h _ _ (Sm.refl _) (M1.fin2 T.sp T.sq (by rw[beq_iff_eq.mp g];exact x4 T)))) λg2=>wpS_bind (wpS_get (wpS_bind (wpS_mono (zea T hk ⟨M1,?_,?_,kc 1,uB _ _,kc _⟩) ?_)))
 .exact uX λz=>g1 (beq_iff_eq.mpr z)
 .have:¬q.size=1:=λz=>g2 (beq_iff_eq.mpr z);lia
 .rintro ⟨c1,c2⟩ t ⟨S,r,e,m⟩;dsimp only at e;subst e;exact wpS_pure (h r t S m)
end
def asL(lo a n:Nat):SM (Option (Option Nat)×Nat):=forIn [a:n] ((none,a):Option (Option Nat)×Nat) λ_ c=>do
 let r <-ltAt' (lo+c.2) (lo+c.2-1)
 match r with
 |some b=>if b=true then pure (.done (none,c.2))else pure (.yield (none,c.2+1))
 |_=>pure (.done (some none,c.2))
def dsL(lo k n:Nat):SM (Option (Option Nat)×Nat×Nat):=forIn [k:n] ((none,k,0):Option (Option Nat)×Nat×Nat) λ_ c=>do
 let r <-ltAt' (lo+c.2.1) (lo+c.2.1-1)
 match r with
 |some b =>
  if b=true then
   if c.2.2>0 then do
    reverseSlice' (lo+c.2.1-(c.2.2+1)) (lo+c.2.1)
    pure (.yield (none,c.2.1+1,0))
   else pure (.yield (none,c.2.1+1,0))
  else do
   let r <-ltAt' (lo+c.2.1-1) (lo+c.2.1)
   match r with
   |some d=>if d=true then pure (.done (none,c.2.1,c.2.2))else pure (.yield (none,c.2.1+1,c.2.2+1))
   |_=>pure (.done (some none,c.2.1,c.2.2))
 |_=>pure (.done (some none,c.2.1,c.2.2))
structure Inn(κ:PyProof.Rows.KeyKind)(lo:Nat)(st0 st:SortSt):Prop where
 pm:(arrOf st).Perm (arrOf st0)
 k:kindOf st=oneType'
 f:failedOf st=failedOf st0
 p:pendingOf st=pendingOf st0
 pre:∀k,k<lo->(arrOf st)[k]?=(arrOf st0)[k]?
 g:∀x∈(arrOf st0).toList,Gd κ x
def SegK(κ:PyProof.Rows.KeyKind)(xs:AK)(lo n:Nat):Prop:=∀i j,i<=j->j<n->κ.kle (KK κ xs (lo+i)) (KK κ xs (lo+j))
def DecK(κ:PyProof.Rows.KeyKind)(xs:AK)(lo n:Nat):Prop:=∀i j,i<=j->j<n->κ.kle (KK κ xs (lo+j)) (KK κ xs (lo+i))
section
variable{prog:Program}{w:World}{A:Around}{E:Value->Shared->Prop}{s:Shared}{κ:PyProof.Rows.KeyKind}{lo:Nat}{st0 st:SortSt}
theorem Inn.size(I:Inn κ lo st0 st):(arrOf st).size=(arrOf st0).size:=I.pm.size_eq
theorem Inn.set(I:Inn κ lo st0 st){xs:AK}(h:xs.Perm (arrOf st))(h2:∀k,k<lo->xs[k]?=(arrOf st)[k]?):Inn κ lo st0 (setArr st xs) :=
 ⟨h.trans I.pm,I.k,I.f,I.p,λk hk=>(h2 k hk).trans (I.pre k hk),I.g⟩
theorem Inn.rev(I:Inn κ lo st0 st){i j:Nat}(hi:lo<=i)(hj:j<=(arrOf st0).size):Inn κ lo st0 (setArr st (mirror (arrOf st) i j ((j-i) / 2))) :=
 I.set (mirror_perm _ _ _ _) λk hk=>by
  rw[getElem?_mirror_all (by rw[I.size];exact hj),if_neg ()]
theorem Inn.at(I:Inn κ lo st0 st){i:Nat}(h:i<(arrOf st0).size):∃p,(arrOf st)[i]?=some p/\Gd κ p:=by
 obtain⟨p,e⟩:=some_at (xs:=arrOf st) (i:=i) (by rw[I.size];exact h);exact⟨p,e,I.g p ((Array.perm_iff_toList_perm.mp I.pm).mem_iff.mp (kH (at_l e)))⟩
theorem wW{i j:Nat}{Q:Option Bool->SortSt->Prop}(hO:κ.OneLt)(I:Inn κ lo st0 st)(hi:i<(arrOf st0).size)(hj:j<(arrOf st0).size)(h:Q (some (κ.blt (KK κ (arrOf st) i) (KK κ (arrOf st) j))) st):wpS (model prog w) A E s (ltAt' i j) Q st:=by
 obtain⟨x,ex,a,ha⟩:=I.at hi;obtain⟨y,ey,b,hb⟩:=I.at hj;rw[yv ex,yv ey,YA ha,YA hb]at h;exact wpS_ltAtK hO I.k ex ey ha hb h
theorem SegK.snoc{xs:AK}{n:Nat}(h:SegK κ xs lo n)(h1:n=0\/κ.kle (KK κ xs (lo+n-1)) (KK κ xs (lo+n))):SegK κ xs lo (n+1):=λi j hij hj=>by
 by_cases z:j<n
 .exact h i j hij z
 .obtain rfl:j=n:=()
  by_cases y:i=j
  .rw [y];exact KeyOrd.kle_refl _
  .rcases h1 with h1|h1
   .lia
   .have:=h i (j-1) () ();rw[show lo+(j-1)=lo+j-1 by lia]at this;exact KeyOrd.kle_trans this h1
theorem DecK.snoc{xs:AK}{n:Nat}(h:DecK κ xs lo n)(h1:n=0\/κ.kle (KK κ xs (lo+n)) (KK κ xs (lo+n-1))):DecK κ xs lo (n+1):=λi j hij hj=>by
 by_cases z:j<n
 .exact h i j hij z
 .obtain rfl:j=n:=()
  by_cases y:i=j
  .rw [y];exact KeyOrd.kle_refl _
  .rcases h1 with h1|h1
   .lia
   .have:=h i (j-1) () ();rw[show lo+(j-1)=lo+j-1 by lia]at this;exact KeyOrd.kle_trans h1 this
theorem ZR{a n:Nat}{Q:Option (Option Nat)×Nat->SortSt->Prop}(hO:κ.OneLt)(I:Inn κ lo st0 st)(hn:lo+n<=(arrOf st0).size)(h1:1<=a)(h2:a<=n)(hs:SegK κ (arrOf st) lo a)
  (q:∀m,a<=m->m<=n->SegK κ (arrOf st) lo m->(m=n\/κ.klt (KK κ (arrOf st) (lo+m)) (KK κ (arrOf st) (lo+m-1)))->Q (none,m) st):wpS (model prog w) A E s (asL lo a n) Q st:=by
 unfold asL;refine wpS_forRange (I:=λx c t=>t=st/\c=(none,x)/\SegK κ (arrOf st) lo x) ?step ?fin ⟨rfl,rfl,hs⟩
 case fin =>
  rintro c t ⟨rfl,rfl,z⟩;have e:max a n=n:=Nat.max_eq_right h2;rw[e]at z ⊢;exact q n h2 (kc _) z (.inl rfl)
 case step =>
  rintro x c t ha hx ⟨rfl,rfl,z⟩;refine wpS_bind (wW hO I () () ?_);dsimp only;cases e:κ.blt (KK κ (arrOf t) (lo+x)) (KK κ (arrOf t) (lo+x-1))with
  |true=>rw[if_pos rfl];exact wpS_pure (q x ha (vw hx) z (.inr e))
  |false=>rw[if_neg ⋯];exact wpS_pure ⟨rfl,rfl,z.snoc (.inr e)⟩
theorem rv{lo k i:Nat}(h:i<k):lo+(lo+k)-1-(lo+i)=lo+(k-1-i):=()
theorem WN{k:Nat}(I:Inn κ lo st0 st)(hk:lo+k<=(arrOf st0).size)(hs:DecK κ (arrOf st) lo k):SegK κ (arrOf (setArr st (mirror (arrOf st) lo (lo+k) ((lo+k-lo) / 2)))) lo k:=λi j hij hj=>by
 show κ.kle (KK κ (mirror (arrOf st) lo (lo+k) ((lo+k-lo) / 2)) (lo+i)) (KK κ (mirror (arrOf st) lo (lo+k) ((lo+k-lo) / 2)) (lo+j));rw[KK_mirror (by rw[I.size];omega),KK_mirror (by rw[I.size];omega),if_pos ⟨v8 _ _,uU (va hij hj) _⟩,if_pos ⟨v8 _ _,uU hj _⟩,rv (va hij hj),rv hj];exact hs _ _ (by omega) (by omega)
def Eqs(κ:PyProof.Rows.KeyKind)(xs:AK)(lo n e:Nat):Prop:=e+1<=n/\∀k,lo+n-(e+1)<=k->k<lo+n->KK κ xs k=KK κ xs (lo+n-1)
theorem Eqs.zero{xs:AK}{n:Nat}(h:1<=n):Eqs κ xs lo n 0:=⟨h,λk h1 h2=>by rw[show k=lo+n-1 by lia]⟩
theorem zcU{k n:Nat}{Q:Option (Option Nat)×Nat×Nat->SortSt->Prop}(hO:κ.OneLt)(I:Inn κ lo st0 st)(hn:lo+n<=(arrOf st0).size)(h1:1<=k)(h2:k<=n)(hs:DecK κ (arrOf st) lo k)
  (q:∀m e t,Inn κ lo st0 t->k<=m->m<=n->DecK κ (arrOf t) lo m->Eqs κ (arrOf t) lo m e->Q (none,m,e) t):wpS (model prog w) A E s (dsL lo k n) Q st:=by
 unfold dsL;refine wpS_forRange (I:=λx c t=>∃e,c=(none,x,e)/\Inn κ lo st0 t/\DecK κ (arrOf t) lo x/\Eqs κ (arrOf t) lo x e) ?step ?fin ⟨0,rfl,I,hs,Eqs.zero h1⟩
 case fin =>
  intro c t h8;refine E_1 h8 λe n8=>A_4 n8 λe9 J z y=>?_;clear n8 h8;subst e9;have m:max k n=n:=Nat.max_eq_right h2;rw[m]at z y ⊢;exact q n e t J h2 (kc _) z y
 case step =>
  intro x c t hk hx h8;refine E_1 h8 λe n8=>A_4 n8 λe9 J z y=>?_;clear n8 h8;subst e9;dsimp only;refine wpS_bind (wW hO J () () ?_);dsimp only;cases b:κ.blt (KK κ (arrOf t) (lo+x)) (KK κ (arrOf t) (lo+x-1))with
  |true =>
   rw[if_pos rfl];refine zZ (λhe=>?_) (λhe=>?_)
   .refine wpS_bind (wpS_reverse (wpS_pure ⟨0,rfl,J.rev (by have:=y.1;omega) (),?_,Eqs.zero ()⟩));have eq:∀m,KK κ (mirror (arrOf t) (lo+x-(e+1)) (lo+x) ((lo+x-(lo+x-(e+1))) / 2)) m=KK κ (arrOf t) m:=λm=>KK_mirror_equal (by rw[J.size];lia) y.2 m;intro i j hij hj;show κ.kle (KK κ (mirror (arrOf t) (lo+x-(e+1)) (lo+x) ((lo+x-(lo+x-(e+1))) / 2)) (lo+j)) (KK κ (mirror (arrOf t) (lo+x-(e+1)) (lo+x) ((lo+x-(lo+x-(e+1))) / 2)) (lo+i));rw[eq,eq];exact(z.snoc (.inr (KeyOrd.kle_of_klt b))) i j hij hj
   .exact wpS_pure ⟨0,rfl,J,z.snoc (.inr (KeyOrd.kle_of_klt b)),Eqs.zero ()⟩
  |false =>
   rw[if_neg ⋯];refine wpS_bind (wW hO J () () ?_);dsimp only;cases d:κ.blt (KK κ (arrOf t) (lo+x-1)) (KK κ (arrOf t) (lo+x))with
   |true=>rw[if_pos rfl];exact wpS_pure (q x e t J hk () z y)
   |false =>
    rw[if_neg ⋯];have same:KK κ (arrOf t) (lo+x)=KK κ (arrOf t) (lo+x-1):=KeyOrd.kle_antisymm d b;refine wpS_pure ⟨e+1,rfl,J,z.snoc (.inr (by rw[same];exact KeyOrd.kle_refl _)),by have:=y.1;lia,λm h3 h4=>?_⟩;rw[show lo+(x+1)-1=lo+x by lia];by_cases g:m=lo+x
    .rw [g]
    .rw [same];exact y.2 m () ()
theorem zeb{n:Nat}{Q:Option Nat->SortSt->Prop}(hO:κ.OneLt)(I:Inn κ lo st0 st)(hn:lo+n<=(arrOf st0).size)(h1:1<=n)
  (q:∀m t,Inn κ lo st0 t->1<=m->m<=n->SegK κ (arrOf t) lo m->Q (some m) t):wpS (model prog w) A E s (countRun' lo n) Q st:=by
 rw[countRun'_eq];dsimp only;refine wpS_bind (show wpS _ _ _ _ (asL lo 1 n) _ _ from ZR hO I hn (kc 1) h1 (λi j hij hj=>by rw[show i=j by lia];exact KeyOrd.kle_refl _) λm hm1 hm2 sm end_=>?_);dsimp only;by_cases g:m=n
 .rw [if_pos (beq_iff_eq.mpr g)];exact wpS_pure (q m st I hm1 hm2 sm)
 rw[if_neg (λz=>g (beq_iff_eq.mp z))];have lt:=end_.resolve_left g;refine' (λ(go:∀t,Inn κ lo st0 t->DecK κ (arrOf t) lo (m+1)->wpS (model prog w) A E s ?blk Q t)=>?main) ?pf
 case main =>
  by_cases g2:m>1
  .rw [if_pos g2];refine wpS_bind (wW hO I () (by omega) ?_);dsimp only;cases b:κ.blt (KK κ (arrOf st) lo) (KK κ (arrOf st) (lo+m-1))with
   |true=>rw[if_pos rfl];exact wpS_pure (q m st I hm1 hm2 sm)
   |false =>
    rw[if_neg ⋯];have al:∀k,lo<=k->k<lo+m->KK κ (arrOf st) k=KK κ (arrOf st) (lo+m-1):=λk h3 h4=>by
     have a1:=sm 0 (k-lo) () (by omega);have a2:=sm (k-lo) (m-1) () ();rw[show lo+0=lo by lia,show lo+(k-lo)=k by lia]at a1;rw[show lo+(k-lo)=k by lia,show lo+(m-1)=lo+m-1 by lia]at a2;exact KeyOrd.kle_antisymm a2 (KeyOrd.kle_trans b a1)
    refine wpS_bind (wpS_reverse ?_);refine go _ (I.rev (i:=lo) (j:=lo+m) (kc _) ()) ?_;have eq:∀x,KK κ (mirror (arrOf st) lo (lo+m) ((lo+m-lo) / 2)) x=KK κ (arrOf st) x:=λx=>KK_mirror_equal (by rw[I.size];lia) al x;intro i j hij hj;show κ.kle (KK κ (mirror (arrOf st) lo (lo+m) ((lo+m-lo) / 2)) (lo+j)) (KK κ (mirror (arrOf st) lo (lo+m) ((lo+m-lo) / 2)) (lo+i));rw[eq,eq];refine DecK.snoc (n:=m) (λi j hij hj=>?_) (.inr (KeyOrd.kle_of_klt lt)) i j hij hj;rw[al (lo+i) () (),al (lo+j) () ()];exact KeyOrd.kle_refl _
  .rw [if_neg g2];obtain rfl:m=1:=()
   refine go _ I ?_;exact DecK.snoc (n:=1) (λi j hij hj=>by rw[show i=j by lia];exact KeyOrd.kle_refl _) (.inr (KeyOrd.kle_of_klt lt))
 case pf =>
  intro t J hs;refine wpS_bind (wpS_lift (wpAny_rule ⟨rfl,?_⟩));refine wpS_bind (show wpS _ _ _ _ (dsL lo (m+1) n) _ _ from zcU hO J hn () () hs λm e t J h3 h4 z y=>?_);dsimp only;refine zZ (λhe=>?_) (λhe=>?_)
  .have J2:=J.rev (i:=lo+m-(e+1)) (j:=lo+m) (by have:=y.1;omega) ();have eq:∀x,KK κ (mirror (arrOf t) (lo+m-(e+1)) (lo+m) ((lo+m-(lo+m-(e+1))) / 2)) x=KK κ (arrOf t) x:=λx=>KK_mirror_equal (by rw[J.size];lia) y.2 x;refine wpS_bind (wpS_reverse (wpS_bind (wpS_reverse ?_)));refine wpS_bind (show wpS _ _ _ _ (asL lo m n) _ _ from ZR hO (J2.rev (i:=lo) (j:=lo+m) (kc _) ()) hn () h4 (WN J2 () λi j hij hj=>?_) λm' hm1 hm2 sm _=>?_)
   .show κ.kle (KK κ (mirror (arrOf t) (lo+m-(e+1)) (lo+m) ((lo+m-(lo+m-(e+1))) / 2)) (lo+j)) (KK κ (mirror (arrOf t) (lo+m-(e+1)) (lo+m) ((lo+m-(lo+m-(e+1))) / 2)) (lo+i));rw[eq,eq];exact z i j hij hj
   .exact wpS_pure (q m' _ (J2.rev (i:=lo) (j:=lo+m) (kc _) ()) () hm2 sm)
  .refine wpS_bind (wpS_reverse ?_);refine wpS_bind (show wpS _ _ _ _ (asL lo m n) _ _ from ZR hO (J.rev (i:=lo) (j:=lo+m) (kc _) ()) hn () h4 (WN J () z) λm' hm1 hm2 sm _=>?_);exact wpS_pure (q m' _ (J.rev (i:=lo) (j:=lo+m) (kc _) ()) () hm2 sm)
end
theorem mid{l r:Nat}(g:¬l≥r):l<=(l+r) / 2/\(l+r) / 2<r:=()
theorem bub{α:Type}{lo l k m:Nat}{f:Nat->α}(b:l<=k):(if lo+m=lo+k-(lo+k-(lo+l))then f (lo+k)else if lo+k-(lo+k-(lo+l))<lo+m/\lo+m<=lo+k then f (lo+m-1)else f (lo+m))=if m=l then f (lo+k)else if l<m/\m<=k then f (lo+(m-1))else f (lo+m):=by
 rw[show lo+k-(lo+k-(lo+l))=lo+l by lia];by_cases c:m=l
 .rw [if_pos c,if_pos (by rw[c])]
 .rw [if_neg c,if_neg λz=>c (Nat.add_left_cancel z)];by_cases d:l<m/\m<=k
  .rw [if_pos d,if_pos ⟨uU d.1 _,bj d.2 _⟩,Nat.add_sub_assoc (kn (vd (kR _)) d.1)]
  .rw [if_neg d,if_neg λz=>d ⟨Nat.lt_of_add_lt_add_left z.1,Nat.le_of_add_le_add_left z.2⟩]
theorem bub0{α:Type}{lo l k m:Nat}{f:Nat->α}(b:l<=k)(h:m<lo):(if m=lo+k-(lo+k-(lo+l))then f (lo+k)else if lo+k-(lo+k-(lo+l))<m/\m<=lo+k then f (m-1)else f m)=f m:=by
 rw[if_neg (by omega),if_neg (by omega)]
theorem bub2{α:Type}{R:α->α->Prop}{l k i j:Nat}{f:Nat->α}{x:α}(b:l<=k)(hij:i<=j)(hj:j<k+1)(rx:R x x)(e:∀i,i<l->R (f i) x)(g:∀i,l<=i->i<k->R x (f i))(z:∀i j,i<=j->j<k->R (f i) (f j)):
  R (if i=l then x else if l<i/\i<=k then f (i-1)else f i) (if j=l then x else if l<j/\j<=k then f (j-1)else f j):=by
 by_cases cj:j<l
 .rw [if_neg (),if_neg (),if_neg (),if_neg ()];exact z i j hij ()
 .by_cases dj:j=l
  .rw [if_pos dj];by_cases di:i=l
   .rw [if_pos di];exact rx
   .rw [if_neg di,if_neg ()];exact e i ()
  .rw [if_neg dj,if_pos (show l<j/\j<=k by lia)];by_cases di:i=l
   .rw [if_pos di];exact g (j-1) () ()
   .rw [if_neg di];by_cases ci:i<l
    .rw [if_neg ()];exact z i (j-1) (by omega) ()
    .rw [if_pos ()];exact z (i-1) (j-1) (by omega) (by omega)
section
variable{prog:Program}{w:World}{A:Around}{E:Value->Shared->Prop}{s:Shared}{κ:PyProof.Rows.KeyKind}{lo:Nat}{st0 st:SortSt}
theorem zec{n ok:Nat}{Q:Bool->SortSt->Prop}(hO:κ.OneLt)(I:Inn κ lo st0 st)(hn:lo+n<=(arrOf st0).size)(h1:1<=ok)(h2:ok<=n)(hs:SegK κ (arrOf st) lo ok)
  (q:∀t,Inn κ lo st0 t->SegK κ (arrOf t) lo n->Q true t):wpS (model prog w) A E s (binarySort' lo n ok) Q st:=by
 rw[binarySort'_eq];dsimp only;refine wpS_bind (wpS_mono (wpS_forRange (I:=λk c t=>c=(none,Unit.unit)/\Inn κ lo st0 t/\SegK κ (arrOf t) lo k) (Q:=λc t=>c=(none,Unit.unit)/\Inn κ lo st0 t/\SegK κ (arrOf t) lo n) ?step ?fin ⟨rfl,I,by rw[Nat.max_eq_left h1];exact hs⟩) ?post)
 case post =>
  rintro c t ⟨rfl,J,z⟩;exact wpS_pure (q t J z)
 case fin =>
  rintro c t ⟨rfl,J,z⟩;rw[show max (max ok 1) n=n by lia]at z;exact⟨rfl,J,z⟩
 case step =>
  rintro k c t hk hkn ⟨rfl,J,z⟩;have hk1:1<=k:=kn (Nat.le_max_right _ _) hk;have ks0:lo+k<(arrOf st0).size:=kW (uU hkn lo) hn;clear hk hkn hn h1 h2 hs I;refine wpS_bind (wpS_mono (wpS_forRange (I:=λx c u=>u=t/\∃l r,c=(none,l,r)/\l<=r/\r<=k/\r+x<=k+l/\(∀i,i<l->κ.kle (KK κ (arrOf t) (lo+i)) (KK κ (arrOf t) (lo+k)))/\(∀i,r<=i->i<k->κ.klt (KK κ (arrOf t) (lo+k)) (KK κ (arrOf t) (lo+i))))
   (Q:=λc u=>u=t/\∃l,l<=k/\c.1=none/\c.2.1=l/\(∀i,i<l->κ.kle (KK κ (arrOf t) (lo+i)) (KK κ (arrOf t) (lo+k)))/\(∀i,l<=i->i<k->κ.klt (KK κ (arrOf t) (lo+k)) (KK κ (arrOf t) (lo+i)))) ?step2 ?fin2 ⟨rfl,0,k,rfl,kR _,kc _,kc _,λi hi=>absurd hi (uZ _),λi a b=>absurd b (Nat.not_lt_of_le a)⟩) ?post2)
  case fin2 =>
   rintro c u ⟨rfl,l,r,rfl,a,b,d,e,f⟩;obtain rfl:l=r:=()
   exact⟨rfl,l,b,rfl,rfl,e,f⟩
  case step2 =>
   rintro x c u _ hx ⟨rfl,l,r,rfl,a,b,d,e,f⟩;dsimp only;by_cases g:l≥r
   .rw [if_pos g];obtain rfl:l=r:=()
    exact wpS_pure ⟨rfl,l,b,rfl,rfl,e,f⟩
   .rw [if_neg g];have hm:=mid g;have hmk:=kW hm.2 b;refine wpS_bind (wW hO J ks0 (Nat.lt_trans (uU hmk lo) ks0) ?_);dsimp only;cases y:κ.blt (KK κ (arrOf u) (lo+k)) (KK κ (arrOf u) (lo+(l+r) / 2))with
    |true =>
     rw[if_pos rfl];exact wpS_pure ⟨rfl,l,(l+r) / 2,rfl,hm.1,vw hmk,hf1 hm.2 d,e,λi h1 h2=>KeyOrd.klt_of_klt_of_kle y (z _ _ h1 h2)⟩
    |false =>
     rw[if_neg ⋯];exact wpS_pure ⟨rfl,(l+r) / 2+1,r,rfl,hm.2,b,hf2 hm.1 d,λi h1=>KeyOrd.kle_trans (z i ((l+r) / 2) (vY h1) hmk) y,f⟩
  case post2 =>
   rintro⟨c1,l,r⟩ u ⟨rfl,l',b,e1,e2,e,f⟩;dsimp only at e1 e2;subst e1 e2;dsimp only;rw[moveDown'_eq];have ks:lo+k<(arrOf u).size:=by rw[J.size];exact ks0
   have kb:∀m,KK κ (bubble (arrOf u) (lo+k) (lo+k-(lo+l))) (lo+m)=if m=l then KK κ (arrOf u) (lo+k)else if l<m/\m<=k then KK κ (arrOf u) (lo+(m-1))else KK κ (arrOf u) (lo+m):=λm=>by
    rw[KK_bubble ks (uB _ _)];exact bub b
   refine wpS_bind (wpS_modify (wpS_pure ⟨rfl,J.set (bubble_perm _ _ _) λm hm=>?_,λi j hij hj=>?_⟩))
   .rw [getElem?_bubble ks _ (uB _ _)];exact bub0 b hm
   .show κ.kle (KK κ (bubble (arrOf u) (lo+k) (lo+k-(lo+l))) (lo+i)) (KK κ (bubble (arrOf u) (lo+k) (lo+k-(lo+l))) (lo+j));rw[kb,kb];clear kb ks ks0 hk1;exact bub2 (R:=λa c=>κ.kle a c) b hij hj (KeyOrd.kle_refl _) e (λm a c=>KeyOrd.kle_of_klt (f m a c)) z
end
def put(xs:AK)(a:Nat)(r:AK):AK:=r.toList.zipIdx.foldl (λy (p,j)=>y.setIfInBounds (a+j) p) xs
theorem zed(i:Nat):mergeAt' i=(do
 let t <-get
 let (some (a,n,e),some (b,m,_)):=((pendingOf t)[i]?,(pendingOf t)[i+1]?)|unsupported "internal:list.sort.pending"
 set (setPending t (((pendingOf t).setIfInBounds i (a,n+m,e)).eraseIdxIfInBounds (i+1)))
 let some k <-gal false (<-elem' (arrOf t) b) (arrOf t) a n 0|return false
 let (a,n):=(a+k,n-k)
 if n==0 then return true
 let some m <-gal true (<-elem' (arrOf t) (a+n-1)) (arrOf t) b m (m-1)|return false
 if m==0 then return true
 let p:=(arrOf t).extract a b
 let q:=(arrOf t).extract b (b+m)
 let r <-if n<=m then mlo p q else mhi p q
 modify λu=>setArr u (put (arrOf u) a r)
 return (failedOf (<-get)).isNone):=rfl
section
variable{prog:Program}{w:World}{A:Around}{E:Value->Shared->Prop}{s:Shared}{κ:PyProof.Rows.KeyKind}{st:SortSt}
theorem zar(a:Nat):∀(l:List Keyed)(n:Nat)(xs:AK),a+n+l.length<=xs.size->∀k,((l.zipIdx n).foldl (λy (p,j)=>y.setIfInBounds (a+j) p) xs)[k]?=if a+n<=k/\k<a+n+l.length then l[k-(a+n)]? else xs[k]?
 |[],n,xs,_,k=>by
  rw[if_neg (by simp)];rfl
 |x::l,n,xs,h,k=>by
  rw[kz]at h;rw[List.zipIdx_cons,uN,zar a l (n+1) _ (by rw[Array.size_setIfInBounds];lia) k,kz];by_cases c1:k=a+n
  .rw [if_neg (),if_pos (),c1,Array.getElem?_setIfInBounds_self_of_lt (),bR];rfl
  .by_cases c2:a+n<=k/\k<a+n+(l.length+1)
   .rw [if_pos (),if_pos c2,show k-(a+n)=k-(a+(n+1))+1 by lia];rfl
   .rw [if_neg (),if_neg c2,Array.getElem?_setIfInBounds_ne ()]
theorem zbp{xs r:AK}{L M R:List Keyed}(e:xs.toList=L++(M++R))(h:r.size=M.length):(put xs L.length r).toList=L++(r.toList++R):=by
 have sz:xs.size=L.length+(M.length+R.length):=by rw[<-Array.length_toList,e,ki,ki]
 apply List.ext_getElem?;intro k;have hl:r.toList.length=M.length:=by rw[Array.length_toList];exact h
 have:=zar L.length r.toList 0 xs () k;rw[Array.getElem?_toList];show(List.foldl _ _ (r.toList.zipIdx 0))[k]?=_;rw[this];by_cases c1:k<L.length
 .rw [if_neg (),vi c1,<-Array.getElem?_toList,e,vi c1]
 .rw [vk ()];by_cases c2:k<L.length+M.length
  .rw [if_pos (),vi ()];rfl
  .rw [if_neg (),vk (),<-Array.getElem?_toList,e,vk (),vk (),hl]
theorem WO{xs:AK}{L M R:List Keyed}(e:xs.toList=L++(M++R)):(xs.extract L.length (L.length+M.length)).toList=M:=by
 rw[Array.toList_extract,uh,e,List.drop_left,vI,List.take_left]
theorem xX{xs:AK}{L M R:List Keyed}{i:Nat}{x:Keyed}(e:xs.toList=L++(M++R))(h:M[i]?=some x):xs[L.length+i]?=some x:=by
 obtain⟨hi,_⟩:=kh.mp h;rw[<-Array.getElem?_toList,e,vk (),vi (),vI];exact h
theorem X2{xs:AK}{L M R:List Keyed}(e:xs.toList=L++(M++R))(so:_Srt κ M):∀i j,L.length<=i->i<=j->j<L.length+M.length->κ.kle (KK κ xs i) (KK κ xs j):=λi j hi hij hj=>by
 have e1:=kf (l:=M) (i:=i-L.length) ();have e2:=kf (l:=M) (i:=j-L.length) ();have k1:=xX e e1;have k2:=xX e e2;rw[show L.length+(i-L.length)=i by lia]at k1;rw[show L.length+(j-L.length)=j by lia]at k2;rw[yv k1,yv k2];by_cases z:i=j
 .have:M[i-L.length]=M[j-L.length]:=by simp[z]
  rw[this];exact KeyOrd.kle_refl _
 .exact ug.mp so _ _ () () ()
theorem s1{l k u:Nat}(h:k<=u)(h1:1<=u):l+k+(u-k)-1=l+(u-1):=()
theorem s2{k u:Nat}(g:¬u-k=0):k+(u-k-1)=u-1:=()
theorem zcV{σ:Type}{x st:σ}{M:Model}{Q:PUnit->σ->Prop}(h:Q ⟨⟩ x):wpS M A E s (set x:StateT σ Sem PUnit) Q st:=by
 unfold wpS;exact wpAny_pure ⟨rfl,h⟩
theorem jp{a b:List Keyed}(ha:_Srt κ a)(hb:_Srt κ b)(h:∀x∈a,∀y∈b,le κ x y):_Srt κ (a++b):=vt.mpr ⟨ha,hb,h⟩
theorem zcW{i pw pv:Nat}{L U V R:List Keyed}{Q:Bool->SortSt->Prop}(hO:κ.OneLt)(hk:kindOf st=oneType')(hf:failedOf st=none)(hg:∀x∈(arrOf st).toList,Gd κ x)(e:(arrOf st).toList=L++(U++(V++R)))
  (pi:(pendingOf st)[i]?=some (L.length,U.length,pw))(pj:(pendingOf st)[i+1]?=some (L.length+U.length,V.length,pv))(u1:1<=U.length)(v1:1<=V.length)(sU:_Srt κ U)(sV:_Srt κ V)
  (q:∀t C,kindOf t=oneType'->failedOf t=none->(arrOf t).toList=L++(C++R)->_Srt κ C->C.Perm (U++V)->pendingOf t=((pendingOf st).setIfInBounds i (L.length,U.length+V.length,pw)).eraseIdxIfInBounds (i+1)->Q true t):
  wpS (model prog w) A E s (mergeAt' i) Q st:=by
 rw[zed];refine wpS_bind (wpS_get ?_);dsimp only;rw[pi,pj];dsimp only;refine wpS_bind (zcV ?_);generalize hst1:setPending st (((pendingOf st).setIfInBounds i (L.length,U.length+V.length,pw)).eraseIdxIfInBounds (i+1))=st1;have k1:kindOf st1=oneType':=by rw[<-hst1];exact hk
 have f1:failedOf st1=none:=by rw[<-hst1];exact hf
 have a1:arrOf st1=arrOf st:=by rw[<-hst1]
 have p1:pendingOf st1=((pendingOf st).setIfInBounds i (L.length,U.length+V.length,pw)).eraseIdxIfInBounds (i+1):=by rw[<-hst1]
 clear hst1;have e2:(arrOf st).toList=(L++U)++(V++R):=by rw[e,kY]
 have lLU:(L++U).length=L.length+U.length:=ki;have sz:(arrOf st).size=L.length+(U.length+(V.length+R.length)):=by rw[<-Array.length_toList,e];simp
 obtain⟨b0,V',rfl⟩:∃b V',V=b::V':=by
  cases V with
  |nil=>simp at v1
  |cons b V'=>exact⟨b,V',rfl⟩
 have eb:(arrOf st)[L.length+U.length]?=some b0:=by
  have:=xX (i:=0) e2 (x:=b0) rfl;rw[lLU]at this;exact this
 have gb:=xu hg eb;refine wpS_bind (yd eb (wpS_bind (jV hO k1 hg gb (by rw[sz];exact bj (v8 _ _) _) u1 (X2 e sU) λk hk2 lo hi=>?_)));dsimp only;have inU:∀{m x},U[m]?=some x->KK κ (arrOf st) (L.length+m)=ky κ x:=λh=>yv (xX e h);have F1:∀x∈U.take k,le κ x b0:=λx hx=>by
  obtain⟨m,hm⟩:=vM hx;rw[vV]at hm;split at hm
  case isFalse=>cases hm
  case isTrue z =>
  have:=lo m z;rw[inU hm]at this;exact this
 have F2:∀x∈U.drop k,le κ b0 x:=λx hx=>by
  obtain⟨m,hm⟩:=vM hx;rw[v5]at hm;obtain⟨z,_⟩:=kh.mp hm;have:=hi (k+m) () z;rw[inU hm]at this;exact KeyOrd.kle_of_klt this
 have bV:∀y∈b0::V',le κ b0 y:=yO (i:=0) sV rfl (le_rfl b0);by_cases g1:U.length-k=0
 .rw [if_pos (beq_iff_eq.mpr g1)];refine wpS_pure (q st1 (U++b0::V') k1 f1 (by rw[a1,e,kY]) (jp sU sV λx hx y hy=>?_) (List.Perm.refl _) p1);exact le_trans (F1 x (by rw[vK ()];exact hx)) (bV y hy)
 rw[if_neg (λz=>g1 (beq_iff_eq.mp z))];obtain⟨al,ea⟩:∃al,U[U.length-1]?=some al:=⟨_,kf (Nat.sub_lt u1 bX)⟩;have ea2:(arrOf st)[L.length+k+(U.length-k)-1]?=some al:=by
  rw[s1 hk2 u1];exact xX e ea
 have sv2:=X2 e2 sV;rw[lLU]at sv2;refine wpS_bind (yd ea2 (wpS_bind (jU hO k1 hg (xu hg ea2) (by rw[sz,uE];exact bj (bj (v8 _ _) _) _) (v9 _) sv2 λm hm2 lo2 hi2=>?_)));dsimp only;have inV:∀{m x},(b0::V')[m]?=some x->KK κ (arrOf st) (L.length+U.length+m)=ky κ x:=λh=>by
  have:=xX e2 h;rw[lLU]at this;exact yv this
 have F3:∀y∈(b0::V').take m,le κ y al:=λy hy=>by
  obtain⟨z,hz⟩:=vM hy;rw[vV]at hz;split at hz
  case isFalse=>cases hz
  case isTrue zz =>
  have:=lo2 z zz;rw[inV hz]at this;exact KeyOrd.kle_of_klt this
 have F4:∀y∈(b0::V').drop m,le κ al y:=λy hy=>by
  obtain⟨z,hz⟩:=vM hy;rw[v5]at hz;obtain⟨zz,_⟩:=kh.mp hz;have:=hi2 (m+z) () zz;rw[inV hz]at this;exact this
 have Ual:∀x∈U,le κ x al:=λx hx=>xN sU ea (le_rfl al) x (by rw[vK ()];exact hx);by_cases g2:m=0
 .rw [if_pos (beq_iff_eq.mpr g2)];refine wpS_pure (q st1 (U++b0::V') k1 f1 (by rw[a1,e,kY]) (jp sU sV λx hx y hy=>?_) (List.Perm.refl _) p1);exact le_trans (Ual x hx) (F4 y (by rw[g2];exact hy))
 rw[if_neg (λz=>g2 (beq_iff_eq.mp z))];generalize hV:b0::V'=V at *;have eU:U.take k++U.drop k=U:=vH k U;have eV:V.take m++V.drop m=V:=vH m V;have e3:(arrOf st).toList=(L++U.take k)++(U.drop k++(V++R)):=by
  rw[e]
  conv=>lhs;rw[<-eU]
  simp only[kY]
 have e4:(arrOf st).toList=(L++U)++(V.take m++(V.drop m++R)):=by
  rw[e2]
  conv=>lhs;rw[<-eV]
  simp only[kY]
 have e5:(arrOf st).toList=(L++U.take k)++((U.drop k++V.take m)++(V.drop m++R)):=by
  rw[e3]
  conv=>lhs;rw[<-eV]
  simp only[kY]
 have l1:(L++U.take k).length=L.length+k:=by rw[ki,kJ];lia
 have tp:((arrOf st).extract (L.length+k) (L.length+U.length)).toList=U.drop k:=by
  have:=WO e3;rw[l1,kZ,show L.length+k+(U.length-k)=L.length+U.length by lia]at this;exact this
 have tq:((arrOf st).extract (L.length+U.length) (L.length+U.length+m)).toList=V.take m:=by
  have:=WO e4;rw[lLU,kJ,show min m V.length=m by lia]at this;exact this
 generalize (arrOf st).extract (L.length+k) (L.length+U.length)=p at tp ⊢;generalize (arrOf st).extract (L.length+U.length) (L.length+U.length+m)=q' at tq ⊢;have pz:p.size=U.length-k:=by rw[<-Array.length_toList,tp,kZ]
 have qz:q'.size=m:=by rw[<-Array.length_toList,tq,kJ];lia
 have T:Two κ p q':=by
  refine⟨hO,?_,?_,?_,?_,by rw[pz];exact uX g1,by rw[qz];exact uX g2,?_,?_⟩
  .rw [tp];exact λx hx=>hg x (by rw[e3];exact kG _ (kU _ hx))
  .rw [tq];exact λx hx=>hg x (by rw[e4];exact kG _ (kU _ hx))
  .rw [tp];exact xM k sU
  .rw [tq];exact xO m sV
  .intro b hb y hy;rw[<-Array.getElem?_toList,tq,vV,if_pos (),<-hV]at hb;rw[<-Option.some.inj hb];rw[tp]at hy;exact F2 y hy
  .intro a ha y hy;rw[<-Array.getElem?_toList,tp,v5,pz,s2 g1,ea]at ha;rw[<-Option.some.inj ha];rw[tq]at hy;exact F3 y hy
 have rest:∀r t,Sm t st1->Mgd κ p q' r->wpS (model prog w) A E s (do modify λu=>setArr u (put (arrOf u) (L.length+k) r);let u <-get;pure (failedOf u).isNone) Q t:=λr t S M=>by
  refine wpS_bind (wpS_modify (wpS_bind (wpS_get ?_)));have ft:failedOf t=none:=S.f.trans f1;have rl:r.size=(U.drop k++V.take m).length:=by rw[<-Array.length_toList,M.2.length_eq,tp,tq]
  have pl:=zbp e5 rl;rw[l1]at pl;show wpS _ _ _ _ (pure (failedOf t).isNone) _ _;rw[ft];refine wpS_pure (q _ (U.take k++(r.toList++V.drop m)) (S.k.trans k1) ft ?_ ?_ ?_ (S.p.trans p1))
  .show (put (arrOf t) (L.length+k) r).toList=_;rw[S.a,a1,pl];simp only[kY]
  .have rm:∀x,x∈r.toList->x∈U.drop k\/x∈V.take m:=λx hx=>by
    have:=M.2.mem_iff.mp hx;rw[tp,tq]at this;exact kQ.mp this
   have vv:∀x∈V.take m,∀y∈V.drop m,le κ x y:=by
    have:=sV;rw[<-eV]at this;exact(vt.mp this).2.2
   have uu:∀x∈U.take k,∀y∈U.drop k,le κ x y:=by
    have:=sU;rw[<-eU]at this;exact(vt.mp this).2.2
   refine jp (xO k sU) (jp M.1 (xM m sV) λx hx y hy=>?_) λx hx y hy=>?_
   .rcases rm x hx with z|z
    .exact le_trans (Ual x (uQ z)) (F4 y hy)
    .exact vv x z y hy
   .rcases kQ.mp hy with hy|hy
    .rcases rm y hy with z|z
     .exact uu x hx y z
     .exact le_trans (F1 x hx) (bV y (uv z))
    .exact le_trans (F1 x hx) (bV y (uQ hy))
  .have:=M.2;rw[tp,tq]at this;refine((List.Perm.append_left _ (List.Perm.append_right _ this)).trans ?_)
   conv=>rhs;rw[<-eU,<-eV]
   simp only[kY];exact List.Perm.refl _
 refine zZ (λ_=>?_) (λ_=>?_)
 .exact wpS_bind (zcS T k1 rest)
 .exact wpS_bind (zcT T k1 rest)
end
abbrev PN:=Nat×Nat×Nat
def Pnd(κ:PyProof.Rows.KeyKind):Nat->List PN->List (List Keyed)->Prop
 |_,[],[]=>True
 |off,x::ps,S::ss=>x.1=off/\x.2.1=S.length/\1<=S.length/\_Srt κ S/\Pnd κ (off+S.length) ps ss
 |_,_,_=>False
section
variable{prog:Program}{w:World}{A:Around}{E:Value->Shared->Prop}{s:Shared}{κ:PyProof.Rows.KeyKind}
theorem Pnd.join:∀{off:Nat}{P Q:List PN}{ss tt:List (List Keyed)},Pnd κ off P ss->Pnd κ (off+ss.flatten.length) Q tt->Pnd κ off (P++Q) (ss++tt)
 |off,[],Q,[],tt,_,h=>by simpa using h
 |off,x::P,Q,S::ss,tt,⟨a,b,c,d,e⟩,h=>⟨a,b,c,d,Pnd.join e (by rw[kP,ki,<-uE]at h;exact h)⟩
 |_,[],_,_::_,_,h,_=>h.elim
 |_,_::_,_,[],_,h,_=>h.elim
theorem Pnd.split:∀{off:Nat}{P Q:List PN}{ss:List (List Keyed)},Pnd κ off (P++Q) ss->∃s1 s2,ss=s1++s2/\Pnd κ off P s1/\Pnd κ (off+s1.flatten.length) Q s2
 |off,[],Q,ss,h=>⟨[],ss,rfl,trivial,by simpa using h⟩
 |off,x::P,Q,S::ss,⟨a,b,c,d,e⟩=>by
  obtain⟨s1,s2,rfl,h1,h2⟩:=Pnd.split e;exact⟨S::s1,s2,rfl,⟨a,b,c,d,h1⟩,by rw[kP,ki,<-uE];exact h2⟩
 |_,_::_,_,[],h=>h.elim
theorem Pnd.len:∀{off:Nat}{P:List PN}{ss:List (List Keyed)},Pnd κ off P ss->P.length=ss.length/\P.length<=ss.flatten.length
 |off,[],[],_=>⟨rfl,kc _⟩
 |off,x::P,S::ss,⟨a,b,c,d,e⟩=>by
  have:=Pnd.len e;rw[kP,ki,kz,kz];lia
 |_,[],_::_,h=>h.elim
 |_,_::_,[],h=>h.elim
theorem Pnd.pw(f:PN->PN)(hf:∀x,(f x).1=x.1/\(f x).2.1=x.2.1):∀{off:Nat}{P:List PN}{ss:List (List Keyed)}(k:Nat),Pnd κ off P ss->Pnd κ off (P.modify k f) ss
 |off,[],[],k,h=>by cases k<;>exact h
 |off,x::P,S::ss,0,⟨a,b,c,d,e⟩=>⟨(hf x).1.trans a,(hf x).2.trans b,c,d,e⟩
 |off,x::P,S::ss,k+1,⟨a,b,c,d,e⟩=>⟨a,b,c,d,Pnd.pw f hf k e⟩
 |_,[],_::_,_,h=>h.elim
 |_,_::_,[],_,h=>h.elim
structure Rn(κ:PyProof.Rows.KeyKind)(a0:AK)(rest:List Keyed)(t:SortSt):Prop where
 k:kindOf t=oneType'
 f:failedOf t=none
 pm:(arrOf t).Perm a0
 r:∃ss,(arrOf t).toList=ss.flatten++rest/\Pnd κ 0 (pendingOf t).toList ss
theorem wz{ps:List PN}{i:Nat}(h:i+1<ps.length):∃P x y Q,ps=P++x::y::Q/\P.length=i:=by
 refine⟨ps.take i,ps[i],ps[i+1],ps.drop (i+2),?_,by rw[kJ];lia⟩
 conv=>lhs;rw[<-vH i ps]
 rw[vQ (),vQ (by omega)]
theorem WP{a0:AK}{rest:List Keyed}{t:SortSt}{i:Nat}{Q:Bool->SortSt->Prop}(hO:κ.OneLt)(hg:∀x∈a0.toList,Gd κ x)(R:Rn κ a0 rest t)(hi:i+1<(pendingOf t).size)
  (q:∀u,Rn κ a0 rest u->(pendingOf u).size+1=(pendingOf t).size->Q true u):wpS (model prog w) A E s (mergeAt' i) Q t:=by
 obtain⟨ss,e,hP⟩:=R.r;obtain⟨P,x,y,P',ep,lp⟩:=wz (ps:=(pendingOf t).toList) (i:=i) (by rw[Array.length_toList];exact hi);rw[ep]at hP;obtain⟨s1,s2,rfl,h1,h2⟩:=hP.split
 match s2,h2 with
 |U::V::s3,⟨a,b,c,d,a',b',c',d',h3⟩ =>
  obtain⟨x1,x2,x3⟩:=x;obtain⟨y1,y2,y3⟩:=y;dsimp only at a b a' b';rw[ur]at a a' h3;subst a b a' b';have e':(arrOf t).toList=s1.flatten++(U++(V++(s3.flatten++rest))):=by
   rw[e];simp only[vD,kP,kY]
  have gt:∀x∈(arrOf t).toList,Gd κ x:=λx hx=>hg x ((Array.perm_iff_toList_perm.mp R.pm).mem_iff.mp hx);have tl:∀u:SortSt,pendingOf u=((pendingOf t).setIfInBounds i (s1.flatten.length,U.length+V.length,x3)).eraseIdxIfInBounds (i+1)->(pendingOf u).toList=P++(s1.flatten.length,U.length+V.length,x3)::P':=λu pu=>by
   rw[pu,Array.toList_eraseIdxIfInBounds,Array.toList_setIfInBounds,ep,<-lp,List.set_append_right _ _ (kc _),bR,List.eraseIdx_append_of_length_le (v7 _),show P.length.succ-P.length=1 by lia];rfl
  refine zcW (pw:=x3) (pv:=y3) hO R.k R.f gt e' ?_ ?_ c c' d d' λu C ku fu eu sC pC pu=>q u ⟨ku,fu,?_,?_⟩ ?_
  .rw [<-Array.getElem?_toList,ep,vk (),lp,bR];rfl
  .rw [<-Array.getElem?_toList,ep,vk (),lp,vI];rfl
  .refine Array.Perm.trans (Array.perm_iff_toList_perm.mpr ?_) R.pm;rw[eu,e'];refine List.Perm.append_left _ ?_;have:=List.Perm.append_right (s3.flatten++rest) pC;simp only[kY]at this ⊢;exact this
  .refine ⟨s1++C::s3,by rw[eu];simp only[vD,kP,kY],?_⟩;have lC:C.length=U.length+V.length:=by rw[pC.length_eq,ki]
   rw[tl u pu];refine h1.join ?_;rw[ur];exact⟨rfl,lC.symm,(),sC,by rw[lC,<-uE];exact h3⟩
  .have l1:(pendingOf t).size=P.length+(P'.length+1+1):=by rw[<-Array.length_toList,ep,ki,kz,kz]
   have l2:(pendingOf u).size=P.length+(P'.length+1):=by rw[<-Array.length_toList,tl u pu,ki,kz]
   lia
 |[],h2=>exact h2.elim
 |[U],⟨_,_,_,_,h⟩=>exact h.elim
theorem Rn.pw{a0:AK}{rest:List Keyed}{t:SortSt}(R:Rn κ a0 rest t)(f:PN->PN)(hf:∀x,(f x).1=x.1/\(f x).2.1=x.2.1){i:Nat}:Rn κ a0 rest (setPending t ((pendingOf t).modify i f)):=by
 obtain⟨ss,e,hP⟩:=R.r;refine⟨R.k,R.f,R.pm,ss,e,?_⟩;show Pnd κ 0 ((pendingOf t).modify i f).toList ss;rw[Array.toList_modify];exact hP.pw f hf i
theorem zas{a0:AK}{S rest:List Keyed}{u:SortSt}{lo n:Nat}(R:Rn κ a0 (S++rest) u)(lS:S.length=n)(hl:lo+n+rest.length=a0.size/\1<=n/\_Srt κ S):Rn κ a0 rest (setPending u ((pendingOf u).push (lo,n,0))):=by
 obtain⟨ss,e,hP⟩:=R.r;refine⟨R.k,R.f,R.pm,ss++[S],by rw[show arrOf (setPending u ((pendingOf u).push (lo,n,0)))=arrOf u from rfl,e];simp,?_⟩;show Pnd κ 0 ((pendingOf u).push (lo,n,0)).toList (ss++[S]);rw[Array.toList_push];refine hP.join ⟨?_,lS.symm,(),hl.2.2,trivial⟩;have:a0.size=ss.flatten.length+(S.length+rest.length):=by
  rw[<-R.pm.size_eq,<-Array.length_toList,e,ki,ki]
 show lo=_;lia
theorem prep{a0:AK}{rest:List Keyed}{t t3:SortSt}{lo n:Nat}(R:Rn κ a0 rest t)(J:Inn κ lo t t3)(sg:SegK κ (arrOf t3) lo n)(hn:lo+n<=a0.size)(hl:lo+rest.length=a0.size):
  ∃S rest',Rn κ a0 (S++rest') t3/\S.length=n/\_Srt κ S/\lo+n+rest'.length=a0.size:=by
 obtain⟨ss,e,hP⟩:=R.r;have z0:a0.size=ss.flatten.length+rest.length:=by rw[<-R.pm.size_eq,<-Array.length_toList,e,ki]
 have z1:(arrOf t3).toList.length=a0.size:=by rw[Array.length_toList,J.size,R.pm.size_eq]
 have hd:(arrOf t3).toList.take lo=ss.flatten:=by
  apply List.ext_getElem?;intro k;rw[vV];by_cases c:k<lo
  .rw [if_pos c,Array.getElem?_toList,J.pre k c,<-Array.getElem?_toList,e,vi ()]
  .rw [if_neg c,vC ()]
 have e3:(arrOf t3).toList=ss.flatten++(((arrOf t3).toList.drop lo).take n++((arrOf t3).toList.drop lo).drop n):=by
  rw[vH,<-hd,vH]
 have lo_:ss.flatten.length=lo:=()
 have lS:(((arrOf t3).toList.drop lo).take n).length=n:=by rw[kJ,kZ];lia
 refine⟨_,_,⟨J.k,J.f.trans R.f,J.pm.trans R.pm,ss,e3,by rw[J.p];exact hP⟩,lS,?_,by rw[kZ,kZ];lia⟩;refine ug.mpr λi j hi hj hij=>?_;have k1:=xX e3 (kf hi);have k2:=xX e3 (kf hj);have:=sg i j () ();rw[lo_]at k1 k2;rw[yv k1,yv k2]at this;exact this
end
def mL(z a m n:Nat):SM (Option Unit×Unit):=forIn [0:z] ((none,Unit.unit):Option Unit×Unit) λ_ _=>do
 let t <-get
 match (if(pendingOf t).size>1 then(pendingOf t)[(pendingOf t).size-2]? else none)with
 |some (_,_,o)=>if o<=power' z (2*a+m) (2*a+m+m+n) z then pure (.done (none,Unit.unit))else do
  let b <-mergeAt' ((pendingOf t).size-2)
  if(!b)=true then pure (.done (some Unit.unit,Unit.unit))else pure (.yield (none,Unit.unit))
 |_=>pure (.done (none,Unit.unit))
def aR2(z lo a m n:Nat)(c:Option Unit×Unit):SM (ForInStep (Option Unit×Nat)):=match c.1 with
 |some r=>pure (.done (some r,lo))
 |none=>do
  modify λt=>setPending t ((pendingOf t).modify ((pendingOf t).size-1) λx=>(x.1,x.2.1,power' z (2*a+m) (2*a+m+m+n) z))
  modify λt=>setPending t ((pendingOf t).push (lo,n,0))
  pure (.yield (none,lo+n))
def aR(z lo n:Nat):SM (ForInStep (Option Unit×Nat)):=do
 let t <-get
 match (pendingOf t).back? with
 |some (a,m,_)=>do
  let c <-mL z a m n
  aR2 z lo a m n c
 |_=>do
  modify λt=>setPending t ((pendingOf t).push (lo,n,0))
  pure (.yield (none,lo+n))
def rT(z lo f:Nat):SM (ForInStep (Option Unit×Nat)):=if f<minRun' z z 0 then do
  liftM (rule "list.sort.binary-insertion")
  let b <-binarySort' lo (min (z-lo) (minRun' z z 0)) f
  if(!b)=true then pure (.done (some Unit.unit,lo))else aR z lo (min (z-lo) (minRun' z z 0))
 else aR z lo f
def rB(z lo:Nat):SM (ForInStep (Option Unit×Nat)):=if lo≥z then pure (.done (none,lo))else do
 let x <-countRun' lo (z-lo)
 match x with
 |some f=>rT z lo f
 |_=>pure (.done (some Unit.unit,lo))
def cL(z:Nat):SM (Option Unit×Unit):=forIn [0:z] ((none,Unit.unit):Option Unit×Unit) λ_ _=>do
 let t <-get
 if(pendingOf t).size<=1 then pure (.done (none,Unit.unit))else do
  let b <-mergeAt' (if(if(pendingOf t).size-2>0 then(pendingOf t)[(pendingOf t).size-2-1]?.map (·.2.1)else none).any (λx=>decide (x<(pendingOf t)[(pendingOf t).size-2+1]?.elim 0 (·.2.1)))=true then(pendingOf t).size-2-1 else (pendingOf t).size-2)
  if(!b)=true then pure (.done (some Unit.unit,Unit.unit))else pure (.yield (none,Unit.unit))
def cE(c:Option Unit×Unit):SM Unit:=match c.1 with
 |some r=>pure r
 |none=>pure Unit.unit
def cM(z:Nat)(c:Option Unit×Nat):SM Unit:=match c.1 with
 |some r=>pure r
 |none=>do
  let d <-cL z
  cE d
theorem zeT:sortRuns'=(do
 let t <-get
 let c <-forIn [0:(arrOf t).size] ((none,0):Option Unit×Nat) λ_ c=>rB (arrOf t).size c.2
 cM (arrOf t).size c):=by kernel_rfl
section
variable{prog:Program}{w:World}{A:Around}{E:Value->Shared->Prop}{s:Shared}{κ:PyProof.Rows.KeyKind}{a0:AK}{rest S:List Keyed}{t t2:SortSt}{z lo n:Nat}
theorem zee{a m:Nat}(hO:κ.OneLt)(hg:∀x∈a0.toList,Gd κ x)(R:Rn κ a0 rest t):wpS (model prog w) A E s (mL z a m n) (λc u=>c.1=none/\Rn κ a0 rest u) t:=by
 unfold mL;refine wpS_forRange (I:=λ_ (c:Option Unit×Unit) u=>c.1=none/\Rn κ a0 rest u) (λy c u _ _ hc=>?_) (λc u hc=>hc) ⟨rfl,R⟩;refine wpS_bind (wpS_get ?_);by_cases hp:(pendingOf u).size>1
 .rw [if_pos hp];obtain⟨⟨v1,v2,v3⟩,ev⟩:∃v,(pendingOf u)[(pendingOf u).size-2]?=some v:=⟨_,getElem?_pos _ _ (by omega)⟩;rw[ev];exact zZ (λ_=>wpS_pure ⟨rfl,hc.2⟩) (λ_=>wpS_bind (WP hO hg hc.2 (by omega) λu' R5 _=>jb ⋯ (wpS_pure ⟨rfl,R5⟩)))
 .rw [if_neg hp];exact wpS_pure ⟨rfl,hc.2⟩
theorem zef(hO:κ.OneLt)(hg:∀x∈a0.toList,Gd κ x)(R:Rn κ a0 (S++rest) t)(lS:S.length=n)(hl:lo+n+rest.length=a0.size/\1<=n/\_Srt κ S):wpS (model prog w) A E s (aR z lo n) (λc u=>c=.yield (none,lo+n)/\Rn κ a0 rest u) t:=by
 unfold aR;refine wpS_bind (wpS_get ?_);cases (pendingOf t).back? with
 |none=>exact wpS_bind (wpS_modify (wpS_pure ⟨rfl,zas R lS hl⟩))
 |some v =>
  obtain⟨a,m,v3⟩:=v;refine wpS_bind (wpS_mono (zee hO hg R) ?_);rintro⟨c1,c2⟩ u ⟨hc,R4⟩;dsimp only at hc;subst hc;exact wpS_bind (wpS_modify (wpS_bind (wpS_modify (wpS_pure ⟨rfl,zas (R4.pw (λx=>(x.1,x.2.1,power' z (2*a+m) (2*a+m+m+n) z)) (λ_=>⟨rfl,rfl⟩) (i:=(pendingOf u).size-1)) lS hl⟩))))
theorem zat(hO:κ.OneLt)(hg:∀x∈a0.toList,Gd κ x)(R:Rn κ a0 rest t)(hlo:lo+rest.length=a0.size)(J:Inn κ lo t t2)(n1:1<=n)(n2:lo+n<=a0.size)(sg:SegK κ (arrOf t2) lo n):
  wpS (model prog w) A E s (aR z lo n) (λc u=>∃(n:Nat)(rest':List Keyed),1<=n/\c=.yield (none,lo+n)/\lo+n+rest'.length=a0.size/\Rn κ a0 rest' u) t2:=by
 obtain⟨S,rest',R3,lS,sS,lr'⟩:=prep R J sg n2 hlo;exact wpS_mono (zef hO hg R3 lS ⟨lr',n1,sS⟩) λc u h=>⟨n,rest',n1,h.1,lr',h.2⟩
theorem zeg{f:Nat}(hO:κ.OneLt)(hg:∀x∈a0.toList,Gd κ x)(R:Rn κ a0 rest t)(hlo:lo+rest.length=a0.size)(J:Inn κ lo t t2)(n1:1<=f)(n2:f<=a0.size-lo)(sg:SegK κ (arrOf t2) lo f):
  wpS (model prog w) A E s (rT a0.size lo f) (λc u=>∃(n:Nat)(rest':List Keyed),1<=n/\c=.yield (none,lo+n)/\lo+n+rest'.length=a0.size/\Rn κ a0 rest' u) t2:=by
 have la:lo<=a0.size:=Nat.le.intro hlo;have up:∀{m},m<=a0.size-lo->lo+m<=a0.size:=λh=>Nat.add_le_of_le_sub' la h;unfold rT;refine zZ (λhc=>?_) (λhc=>zat hO hg R hlo J n1 (up n2) sg);have m1:=Nat.min_le_left (a0.size-lo) (minRun' a0.size a0.size 0);have m2:f<=min (a0.size-lo) (minRun' a0.size a0.size 0):=Nat.le_min.mpr ⟨n2,vw hc⟩;generalize min (a0.size-lo) (minRun' a0.size a0.size 0)=n at m1 m2;exact wpS_bind (wpS_lift (wpAny_rule ⟨rfl,wpS_bind (zec hO J (by rw[R.pm.size_eq];exact up m1) n1 m2 sg λt3 J3 sg3=>jb ⋯ (zat hO hg R hlo J3 (kn n1 m2) (up m1) sg3))⟩))
theorem zeh(hO:κ.OneLt)(hg:∀x∈a0.toList,Gd κ x)(R:Rn κ a0 [] t)(h:(pendingOf t).size<=z):wpS (model prog w) A E s (cL z) (λc u=>c.1=none/\Rn κ a0 [] u/\(pendingOf u).size<=1) t:=by
 unfold cL;refine wpS_forRange (I:=λx c u=>c.1=none/\Rn κ a0 [] u/\((pendingOf u).size<=1\/(pendingOf u).size+x<=z)) ?_ ?_ ⟨rfl,R,.inr h⟩
 .rintro x c u _ hx ⟨hc,R,y⟩;refine wpS_bind (wpS_get (zZ (λg=>wpS_pure ⟨rfl,R,g⟩) λg=>wpS_bind (WP hO hg R ?_ λu' R' l'=>jb ⋯ (wpS_pure ⟨rfl,R',()⟩))));clear y;generalize Option.any _ _=b;cases b with
  |true=>rw[if_pos rfl];omega
  |false=>rw[if_neg ⋯];omega
 .rintro c u ⟨hc,R,y⟩;exact⟨hc,R,()⟩
theorem zcX(R:Rn κ a0 [] t)(h:(pendingOf t).size<=1):SortedToK κ (arrOf t) a0.size:=λi j hij hj=>by
 obtain⟨ss,e,hP⟩:=R.r;have hl:=hP.len;rw[Array.length_toList]at hl;have uz:(arrOf t).toList.length=a0.size:=by rw[Array.length_toList,R.pm.size_eq]
 match ss,hP,e,hl with
 |[],_,e,_ =>
  rw[e]at uz;exact absurd (uz ▸ hj) (uZ _)
 |[S],hP,e,_ =>
  cases hp:(pendingOf t).toList with
  |nil=>rw[hp]at hP;exact hP.elim
  |cons y ys =>
   rw[hp]at hP;have e':(arrOf t).toList=[]++(S++[]):=by rw[e];simp
   refine X2 e' hP.2.2.2.1 i j (kR _) hij ?_;rw[e']at uz;simp at uz ⊢;lia
 |S::S'::r,_,_,hl=>simp at hl;lia
theorem zei{st:SortSt}{Q:Unit->SortSt->Prop}(hO:κ.OneLt)(h0:KeysOf κ a0)(hB:SBase a0 st)
  (h:∀t,(arrOf t).Perm a0->failedOf t=none->SortedToK κ (arrOf t) a0.size->Q Unit.unit t):wpS (model prog w) A E s sortRuns' Q st:=by
 have hg:∀x∈a0.toList,Gd κ x:=h0;rw[zeT];refine wpS_bind (wpS_get ?_);rw[show(arrOf st).size=a0.size from hB.size];refine wpS_bind (wpS_mono (wpS_forRange (I:=λx c t=>∃lo rest,c=(none,lo)/\lo+rest.length=a0.size/\Rn κ a0 rest t/\(x<=lo\/lo=a0.size)) (Q:=λc t=>c.1=none/\Rn κ a0 [] t) ?step ?fin ⟨0,(arrOf st).toList,rfl,by rw[Array.length_toList,ur];exact hB.size,⟨hB.kind,hB.failed,hB.perm,[],rfl,by rw[hB.pend];exact trivial⟩,.inl (kc _)⟩) ?post)
 case fin =>
  intro c t h8;refine E_2 h8 λlo rest n8=>A_4 n8 λe9 hl R hx=>?_;clear n8 h8;subst e9;obtain rfl:rest=[]:=vm.mp ();exact⟨rfl,R⟩
 case step =>
  intro x c t _ hx h8;refine E_2 h8 λlo rest n8=>A_4 n8 λe9 hlo R hx2=>?_;clear n8 h8;subst e9;refine zZ (λg=>?_) (λg=>?_)
  .obtain rfl:rest=[]:=vm.mp ();exact wpS_pure ⟨rfl,R⟩
  .have J0:Inn κ lo t t:=⟨Array.Perm.refl _,R.k,rfl,rfl,λ_ _=>rfl,λx hx=>hg x ((Array.perm_iff_toList_perm.mp R.pm).mem_iff.mp hx)⟩;have tz:(arrOf t).size=a0.size:=R.pm.size_eq;refine wpS_bind (zeb hO J0 () () λm t2 J2 m1 m2 sg2=>wpS_mono (zeg hO hg R hlo J2 m1 m2 sg2) ?_);intro c u h8;obtain⟨n,rest',n1,rfl,l',R'⟩:=h8;exact⟨_,rest',rfl,l',R',()⟩
 case post =>
  rintro⟨c1,c2⟩ t ⟨hc,R⟩;dsimp only at hc;subst hc;obtain⟨ss,e,hP⟩:=id R.r;have y:=hP.len.2;have y2:a0.size=ss.flatten.length:=by rw[<-R.pm.size_eq,<-Array.length_toList,e,vq]
  rw[<-y2,Array.length_toList]at y;refine wpS_bind (wpS_mono (zeh hO hg R y) ?_);rintro⟨c1,c2⟩ u ⟨hc,R,o⟩;dsimp only at hc;subst hc;exact wpS_pure (h u R.pm R.f (zcX R o))
end
end _Tim
namespace _L2
open PySem PySem.Spec PyProof.Rows
theorem QF{l:List Nat}{its:Array Value}(h:ItemsOf (SignAt (txt l)) its l.length):Vals (l.map λc=>V.str (txt [c])) its.toList:=by
 obtain⟨h1,h2⟩:=h;have key:∀(m:List Nat)(us:List Value),us.length=m.length->(∀(j:Nat) v,us[j]?=some v->∃c u,m[j]?=some c/\v=.str ⟨#[c]⟩ u)->Vals (m.map λc=>V.str (txt [c])) us:=by
  intro m
  induction m with
  |nil =>
   intro us e _;obtain rfl:us=[]:=vm.mp e;exact .nil
  |cons c m ih =>
   intro us e h;cases us with
   |nil=>cases e
   |cons u us =>
    refine .cons ?_ (ih us (Nat.succ.inj e) λj v hv=>h (j+1) v hv);obtain⟨c',t,ec,rfl⟩:=h 0 u rfl;obtain rfl:=Option.some.inj ec;exact⟨t,rfl⟩
 refine key l its.toList (by rw[Array.length_toList,h1]) λj v hv=>?_;obtain⟨c,u,hc,e⟩:=h2 j v (by rw[<-Array.getElem?_toList];exact hv);exact⟨c,u,by simpa[txt]using hc,e⟩
end _L2
namespace _Tim
open PySem PyProof.Rows PySem.Spec
section
variable{prog:Program}{w:World}{A:Around}{E:Value->Shared->Prop}{s:Shared}
theorem X3{vs:List Value}{st:SortSt}(hp:(arrOf st).Perm (pairsOf vs))(hn:vs.length<=sizeLine):((arrOf st).map (·.2)).size<=sizeLine+1:=by
 rw[Array.size_map,hp.size_eq,pairsOf_size];lia
theorem zau{a:Addr}{vs:List Value}{ss:List Str}{n:Nat}{P:Fin->Shared->Prop}(ho:s.heap.get? a=some (seqObj "list" vs.toArray n))(hS:StrsAre vs ss)(hn:vs.length<=sizeLine)
  (h:∀(out:Array Value)(ss':List Str),StrsAre out.toList ss'->ss'.Perm ss->sortedS ss'=true->P (.done (.ret .none)) {s with heap:=sortedHeap s.heap a vs out}):
  wpAny (model prog w) A (Builtin.«list.sort» ⟨[.ref a],[]⟩) P E s:=by
 have hz:vs.toArray.size<=sizeLine:=by rw[ko];exact hn
 have fin:∀t:SortSt,(arrOf t).Perm (pairsOf vs)->SortedToK strKind (arrOf t) (pairsOf vs).size->P (.done (.ret .none)) {s with heap:=sortedHeap s.heap a vs ((arrOf t).map (·.2))}:=λt hp hs=>by
  obtain⟨ss',z1,z2,z3⟩:=sorted_out_str hS hp hs;exact h _ ss' z1 z2 z3
 have la:a<s.heap.objs.size:=Heap.lt_size ho;rw[list_sort_plain];refine wpAny_bind (listItems_at ho rfl (wpAny_bind (listUpdate_at ho rfl ?_ hz (kR _))));obtain⟨e1,o1⟩:∃e1,(s.heap.update a (Obj.mapSeq λ_=>#[])).get? a=some (seqObj "list" #[] e1):=⟨_,get?_update_seq ho (λ_=>#[])⟩;refine wpAny_bind (seqEpoch_at o1 rfl (wpAny_bind (wpAny_newTuple ?_ (by show vs.toArray.toList.length<=_;simpa using hn))));refine wpAny_bind (wpAny_newList (wpAny_holding ?_));have o6:(((s.heap.update a (Obj.mapSeq λ_=>#[])).push (seqObj "tuple" vs.toArray 0)).push (seqObj "list" #[] 0)).get? a=some (seqObj "list" #[] e1):=by
  have n1:a≠(s.heap.update a (Obj.mapSeq λ_=>#[])).objs.size:=by rw[Heap.size_update];exact ve la
  have n2:a≠((s.heap.update a (Obj.mapSeq λ_=>#[])).push (seqObj "tuple" vs.toArray 0)).objs.size:=by rw[size_push',Heap.size_update];exact ve (ux la)
  rw[Heap.get?_push_ne _ _ _ n2,Heap.get?_push_ne _ _ _ n1];exact o1
 show wpAny (model prog w) A _ P E {s with heap:=((s.heap.update a (Obj.mapSeq λ_=>#[])).push (seqObj "tuple" vs.toArray 0)).push (seqObj "list" #[] 0)};dsimp only;by_cases h2:vs.toArray.size<2
 .rw [if_pos h2,if_pos h2];refine wpAny_bind (wpAny_pure ?_);rw[StateT.run_pure];refine wpAny_bind (wpAny_pure ?_);dsimp only;refine wpAny_bind (seqEpoch_at o6 rfl (wpAny_bind (listUpdate_at o6 rfl ?_ (kR _) (X3 (st:=SortSt.mk' general' (vs.toArray.zip vs.toArray) #[] 7 none) (Array.Perm.refl _) hn))));simp only[bne_self_eq_false,bu,if_false];refine wpAny_pure (fin (SortSt.mk' general' (vs.toArray.zip vs.toArray) #[] 7 none) (Array.Perm.refl _) λi j hij hj=>?_);rw[ko]at h2;rw[pairsOf_size]at hj;rw[show i=j by lia];exact KeyOrd.kle_refl _
 .rw [if_neg h2,if_neg h2];obtain⟨v1,v2,r,rfl⟩:∃v1 v2 r,vs=v1::v2::r:=by
   match vs,h2 with
   |[],h2=>simp at h2
   |[_],h2=>simp at h2
   |v1::v2::r,_=>exact⟨v1,v2,r,rfl⟩
  rw[keyKind_strs hS];refine wpAny_bind (wpAny_pure (wpAny_bind (wpAny_mono (zei (κ:=strKind) strKind_oneLt (a0:=pairsOf (v1::v2::r)) (st:=SortSt.mk' oneType' ((v1::v2::r).toArray.zip (v1::v2::r).toArray) #[] 7 none)
   (Q:=λ_ t=>(arrOf t).Perm (pairsOf (v1::v2::r))/\failedOf t=none/\SortedToK strKind (arrOf t) (pairsOf (v1::v2::r)).size) hS.keysOf ⟨Array.Perm.refl _,rfl,rfl,rfl⟩ λt z1 z2 z3=>⟨z1,z2,z3⟩) ?_ λ_ _ e=>e)))
  rintro⟨⟨⟩,t⟩ s' ⟨rfl,hp,hf,hs⟩;dsimp only;refine wpAny_bind (seqEpoch_at o6 rfl (wpAny_bind (listUpdate_at o6 rfl ?_ (kR _) (X3 hp hn))));rw[hf];simp only[bne_self_eq_false,bu,if_false];exact wpAny_pure (fin t hp hs)
theorem WQ:∀{vs:List Value}{ss:List Str},StrsAre vs ss->vs.length=ss.length
 |_,_,.nil=>rfl
 |_,_,.cons _ _ r=>congrArg (· + 1) (WQ r)
theorem Zm{v:Value}{ss:List Str}{Q:Value->Shared->Prop}(hn:ss.length<=sizeLine)
  (hc:∀Q':List Value->Shared->Prop,(∀vs h' tk,StrsAre vs ss->(∀b o,s.heap.get? b=some o->h'.get? b=some o)->Q' vs {s with heap:=h',toks:=tk})->wpAny (model prog w) A.in1 (collect v) Q' E s)
  (h:∀(h1 h':Heap)(tk:Nat)(out:Array Value)(e:Nat)(ss':List Str),(∀b o,s.heap.get? b=some o->h1.get? b=some o)->(∀b o,h1.get? b=some o->h'.get? b=some o)->h'.get? h1.objs.size=some (seqObj "list" out e)->StrsAre out.toList ss'->ss'.Perm ss->sortedS ss'=true->Q (.ref h1.objs.size) {s with heap:=h',toks:=tk}):
  wpAny (model prog w) A (call (.builtin "sorted") [v]) Q E s:=by
 refine Calls.call_function_entry kind_sorted plain_sorted entry_sorted (args_sorted1 _) ?_;unfold Builtin.«sorted»;refine wpAny_bind (m:=checkCount "sorted" 1 1 _) (wpAny_pure (wpAny_bind (hc _ λvs h1 tk hS kp=>?_)));have hn:vs.length<=sizeLine:=by rw[WQ hS];exact hn
 refine wpAny_bind (wpAny_newList ?_ hn);have oL:(h1.push (seqObj "list" vs.toArray 0)).get? h1.objs.size=some (seqObj "list" vs.toArray 0):=Heap.get?_push_size _ rfl;refine wpAny_bind (wpAny_holding (wpAny_call_entry slot_list_sort ⟨_,oL,rfl⟩ entry_list_sort (zau oL hS hn λout ss' z1 z2 z3=>⟨_,rfl,?_⟩) (args_list_sort _)));obtain⟨e,he⟩:=sortedHeap_at (out:=out) oL;refine wpAny_pure ⟨_,rfl,h h1 _ tk out e ss' kp (λb o eb=>?_) he z1 z2 z3⟩;have lt:b<h1.objs.size:=Heap.lt_size eb;rw[sortedHeap_old (ve lt) (by rw[size_push'];exact ux lt),Heap.get?_push_ne _ _ _ (ve lt)];exact eb
end
theorem X4:∀(p:Nat)(l:List Nat),risingS (_L2.txt [p]) (l.map λc=>_L2.txt [c])=true->(p::l).Pairwise (· <= ·)
 |p,[],_=>uy _ _
 |p,c::l,h=>by
  have h:(!ltCps [c] [p]&&risingS (_L2.txt [c]) (l.map λc=>_L2.txt [c]))=true:=h;rw[vj]at h;have ih:=X4 c l h.2;have pc:p<=c:=by
   have:=h.1;rw[ltCps_eq]at this;rcases Nat.lt_or_ge c p with z|z
   .have:([c]:List Nat) < [p]:=List.cons_lt_cons_iff.mpr (.inl z);simp_all
   .exact z
  refine uj.mpr ⟨λx hx=>?_,ih⟩;rcases kL.mp hx with e|e
  .rw [e];exact pc
  .exact kn pc ((uj.mp ih).1 x e)
theorem jc(l:List Nat)(h:sortedS (l.map λc=>_L2.txt [c])=true):l.Pairwise (· <= ·):=by
 cases l with
 |nil=>exact List.Pairwise.nil
 |cons p l=>exact X4 p l h
theorem X5{l:List Nat}:∀{ss:List Str},ss.Perm (l.map λc=>_L2.txt [c])->∃m:List Nat,m.Perm l/\ss=m.map λc=>_L2.txt [c]:=λ{ss} p=>by
 have gs:∀c:Nat,(_L2.txt [c]).cps.toList.headD 0=c:=λc=>rfl;have e:∀x∈ss,_L2.txt [x.cps.toList.headD 0]=x:=λx hx=>by
  obtain⟨c,_,rfl⟩:=vh.mp (p.mem_iff.mp hx);rfl
 refine⟨ss.map λx=>x.cps.toList.headD 0,?_,?_⟩
 .have:=p.map (λx:Str=>x.cps.toList.headD 0);rw[vE]at this;have id_:l.map ((λx:Str=>x.cps.toList.headD 0)∘λc=>_L2.txt [c])=l:=by
   conv=>rhs;rw[<-List.map_id l]
   exact vS λc _=>gs c
  rw[id_]at this;exact this
 .rw [vE]
  conv=>lhs;rw[<-List.map_id ss]
  exact vS λx hx=>(e x hx).symm
end _Tim
namespace _L2
open PySem PySem.Spec PyProof.Rows
section
variable{X:Cx}
theorem qA:∀{l:List Nat}{us:List Value},Vals (l.map λc=>V.str (txt [c])) us->StrsAre us (l.map λc=>txt [c])
 |[],_,h=>by cases h;exact .nil
 |c::l,_,h=>by
  cases h with
  |cons r t =>
   refine E_1 r λk e9=>?_;clear r;subst e9;exact .cons _ k (qA t)
theorem qC:∀{l:List Nat}{us:List Value},StrsAre us (l.map λc=>txt [c])->Vals (l.map λc=>V.str (txt [c])) us
 |[],_,h=>by cases h;exact .nil
 |c::l,_,h=>by
  generalize e:(c::l).map (λc=>txt [c])=z at h;cases h with
  |nil=>cases e
  |cons y t r =>
   obtain⟨rfl,rfl⟩:=List.cons.inj e;exact .cons ⟨t,rfl⟩ (qC r)
theorem QG:yz X (.builtin "sorted") (λxs H Q=>∃(a:Addr)(l:List Nat),xs=[.ref a]/\SqL X.K H a (l.map λc=>V.str (txt [c]))/\l.length<=1000000/\∀(p:Addr)(m:List Nat),H p=none->m.Perm l->m.Pairwise (· <= ·)->Q (.ref p) (upd H p (.lst (m.map λc=>V.str (txt [c]))))):=by
 intro pins s σ H xs us Q I r h;refine E_2 h λa l n8=>A_4 n8 λe9 hq hn q=>?_;clear n8 h;subst e9;obtain⟨u,rfl,ru⟩:=vals1 r;cases ru;obtain⟨its,rv,tp,hz⟩:=I.list hq;have hl:=rv.length;rw[ka]at hl;have big:(1000000:Nat)<=sizeLine:=⋯
 refine _Tim.Zm (ss:=l.map λc=>txt [c]) (by rw[ka];lia) (λQ' k=>collect_list tp.isList (k _ _ _ (qA rv) λb o e=>?_) ()) λh1 h' tk out e ss' kp kp2 he z1 z2 z3=>?_
 .have lt:b<s.heap.objs.size:=Heap.lt_size e;rw[Heap.get?_update_ne _ _ _ _ (ve lt),Heap.get?_push_ne _ _ _ (ve lt)];exact e
 .obtain ⟨m,pm,rfl⟩:=_Tim.X5 z2;have I1:Inv X pins σ H {s with heap:=h1,toks:=tk}:=I.kept kp;refine⟨.ref h1.objs.size,_,I1.laid (t':=tk) (o:=.lst (m.map λc=>V.str (txt [c]))) kp2 (kc _) ⟨by rw[ka,pm.length_eq];lia,out.toList,e,qC z1,by simpa using he⟩,rfl,q _ m (I1.hok.fresh (kc _)) pm (_Tim.jc m z3)⟩
theorem We(hc:X.calm=true):yz X (.builtin "sorted") (λxs H Q=>∃(l:List Nat),xs=[.str (txt l)]/\l.length<=1000000/\∀(p:Addr)(m:List Nat),H p=none->m.Perm l->m.Pairwise (· <= ·)->Q (.ref p) (upd H p (.lst (m.map λc=>V.str (txt [c]))))):=by
 intro pins s σ H xs us Q I r h;refine E_1 h λl n8=>A_3 n8 λe9 hn q=>?_;clear n8 h;subst e9;obtain⟨u,rfl,t,rfl⟩:=vals1 r;have big:(1000000:Nat)<=sizeLine:=⋯
 refine _Tim.Zm (ss:=l.map λc=>txt [c]) (by rw[ka];lia) (λQ' k=>wpAny_collect_str (A:=X.A.in1) (by simp[I.ok.hd hc]) _ _ (λs' acc kp g1 g2 g3 it=>?_) (by show(txt l).length<=_;rw[zI];lia)) λh1 h' tk out e ss' kp kp2 he z1 z2 z3=>?_
 .obtain ⟨hp,gs,dr,tk,os⟩:=s';dsimp only at g1 g2 g3;subst g1 g2 g3;have it:ItemsOf (SignAt (txt l)) acc l.length:=by simpa[txt]using it
  exact k _ hp tk (qA (QF it)) kp
 .obtain ⟨m,pm,rfl⟩:=_Tim.X5 z2;have I1:Inv X pins σ H {s with heap:=h1,toks:=tk}:=I.kept kp;refine⟨.ref h1.objs.size,_,I1.laid (t':=tk) (o:=.lst (m.map λc=>V.str (txt [c]))) kp2 (kc _) ⟨by rw[ka,pm.length_eq];lia,out.toList,e,qC z1,by simpa using he⟩,rfl,q _ m (I1.hok.fresh (kc _)) pm (_Tim.jc m z3)⟩
end
end _L2
namespace _Prt
open _Sta _Lin
open Classical in
open Classical in
theorem X6{α:Type}:∀(l m:List α),l.Nodup->(∀k∈l,k∈m)->m.length=l.length->m.Perm l
 |[],m,_,_,h=>by rw[vm.mp h]
 |k::l,m,nd,sub,h=>by
  obtain⟨n1,n2⟩:=vz.mp nd;have hk:=sub k ke;refine(List.perm_cons_erase hk).trans (List.Perm.cons k (X6 l _ n2 (λk' hk'=>?_) ?_))
  .exact (List.mem_erase_of_ne (λe:k'=k=>n1 (e ▸ hk'))).mpr (sub k' (kg _ hk'))
  .rw [List.length_erase_of_mem hk,h];rfl
theorem zbq{res:List (Int×Pc)}{pcs:List Pc}(ln:res.length=pcs.length)(h:∀(i:Nat)(p:Pc),pcs[i]?=some p->((i:Int),p)∈res):(res.map (·.2)).Perm pcs:=by
 have e2:((vc pcs.length).map λi:Nat=>((i:Int),pcs.getD i ⟨0,0,0,0⟩)).map (·.2)=pcs:=by
  rw[vE];apply ui
  .rw [ka,vL]
  .intro i h1 h2;rw[vX,uk];show pcs.getD i _=_;rw[kE,kf h2];rfl
 have pm:res.Perm ((vc pcs.length).map λi:Nat=>((i:Int),pcs.getD i ⟨0,0,0,0⟩)):=by
  refine X6 _ _ ?_ (λk hk=>?_) (by rw[ka,vL,ln])
  .exact List.Pairwise.map _ (λa b (e:a≠b) z=>e (by injection z with z _;lia)) List.nodup_range
  .obtain ⟨i,hi,rfl⟩:=vh.mp hk;have hi:=vR.mp hi;refine h i _ ?_;rw[kE,kf hi];rfl
 have:=pm.map (·.2)
 rwa [e2]at this
theorem jd{f:Pc->Bool}:∀{pcs:List Pc}{i k:Nat}{p q:Pc},k<i->pcs[k]?=some p->pcs[i]?=some q->f p=true->f q=true->2<=pcs.countP f
 |[],_,_,_,_,_,e,_,_,_=>by simp at e
 |a::r,0,_,_,_,hk,_,_,_,_=>absurd hk (uZ _)
 |a::r,i+1,0,p,q,_,e1,e2,f1,f2=>by
  rw[List.getElem?_cons_zero]at e1;cases e1;rw[List.getElem?_cons_succ]at e2;rw[um,if_pos f1];have:0<r.countP f:=List.countP_pos_iff.mpr ⟨q,kH e2,f2⟩;lia
 |a::r,i+1,k+1,p,q,hk,e1,e2,f1,f2=>by
  rw[List.getElem?_cons_succ]at e1 e2;have:=jd (pcs:=r) (Nat.lt_of_succ_lt_succ hk) e1 e2 f1 f2;rw[um];lia
structure Pgs(wide high:Nat)(pcs:List Pc):Prop where
 ins:∀p∈pcs,wthn ⟨0,0,wide,high⟩ p
 cov:∀x y,pcs.countP (inP · x y)=if x<wide/\y<high then 1 else 0
theorem Pgs.one{wide high:Nat}{pcs:List Pc}(h:Pgs wide high pcs){i k:Nat}{p q:Pc}{x y:Nat}(e1:pcs[k]?=some p)(e2:pcs[i]?=some q)(f1:inP p x y=true)(f2:inP q x y=true):k=i:=by
 have c:=h.cov x y;have le:pcs.countP (inP · x y)<=1:=by rw[c];split<;>decide
 rcases Nat.lt_trichotomy k i with z|z|z
 .have:=jd (f:=(inP · x y)) z e1 e2 f1 f2;lia
 .exact z
 .have:=jd (f:=(inP · x y)) z e2 e1 f2 f1;lia
theorem zej{res:List (Int×Pc)}{pcs:List Pc}{wide high:Nat}{Ls:List R}{t:_Tre.T}(hL:∀L∈Ls,Up L)(hS:zQ Ls t ⟨0,0,wide,high⟩ res)(w1:0<wide)(h1:0<high)(ln:res.length=pcs.length)(h:∀(i:Nat)(p:Pc),pcs[i]?=some p->((i:Int),p)∈res):Pgs wide high pcs:=by
 obtain⟨c,d⟩:=zQ.cov hL hS w1 h1;refine⟨λp hp=>?_,λx y=>?_⟩
 .obtain ⟨k,hk,e⟩:=vT.mp hp;exact d _ (h k p (by rw[kf hk,e]))
 .rw [<-(zbq ln h).countP_eq,c];by_cases z:x<wide/\y<high
  .rw [if_pos z,if_pos ⟨kR _,z.1,kR _,z.2⟩]
  .rw [if_neg z,if_neg λq=>z ⟨q.2.1,q.2.2.2⟩]
def cl(rows:List W)(y x:Nat):Nat:=(rows.getD y []).getD x 32
def chr(ls:List W)(j i:Nat):Nat:=(ls.getD j []).getD i 32
theorem getD_at'{α:Type}{l:List α}{i:Nat}{d:α}(h:i<l.length):l.getD i d=l[i]:=by
 rw[kE,kf h];rfl
theorem WR{wide high y0 x0:Nat}{rows:List W}{a:W}(hF:Full wide high rows)(hy:y0<high)(hx:x0+a.length<=wide)(y x:Nat):cl (lay1 rows y0 x0 a) y x=if y=y0/\x0<=x/\x<x0+a.length then a.getD (x-x0) 32 else cl rows y x:=by
 have hl:y0<rows.length:=by rw[hF.1];exact hy
 have lr:(rows.getD y0 []).length=wide:=by
  rw[getD_at' hl];exact hF.2 _ (vB hl)
 unfold cl lay1;rw[kE (l:=rows.set _ _),List.getElem?_set];by_cases c:y0=y
 .subst c;rw[if_pos rfl,if_pos hl];show(over x0 a (rows.getD y0 [])).getD x 32=_;rw[kE,zcK ()];by_cases d:x0<=x/\x<x0+a.length
  .rw [if_pos d,if_pos ⟨rfl,d⟩,kE]
  .rw [if_neg d,if_neg λz=>d z.2,kE (l:=rows.getD y0 [])]
 .rw [if_neg c,if_neg λz=>c z.1.symm,<-kE]
theorem zav{wide high x0:Nat}:∀{ls rows:List W}{y0:Nat},Full wide high rows->y0+ls.length<=high->(∀l∈ls,x0+l.length<=wide)->∀(y x:Nat),cl (lay rows y0 x0 ls) y x=if y0<=y/\y<y0+ls.length/\x0<=x/\x<x0+(ls.getD (y-y0) []).length then chr ls (y-y0) (x-x0)else cl rows y x
 |[],rows,y0,_,_,_,y,x=>by
  rw[if_neg (by rw[List.length_nil];lia)];rfl
 |a::r,rows,y0,hF,hy,hx,y,x=>by
  rw[kz]at hy ⊢;have hF1:=q8 hF (show y0<high by lia) (hx a ke);show cl (lay (lay1 rows y0 x0 a) (y0+1) x0 r) y x=_;rw[zav hF1 () (λl hl=>hx l (kg _ hl)),WR hF () (hx a ke)];by_cases c:y=y0
  .subst c;rw[if_neg (),bR];show(if y=y/\x0<=x/\x<x0+a.length then a.getD (x-x0) 32 else cl rows y x)=if y<=y/\y<y+(r.length+1)/\x0<=x/\x<x0+a.length then a.getD (x-x0) 32 else cl rows y x;by_cases d:x0<=x/\x<x0+a.length
   .rw [if_pos ⟨rfl,d⟩,if_pos ⟨kc _,(),d⟩]
   .rw [if_neg λz=>d z.2,if_neg λz=>d z.2.2]
  .by_cases d:y0<y
   .obtain ⟨m,rfl⟩:∃m,y=y0+1+m:=⟨y-y0-1,by omega⟩;have e1:y0+1+m-(y0+1)=m:=()
    have e2:y0+1+m-y0=m+1:=()
    rw[e1,e2];show(if y0+1<=y0+1+m/\y0+1+m<y0+1+r.length/\x0<=x/\x<x0+(r.getD m []).length then chr r m (x-x0)else _)=if y0<=y0+1+m/\y0+1+m<y0+(r.length+1)/\x0<=x/\x<x0+(r.getD m []).length then chr r m (x-x0)else _;rw[if_neg (show ¬(y0+1+m=y0/\x0<=x/\x<x0+a.length)from λz=>c z.1)];by_cases g:m<r.length/\x0<=x/\x<x0+(r.getD m []).length
    .rw [if_pos ⟨by assumption,(),g.2⟩,if_pos ⟨(),(),g.2⟩]
    .rw [if_neg λz=>g ⟨(),z.2.2⟩,if_neg λz=>g ⟨(),z.2.2⟩]
   .rw [if_neg (by omega),if_neg λz=>c z.1,if_neg ()]
theorem zbr(wide high y x:Nat):cl (blank wide high) y x=32:=by
 unfold cl blank;by_cases c:y<high
 .rw [getD_at' (l:=kq high _) (by rw[vx];exact c),bD];by_cases d:x<wide
  .rw [getD_at' (by rw[vx];exact d),bD]
  .rw [kE,vC (by rw[vx];lia)];rfl
 .rw [kE (l:=kq high _),vC (by rw[vx];lia)];rfl
theorem X7{wide high:Nat}{pcs:List Pc}{wss:List (List W)}(hp:Pgs wide high pcs)(hF:∀(k:Nat)(p:Pc)(ws:List W),pcs[k]?=some p->wss[k]?=some ws->Fit wide high p ws){k:Nat}{p:Pc}{ws:List W}(e1:pcs[k]?=some p)(e2:wss[k]?=some ws){x y:Nat}(hi:inP p x y=true):∀K,cl (pgs wide high pcs wss K) y x=if k<K then chr (lns p ws) (y-p.t) (x-p.l)else 32
 |0=>by rw[if_neg (uZ _)];exact zbr wide high y x
 |K+1=>by
  have ih:=X7 hp hF e1 e2 hi K;cases e3:pcs[K]? with
  |none =>
   have:¬k=K:=λz=>by rw[z,e3]at e1;cases e1
   unfold pgs;rw[e3];show cl (pgs wide high pcs wss K) y x=_;rw[ih];by_cases c:k<K
   .rw [if_pos c,if_pos ()]
   .rw [if_neg c,if_neg ()]
  |some q =>
   cases e4:wss[K]? with
   |none =>
    have:¬k=K:=λz=>by rw[z,e4]at e2;cases e2
    unfold pgs;rw[e3,e4];show cl (pgs wide high pcs wss K) y x=_;rw[ih];by_cases c:k<K
    .rw [if_pos c,if_pos ()]
    .rw [if_neg c,if_neg ()]
   |some vs =>
    have f:=hF K q vs e3 e4;have i:=xm f.ins;have cn:=f.cnt;have hin:=of_decide_eq_true hi;rw[qp e3 e4,zav (xy hF K) () (λl hl=>by have:=f.line l hl;lia),ih];by_cases c:k=K
    .subst c;rw[e1]at e3;cases e3;rw[e2]at e4;cases e4;rw[if_neg (vF _),if_pos (v9 _)];by_cases d:p.t<=y/\y<p.t+(lns p ws).length/\p.l<=x/\x<p.l+((lns p ws).getD (y-p.t) []).length
     .rw [if_pos d]
     .rw [if_neg d];unfold chr;by_cases g:y-p.t<(lns p ws).length
      .rw [kE (l:=(lns p ws).getD _ _),vC ()];rfl
      .rw [kE (l:=lns p ws),vC ()];rfl
    .have no:¬(q.t<=y/\y<q.t+(lns q vs).length/\q.l<=x/\x<q.l+((lns q vs).getD (y-q.t) []).length):=λz=>by
      refine c (hp.one e1 e3 hi (decide_eq_true ?_));have ll:=f.line _ (kH (l:=lns q vs) (i:=y-q.t) (by rw[kf (show y-q.t<(lns q vs).length by lia),<-getD_at' (d:=[]) (show y-q.t<(lns q vs).length by lia)]));omega
     rw[if_neg no];by_cases d:k<K
     .rw [if_pos d,if_pos (by omega)]
     .rw [if_neg d,if_neg (by omega)]
theorem jx:∀k:Nat,str1 [] (kq k 32)=[]
 |0=>by rw[bP,wI [] [] kN];rfl
 |k+1=>by
  rw[vf];have:=wC [] [] (kq k 32);rw[uY]at this;rw[this,jx k,wI [] [] kN];rfl
theorem zaw{g:List W}(hg:∀u∈g,u≠[]/\32∉u)(k:Nat):str1 [] (glue g++kq k 32)=g:=by
 have e:str1 [] (glue g)=g:=by
  rw[Zk g λp hp=>(hg p hp).2];exact List.filter_eq_self.mpr λp hp=>decide_eq_true (hg p hp).1
 cases k with
 |zero=>rw[bP,vq,e]
 |succ k=>rw[vf,wC,e,jx,vq]
theorem pad{l:W}{m:Nat}(h:l.length<=m):(vc m).map (λi=>l.getD i 32)=l++kq (m-l.length) 32:=by
 apply ui
 .rw [ka,vL,ki,vx];omega
 .intro i h1 h2;rw[vX,uk];by_cases c:i<l.length
  .rw [getD_at' c,List.getElem_append_left c]
  .rw [kE,vC (by omega),List.getElem_append_right (by omega),bD];rfl
theorem zbs{G:List (List W)}{M:Nat}(h:G.length<=M):((vc M).map λj=>G.getD j []).flatten=G.flatten:=by
 obtain⟨k,rfl⟩:∃k,M=G.length+k:=⟨M-G.length,by omega⟩;rw[List.range_add,kD,vD,vE];have e1:(vc G.length).map (λj=>G.getD j [])=G:=by
  apply ui
  .rw [ka,vL]
  .intro i h1 h2;rw[vX,uk,getD_at' h2]
 have e2:((vc k).map ((λj=>G.getD j [])∘λx=>G.length+x)).flatten=[]:=by
  rw[List.flatten_eq_nil_iff];intro l hl;obtain⟨j,_,rfl⟩:=vh.mp hl;show G.getD (G.length+j) []=[];rw[kE,vC (by omega)];rfl
 rw[e1,e2,vq]
theorem QH{wide high:Nat}{pcs:List Pc}{wss:List (List W)}(hp:Pgs wide high pcs)(hF:∀(k:Nat)(p:Pc)(ws:List W),pcs[k]?=some p->wss[k]?=some ws->Fit wide high p ws){k K:Nat}{p:Pc}{ws:List W}(e1:pcs[k]?=some p)(e2:wss[k]?=some ws)(hk:k<K)(hw:∀u∈ws,u≠[]/\32∉u):
  ((((pgs wide high pcs wss K).drop p.t).take (p.b-p.t)).map λr=>str1 [] ((r.drop p.l).take (p.r-p.l))).flatten=ws:=by
 have f:=hF k p ws e1 e2;have i:=xm f.ins;have fl:=xy hF K;have rowsE:(((pgs wide high pcs wss K).drop p.t).take (p.b-p.t)).map (λr=>str1 [] ((r.drop p.l).take (p.r-p.l)))=(vc (p.b-p.t)).map λj=>(grp ((p.r:Int)-(p.l:Int)) ws).getD j []:=by
  apply ui
  .rw [ka,ka,vL,kJ,kZ,fl.1];omega
  .intro j h1 h2;rw[ka,vL]at h2;rw[vX,vX,uk];have hy:p.t+j<(pgs wide high pcs wss K).length:=by rw[fl.1];omega
   have er:(((pgs wide high pcs wss K).drop p.t).take (p.b-p.t))[j]'(by rw[ka]at h1;exact h1)=(pgs wide high pcs wss K)[p.t+j]:=by
    rw[List.getElem_take,List.getElem_drop]
   rw[er];have lr:=fl.2 _ (vB hy);have cut:(((pgs wide high pcs wss K)[p.t+j]).drop p.l).take (p.r-p.l)=(vc (p.r-p.l)).map λu=>((lns p ws).getD j []).getD u 32:=by
    apply ui
    .rw [kJ,kZ,lr,ka,vL];omega
    .intro u g1 g2;rw[ka,vL]at g2;rw[vX,uk,List.getElem_take,List.getElem_drop];have hc:=X7 hp hF e1 e2 (x:=p.l+u) (y:=p.t+j) (decide_eq_true (by omega)) K;rw[if_pos hk,show p.t+j-p.t=j by omega,show p.l+u-p.l=u by omega]at hc;unfold cl chr at hc;rw[getD_at' hy,getD_at' (show p.l+u<((pgs wide high pcs wss K)[p.t+j]).length by rw[lr];omega)]at hc;exact hc
   have eg:(lns p ws).getD j []=glue ((grp ((p.r:Int)-(p.l:Int)) ws).getD j []):=by
    unfold lns;rw[<-qd,kE,k6,kE];cases (grp ((p.r:Int)-(p.l:Int)) ws)[j]? with
    |none=>rfl
    |some g=>rfl
   have le:((lns p ws).getD j []).length<=p.r-p.l:=by
    by_cases c:j<(lns p ws).length
    .rw [getD_at' c];exact f.line _ (vB c)
    .rw [kE,vC (by omega)];exact kR _
   rw[cut,pad le,eg];refine zaw (λu hu=>hw u ?_) _;by_cases c:j<(grp ((p.r:Int)-(p.l:Int)) ws).length
   .rw [getD_at' c]at hu;rw[<-qf ((p.r:Int)-(p.l:Int)) ws];exact uF.mpr ⟨_,vB c,hu⟩
   .rw [kE,vC (by omega)]at hu;exact absurd hu kN
 rw[rowsE,zbs (by rw[wg];exact f.cnt),qf]
theorem Yp(c:Nat):∀(rows:List W)(y:Nat)(r:W),y<rows.length->(rows.set y r).flatten.count c+(rows.getD y []).count c=rows.flatten.count c+r.count c
 |[],_,_,h=>absurd h (uZ _)
 |a::rows,0,r,_=>by
  show(r::rows).flatten.count c+a.count c=(a::rows).flatten.count c+r.count c;rw[kP,kP,vp,vp];omega
 |a::rows,y+1,r,h=>by
  have ih:=Yp c rows y r (by simpa using h);show(a::rows.set y r).flatten.count c+(rows.getD y []).count c=(a::rows).flatten.count c+r.count c;rw[kP,kP,vp,vp];omega
theorem QI{c x:Nat}{l r:W}(hc:c≠32)(h:x+l.length<=r.length)(b:∀i,x<=i->i<x+l.length->r.getD i 32=32):(over x l r).count c=r.count c+l.count c:=by
 have e:r=r.take x++((r.drop x).take l.length++r.drop (x+l.length)):=by
  rw[<-List.drop_drop,vH,vH]
 have z:((r.drop x).take l.length).count c=0:=by
  refine uw λm=>?_;obtain⟨i,hi⟩:=vM m;rw[vV]at hi;split at hi
  case isFalse=>cases hi
  case isTrue q =>
  rw[v5]at hi;have:=b (x+i) (by omega) (by omega);rw[kE,hi]at this;exact hc this
 have e2:r.count c=(r.take x).count c+(r.drop (x+l.length)).count c:=by
  conv=>lhs;rw[e]
  rw[vp,vp,z];omega
 unfold over;rw[vp,vp,e2];omega
theorem QJ{c wide high x y:Nat}{l:W}{rows:List W}(hc:c≠32)(hF:Full wide high rows)(hy:y<high)(hx:x+l.length<=wide)(b:∀i,x<=i->i<x+l.length->cl rows y i=32):(lay1 rows y x l).flatten.count c=rows.flatten.count c+l.count c:=by
 have hl:y<rows.length:=by rw[hF.1];exact hy
 have lr:(rows.getD y []).length=wide:=by
  rw[getD_at' hl];exact hF.2 _ (vB hl)
 have:=Yp c rows y (over x l (rows.getD y [])) hl;rw[QI hc (by omega) b]at this;unfold lay1;omega
theorem Yq{c wide high x:Nat}(hc:c≠32):∀{ls rows:List W}{y:Nat},Full wide high rows->y+ls.length<=high->(∀l∈ls,x+l.length<=wide)->(∀j l i,ls[j]?=some l->x<=i->i<x+l.length->cl rows (y+j) i=32)->(lay rows y x ls).flatten.count c=rows.flatten.count c+ls.flatten.count c
 |[],rows,y,_,_,_,_=>by
  show rows.flatten.count c=_;simp
 |a::ls,rows,y,hF,hy,hx,b=>by
  rw[kz]at hy;have ha:=hx a ke;have F1:=q8 (y:=y) hF (by omega) ha;have ih:=Yq hc (ls:=ls) F1 (y:=y+1) (by omega) (λl hl=>hx l (kg _ hl)) λj l i e h1 h2=>by
   rw[WR hF (by omega) ha,if_neg (by omega),show y+1+j=y+(j+1)by omega];exact b (j+1) l i e h1 h2
  show(lay (lay1 rows y x a) (y+1) x ls).flatten.count c=_;rw[ih,QJ (y:=y) hc hF (by omega) ha (λi h1 h2=>b 0 a i rfl h1 h2),kP,vp];omega
theorem Zn{c:Nat}(hc:c≠32):∀g:List W,(glue g).count c=g.flatten.count c
 |[]=>rfl
 |[a]=>by simp[glue]
 |a::b::r=>by
  have ih:=Zn hc (b::r);rw[show glue (a::b::r)=a++32::glue (b::r)by simp[glue],vp,List.count_cons_of_ne (by simpa using hc.symm),ih];rw[kP,kP,kP,vp,vp,vp]
theorem je{c:Nat}(hc:c≠32):∀G:List (List W),(G.map glue).flatten.count c=G.flatten.flatten.count c
 |[]=>rfl
 |g::G=>by
  rw[k8,kP,vp,Zn hc,je hc G,kP,vD,vp]
theorem zax{c:Nat}(hc:c≠32)(p:Pc)(ws:List W):(lns p ws).flatten.count c=ws.flatten.count c:=by
 unfold lns;rw[<-qd,je hc,qf]
theorem Yr{c wide high:Nat}(hc:c≠32){pcs:List Pc}{wss:List (List W)}(hp:Pgs wide high pcs)(hF:∀(k:Nat)(p:Pc)(ws:List W),pcs[k]?=some p->wss[k]?=some ws->Fit wide high p ws)(ln:pcs.length=wss.length):∀K,K<=wss.length->(pgs wide high pcs wss K).flatten.count c=(wss.take K).flatten.flatten.count c
 |0,_=>by
  show(blank wide high).flatten.count c=_;rw[uw]
  .rfl
  .intro m;obtain⟨r,h1,h2⟩:=uF.mp m;unfold blank at h1;rw[uS h1]at h2;exact hc (uS h2)
 |K+1,hK=>by
  have ih:=Yr hc hp hF ln K (by omega);have e1:pcs[K]?=some (pcs[K]'(by omega)):=kf _;have e2:wss[K]?=some (wss[K]'(by omega)):=kf _;generalize (pcs[K]'(by omega))=p at e1;have f:=hF K p _ e1 e2;have i:=xm f.ins;rw[qp e1 e2,Yq hc (xy hF K) (by have:=f.cnt;omega) (λl hl=>by have:=f.line l hl;omega) λj l x0 e h1 h2=>?_,ih,zax hc,List.take_succ_eq_append_getElem (by omega),vD,vD,vp]
  .simp
  .obtain ⟨hj,_⟩:=kh.mp e;have hl:=f.line l (kH e);have hb:=f.cnt;have:=X7 hp hF e1 e2 (x:=x0) (y:=p.t+j) (decide_eq_true (by omega)) K;rw[if_neg (vF _)]at this;exact this
theorem zay{wide high:Nat}{pcs:List Pc}{wss:List (List W)}(hp:Pgs wide high pcs)(hF:∀(k:Nat)(p:Pc)(ws:List W),pcs[k]?=some p->wss[k]?=some ws->Fit wide high p ws)(ln:pcs.length=wss.length)(hw:∀ws∈wss,∀u∈ws,32∉u):((pgs wide high pcs wss wss.length).flatten.filter λc=>decide (c≠32)).Perm wss.flatten.flatten:=by
 rw[List.perm_iff_count];intro c;by_cases hc:c=32
 .rw [hc,uw,uw]
  .intro m;obtain⟨u,h1,h2⟩:=uF.mp m;obtain⟨ws,h3,h4⟩:=uF.mp h1;exact hw ws h3 u h4 h2
  .intro m;have:=(uA.mp m).2;simp at this
 .rw [List.count_filter (by simpa using hc),Yr hc hp hF ln _ (kc _),kM]
end _Prt
namespace _Sta
open _Tre _Lin
def Bg(P:R)(m:Nat):Prop:=P (12*m) (40*m)
def Bgs:List R->List Nat->Prop
 |[],[]=>True
 |P::Ps,m::ms=>Bg P m/\Bgs Ps ms
 |_,_=>False
theorem zek{P Q:R}{a b:Nat}(u:Up P)(v:Up Q)(p:Bg P a)(q:Bg Q b):Bg (bes P Q) (a+b):=⟨12*a,12*b,by omega,u.up p (kc _) (by omega),v.up q (kc _) (by omega)⟩
theorem zel{P Q:R}{a b:Nat}(u:Up P)(v:Up Q)(p:Bg P a)(q:Bg Q b):Bg (dwn P Q) (a+b):=⟨40*a,40*b,by omega,u.up p (by omega) (kc _),v.up q (by omega) (kc _)⟩
theorem ZS{f:R->R->R}(hf:∀P Q,Up P->Up Q->Up (f P Q))(hb:∀P Q a b,Up P->Up Q->Bg P a->Bg Q b->Bg (f P Q) (a+b)):∀(Ps:List R)(ms:List Nat)(P:R)(m:Nat),Up P->(∀Q∈Ps,Up Q)->Bg P m->Bgs Ps ms->Bg (Ps.foldl f P) (m+ms.sum)
 |[],[],P,m,_,_,p,_=>p
 |Q::Ps,a::ms,P,m,u,us,p,q=>by
  rw[uN,k9,<-uE];exact ZS hf hb Ps ms (f P Q) (m+a) (hf _ _ u (us Q ke)) (λR hR=>us R (kg _ hR)) (hb _ _ _ _ u (us Q ke) p q.1) q.2
 |[],_::_,_,_,_,_,_,q=>q.elim
 |_::_,[],_,_,_,_,_,q=>q.elim
mutual
theorem big{wss:List (List W)}(h40:∀ws∈wss,ws.length<=40)(h12:∀ws∈wss,∀u∈ws,u.length<=12)(hU:∀L∈wss.map xl,Up L):∀{t:T}{n:List Int},Good t n->∀{P:R},HasR (wss.map xl) t P->Bg P n.length
 |_,_,.leaf i,P,hR=>by
  cases hR with
  |leaf h0 h =>
   rw[k6]at h;obtain⟨ws,hw,rfl⟩:=vA.mp h;have:=h40 ws (kH hw);have:=Xf ws ((12:Nat):Int);refine⟨by show 1<=12*1;decide,λu hu=>h12 ws (kH hw) u hu,?_⟩;show max 1 (cnt ws ((12:Nat):Int))<=40*1;omega
 |_,_,.node (ps:=ps) (nss:=nss) hk h2 hn hG,P,hR=>by
  have s0:nss.flatten.length=(nss.map List.length).sum:=uD;cases hR with
  |bar h =>
   have:=bigL h40 h12 hU hG h;have u:=zJ.up hU h;cases nss with
   |nil=>exact absurd this (by simp[Bgs])
   |cons n0 r =>
    rw[s0,k8,k9];exact ZS (λ_ _ a b=>Xu a b) (λ_ _ _ _ a b c d=>zek a b c d) _ _ _ _ (u _ ke) (λQ hQ=>u Q (kg _ hQ)) this.1 this.2
  |dash h =>
   have:=bigL h40 h12 hU hG h;have u:=zJ.up hU h;cases nss with
   |nil=>exact absurd this (by simp[Bgs])
   |cons n0 r =>
    rw[s0,k8,k9];exact ZS (λ_ _ a b=>Xv a b) (λ_ _ _ _ a b c d=>zel a b c d) _ _ _ _ (u _ ke) (λQ hQ=>u Q (kg _ hQ)) this.1 this.2
theorem bigL{wss:List (List W)}(h40:∀ws∈wss,ws.length<=40)(h12:∀ws∈wss,∀u∈ws,u.length<=12)(hU:∀L∈wss.map xl,Up L):∀{ts:List T}{nss:List (List Int)},zE ts nss->∀{Ps:List R},zJ (wss.map xl) ts Ps->Bgs Ps (nss.map List.length)
 |_,_,.nil,Ps,hR=>by
  cases hR;exact trivial
 |_,_,.cons h r,Ps,hR=>by
  cases hR with
  |cons h' r'=>exact⟨big h40 h12 hU h h',bigL h40 h12 hU r r'⟩
end
end _Sta
namespace _L2
open PySem
theorem zaz{X:Cx}{K:Frag}(hK:X.K=K):MtR X "str.join" (λx vs H Q=>∃(a:Addr)(ls:List (List Nat)),x=.str "" /\ vs=[.ref a]/\SqL K H a (ls.map λl=>V.str (txt l))/\(ls.map List.length).sum<=1000000/\Q (.str (txt ls.flatten)) H):=hK ▸ jE
end _L2
namespace _JK
open PySem _L2 _Lin _Tre PySem.W
open _Sta (R HasR Low Pc zQ)
open _Prt (over lay lay1 lns pgs Full Fit)
theorem PcR.uniq{res:List (Int×Pc)}{n:List Int}{pcs pcs':List Pc}{m:Nat}(hk:res.map (·.1)=n)(nd:n.Nodup)(h:PcR res pcs m)(h':PcR res pcs' m):pcs=pcs':=by
 refine List.ext_getElem? λi=>?_;by_cases c:i<m
 .have e1:pcs[i]?=some (pcs[i]'(by rw[h.1];exact c)):=kf _;have e2:pcs'[i]?=some (pcs'[i]'(by rw[h'.1];exact c)):=kf _;have m1:=h.2 i _ e1;have m2:=h'.2 i _ e2;rw[e1,e2];rw[<-hk]at nd;have key:∀{l:List (Int×Pc)},(l.map (·.1)).Nodup->∀{k:Int}{p q:Pc},(k,p)∈l->(k,q)∈l->p=q:=by
   intro l
   induction l with
   |nil=>intro _ k p q h;cases h
   |cons z r ih =>
    intro nd k p q hp hq;rw[k8,vz]at nd;rcases kL.mp hp with e1|hp2
    .rcases kL.mp hq with e2|hq2
     .rw [<-e1]at e2;injection e2 with _ e3;exact e3.symm
     .exact absurd (vh.mpr ⟨(k,q),hq2,by rw[<-e1]⟩) nd.1
    .rcases kL.mp hq with e2|hq2
     .exact absurd (vh.mpr ⟨(k,p),hp2,by rw[<-e2]⟩) nd.1
     .exact ih nd.2 hp2 hq2
  rw[key nd m1 m2]
 .rw [vC (by rw[h.1];omega),vC (by rw[h'.1];omega)]
def q4(p:Pc):Q4:=⟨p.l,p.t,p.r,p.b⟩
theorem zaA{H:Hp}:∀{vs:List V}{ps:List Pc},z6 H vs ps->qu H vs (ps.map q4)
 |_,_,.nil=>.nil
 |_,_,.cons ⟨a,e,z⟩ t=>.cons ⟨a,e,z⟩ (zaA t)
theorem zaB{H0 H:Hp}:∀{vs:List V}{wss:List (List W)},Wls H0 H vs wss->(∀ws∈wss,(∀u∈ws,okW u)/\ws.length<=40)->Txs H vs wss
 |_,_,.nil,_=>.nil
 |_,_,.cons ⟨l,e,_,z⟩ t,h=>.cons ⟨l,e,z,(h _ ke).1,(h _ ke).2⟩ (zaB t λws hw=>h ws (kg _ hw))
theorem X8{u:W}(h:okW u):u≠[]/\32∉u:=⟨λz=>by have:=h.1;rw[z]at this;exact absurd this ⋯,λz=>by have:=h.2.2 32 z;exact absurd this.1 ⋯⟩
def QK(K:Frag):Sp:=λvs H Q _=>∃(a:Addr)(ns:List Int),vs=[.ref a]/\SqL K H a (ns.map V.int)/\ns.length<=63/\∀H',Q (.bl true) H'
section
variable{P:Program}{w:World}{K:Frag}{mg:Str->Option Value}{base:Heap}{kA:Addr}
theorem yX:zn ["script","tree","texts","wide","rows","high","signs","least","narrow"] ["script"] (zj sLaw):=by trivial
theorem zem{f fTr fTx fCo fCe fLv fSe fPd fWi fNr fHg C3 C4 C6 C7:Addr}{fd dTr dTx dCo dCe dLv dSe dPd dWi dNr dHg:FuncData}(F:Fun K "law" "law" sLaw f fd)(Zt:Nt K mg kA)(tmin:mg "min"=none)(ts:mg "sorted"=none)(Tr:Callee P w K mg base CX0 26 "_law_tree" fTr dTr ["script","first","most"] (zbJ K))(Tx:Callee P w K mg base CX0 3 "_law_texts" fTx dTx ["script","many"] (J4 K))
  (Co:Callee P w K mg base CX0 25 "_law_count" fCo dCo ["shape"] (wn 24))(Ce:Callee P w K mg base CX0 2 "_law_cell" fCe dCe ["script","k"] (Zh K))(Lv:Callee P w K mg base (CXE P w) 29 "least_wide" fLv dLv ["tree","texts","high"] (WB C4 C6))
  (Se:Callee P w K mg base (CXE P w) 55 "setting" fSe dSe ["tree","texts","wide","high"] (Zf C4 C6 C7))(Pd:Callee P w K mg base (CXE P w) 56 "printed" fPd dPd ["tree","texts","wide"] (QE C4 C6 C7))(Wi:Callee P w K mg base (CXE P w) 3 "words_in" fWi dWi ["rows","boxes"] (zbP C3))
  (Nr:Callee P w K mg base CX0 56 "_law_no_room" fNr dNr ["tree","texts","wide","high"] zbQ)(Hg:Callee P w K mg base CX0 57 "_law_high" fHg dHg ["tree","texts","wide"] zbR):FnOk P w K mg base CX0 58 f fd ["script"] (QK K):=by
 obtain⟨_,_,_,_,_,ti,tint,tbool,tstr,_,tlist,tl,_,_,_,kI,kB,_,_⟩:=Zt;refine F.ok yX (λvs H Q E h=>?_) (λcdv A outer s H vs Q E hr h=>?_)
 .refine E_2 h λa ns n8=>A_2 n8 λe9 _=>?_;clear n8 h;subst e9;rfl
 .refine E_2 h λa ns n8=>A_4 n8 λe9 hS h63 q=>?_;clear n8 h;subst e9;refine⟨_,(ze (zo (i:=1) yX.nd rfl (Or.inl rfl) (zh Tr.ok (hr.mono (show 26<=57 by decide)) rfl Tr.bound Tr.kp Tr.bd .nil zx (za (pv 0) (za zg (za (zk zC (zO (za zg (za zg (za zg (za zg zb))))) (zA yE (zh Ce.ok (hr.mono (show 2<=57 by decide)) rfl Ce.bound Ce.kp Ce.bd .nil zx (za (pv 0) (za zg zb))) zg) (λ_ _=>rfl)) zb)))))
   (ze (zo (i:=2) yX.nd rfl (Or.inl rfl) (zh Tx.ok (hr.mono (show 3<=57 by decide)) rfl Tx.bound Tx.kp Tx.bd .nil zx (za (pv 0) (za (zh Co.ok (hr.mono (show 25<=57 by decide)) rfl Co.bound Co.kp Co.bd .nil zx (za (pv 1) zb)) zb))))
   (ze (zo (i:=3) yX.nd rfl (Or.inr rfl) (zi (QV rfl) (by rfl) tmin PyProof.Rows.boot_min (za zg (za (zA ym (zh Lv.ok (hr.mono (show 29<=57 by decide)) rfl Lv.bound Lv.kp Lv.bd .nil xU (za (pv 1) (za (pv 2) (za zg zb)))) (zA yE (zh Ce.ok (hr.mono (show 2<=57 by decide)) rfl Ce.bound Ce.kp Ce.bd .nil zx (za (pv 0) (za zg zb))) zg)) zb))))
   (ze (zo (i:=4) yX.nd rfl (Or.inl rfl) (zh Pd.ok (hr.mono (show 56<=57 by decide)) rfl Pd.bound Pd.kp Pd.bd .nil xU (za (pv 1) (za (pv 2) (za (pv 3) zb)))))
   (ze (zo (i:=5) yX.nd rfl (Or.inl rfl) (zi zm (by rfl) tl kO (za (pv 4) zb)))
   (ze (zL (PW.pt (xf (zy (YY hr.units) (zP (Nc:=["row","wide"]) (ix:=[none,some 3]) rfl rfl (by refine' zY ?zz;case zz=>exact(pv 4)) (λ_ _ _ _ _=>(zt (i:=0) (by show(["row","wide"]:List Str).Nodup;decide +kernel) rfl (Or.inl rfl))) (λ_ _ _ _ _=>(wO (zy jg (zi yf (by rfl) tl kO (za (pv 0) zb)) (pv 1) (zu _)))) (λ_ _ _ _ _=>(pv 0))) (zO zb) (zu _)) (xn (zy xh (pv 5) zg (zu _)))))
   (zf (zl xP))
   zF)
   (ze (zL (zy (YY hr.units) (zh Wi.ok (hr.mono (show 3<=57 by decide)) rfl Wi.bound Wi.kp Wi.bd .nil xU (za (pv 4) (za (zh Se.ok (hr.mono (show 55<=57 by decide)) rfl Se.bound Se.kp Se.bd .nil xU (za (pv 1) (za (pv 2) (za (pv 3) (za (pv 5) zb))))) zb))) (pv 2) (zu _))
   (zf (zl xP))
   zF)
   (ze (zo (i:=6) yX.nd rfl (Or.inl rfl) (zi (We rfl) (by rfl) ts bn (za (yq ue u9 ba jE zW (by exact(za (zP (Nc:=["words"]) (ix:=[none]) rfl rfl (by refine' zY ?zz;case zz=>exact(pv 2)) (λ_ _ _ _ _=>(zt (i:=0) (by show(["words"]:List Str).Nodup;decide +kernel) rfl (Or.inl rfl))) (λ_ _ _ _ _=>zS) (λ_ _ _ _ _=>(zdJ (K:=K) rfl ue u9 ba (zaz (K:=K) rfl) zW (by exact(za (pv 0) zb))))) zb))) zb)))
   (ze (zL (zy (YY hr.units) (zi QG (by rfl) ts bn (za (zP (Nc:=["sign"]) (ix:=[none]) rfl rfl (by exact(Jj (yq ue u9 ba jE zW (by exact(za (pv 4) zb))))) (λ_ _ _ _ _=>(zt (i:=0) (by show(["sign"]:List Str).Nodup;decide +kernel) rfl (Or.inl rfl))) (λ_ _ _ _ _=>(wO (zy jg (pv 0) zW (zu _)))) (λ_ _ _ _ _=>(pv 0))) zb)) (pv 6) (zu _))
   (zf (zl xP))
   zF)
   (ze (zL (PW.pt (wo (zy yS (pv 5) zg (zu _)) (x6 (yL (yw (zh Nr.ok (hr.mono (show 56<=57 by decide)) rfl Nr.bound Nr.kp Nr.bd .nil zx (za (pv 1) (za (pv 2) (za (pv 3) (za (zA y4 (pv 5) zg) zb))))))))))
   (zf (zl xP))
   zF)
   (ze (zo (i:=7) yX.nd rfl (Or.inl rfl) (zh Lv.ok (hr.mono (show 29<=57 by decide)) rfl Lv.bound Lv.kp Lv.bd .nil xU (za (pv 1) (za (pv 2) (za (pv 5) zb)))))
   (ze (zL (PW.pt (xf (yL (yw (zi yG (by rfl) ti vg (za (pv 7) (za (xp rfl tint uJ) zb))))) (xf (zy yS (pv 7) (pv 3) (zu _)) (xf (zy xh (pv 7) zg (zu _)) (xn (zy jg (zh Hg.ok hr rfl Hg.bound Hg.kp Hg.bd .nil zx (za (pv 1) (za (pv 2) (za (pv 7) zb)))) (pv 5) (zu _)))))))
   (zf (zl xP))
   zF)
   (ze (zo (i:=8) yX.nd rfl (Or.inl rfl) zg)
   (ze (zL (zy yS (pv 7) zg (zu _))
   (zf (zo (i:=8) yX.nd rfl (Or.inl rfl) (zh Hg.ok hr rfl Hg.bound Hg.kp Hg.bd .nil zx (za (pv 1) (za (pv 2) (za (zA y4 (pv 7) zg) zb))))))
   zF)
   (zf (zl (zep (yu xq (pv 8) zg (zu _)) (xS (yu yS (pv 8) (pv 5) (zu _)))))))))))))))))))),?_⟩
  refine⟨_,rfl,Zz4,λpz npz=>?_⟩;have S1:=zd (o:=.lst [V.int 24,V.int 24,V.int 6,V.int 2]) npz;have hpz:(upd H pz (.lst [V.int 24,V.int 24,V.int 6,V.int 2])) pz=some (.lst [V.int 24,V.int 24,V.int 6,V.int 2]):=zc;generalize upd H pz (.lst [V.int 24,V.int 24,V.int 6,V.int 2])=H1 at S1 hpz;refine⟨_,rfl,a,ns,2,rfl,S1.seq hS,⋯,⋯,λc2=>?_⟩;obtain⟨mo,hmo,mo2,mo24⟩:∃mo:Nat,atI [V.int 24,V.int 24,V.int 6,V.int 2] (c2 % 4)=some (.int (mo:Int))/\2<=mo/\mo<=24:=by
   rcases(show c2 % 4=0\/c2 % 4=1\/c2 % 4=2\/c2 % 4=3 by omega)with e|e|e|e<;>rw[e]
   .exact ⟨24,rfl,⋯,⋯⟩
   .exact ⟨24,rfl,⋯,⋯⟩
   .exact ⟨6,rfl,⋯,⋯⟩
   .exact ⟨2,rfl,⋯,⋯⟩
  refine⟨_,_,rfl,rfl,(by show(0:Int)<4;decide),pz,_,_,_,rfl,rfl,SqL.of hpz,hmo,a,ns,5,mo,rfl,S1.seq hS,h63,⋯,mo2,mo24,λx t n H2 S2 hA g pm n24=>?_⟩;have S12:=S1.trans S2;refine zH ?_
  try dsimp only
  -- the texts
  have gsz:=g.szN;refine⟨_,rfl,_,rfl,x,t,n.length,rfl,hA,_Shp.WC g,by omega,⋯,λH3 S3=>⟨a,ns,n.length,rfl,(S12.trans S3).seq hS,n24,λlt us wss H4 S4 nlt hlt hT lw _=>?_⟩⟩;have S04:=(S12.trans S3).trans S4;refine zH ?_
  try dsimp only
  have pm':n.Perm (up wss.length):=by rw[lw];exact pm
  have iT:zX t:=⟨n,g,n24,pm⟩;have hA4:=hA.same (S3.trans S4);have lu:=hT.len;have rng:∀i∈n,0<=i/\i<((Lvs wss).length:Int):=λi hi=>by
   have:=pm'.mem_iff.mp hi;unfold up at this;obtain⟨j,hj,rfl⟩:=vh.mp this;have:=vR.mp hj;unfold Lvs;rw[ka];omega
  obtain⟨P1,hR⟩:=_Sta.ZJ (Ls:=Lvs wss) g rng;have hU:=yQ wss;have hup:=HasR.up hU hR;have n1:1<=n.length:=by
   have:=gsz;have:=qS t;omega
  -- the width
  refine⟨_,rfl,_,rfl,x,.ref lt,t,50000,rfl,hA4,by omega,.inl ⟨n,lt,us,wss,iT,g,rfl,hlt,hT,by rw[lu,lw],λP2 o H5 hR2 S5 low=>?_⟩⟩;obtain rfl:=_Sta.y9 hR2 hR;have bg:P2 (12*n.length) (40*n.length):=_Sta.big hT.ok40 (λws hw u hu=>(hT.okw ws hw u hu).2.1) hU g hR;have bg2:P2 (12*n.length) 50000:=hup.up bg (kc _) (by omega);obtain⟨l0,rfl⟩:=_Sta.J7 (P:=_Sta.tr P2) (w:=50000) (k:=12*n.length) bg2 low;have l12:l0<=12*n.length:=low.2 _ bg2;have rm0:P2 l0 50000:=low.1;have l1:=(hup.pos rm0).1;have S05:=S04.trans S5;refine⟨_,rfl,a,ns,3,rfl,S05.seq hS,⋯,⋯,λc3=>⟨_,_,rfl,rfl,(by show(0:Int)<61;decide),_,_,rfl,rfl,_,_,rfl,?_⟩⟩;have m0:=uf c3 (show(61:Int)≠0 by decide);obtain⟨W,hW,W0,W4⟩:∃W:Nat,(if(l0:Int)+c3 % 61<400 then(l0:Int)+c3 % 61 else 400)=(W:Int)/\l0<=W/\W<=400:=by
   split
   .exact ⟨((l0:Int)+c3 % 61).toNat,by omega,by omega,by omega⟩
   .exact ⟨400,rfl,by omega,by omega⟩
  rw[hW];refine zH ?_
  try dsimp only
  have T5:Tw H5 x t n lt us wss P2:=⟨hA4.same S5,by omega,iT,g,S5 _ _ hlt,hT.same S5,by rw[lu,lw],hR⟩;have hS5:=S05.seq hS
  -- printed
  obtain⟨k,lowW⟩:=_Sta.qo (P:=P2) (w:=W) ⟨50000,hup.up rm0 W0 (kc _)⟩;have rm:P2 W k:=lowW.1;have k1:=(hup.pos rm).2;have k40:k<=40*n.length:=lowW.2 _ (_Sta.tall hT.ok40 hU g hR W k rm);obtain⟨res,hSI⟩:=_Sta.XC hU hR (p:=⟨0,0,W,k⟩) (by unfold _Sta.Rm;exact rm) (kR _) (kR _);refine⟨_,rfl,_,rfl,_,rfl,x,t,W,n,lt,us,wss,P2,rfl,T5.hA,T5.hz,iT,g,T5.hL,T5.hT,T5.hl,hR,by omega,W4,.inl ⟨k,res,lowW,hSI,λlf pcs H6 S6 nlf hPR hlf=>?_⟩⟩;refine zH ?_
  try dsimp only
  have hF:=XU (n:=n) hR rm hSI hPR;have fl:=_Prt.xy hF n.length;have T6:=T5.same S6;have ks:=zQ.keys g hSI;have nd:n.Nodup:=by
   rw[pm.nodup_iff];exact Xt _
  have lpc:pcs.length=n.length:=hPR.1;have lres:res.length=pcs.length:=by rw[lpc,<-ks,ka]
  have hG:=_Prt.zej hU hSI (by omega) (by omega) lres hPR.2;have lnw:pcs.length=wss.length:=by omega
  have perm:=_Prt.zay hG hF lnw λws hw u hu=>(X8 (hT.okw ws hw u hu)).2;rw[show wss.length=n.length by omega]at perm;obtain⟨pg,hpg⟩:∃pg,pg=pgs W k pcs wss n.length:=⟨_,rfl⟩;rw[<-hpg]at fl perm hlf
  -- high
  refine⟨_,rfl,_,_,rfl,.inl (SqL.of hlf),?_⟩;rw[zR,fl.1];refine zH ?_
  try dsimp only
  -- the rows
  refine⟨_,rfl,lf,rfl,⟨_,SqL.of hlf⟩,ye (K:=K) (a:=lf) (xs:=tx pg) (λi ys σ H'=>ys=[]/\H'=H6/\∃o,σ=[o,some (.int W)]) ⟨rfl,rfl,none,rfl⟩
   (λi ys σ H' hi h9=>by obtain⟨e,e2,_⟩:=h9;exact(⟨by rw[e];exact kR _,by rw[e2];exact SqL.of hlf⟩)) ?_ ?_⟩
  case refine_2 =>
   rintro i y ys σ H' hy ⟨rfl,rfl,o,rfl⟩;obtain⟨r,er,rfl⟩:=yW hy;have lr:=fl.2 r (kH er);dsimp only[zU];refine⟨_,rfl,_,rfl,by rw[zI,lr];exact kn (show W<=1000 by omega) ⋯,_,rfl,rfl,?_⟩;refine⟨_,rfl,?_⟩;rw[zI,lr,decide_eq_true rfl];exact iteF ⟨rfl,rfl,_,rfl⟩
  rintro ys σ H7 ⟨e1,e2,_⟩ p5 n5;rw[e2]at n5 ⊢;rw[e1];clear e1 e2;have S7:=zd (o:=.lst []) n5;have hp5:(upd H6 p5 (.lst [])) p5=some (.lst (tx [])):=zc;generalize upd H6 p5 (.lst [])=H8 at S7 hp5;refine⟨Zz0,λp6 n6=>?_⟩;have S8:=S7.trans (zd (o:=.lst []) n6);have hp5':=zd (o:=.lst []) n6 _ _ hp5;have hp6:(upd H8 p6 (.lst [])) p6=some (.lst (tx [])):=zc;generalize upd H8 p6 (.lst [])=H9 at S8 hp5' hp6;refine I_4 p5 p6 1 true ⟨rfl,rfl,Yx (SqL.of hp5') (SqL.of hp6),⋯,false,rfl,iteF ?_⟩;refine⟨_,rfl,_,_,rfl,rfl,_,rfl,?_⟩;rw[decide_eq_false (show ¬((k:Int)<1)by omega)];refine iteF ?_;refine zV ?_
  try dsimp only
  clear hp5 hp5' hp6 n5 S7 n6
  -- what is read
  have T9:=T6.same S8;have hlf9:=S8 _ _ hlf;refine⟨_,rfl,_,rfl,_,rfl,_,rfl,_,rfl,x,.ref lt,t,W,k,rfl,T9.hA,T9.hz,.inl ⟨n,lt,us,wss,P2,iT,g,rfl,T9.hL,T9.hT,T9.hl,hR,.inl ⟨res,rm,hSI,λD vs pcs2 H10 S10 nD hD hPc lpc2 hres2=>?_⟩⟩⟩;obtain rfl:=hPR.uniq ks nd ⟨lpc2,hres2⟩;have hB:=zaA hPc;have rd:(pcs.map q4).map (wds pg)=wss:=by
   apply ui
   .rw [ka,ka];omega
   .intro i h1 h2;rw[vX,vX];rw[ka,ka]at h1;have e1:pcs[i]?=some pcs[i]:=kf h1;have e2:wss[i]?=some wss[i]:=kf h2;have:=_Prt.QH hG hF (K:=n.length) e1 e2 (by omega) λu hu=>X8 (hT.okw _ (vB h2) u hu);rw[<-hpg]at this;exact this
  refine I_7 lf D pg W k vs (pcs.map q4) ⟨rfl,S10 _ _ hlf9,⟨fl.1,fl.2,by omega,by omega,by omega⟩,hD,hB,λb hb=>?_,by rw[ka];omega,.inl ⟨λb hb=>?_,λl2 us2 H11 S11 nl2 hl2 hW2 _ _=>?_⟩⟩
  .obtain ⟨p,hp,rfl⟩:=vh.mp hb;have:=_Prt.xm (hG.ins p hp);show(p.t:Int)<(p.b:Int);omega
  .obtain ⟨p,hp,rfl⟩:=vh.mp hb;have:=_Prt.xm (hG.ins p hp);refine⟨by show(p.l:Int)<(p.r:Int);omega,decide_eq_true ?_⟩;show 0<=(p.l:Int)/\0<=(p.t:Int)/\(p.b:Int)<=(k:Int)/\(p.r:Int)<=(W:Int);omega
  rw[rd]at hW2;have hT2:=zaB hW2 λws hw=>⟨hT.okw ws hw,hT.ok40 ws hw⟩;have S911:=S10.trans S11;have T11:=T9.same S911;have hlf11:=S911 _ _ hlf9;refine⟨_,rfl,l2,lt,2,true,rfl,rfl,zdD hl2 T11.hL hT2 T11.hT,⋯,_,rfl,iteF ?_⟩;refine zV ?_
  try dsimp only
  clear hT2 hW2 rd hB hPc hD hres2 lpc2 S10 S11 nl2 hl2 nD
  -- the signs
  have len12:∀ws∈wss,(ws.map List.length).sum<=480:=λws hw=>by
   have h40:=hT.ok40 ws hw;have:(ws.map List.length).sum<=ws.length*12:=by
    have:=λu hu=>(hT.okw ws hw u hu).2.1;clear h40 hw
    induction ws with
    |nil=>simp
    |cons u r ih =>
     have h1:=this u ke;have h2:=ih λv hv=>this v (kg _ hv);rw[k8,k9,kz];omega
   omega
  refine⟨rfl,_,rfl,lt,rfl,⟨_,SqL.of T11.hL⟩,ye (K:=K) (a:=lt) (xs:=us) (λi ys σ H'=>ys=(wss.take i).map (λws=>V.str (txt ws.flatten))/\H'=H11/\∃o,σ=[o]) ⟨rfl,rfl,none,rfl⟩
   (λi ys σ H' hi h9=>by obtain⟨e,e2,_⟩:=h9;exact(⟨by rw[e,ka,kJ];exact kn (show _<=1000 by omega) ⋯,by rw[e2];exact SqL.of T11.hL⟩)) ?_ ?_⟩
  case refine_2 =>
   intro i y ys σ H' hy h8;refine A_3 h8 λe1 e2 n8=>E_1 n8 λo e9=>?_;clear n8 h8;subst e9;obtain⟨ws,ew,pa,rfl,hpa,hw,h40⟩:=T11.hT.get hy;obtain⟨hil,ev⟩:=kh.mp ew;rw[e2,e1];dsimp only[zU,tYes];refine iteT ⟨rfl,_,rfl,pa,ws,rfl,rfl,SqL.of hpa,kn (len12 ws (kH ew)) ⋯,?_⟩;refine⟨?_,rfl,_,rfl⟩;rw[<-kF hil,ev,kD];rfl
  rintro ys σ H7 ⟨e1,e2,_⟩ lj nlj;rw[e2]at nlj ⊢;rw[e1,show us.length=wss.length by omega,kM];clear e1 e2;have Sj:=zd (o:=.lst (wss.map λws=>V.str (txt ws.flatten))) nlj;have hlj:(upd H11 lj (.lst (wss.map λws=>V.str (txt ws.flatten)))) lj=some (.lst ((wss.map bT).map λl=>V.str (txt l))):=by
   rw[vE];exact zc
  generalize upd H11 lj (.lst (wss.map λws=>V.str (txt ws.flatten)))=H12 at Sj hlj;have lsum:((wss.map bT).map List.length).sum<=20000:=by
   have w24:wss.length<=24:=by omega
   have:((wss.map bT).map List.length).sum<=wss.length*480:=by
    clear hlj;have:=len12;generalize wss=z at this
    induction z with
    |nil=>simp
    |cons ws r ih =>
     have h1:=this ws ke;have h2:=ih λv hv=>this v (kg _ hv);rw[k8,k8,k9,uD,kz];omega
   omega
  refine⟨lj,wss.map bT,rfl,rfl,SqL.of hlj,kn lsum ⋯,_,rfl,by rw[uD];exact kn lsum ⋯,λsg m nsg pm1 so1=>?_⟩;rw[<-List.flatten_flatten]at pm1;refine zH ?_
  try dsimp only
  have Sg:=Sj.trans (zd (o:=.lst (m.map λc=>V.str (txt [c]))) nsg);have hsg:(upd H12 sg (.lst (m.map λc=>V.str (txt [c])))) sg=some (.lst (tx (m.map λc=>[c]))):=by
   unfold tx;rw[vE];exact zc
  generalize upd H12 sg (.lst (m.map λc=>V.str (txt [c])))=H13 at Sg hsg;have T13:=T11.same Sg;have hlf13:=Sg _ _ hlf11;clear hlj Sj nlj nsg
  -- the signs of the rows
  have asc:∀c∈pg.flatten,c<128:=λc hc=>by
   by_cases z:c=32
   .omega
   .have:=perm.mem_iff.mp (uA.mpr ⟨hc,decide_eq_true z⟩);obtain⟨u,h1,h2⟩:=uF.mp this;obtain⟨ws,h3,h4⟩:=uF.mp h1;exact va ((hT.okw ws h3 u h4).2.2 c h2).2.1 ⋯
  have pgl:(pg.map List.length).sum<=400000:=by
   have:(pg.map List.length).sum<=pg.length*400:=by
    have:=fl.2;clear perm asc hpg hlf hlf9 hlf11 hlf13 fl
    induction pg with
    |nil=>simp
    |cons r rs ih =>
     have h1:=this r ke;have h2:=ih λv hv=>this v (kg _ hv);rw[k8,k9,kz];omega
   rw[fl.1]at this;omega
  refine⟨rfl,_,rfl,lf,pg,rfl,rfl,SqL.of hlf13,kn pgl ⋯,pg.flatten,rfl,asc,Wq (l:=pg.flatten) (λi ys σ H'=>ys=((pg.flatten.take i).filter λc=>decide (c≠32)).map (λc=>V.str (txt [c]))/\H'=H13/\∃o,σ=[o]) ⟨rfl,rfl,none,rfl⟩
   (λi ys σ H' hi ⟨e,_,_⟩=>?_) (λys σ H' ⟨e1,e2,_⟩=>?_) (λi c ys σ H' hc ⟨e1,e2,o,e3⟩=>?_)⟩
  .rw [e,ka];refine kn (uM _ _) ?_;rw[kJ,uD];exact kn (show _<=400000 by omega) ⋯
  .rw [e2,e1,kM];intro lq nlq;have Sq:=zd (o:=.lst ((pg.flatten.filter λc=>decide (c≠32)).map λc=>V.str (txt [c]))) nlq;have hlq:(upd H13 lq (.lst ((pg.flatten.filter λc=>decide (c≠32)).map λc=>V.str (txt [c])))) lq=some (.lst ((pg.flatten.filter λc=>decide (c≠32)).map λc=>V.str (txt [c]))):=zc;generalize upd H13 lq (.lst ((pg.flatten.filter λc=>decide (c≠32)).map λc=>V.str (txt [c])))=H14 at Sq hlq;refine⟨lq,_,rfl,SqL.of hlq,?_,λsq m2 nsq pm2 so2=>?_⟩
   .refine kn (uM _ _) ?_;rw[uD];exact kn pgl ⋯
   obtain rfl:m2=m:=(pm2.trans (perm.trans pm1.symm)).eq_of_pairwise (λx y _ _ h1 h2=>bI h1 h2) so2 so1;have Sr:=Sq.trans (zd (o:=.lst (m2.map λc=>V.str (txt [c]))) nsq);have hsq:(upd H14 sq (.lst (m2.map λc=>V.str (txt [c])))) sq=some (.lst (tx (m2.map λc=>[c]))):=by
    unfold tx;rw[vE];exact zc
   generalize upd H14 sq (.lst (m2.map λc=>V.str (txt [c])))=H15 at Sr hsq;refine⟨_,rfl,sq,sg,1,true,rfl,rfl,Yx (SqL.of hsq) (SqL.of (Sr _ _ hsg)),⋯,_,rfl,iteF ?_⟩;refine zV ?_
   try dsimp only
   have T15:=T13.same Sr;clear hsq hlq Sq nlq nsq hsg hlf13;refine ZB (λσ H16=>σ=[some (.ref a),some x,some (.ref lt),some (.int W),some (.ref lf),some (.int k),some (.ref sg),none,none]/\Same H15 H16) ?pf (λgo=>?main)
   case main =>
    -- one row less
    refine⟨_,rfl,_,_,rfl,rfl,_,rfl,?_⟩;refine ite2 (λc1=>?_) (λc1=>?_)
    .have c1:=of_decide_eq_true c1;have hk1:(k:Int)-1=((k-1:Nat):Int):=by omega
     refine⟨_,rfl,_,rfl,_,rfl,_,rfl,_,_,rfl,rfl,x,t,W,k-1,n,lt,us,wss,P2,by show [x,V.ref lt,V.int (W:Int),V.int ((k:Int)-1)]=_;rw[hk1],T15,λz=>?_,λH16 S16=>⟨_,rfl,iteF ?_⟩⟩
     .have:=lowW.2 _ z;omega
     .exact go _ _ ⟨rfl,S16⟩
    .exact go _ _ ⟨rfl,Same.refl _⟩
   case pf =>
    rintro σ H16 ⟨rfl,S16⟩;have T16:=T15.same S16
    -- the least width of that height
    refine⟨_,rfl,_,rfl,_,rfl,x,.ref lt,t,k,rfl,T16.hA,T16.hz,.inl ⟨n,lt,us,wss,iT,g,rfl,T16.hL,T16.hT,T16.hl,λP3 o H17 hR3 S17 lowK=>?_⟩⟩;obtain rfl:=_Sta.y9 hR3 hR;obtain⟨l,rfl⟩:=_Sta.J7 (P:=_Sta.tr P3) (w:=k) (k:=W) rm lowK;have lW:l<=W:=lowK.2 _ rm;have rml:P3 l k:=lowK.1;have l1':=(hup.pos rml).1;refine zH ?_;rw[show oV (some l)=V.int ((l:Nat):Int)from rfl]
    try dsimp only
    have T17:=T16.same S17;refine⟨_,rfl,_,_,_,_,rfl,rfl,(At.int (H:=H17) (l:Int)).ty,kI _,_,rfl,iteF ?_⟩;refine⟨_,rfl,_,rfl,_,_,rfl,rfl,_,rfl,?_⟩;rw[decide_eq_false (show ¬((W:Int)<l)by omega)];refine iteF ?_;refine⟨_,rfl,_,_,rfl,rfl,_,rfl,?_⟩;rw[decide_eq_false (show ¬((l:Int)<1)by omega)];refine iteF ?_;refine⟨_,rfl,_,rfl,_,rfl,x,t,l,n,lt,us,wss,P3,rfl,T17,by omega,by omega,.inl ⟨k,⟨rml,λk' hk'=>lowW.2 _ (hup.up hk' lW (kc _))⟩,λH18 S18=>?_⟩⟩;refine⟨_,rfl,rfl,_,rfl,?_⟩;rw[decide_eq_true rfl];refine iteF ?_;refine zV ?_
    try dsimp only
    have T18:=T17.same S18;refine x8 (v:=.int 0) zM ?_
    try dsimp only
    -- one sign less
    refine⟨_,rfl,_,_,rfl,rfl,_,rfl,?_⟩;refine ite2 (λc2=>?_) (λc2=>?_)
    .have c2:=of_decide_eq_true c2;have hl1:(l:Int)-1=((l-1:Nat):Int):=by omega
     by_cases ex:∃k',P3 (l-1) k'
     .obtain ⟨k2,low2⟩:=_Sta.qo (P:=P3) (w:=l-1) ex;have kk:k<k2:=by
       rcases Nat.lt_or_ge k k2 with z|z
       .exact z
       .have:=lowK.2 _ (show _Sta.tr P3 k (l-1)from hup.up low2.1 (kc _) z);omega
      refine⟨_,rfl,_,rfl,_,rfl,_,_,rfl,rfl,x,t,l-1,n,lt,us,wss,P3,by show [x,V.ref lt,V.int ((l:Int)-1)]=_;rw[hl1],T18,by omega,by omega,.inl ⟨k2,low2,λH19 S19=>?_⟩⟩;refine zH ?_
      try dsimp only
      refine⟨_,rfl,rfl,_,rfl,?_⟩;rw[decide_eq_false (show ¬(V.int (k2:Int)=V.int 0)from λz=>by injection z with z;omega)];refine iteF ?_;refine⟨_,rfl,_,rfl,_,_,rfl,rfl,?_⟩;show Q (V.bl (decide ((k:Int)<k2))) H19;rw[decide_eq_true (show(k:Int)<k2 by omega)];exact q _
     .refine ⟨_,rfl,_,rfl,_,rfl,_,_,rfl,rfl,x,t,l-1,n,lt,us,wss,P3,by show [x,V.ref lt,V.int ((l:Int)-1)]=_;rw[hl1],T18,by omega,by omega,.inr ⟨λk' hk'=>ex ⟨k',hk'⟩,λH19 S19=>?_⟩⟩;refine zH ?_
      try dsimp only
      refine⟨_,rfl,rfl,_,rfl,?_⟩;rw[decide_eq_true rfl];exact iteT (q _)
    .refine zV ?_
     try dsimp only
     refine⟨_,rfl,rfl,_,rfl,?_⟩;rw[decide_eq_true rfl];exact iteT (q _)
  .subst e3;rw[e2,e1];obtain⟨hil,ev⟩:=kh.mp hc;dsimp only[zU];refine⟨_,rfl,rfl,_,rfl,?_⟩;have eD:(!decide (V.str (txt [c])=V.str " "))=decide (c≠32):=by
    have e32:(" " : Str)=txt [32]:=by decide +kernel
    rw[e32,<-decide_not,decide_eq_decide];refine⟨λz w=>z (by rw[w]),λz w=>z ?_⟩;injection w with w;have:=congrArg (λs:Str=>s.cps.toList) w;simpa[txt]using this
   rw[eD,<-kF hil,ev,bv,kD];refine ite2 (λz=>?_) (λz=>?_)
   .refine ⟨_,rfl,?_,rfl,_,rfl⟩;rw[ub,if_pos z];rfl
   .refine ⟨?_,rfl,_,rfl⟩;rw[ub,if_neg z];simp
end
end _JK
namespace _JK
open PySem _L2 _Tre
def Dq(K:Frag)(n:Str)(f:Addr)(st:Stmt):Prop:=∃fd,kX K mainGlobals n=some (some (.ref f))/\Fun K n n st f fd
theorem bl1{α:Type}{p:List α->Prop}{us:List α}(hl:us.length=1)(q:∀a0,p [a0]):p us:=match us,hl with
 |[a0],_=>q a0
theorem bd1{K:Frag}{x q:Str}{st:Stmt}{f:Addr}{fd:FuncData}{ps:List Str}(F:Fun K x q st f fd)(hp:ps.length=1:=by rfl)(h:∀(kV doc pm:Value)(an:Option Addr)(cdv ct a0:Value),bindArgs (uo x q (xj st) (yN st) (zj st) .none kV doc pm an cdv ct) ⟨[a0],[]⟩=pure (ps.zip [a0]):=by intros;rfl):Binds K fd ps []:=F.binds λkV doc pm an cdv ct us hl=>bl1 (p:=λus=>bindArgs _ ⟨us,[]⟩=pure (List.zip _ us)) (hl.trans hp) (h kV doc pm an cdv ct)
theorem bl2{α:Type}{p:List α->Prop}{us:List α}(hl:us.length=2)(q:∀a0 a1,p [a0,a1]):p us:=match us,hl with
 |[a0,a1],_=>q a0 a1
theorem bd2{K:Frag}{x q:Str}{st:Stmt}{f:Addr}{fd:FuncData}{ps:List Str}(F:Fun K x q st f fd)(hp:ps.length=2:=by rfl)(h:∀(kV doc pm:Value)(an:Option Addr)(cdv ct a0 a1:Value),bindArgs (uo x q (xj st) (yN st) (zj st) .none kV doc pm an cdv ct) ⟨[a0,a1],[]⟩=pure (ps.zip [a0,a1]):=by intros;rfl):Binds K fd ps []:=F.binds λkV doc pm an cdv ct us hl=>bl2 (p:=λus=>bindArgs _ ⟨us,[]⟩=pure (List.zip _ us)) (hl.trans hp) (h kV doc pm an cdv ct)
theorem bl3{α:Type}{p:List α->Prop}{us:List α}(hl:us.length=3)(q:∀a0 a1 a2,p [a0,a1,a2]):p us:=match us,hl with
 |[a0,a1,a2],_=>q a0 a1 a2
theorem bd3{K:Frag}{x q:Str}{st:Stmt}{f:Addr}{fd:FuncData}{ps:List Str}(F:Fun K x q st f fd)(hp:ps.length=3:=by rfl)(h:∀(kV doc pm:Value)(an:Option Addr)(cdv ct a0 a1 a2:Value),bindArgs (uo x q (xj st) (yN st) (zj st) .none kV doc pm an cdv ct) ⟨[a0,a1,a2],[]⟩=pure (ps.zip [a0,a1,a2]):=by intros;rfl):Binds K fd ps []:=F.binds λkV doc pm an cdv ct us hl=>bl3 (p:=λus=>bindArgs _ ⟨us,[]⟩=pure (List.zip _ us)) (hl.trans hp) (h kV doc pm an cdv ct)
theorem bl4{α:Type}{p:List α->Prop}{us:List α}(hl:us.length=4)(q:∀a0 a1 a2 a3,p [a0,a1,a2,a3]):p us:=match us,hl with
 |[a0,a1,a2,a3],_=>q a0 a1 a2 a3
theorem bd4{K:Frag}{x q:Str}{st:Stmt}{f:Addr}{fd:FuncData}{ps:List Str}(F:Fun K x q st f fd)(hp:ps.length=4:=by rfl)(h:∀(kV doc pm:Value)(an:Option Addr)(cdv ct a0 a1 a2 a3:Value),bindArgs (uo x q (xj st) (yN st) (zj st) .none kV doc pm an cdv ct) ⟨[a0,a1,a2,a3],[]⟩=pure (ps.zip [a0,a1,a2,a3]):=by intros;rfl):Binds K fd ps []:=F.binds λkV doc pm an cdv ct us hl=>bl4 (p:=λus=>bindArgs _ ⟨us,[]⟩=pure (List.zip _ us)) (hl.trans hp) (h kV doc pm an cdv ct)
theorem all_mk{l:PySem.W.OpenLaw}{w:World}{K:Frag}{h:Heap}{mg:Str->Option Value}{fa  f0 f1 f2 f3 f4 f5 f6 f7 f8 f9 f10 f11 f12 f13 f14 f15 f16 f17 f18 f19 f20 f21 f22 f23 f24 f25 f26 f27 f28 f29 f30 f31 f32 f33 f34 f35 f36 f37 f38 f39 f40 f41 f42 f43 f44 f45 f46 f47 f48 f49 f50 f51 C0 C1 C2 C3 C4:Addr}(X:K.In h)(G:h.Ns mainGlobals mg)(hfa:mg "law"=some (.ref fa))
  {kA:Addr}{odK:Option Addr}{nK:Nat}{slK:Array (Option Value)}{tk1 tk2:Tok}{t_LEFT_OUT t_MOST_SIGNS t_KIND t_PARTS t_MOST_BOXES t_WIDE t_HIGH t_MOST_WORDS t_LEFT t_TOP t_RIGHT t_BELOW t_MOST_WIDE t_ACROSS:Tok}
  (d0:Dq K "is_sign" f0 W7)
  (d1:Dq K "is_word" f1 W8)
  (d2:Dq K "are_words" f2 sAre)
  (d3:Dq K "refuse_no_words" f3 ZD)
  (d4:Dq K "taken" f4 Xh)
  (d5:Dq K "lines" f5 Xi)
  (d6:Dq K "with_next_word" f6 W9)
  (d7:Dq K "next_width" f7 Xj)
  (d8:Dq K "text_stairs" f8 ZE)
  (d9:Dq K "is_whole" f9 Xk)
  (d10:Dq K "has_kind" f10 sHas)
  (d11:Dq K "is_branch" f11 sBr)
  (d12:Dq K "numbers_in" f12 sNum)
  (d13:Dq K "is_tree" f13 Qa)
  (d14:Dq K "refuse_no_tree" f14 Qb)
  (d15:Dq K "boxes_of" f15 Xm)
  (d16:Dq K "is_text" f16 Qe)
  (d17:Dq K "refuse_no_texts" f17 sRTx)
  (d18:Dq K "side_by_side" f18 sSbs)
  (d19:Dq K "all_side_by_side" f19 sAll)
  (d20:Dq K "exchanged" f20 Qf)
  (d21:Dq K "box_stairs" f21 sBst)
  (d22:Dq K "stairs_of" f22 sSo)
  (d23:Dq K "tree_stairs" f23 sTst)
  (d24:Dq K "lowest" f24 sLow)
  (d25:Dq K "narrowest" f25 Qg)
  (d26:Dq K "least_high" f26 sLh)
  (d27:Dq K "least_wide" f27 Xn)
  (d28:Dq K "edges" f28 Xo)
  (d29:Dq K "pieces_across" f29 sPa)
  (d30:Dq K "pieces_down" f30 sPd)
  (d31:Dq K "pieces_of" f31 sPo)
  (d32:Dq K "set_in" f32 qR)
  (d33:Dq K "height_in" f33 sHin)
  (d34:Dq K "setting" f34 jH)
  (d35:Dq K "laid_over" f35 sLov)
  (d36:Dq K "printed" f36 sPrd)
  (d37:Dq K "is_printed" f37 sPrn)
  (d38:Dq K "words_of" f38 sWof)
  (d39:Dq K "words_in" f39 sWin)
  (d40:Dq K "_law_stir" f40 Qc)
  (d41:Dq K "_law_cell" f41 Qd)
  (d42:Dq K "_law_lack" f42 Qw)
  (d43:Dq K "_law_shape" f43 XL)
  (d44:Dq K "_law_count" f44 qY)
  (d45:Dq K "_law_numbered" f45 qZ)
  (d46:Dq K "_law_tree" f46 Xl)
  (d47:Dq K "_law_word" f47 sLw)
  (d48:Dq K "_law_texts" f48 (top 77))
  (d49:Dq K "_law_no_room" f49 sNor)
  (d50:Dq K "_law_high" f50 sHgh)
  (d51:Dq K "law" f51 sLaw)
  (C0m:kX K mainGlobals "PartError"=some (some (.ref C0)))
  (C1m:kX K mainGlobals "NoPlace"=some (some (.ref C1)))
  (C2m:kX K mainGlobals "NoTree"=some (some (.ref C2)))
  (C3m:kX K mainGlobals "NoTexts"=some (some (.ref C3)))
  (C4m:kX K mainGlobals "NoRoom"=some (some (.ref C4)))
  (z_len:kX K mainGlobals "len"=some none)
  (z_range:kX K mainGlobals "range"=some none)
  (z_min:kX K mainGlobals "min"=some none)
  (z_max:kX K mainGlobals "max"=some none)
  (z_sum:kX K mainGlobals "sum"=some none)
  (z_zip:kX K mainGlobals "zip"=some none)
  (z_isinstance:kX K mainGlobals "isinstance"=some none)
  (z_int:kX K mainGlobals "int"=some none)
  (z_bool:kX K mainGlobals "bool"=some none)
  (z_str:kX K mainGlobals "str"=some none)
  (z_tuple:kX K mainGlobals "tuple"=some none)
  (z_list:kX K mainGlobals "list"=some none)
  (z_all:kX K mainGlobals "all"=some none)
  (z_any:kX K mainGlobals "any"=some none)
  (z_ord:kX K mainGlobals "ord"=some none)
  (z_sorted:kX K mainGlobals "sorted"=some none)
  (z_reversed:kX K mainGlobals "reversed"=some none)
  (z_enumerate:kX K mainGlobals "enumerate"=some none)
  (g_LEFT_OUT:kX K mainGlobals "LEFT_OUT"=some (some (.int 37 t_LEFT_OUT)))
  (g_MOST_SIGNS:kX K mainGlobals "MOST_SIGNS"=some (some (.int 12 t_MOST_SIGNS)))
  (g_KIND:kX K mainGlobals "KIND"=some (some (.int 0 t_KIND)))
  (g_PARTS:kX K mainGlobals "PARTS"=some (some (.int 1 t_PARTS)))
  (g_MOST_BOXES:kX K mainGlobals "MOST_BOXES"=some (some (.int 24 t_MOST_BOXES)))
  (g_WIDE:kX K mainGlobals "WIDE"=some (some (.int 0 t_WIDE)))
  (g_HIGH:kX K mainGlobals "HIGH"=some (some (.int 1 t_HIGH)))
  (g_MOST_WORDS:kX K mainGlobals "MOST_WORDS"=some (some (.int 40 t_MOST_WORDS)))
  (g_LEFT:kX K mainGlobals "LEFT"=some (some (.int 0 t_LEFT)))
  (g_TOP:kX K mainGlobals "TOP"=some (some (.int 1 t_TOP)))
  (g_RIGHT:kX K mainGlobals "RIGHT"=some (some (.int 2 t_RIGHT)))
  (g_BELOW:kX K mainGlobals "BELOW"=some (some (.int 3 t_BELOW)))
  (g_MOST_WIDE:kX K mainGlobals "MOST_WIDE"=some (some (.int 400 t_MOST_WIDE)))
  (g_ACROSS:kX K mainGlobals "ACROSS"=some (some (.str "|" t_ACROSS)))
  (ex1:u5 K C1 [.type "ValueError",.type "Exception",.type "BaseException",.type "object"] "ValueError.__new__" = true)
  (ex2:u5 K C2 [.type "ValueError",.type "Exception",.type "BaseException",.type "object"] "ValueError.__new__" = true)
  (ex3:u5 K C3 [.type "ValueError",.type "Exception",.type "BaseException",.type "object"] "ValueError.__new__" = true)
  (ex4:u5 K C4 [.type "ValueError",.type "Exception",.type "BaseException",.type "object"] "ValueError.__new__" = true)
  (e0a:uG K (.ref C0) "__getattribute__"=some (some (.builtin "BaseException.__getattribute__")))
  (e0b:uG K (.ref C0) "__getattr__"=some none)
  (e0c:uG K (.ref C0) "__class__"=some (some (.builtin "object.__class__")))
  (e0f:u3 K C0 (.type "object")=some true)
  (e0g:u3 K C0 (.type "BaseException")=some true)
  (e0h:PySem.W.typeIn K (.ref C0)=some (.type "type"))
  (e0i:(PySem.W.clsIn K C0).isSome=true)
  (e4a:uG K (.ref C4) "__getattribute__"=some (some (.builtin "BaseException.__getattribute__")))
  (e4b:uG K (.ref C4) "__getattr__"=some none)
  (e4c:uG K (.ref C4) "__class__"=some (some (.builtin "object.__class__")))
  (e4f:u3 K C4 (.type "object")=some true)
  (e4g:u3 K C4 (.type "BaseException")=some true)
  (e4h:PySem.W.typeIn K (.ref C4)=some (.type "type"))
  (e4i:(PySem.W.clsIn K C4).isSome=true)
  (ed:PySem.W.specialIn K (.builtin "object.__class__") "__get__"=some (some (.builtin "getset_descriptor.__get__")))
  (ee:PySem.W.takesIn K (.builtin "object.__class__")=some true)
  (hKINDS:kX K mainGlobals "KINDS"=some (some (.ref kA)))
  (lkK:K.lookup kA=some ⟨.type "tuple",odK,.seq #[.str "|" tk1,.str "-" tk2] nK,slK⟩)
  (kt0:kC K (.type "NoneType") (.type "str")=some false)
  (kt1:kC K (.type "bool") (.type "str")=some false)
  (kt2:kC K (.type "int") (.type "str")=some false)
  (kt3:kC K (.type "list") (.type "str")=some false)
  (kt4:kC K (.type "tuple") (.type "str")=some false)
  (kt5:kC K (.type "dict") (.type "str")=some false)
  (kt6:kC K (.type "NoneType") (.type "list")=some false)
  (kt7:kC K (.type "str") (.type "list")=some false)
  (kt8:kC K (.type "int") (.type "list")=some false)
  (kt9:kC K (.type "tuple") (.type "list")=some false)
  (kt10:kC K (.type "dict") (.type "list")=some false)
  (q_int0:kC K (.type "NoneType") (.type "int")=some false)
  (q_int1:kC K (.type "bool") (.type "int")=some true)
  (q_int2:kC K (.type "int") (.type "int")=some true)
  (q_int3:kC K (.type "str") (.type "int")=some false)
  (q_int4:kC K (.type "tuple") (.type "int")=some false)
  (q_int5:kC K (.type "list") (.type "int")=some false)
  (q_int6:kC K (.type "dict") (.type "int")=some false)
  (q_bool0:kC K (.type "NoneType") (.type "bool")=some false)
  (q_bool1:kC K (.type "bool") (.type "bool")=some true)
  (q_bool2:kC K (.type "int") (.type "bool")=some false)
  (q_bool3:kC K (.type "str") (.type "bool")=some false)
  (q_bool4:kC K (.type "tuple") (.type "bool")=some false)
  (q_bool5:kC K (.type "list") (.type "bool")=some false)
  (q_bool6:kC K (.type "dict") (.type "bool")=some false)
  (q_str0:kC K (.type "NoneType") (.type "str")=some false)
  (q_str1:kC K (.type "bool") (.type "str")=some false)
  (q_str2:kC K (.type "int") (.type "str")=some false)
  (q_str3:kC K (.type "str") (.type "str")=some true)
  (q_str4:kC K (.type "tuple") (.type "str")=some false)
  (q_str5:kC K (.type "list") (.type "str")=some false)
  (q_str6:kC K (.type "dict") (.type "str")=some false)
  (q_tuple0:kC K (.type "NoneType") (.type "tuple")=some false)
  (q_tuple1:kC K (.type "bool") (.type "tuple")=some false)
  (q_tuple2:kC K (.type "int") (.type "tuple")=some false)
  (q_tuple3:kC K (.type "str") (.type "tuple")=some false)
  (q_tuple4:kC K (.type "tuple") (.type "tuple")=some true)
  (q_tuple5:kC K (.type "list") (.type "tuple")=some false)
  (q_tuple6:kC K (.type "dict") (.type "tuple")=some false)
  (kt11:kC K (.type "bool") (.type "list")=some false)
  (up4:u3 K C4 (.ref C0)=some true)
  (u4:u3 K C4 (.ref C4)=some true)
  (k4q:kC K (.ref C4) (.ref C4)=some true):
  ∃fd:FuncData,(∀(s:Shared)(v:Value),BindsTo s fd ⟨[v],[]⟩ [("script",v)])/\∀base:Heap,K.In base->base.Ns mainGlobals mg->FnOk l.prog w K mg base CX0 58 fa fd ["script"] (QK K):=by
 obtain⟨g51,a51,F51⟩:=d51;have e:=hfa.symm.trans (kK X G a51);cases e;obtain⟨g0,a0,F0⟩:=d0;obtain⟨g1,a1,F1⟩:=d1;obtain⟨g2,a2,F2⟩:=d2;obtain⟨g3,a3,F3⟩:=d3;obtain⟨g4,a4,F4⟩:=d4;obtain⟨g5,a5,F5⟩:=d5;obtain⟨g6,a6,F6⟩:=d6;obtain⟨g7,a7,F7⟩:=d7;obtain⟨g8,a8,F8⟩:=d8;obtain⟨g9,a9,F9⟩:=d9;obtain⟨g10,a10,F10⟩:=d10;obtain⟨g11,a11,F11⟩:=d11;obtain⟨g12,a12,F12⟩:=d12;obtain⟨g13,a13,F13⟩:=d13;obtain⟨g14,a14,F14⟩:=d14;obtain⟨g15,a15,F15⟩:=d15;obtain⟨g16,a16,F16⟩:=d16;obtain⟨g17,a17,F17⟩:=d17;obtain⟨g18,a18,F18⟩:=d18;obtain⟨g19,a19,F19⟩:=d19;obtain⟨g20,a20,F20⟩:=d20;obtain⟨g21,a21,F21⟩:=d21;obtain⟨g22,a22,F22⟩:=d22;obtain⟨g23,a23,F23⟩:=d23;obtain⟨g24,a24,F24⟩:=d24;obtain⟨g25,a25,F25⟩:=d25;obtain⟨g26,a26,F26⟩:=d26;obtain⟨g27,a27,F27⟩:=d27;obtain⟨g28,a28,F28⟩:=d28;obtain⟨g29,a29,F29⟩:=d29;obtain⟨g30,a30,F30⟩:=d30;obtain⟨g31,a31,F31⟩:=d31;obtain⟨g32,a32,F32⟩:=d32;obtain⟨g33,a33,F33⟩:=d33;obtain⟨g34,a34,F34⟩:=d34;obtain⟨g35,a35,F35⟩:=d35;obtain⟨g36,a36,F36⟩:=d36;obtain⟨g37,a37,F37⟩:=d37;obtain⟨g38,a38,F38⟩:=d38;obtain⟨g39,a39,F39⟩:=d39;obtain⟨g40,a40,F40⟩:=d40;obtain⟨g41,a41,F41⟩:=d41;obtain⟨g42,a42,F42⟩:=d42;obtain⟨g43,a43,F43⟩:=d43;obtain⟨g44,a44,F44⟩:=d44;obtain⟨g45,a45,F45⟩:=d45;obtain⟨g46,a46,F46⟩:=d46;obtain⟨g47,a47,F47⟩:=d47;obtain⟨g48,a48,F48⟩:=d48;obtain⟨g49,a49,F49⟩:=d49;obtain⟨g50,a50,F50⟩:=d50;have xc0:yU K C0:=⟨e0a,e0b,e0c,ed,ee,e0f,e0g,e0h,e0i⟩;have xc4:yU K C4:=⟨e4a,e4b,e4c,ed,ee,e4f,e4g,e4h,e4i⟩;have Z:Nm K mg:=⟨⟨_,kK X G g_LEFT_OUT⟩,⟨_,kK X G g_MOST_SIGNS⟩,(km X G z_isinstance),(km X G z_str),(km X G z_list),(km X G z_len),(km X G z_all),(km X G z_any),(km X G z_ord),kt0,kt1,kt2,kt3,kt4,kt5,kt6,kt7,kt8,kt9,kt10,kt11⟩;have Zt:Nt K mg kA:=⟨⟨_,kK X G g_KIND⟩,⟨_,kK X G g_PARTS⟩,⟨_,kK X G g_MOST_BOXES⟩,kK X G hKINDS,λH=>.inr ⟨_,_,_,lkK,rfl,rfl,(show 2<=sizeLine by decide),.cons ⟨_,rfl⟩ (.cons ⟨_,rfl⟩ .nil)⟩,(km X G z_isinstance),(km X G z_int),(km X G z_bool),(km X G z_str),(km X G z_tuple),(km X G z_list),(km X G z_len),(km X G z_any),(km X G z_sorted),(km X G z_range),(λt=>by cases t;exact q_int0;exact q_int1;exact q_int2;exact q_int3;exact q_int4;exact q_int5;exact q_int6),(λt=>by cases t;exact q_bool0;exact q_bool1;exact q_bool2;exact q_bool3;exact q_bool4;exact q_bool5;exact q_bool6),(λt=>by cases t;exact q_str0;exact q_str1;exact q_str2;exact q_str3;exact q_str4;exact q_str5;exact q_str6),(λt=>by cases t;exact q_tuple0;exact q_tuple1;exact q_tuple2;exact q_tuple3;exact q_tuple4;exact q_tuple5;exact q_tuple6)⟩;have Zs:Ns K mg:=⟨⟨_,kK X G g_WIDE⟩,⟨_,kK X G g_HIGH⟩,⟨_,kK X G g_MOST_WORDS⟩,⟨_,kK X G g_ACROSS⟩,(km X G z_len),(km X G z_isinstance),(km X G z_list),(km X G z_all),(km X G z_max),(km X G z_reversed),kt6,kt7,kt8,kt9,kt10,kt11⟩;have ZK:Kd K mg C0 C4:=⟨kK X G C0m,kK X G C4m,xc0,xc4,up4,u4,k4q⟩;obtain⟨oc,od,kV,doc,pm,an,cdv,ct,osl,rfl,lk,hcd⟩:=F51.ex;refine⟨uo "law" "law" (xj sLaw) (yN sLaw) (zj sLaw) .none kV doc pm an cdv ct,λs v=>.of_eq rfl,λbase B _=>?_⟩;have C {CX:CXT}{k:Nat}{x:Str}{f:Addr}{fd:FuncData}{st:Stmt}{ps:List Str}{sp:Sp} (a:kX K mainGlobals x=some (some (.ref f))) (F:Fun K x x st f fd) (h:FnOk l.prog w K mg base CX k f fd ps sp) (b:Binds K fd ps []):Callee l.prog w K mg base CX k x f fd ps sp:=⟨h,kK X G a,F.2,b⟩;have Y0:=C a0 F0 (zcb F0 Z) (bd1 F0);have Y1:=C a1 F1 (zcc F1 Z Y0) (bd1 F1);have Y2:=C a2 F2 (zdk F2 Z Y1) (bd1 F2);have Y3:=C a3 F3 (Jw F3 ⟨kK X G C3m,ex3⟩ Y2) (bd1 F3);have Y4:=C a4 F4 (zaW F4 (km X G z_len)) (bd2 F4);have Y5:=C a5 F5 (zbl F5 Z Y3 Y4) (bd2 F5);have Y6:=C a6 F6 (zcd F6 (km X G z_len)) (bd2 F6);have Y7:=C a7 F7 (zce F7 (km X G z_min) (km X G z_zip) Y6) (bd1 F7);have Y8:=C a8 F8 (Jz F8 (km X G z_len) (km X G z_max) Y3 Y4 Y7) (bd1 F8);have Y9:=C a9 F9 (zaZ F9 Zt) (bd1 F9);have Y10:=C a10 F10 (zdo F10 Zt) (bd1 F10);have Y11:=C a11 F11 (zeE F11 Zt Y10) (bd1 F11);have Y12:=C a12 F12 (zdq F12 Zt Y9 Y11) (bd1 F12);have Y13:=C a13 F13 (zci F13 Zt Y12) (bd1 F13);have Y14:=C a14 F14 (zcj F14 ⟨kK X G C2m,ex2⟩ Y13) (bd1 F14);have Y15:=C a15 F15 (za3 F15 (km X G z_len) Y14 Y12) (bd1 F15);have Y16:=C a16 F16 (zcq F16 Zs Y2) (bd1 F16);have Y17:=C a17 F17 (zdv F17 Zs ⟨kK X G C3m,ex3⟩ Y15 Y16) (bd2 F17);have Y18:=C a18 F18 (zdw F18 Zs) (bd2 F18);have Y19:=C a19 F19 (zdx F19 Y18) (bd1 F19);have Y20:=C a20 F20 (zcr F20 Zs) (bd1 F20);have Y21:=C a21 F21 (zdz F21 Y8) (bd1 F21);have Y22:=C a22 F22 (zbF F22 ⟨_,kK X G g_KIND⟩ ⟨_,kK X G g_PARTS⟩ Zs Y9 Y19 Y20 (kK X G a22) F22.2 (bd2 F22) 24) (bd2 F22);have Y23:=C a23 F23 (zdC F23 Y17 Y22 Y21) (bd2 F23);have Y24:=C a24 F24 (zdE F24 ⟨_,kK X G g_WIDE⟩ ⟨_,kK X G g_HIGH⟩ (km X G z_min)) (bd2 F24);have Y25:=C a25 F25 (zcu F25 ⟨_,kK X G g_WIDE⟩ ⟨_,kK X G g_HIGH⟩ (km X G z_min)) (bd2 F25);have Y26:=C a26 F26 (zeK F26 Y23 Y24) (bd3 F26);have Y27:=C a27 F27 (zba F27 Y23 Y25) (bd3 F27);have Y28:=C a28 F28 (za8 F28) (bd3 F28);have Y29:=C a29 F29 (zeM F29 ⟨_,kK X G g_LEFT⟩ ⟨_,kK X G g_TOP⟩ ⟨_,kK X G g_RIGHT⟩ ⟨_,kK X G g_BELOW⟩ (km X G z_zip) Y25 Y22 Y28) (bd3 F29);have Y30:=C a30 F30 (zeN F30 ⟨_,kK X G g_LEFT⟩ ⟨_,kK X G g_TOP⟩ ⟨_,kK X G g_RIGHT⟩ ⟨_,kK X G g_BELOW⟩ (km X G z_zip) Y24 Y22 Y28) (bd3 F30);have Y31:=C a31 F31 (zeO F31 ⟨_,kK X G g_KIND⟩ ⟨_,kK X G g_PARTS⟩ Zs Y29 Y30) (bd3 F31);have Y32:=C a32 F32 (JS F32 ⟨_,kK X G g_PARTS⟩ (km X G z_zip) Y9 Y31 (kK X G a32) F32.2 (bd3 F32) 24) (bd3 F32);have Y33:=C a33 F33 (zdG F33 ⟨kK X G C4m,ex4⟩ Y26) (bd3 F33);have Y34:=C a34 F34 (zcy F34 ⟨kK X G C4m,ex4⟩ (km X G z_sorted) Y33 Y32 Y21) (bd4 F34);have Y35:=C a35 F35 (zdP F35 (km X G z_len)) (bd3 F35);have Y36:=C a36 F36 (zdQ F36 ⟨kK X G C4m,ex4⟩ ⟨_,kK X G g_MOST_WIDE⟩ ⟨_,kK X G g_LEFT⟩ ⟨_,kK X G g_TOP⟩ ⟨_,kK X G g_RIGHT⟩ (km X G z_zip) (km X G z_enumerate) Y17 Y33 Y34 Y5 Y35) (bd3 F36);have Y37:=C a37 F37 (zdS F37 ⟨⟨_,kK X G g_LEFT⟩,⟨_,kK X G g_TOP⟩,⟨_,kK X G g_RIGHT⟩,⟨_,kK X G g_BELOW⟩,(km X G z_len),(km X G z_all)⟩) (bd2 F37);have Y38:=C a38 F38 (zdT F38 ⟨⟨_,kK X G g_LEFT⟩,⟨_,kK X G g_TOP⟩,⟨_,kK X G g_RIGHT⟩,⟨_,kK X G g_BELOW⟩,(km X G z_len),(km X G z_all)⟩) (bd2 F38);have Y39:=C a39 F39 (zdU F39 ⟨⟨_,kK X G g_LEFT⟩,⟨_,kK X G g_TOP⟩,⟨_,kK X G g_RIGHT⟩,⟨_,kK X G g_BELOW⟩,(km X G z_len),(km X G z_all)⟩ ⟨kK X G C1m,ex1⟩ Y37 Y38) (bd2 F39);have Y40:=C a40 F40 (zcG F40) (bd2 F40);have Y41:=C a41 F41 (zcH F41 (km X G z_len) Y40) (bd2 F41);have Y42:=C a42 F42 (zcC F42 (km X G z_len) (km X G z_max)) (bd1 F42);have Y43:=C a43 F43 (zbc F43 (km X G z_len) (km X G z_int) (km X G z_tuple) Y42) (bd3 F43);have Y44:=C a44 F44 (XN F44 Zt (km X G z_sum) (kK X G a44) F44.2 (bd1 F44) 24) (bd1 F44);have Y45:=C a45 F45 (JZ F45 (km X G z_tuple) (kK X G a45) F45.2 (bd2 F45) 24) (bd2 F45);have Y46:=C a46 F46 (zdL F46 (km X G z_len) (km X G z_range) (km X G z_list) Y43 Y41 Y44 Y45) (bd3 F46);have Y47:=C a47 F47 (zcI F47 (km X G z_range)) (bd1 F47);have Y48:=C a48 F48 (zcJ F48 (km X G z_range) (km X G z_int) Y41 Y40 Y47) (bd2 F48);have Y49:=C a49 F49 (zdV F49 (km X G z_isinstance) ZK Y34) (bd4 F49);have Y50:=C a50 F50 (zdW F50 (km X G z_len) ZK Y36) (bd3 F50);exact zem F51 Zt (km X G z_min) (km X G z_sorted) Y46 Y48 Y44 Y41 Y27 Y34 Y36 Y39 Y49 Y50
end _JK
local macro_rules|`(command|universe $x*)=>do
 let c<-x.mapM λx=>`(theorem $x:ident:True:=True.intro)
 return Lean.mkNullNode c
namespace PySem.W.Fast
universe tw4572389652069247890 te11823515541721688853 tw2048734277294375536 tw12884764353485912972 tw17459777661468272011 tw4592076235114258132 tw915219803365540769 tw14641326292916574039 tw11850099790573211245 tw6370540826314092315 tw8805818250797278323 tw9469068603419549127 tw6594572407043218710 tw4475919597707903674 tw8471961535720144288 tw13256202347240725344 tw15692939877318701298 tw11885641068065276998 tw14218250492864464371 tw12416047370988091459 tw17776674095873306653 tw5783765711077797139 tw7753699880272225464 tw15821980257170304248 tw4094070639280300235 tw18166463647732509959 tw1358971554260576849 tw16769467679840700256 tw18306919745332343041 tw623857769635384461 tw15786466659782855734 tw12119971962411664853 tw11834612709608051968 tw2438121385254149927 tw6597299975647849238 tw15377026978006552369 tw16106787037586603981 tw1668210752106323812 tw13891804697930447255 tw17108044618621435665 tw1559052799355168161 tw1151122192818440663 tw15370144935823741400 tw17794060300044418083 tw13260241581541290752 tw2449676928732544289 tw7591313535127973794 tw11191617651566905454 tw8388206757168446352 tw18086303254231293174 tw17013350400467315 tw196036622507078274 tw14564212487888488477 tw8263797060907040670 tw983605232884429769 tw4639515617870802486 tw14665187582926926730 tw11469396305821995540 tw4387915941374865756 tw11189568235080660852 tw14251076157243927773 tw14287535903151173585 tw18192514800582191849 tw1950907602824606213 tw6810624260481948632 tw8745147317325579755 tw9496767512003336892 tw15367702967863594555 tw6787021242015047577 tw16798504598586657912 tw7322672577770116391 tw14684928727279098158 tw6213058301652570722 tw14423256628960739092 tw3182332172316298486 tw13757374752565631161 tw8079611122666711872 tw17483229086830168910 tw6055821155163258830 tw314694471153332044 tw10003012680056461992 tw11388612520814327526 tw18181531140343336224 tw17199774200221458074 tw16649702003449198207 tw12900050486260719568 tw18044846146618622157 tw1949673535375870344 tw5391330038821608574 tw17566302688937222926 tw2524105273207203726 tw7223563757942343413 tw2543112377876755799 tw8343968489216578679 tw13393688982645598549 tw3660377262371975379 tw16669229975301566984 tw18039928051152492160 tw1041223643583783438 tw6067737849163219860 tw12039990307110889287 tw4267188377024843577 tw11047286025946541566 tw7892777248316267905 tw12014621002806102476 tw8727885051801940349 tw15493932003638921298 tw264251894121793883 tw13035026097942905029 tw8312272684310937617 tw14465057620045769588 tw9283882047524443311 tw9732777945696899165 tw10360204010624769837 tw9864472774794484448 tw2725746762417096399 tw11939920074032520282 tw16874405783800543233 tw5109528898784579632 tw2268605015254036194 tw12805423650049480441 tw15316618838793954287 tw14201457613510995084 tw9970345083990927742 tw2258564166109076025 tw15759540801946882181 tw6266299317222584971 tw8287174038891265899 tw9787254462804001223 tw9731319704472413674 tw5051065183556005738 tw6278808580838903738 tw16459417449736246724 tw4123042817281776148 tw13945178844153590056 tw13580494568776480232 tw2670266960454943721 tw2066649321793486661 tw13638274332937780939 tw18272917504881069913 tw15891157403810936189 tw3441098640252540501 tw6814735274651396238 tw2295724868459080913 tw10455504479925214609 tw14160286166364841678 tw1881904046648467922 tw11823817893990049272 tw4635338250827008691 tw3433315812275189244 tw8181486392465306636 tw974555528361305636 tw9619731263615817957 tw13097371072127732432 tw14944257708350236369 tw12597608138349524286 tw9087599054147357216 tw7483635182524539659 tw2211593346963876736 tw959997809091165908 tw2844826899463297955 tw11647031555345586576 tw2684317538169026141 tw14907178628000935398 tw5885947271396663010 tw16431267781569739091 tw12194957022740726112
end PySem.W.Fast
local macro_rules|`(tactic|and_intros)=>`(tactic|exact⟨_,by k_is,_L2.zB (by k_is) (by k_is) (by k_is)⟩)
open PySem PySem.W PyProof.Rows
set_option maxRecDepth 100000 in
set_option maxHeartbeats 0 in
theorem PySem.Challenge.cw_pagepart_k68_whole_printed_and_read_holds : PySem.Challenge.rw_pagepart_k68_whole_printed_and_read.Holds := by
 w_on;o_law;k_head;(case hw=>w_witness2)
 k_fill
 refine _L2.zaJ (l:=PySem.Challenge.rw_pagepart_k68_whole_printed_and_read) (n:=63) (k:=58) (x := "script") (CX:=_L2.CX0) (sp:=λK=>_JK.QK K) rfl ⋯ rfl ⟨rfl,⋯,⋯⟩ (λw h Y=>PySem.W.kIn_of Y) ?F (λK H a ns hl hO hS=>⟨a,ns,rfl,hS,hl,λ_=>rfl⟩) λ_ _ _ _ z=>z
 case F =>
  intro w mg fa h KX G hmg;refine' _root_._JK.all_mk KX G hmg  ?d0 ?d1 ?d2 ?d3 ?d4 ?d5 ?d6 ?d7 ?d8 ?d9 ?d10 ?d11 ?d12 ?d13 ?d14 ?d15 ?d16 ?d17 ?d18 ?d19 ?d20 ?d21 ?d22 ?d23 ?d24 ?d25 ?d26 ?d27 ?d28 ?d29 ?d30 ?d31 ?d32 ?d33 ?d34 ?d35 ?d36 ?d37 ?d38 ?d39 ?d40 ?d41 ?d42 ?d43 ?d44 ?d45 ?d46 ?d47 ?d48 ?d49 ?d50 ?d51 ?C0m ?C1m ?C2m ?C3m ?C4m ?z_len ?z_range ?z_min ?z_max ?z_sum ?z_zip ?z_isinstance ?z_int ?z_bool ?z_str ?z_tuple ?z_list ?z_all ?z_any ?z_ord ?z_sorted ?z_reversed ?z_enumerate ?g_LEFT_OUT ?g_MOST_SIGNS ?g_KIND ?g_PARTS ?g_MOST_BOXES ?g_WIDE ?g_HIGH ?g_MOST_WORDS ?g_LEFT ?g_TOP ?g_RIGHT ?g_BELOW ?g_MOST_WIDE ?g_ACROSS ?ex1 ?ex2 ?ex3 ?ex4 ?e0a ?e0b ?e0c ?e0f ?e0g ?e0h ?e0i ?e4a ?e4b ?e4c ?e4f ?e4g ?e4h ?e4i ?ed ?ee ?hKINDS ?lkK ?kt0 ?kt1 ?kt2 ?kt3 ?kt4 ?kt5 ?kt6 ?kt7 ?kt8 ?kt9 ?kt10 ?q_int0 ?q_int1 ?q_int2 ?q_int3 ?q_int4 ?q_int5 ?q_int6 ?q_bool0 ?q_bool1 ?q_bool2 ?q_bool3 ?q_bool4 ?q_bool5 ?q_bool6 ?q_str0 ?q_str1 ?q_str2 ?q_str3 ?q_str4 ?q_str5 ?q_str6 ?q_tuple0 ?q_tuple1 ?q_tuple2 ?q_tuple3 ?q_tuple4 ?q_tuple5 ?q_tuple6 ?kt11 ?up4 ?u4 ?k4q
  (case d0=>and_intros)
  (case d1=>and_intros)
  (case d2=>and_intros)
  (case d3=>and_intros)
  (case d4=>and_intros)
  (case d5=>and_intros)
  (case d6=>and_intros)
  (case d7=>and_intros)
  (case d8=>and_intros)
  (case d9=>and_intros)
  (case d10=>and_intros)
  (case d11=>and_intros)
  (case d12=>and_intros)
  (case d13=>and_intros)
  (case d14=>and_intros)
  (case d15=>and_intros)
  (case d16=>and_intros)
  (case d17=>and_intros)
  (case d18=>and_intros)
  (case d19=>and_intros)
  (case d20=>and_intros)
  (case d21=>and_intros)
  (case d22=>and_intros)
  (case d23=>and_intros)
  (case d24=>and_intros)
  (case d25=>and_intros)
  (case d26=>and_intros)
  (case d27=>and_intros)
  (case d28=>and_intros)
  (case d29=>and_intros)
  (case d30=>and_intros)
  (case d31=>and_intros)
  (case d32=>and_intros)
  (case d33=>and_intros)
  (case d34=>and_intros)
  (case d35=>and_intros)
  (case d36=>and_intros)
  (case d37=>and_intros)
  (case d38=>and_intros)
  (case d39=>and_intros)
  (case d40=>and_intros)
  (case d41=>and_intros)
  (case d42=>and_intros)
  (case d43=>and_intros)
  (case d44=>and_intros)
  (case d45=>and_intros)
  (case d46=>and_intros)
  (case d47=>and_intros)
  (case d48=>and_intros)
  (case d49=>and_intros)
  (case d50=>and_intros)
  (case d51=>and_intros)
  (case C0m=>k_is)
  (case C1m=>k_is)
  (case C2m=>k_is)
  (case C3m=>k_is)
  (case C4m=>k_is)
  (case z_len=>k_is)
  (case z_range=>k_is)
  (case z_min=>k_is)
  (case z_max=>k_is)
  (case z_sum=>k_is)
  (case z_zip=>k_is)
  (case z_isinstance=>k_is)
  (case z_int=>k_is)
  (case z_bool=>k_is)
  (case z_str=>k_is)
  (case z_tuple=>k_is)
  (case z_list=>k_is)
  (case z_all=>k_is)
  (case z_any=>k_is)
  (case z_ord=>k_is)
  (case z_sorted=>k_is)
  (case z_reversed=>k_is)
  (case z_enumerate=>k_is)
  (case g_LEFT_OUT=>k_is)
  (case g_MOST_SIGNS=>k_is)
  (case g_KIND=>k_is)
  (case g_PARTS=>k_is)
  (case g_MOST_BOXES=>k_is)
  (case g_WIDE=>k_is)
  (case g_HIGH=>k_is)
  (case g_MOST_WORDS=>k_is)
  (case g_LEFT=>k_is)
  (case g_TOP=>k_is)
  (case g_RIGHT=>k_is)
  (case g_BELOW=>k_is)
  (case g_MOST_WIDE=>k_is)
  (case g_ACROSS=>k_is)
  (case ex1=>kernel_rfl)
  (case ex2=>kernel_rfl)
  (case ex3=>kernel_rfl)
  (case ex4=>kernel_rfl)
  (case e0a=>k_is)
  (case e0b=>k_is)
  (case e0c=>k_is)
  (case e0f=>k_is)
  (case e0g=>k_is)
  (case e0h=>k_is)
  (case e0i=>kernel_rfl)
  (case e4a=>k_is)
  (case e4b=>k_is)
  (case e4c=>k_is)
  (case e4f=>k_is)
  (case e4g=>k_is)
  (case e4h=>k_is)
  (case e4i=>kernel_rfl)
  (case ed=>k_is)
  (case ee=>k_is)
  (case hKINDS=>k_is)
  (case lkK=>k_is)
  (case kt0=>kernel_rfl)
  (case kt1=>kernel_rfl)
  (case kt2=>kernel_rfl)
  (case kt3=>kernel_rfl)
  (case kt4=>kernel_rfl)
  (case kt5=>kernel_rfl)
  (case kt6=>kernel_rfl)
  (case kt7=>kernel_rfl)
  (case kt8=>kernel_rfl)
  (case kt9=>kernel_rfl)
  (case kt10=>kernel_rfl)
  (case q_int0=>kernel_rfl)
  (case q_int1=>kernel_rfl)
  (case q_int2=>kernel_rfl)
  (case q_int3=>kernel_rfl)
  (case q_int4=>kernel_rfl)
  (case q_int5=>kernel_rfl)
  (case q_int6=>kernel_rfl)
  (case q_bool0=>kernel_rfl)
  (case q_bool1=>kernel_rfl)
  (case q_bool2=>kernel_rfl)
  (case q_bool3=>kernel_rfl)
  (case q_bool4=>kernel_rfl)
  (case q_bool5=>kernel_rfl)
  (case q_bool6=>kernel_rfl)
  (case q_str0=>kernel_rfl)
  (case q_str1=>kernel_rfl)
  (case q_str2=>kernel_rfl)
  (case q_str3=>kernel_rfl)
  (case q_str4=>kernel_rfl)
  (case q_str5=>kernel_rfl)
  (case q_str6=>kernel_rfl)
  (case q_tuple0=>kernel_rfl)
  (case q_tuple1=>kernel_rfl)
  (case q_tuple2=>kernel_rfl)
  (case q_tuple3=>kernel_rfl)
  (case q_tuple4=>kernel_rfl)
  (case q_tuple5=>kernel_rfl)
  (case q_tuple6=>kernel_rfl)
  (case kt11=>kernel_rfl)
  (case up4=>k_is)
  (case u4=>k_is)
  (case k4q=>kernel_rfl)
#print axioms PySem.Challenge.cw_pagepart_k68_whole_printed_and_read_holds
