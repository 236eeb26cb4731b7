import PyProof.Rows.All
import Wide.All
import OpenK.AllK
import Wide.FinOn
import Lean
import PySem.Challenge.RW_onefolk_k69_whole_views_of_parts
open PySem.Heap renaming get?_push_of_some->zd,lt_size->zz,get?_push_size->zC,get?_update_other->QU,size_push->kK,get?_update_ne->KB,get?_update_self->KP,get?_push_ne->m6,size_update->oH
open List renaming length_map->zg,mem_cons_self->zh,mem_cons_of_mem->zi,map_cons->zk,size_toArray->zr,length_append->Zl,getElem?_map->Zp,mem_append_right->ZE,getElem?_append_left->ZH,length_cons->ZO,map_map->ZU,getElem?_eq_getElem->ZY,append_assoc->ZZ,map_append->qc,mem_map_of_mem->qf,append_nil->qk,getElem?_append_right->qo,take_append_drop->qr,filterMap_cons->qv,not_mem_nil->qA,length_take->qB,filter_cons->qS,take_of_length_le->Qb,getElem?_replicate->QI,mem_cons->QP,all_eq_true->QR,map_congr_left->Q1,foldl_cons->Q4,length_drop->jS,mem_of_getElem?->Jn,take_succ_eq_append_getElem->JJ,mergeSort_perm->JP,getElem_of_mem->JU,find?_cons->JY,zip_cons_cons->ke,eq_nil_of_length_eq_zero->ku,pairwise_mergeSort->kB,map_nil->kF,getD_eq_getElem?_getD->kM,length_filter_le->kP,getElem?_toArray->kQ,rel_of_pairwise_cons->kT,extract_eq_take_drop->kU,getElem_take->Kn,getElem_drop->Kt,reverse_append->KA,getElem?_cons_succ->KG,length_set->KL,lookup_cons_self->KM,getElem?_eq_none->KO,filter_congr->KS,lookup_cons->ym,drop_eq_getElem_cons->yn,nil_append->yz,nodup_append->y7,getElem?_set->y8,flatten_cons->y9,flatMap_cons->Ya,drop_eq_nil_of_le->YA,getElem_map->YO,cons_append->YR,reverse_reverse->Y3,of_mem_zip->xc,take_sublist->xw,any_cons->xx,take_length->xC,getElem_inj->xD,any_eq_true->xE,mem_map->av,replicate->ba,getElem?_eq_some_iff->bc,mem_singleton->bj,mem_append->bB,map_eq_nil_iff->bT,pairwise_cons->ca,mem_filter->cb,pairwise_append->cf,length_pos_iff->cJ,pairwise_map->dd,range->dg,pairwise_iff_getElem->dq,nodup_cons->dr,mem_iff_getElem->dt,length->dv,mem_filterMap->dz,find?_eq_none->dI,length_singleton->ef,contains_iff_mem->eg,pairwise_reverse->eh,getElem?_set_ne->ei,mem_of_mem_drop->ew,take_append_of_le_length->ey,filter_eq_self->ez,toList_toArray->eF,filter_sublist->eH,mem_range->eX,countP_eq_length_filter->fD,zip_nil_right->gd,reverse_perm->hG,mem_of_find?_eq_some->hI,getElem?_take_of_lt->hL,countP_cons->hY,mem_reverse->h9,length_filterMap_le->ik,map_id'->il,mem_flatten->ir,pairwise_singleton->i4,getElem?_set_self->jJ,range_succ_eq_map->jX,zipWith_map_right->jY,perm_cons->j3,countP_mono_left->j9,take_zero->k0,getElem?_zipWith->k4,lt_irrefl->k5,filterMap_append->k6,mem_append_left->k7,mem_of_mem_take->lg,all_cons->ll,getElem?_range->lr,replicate_succ->lz,filterMap_map->l0,ne_nil_of_mem->m4,mapM_toArray->m8,drop_sublist->nf,ext_getElem?->nu,foldl_append->nw,take_add_one->nF,zip_nil_left->n4,map_id->n7,le_antisymm->oC,zipIdx_cons->oM,map_fst_zip->pJ,isEmpty_map->pW,map_zipWith->qb,cons_ne_nil->qe,getElem_zip->qq,mem_flatMap->qs
open Nat renaming le_refl->zo,le_trans->zt,le_of_ble_eq_true->zw,lt_of_lt_of_le->zD,ne_of_lt->zS,zero_le->Zs,le_of_lt->ZI,succ_le_succ->ka,lt_of_le_of_lt->kc,ne_of_gt->kg,lt_irrefl->ki,le_of_lt_succ->kA,zero_add->kD,le_succ->Kj,lt_of_succ_lt->Kk,min_eq_left->KI,le_sub_one_of_lt->K2,lt_succ_self->yi,le_add_right->yk,add_lt_add_left->yo,le_of_succ_le->y4,sub_le->YI,lt_of_not_le->YN,add_le_add_left->xh,le_of_eq->xi,one_pos->xo,lt_succ_of_lt->xt,add_sub_assoc->xv,le_of_not_lt->xA,le_max_right->xB,not_lt->ej,succ_mul->et,sub_lt->eu,lt_of_le_of_ne->fP,add_right_comm->fZ,add_assoc->gk,le_succ_of_le->gR,add_sub_of_le->hE,lt_trans->hO,min_self->hU,add_sub_cancel_left->i6,mul_le_mul->j0,add_lt_of_lt_sub'->kz,add_le_add_right->la,sub_add_cancel->ma,pos_of_ne_zero->mm,add_zero->mq,lt_trichotomy->nk
open Bool renaming false_eq_true->zI,false_ne_true->ZT,and_eq_true->qi,not_eq_true'->qV,or_eq_true->Kb,not_false->y0,not_true->YY,and_true->Y1,false_or->gi,decide_and->jz,false_and->jZ,or_false->lj
open Array renaming toList_append->ZA,length_toList->ZN,getElem?_toList->kR,size_append->K0,toList_reverse->ya,toList_extract->yb,getElem_toList->ye,toList_push->Yf,append_assoc->xn,perm_iff_toList_perm->dc,toList_map->h6,mem_toList_iff->lb,toList->lS,forIn_toList->mz,getElem_mem->nc,toList_inj->oF
open Or renaming inr->QN,inl->kC
open Int renaming toNat_natCast->KW,le_refl->yT,toNat_of_nonneg->lF,zero_add->mu,emod_lt_of_pos->mv
open Unit renaming unit->db
local macro_rules|`(())=>`(by first|omega|decide)
open Option renaming map_some->xb,map_eq_some_iff->da,isSome_iff_exists->dV,isSome_some->fJ,isSome_map->gO,isNone_iff_eq_none->hH,getD_some->ic,getD_none->ov,bind_some->oG
open Prod renaming ext->xk
open PySem.SetTable renaming leap->dP,bits->gj,runEnd->q4
open Option renaming some->Z,none->X9
abbrev O:=List
abbrev Y:=Option
theorem X2{α:Sort u}{a:α}:a=a:=rfl
open PySem renaming Value->A0,Addr->A1,Shared->A2,Program->A3,World->A4,Around->A5,Heap->A6,wpAny->A7,model->A8,starEach->A9,sizeLine->AA,Stmt->AB,Keyword->AC,backTo->AD,Obj->AE,codeAny->AF,compareOp->AG,bootBuiltins->AH,Paired->AI,Str->AJ
abbrev ad(x:AJ):=(x==("__debug__":AJ))=false
open PyProof.Rows renaming envOfC->AK,wpS_bind->AL,arrOf->AM
open PySem.W (methodObj keepIn callWith_K cellsFrom_some fnOf codeIn nsIn mg_of kla_obj envX kla_fn)
set_option maxRecDepth 100000
set_option maxHeartbeats 4000000
set_option linter.all false
set_option Elab.async false
open PySem PySem.Spec PyProof.Rows
variable{w:A4}{i:Nat}{t:SortSt}{x:AJ}{a:A1}{prog:A3}{xs:Array Keyed}{us:O A0}{u:A0}{κ:Type}{o:Array Keyed}{h:A6}{items:Array A0}{P:A3}{α β:Type}{e:Expr}{n:Nat}{mg:AJ->Y A0}{base:A6}{l:A1}{env:Env}{m:O (AJ×AJ)}{AN:O (A1×AE)}{s:A2}{it:A1}{j:Nat}{M:Model}{A:A5}{hi:Y Int}{D:O (AJ×A1)}{es:O Expr}{st:AB}{pos:Pos}{y:AJ}{c tg:Expr}{fp:O A1}{tn:Nat->A6->Prop}{iter:Expr}{lo:Y Int}{body:O AB}{C:A1}{op:CmpOp}{AQ:O A0}{name:AJ}{tpos:Pos}{fd:FuncData}{apos:Pos}{qual:AJ}{scope:Scope}{params:Arguments}{osl:Array (Y A0)}{p2 cpos:Pos}{z:AJ×AJ}{XP:(AJ->Y A0)->A6->Prop}{YP:A4->A6->Prop}{cl:O (AJ×A1)}{is:O Nat}{ifs:O Expr}{elt tgt:Expr}{el:A1->Env->Sem Unit}{out:Array Keyed}{RR:A0->A1->Result->A2->Prop}{ep:Nat}{rk:A0->Nat}{kd:SortKind}{W U:O Keyed}{elts:O Expr}{x1:Nat}{γ δ τ:Type}{os:OsState}{bmB:O A0}{newId initId:String}{a_:A1}
abbrev AZ:=O PySem.Str
abbrev BF:=PySem.Value->PySem.Shared->Prop
abbrev B6:=PySem.W.Frag
abbrev BB:=O Int
abbrev zb:=@wpAny_bind
abbrev ze:=@wpAny_pure
abbrev zl:=@if_pos
abbrev zv:=@if_neg
abbrev z4:=@decide_eq_false
abbrev z5:=@decide_eq_true
abbrev Z3:=@wpAny_holding
abbrev qa:=@wpAny_mono
abbrev qh:=@if_false
abbrev Qr:=@Heap.SameBut.update
abbrev QA:=@wpAny_newObj_type
abbrev QE:=@decide_eq_false_iff_not
abbrev QO:=@PySem.W.mg_none_of
abbrev QQ:=@if_true
abbrev QY:=@wpAny_rule
abbrev Q2:=@of_decide_eq_true
abbrev Q3:=@decide_eq_true_eq
abbrev ja:=@List.cons.injEq
abbrev jv:=@wpAny_Call_Name_kw
abbrev jI:=@wpAny_call_entry
abbrev JA:=@wpAny_callSpecial?_slot
abbrev JE:=@wpAny_typeOf
abbrev JO:=@PySem.mem_of_lookup
abbrev km:=@wpAny_field
abbrev ko:=@wpAny_tryCatch
abbrev kq:=@wpAny_seqItems
abbrev ky:=@wpAny_truthy_bool
abbrev kG:=@wpAny_letGo
abbrev kH:=@wpAny_standAt
abbrev kX:=@wpAny_updateSeq
abbrev k8:=@codeAny_builtin
abbrev k9:=@Option.some.inj
abbrev Ki:=@Ne.symm
abbrev Kx:=@wpAny_comprehension_free
abbrev KF:=@wpAny_isInstance
abbrev KU:=@List.Pairwise.imp
abbrev yf:=@F.slot_tuple_iterator_next
abbrev yA:=@wpAny_setField_rec
abbrev yB:=@wpAny_pyIter_tuple
abbrev yY:=@wpAny_getItem_str_slice
abbrev YE:=@F.slot_enumerate_next
abbrev YU:=@wpAny_newList
abbrev YV:=@Prod.mk.injEq
abbrev Y2:=@wpAny_of_eq
abbrev xa:=@wpAny_passesOwn
abbrev xf:=@Array.Perm.refl
abbrev xm:=@wpAny_tupleItemsOf
abbrev xp:=@wpAny_pyIter_enum
abbrev xy:=@PySem.F.args_tuple_add_2
abbrev xF:=@PySem.F.entry_tuple_add
variable{ps:AZ}{K:B6}{N:AZ}{E Q:BF}{ts ws n_:AZ}
namespace L2
abbrev AY:=Sum Int AJ
def jk:AY->A0->Bool
 |.inl k,v=>Value.isInt k v
 |.inr x,v=>Value.isStrOf x v
def UE(w:A4):AY->Int
 |.inl k=>hashInt k
 |.inr x=>hashStr w x
theorem bH:∀{k:AY} {v:A0},jk k v=true->(∃i t,k=Sum.inl i/\v=Value.int i t)\/(∃x t,k=Sum.inr x/\v=Value.str x t)
 |.inl i,v,h=>by
  obtain⟨t,e⟩:=Value.isInt_shape (k:=i) (v:=v) h;exact .inl ⟨i,t,rfl,e⟩
 |.inr x,v,h=>by
  obtain⟨t,e⟩:=Value.isStrOf_shape (x:=x) (v:=v) h;exact .inr ⟨x,t,rfl,e⟩
theorem xS(i:Int)(t:Tok):jk (.inl i) (.int i t)=true:=by simp[jk,Value.isInt]
theorem be(x:AJ)(t:Tok):jk (.inr x) (.str x t)=true:=by simp[jk,Value.isStrOf]
theorem TC(a b:Int):decide ((Sum.inl a:AY)=Sum.inl b)=(a==b):=by
 by_cases e:a=b
 ·subst e;simp
 ·have h:¬ (Sum.inl a:AY)=Sum.inl b:=λq=>e (Sum.inl.inj q);rw[z4 h];exact(beq_eq_false_iff_ne.mpr e).symm
theorem dm(a b:AJ):decide ((Sum.inr a:AY)=Sum.inr b)=decide (a=b):=by
 by_cases e:a=b
 ·subst e;simp
 ·have h:¬ (Sum.inr a:AY)=Sum.inr b:=λq=>e (Sum.inr.inj q);rw[z4 h,z4 e]
theorem gu(a:Int)(b:AJ):decide ((Sum.inl a:AY)=Sum.inr b)=false:=z4 (λq=>nomatch q)
theorem cS(a:AJ)(b:Int):decide ((Sum.inr a:AY)=Sum.inl b)=false:=z4 (λq=>nomatch q)
def cH(prog:A3)(w:A4):PySem.KeyKind prog w AY where
 is:=jk
 hash:=UE w
 inj:=λv a b f c=>by
  rcases bH f with⟨i,t,rfl,rfl⟩|⟨x,t,rfl,rfl⟩
  ·rcases bH c with⟨j,u,rfl,e⟩|⟨y,u,rfl,e⟩
   ·injection e with e1 _;rw[e1]
   ·exact nomatch e
  ·rcases bH c with⟨j,u,rfl,e⟩|⟨y,u,rfl,e⟩
   ·exact nomatch e
   ·injection e with e1 _;rw[e1]
 byValue:=λk v h=>by
  rcases bH h with⟨i,t,rfl,rfl⟩|⟨x,t,rfl,rfl⟩<;>rfl
 pyHash:=λhv h=>by
  rcases bH hv with⟨i,t,rfl,rfl⟩|⟨x,t,rfl,rfl⟩
  ·exact wpAny_pyHash_int h
  ·exact wpAny_pyHash_str h
 eqBool:=λd hv h=>by
  rcases bH d with⟨i,t,rfl,rfl⟩|⟨x,t,rfl,rfl⟩
  ·rcases bH hv with⟨j,u,rfl,rfl⟩|⟨y,u,rfl,rfl⟩
   ·rw[TC]at h;exact wpAny_eqBool_int h
   ·rw[gu]at h;exact SeqAt.EqAt.int_str i t y u _ _ _ _ h
  ·rcases bH hv with⟨j,u,rfl,rfl⟩|⟨y,u,rfl,rfl⟩
   ·rw[cS]at h;exact SeqAt.EqAt.str_int x t j u _ _ _ _ h
   ·rw[dm]at h;exact wpAny_eqBool_str h
 «strs»:=λk x t v h=>by
  rcases bH h with⟨i,u,rfl,e⟩|⟨y,u,rfl,e⟩
  ·exact nomatch e
  ·injection e with e1 _;subst e1;cases v<;>rfl
theorem Tf(prog:A3)(w:A4)(i:Int)(t:Tok):(cH prog w).is (.inl i) (.int i t)=true:=xS i t
theorem Tg(prog:A3)(w:A4)(x:AJ)(t:Tok):(cH prog w).is (.inr x) (.str x t)=true:=be x t
end L2
namespace L2
inductive V where
 |non|bl (b:Bool)|int (i:Int)|str (x:Str)|byt (b:Array UInt8)|flt (b:UInt64)|ref (a:Addr)|ty (n:String)
 deriving DecidableEq
def Au:V->A0->Prop
 |.non,u=>u=Value.none
 |.bl b,u=>u=Value.bool b
 |.int i,u=>∃t,u=Value.int i t
 |.str x,u=>∃t,u=Value.str x t
 |.byt b,u=>∃t,u=Value.bytes b t
 |.flt b,u=>∃t,u=Value.float b t
 |.ref a,u=>u=Value.ref a
 |.ty n,u=>u=Value.type n
abbrev AX:O V->O A0->Prop:=AI Au
theorem AX.length{xs:O V}{us:O A0}(r:AX xs us):xs.length=us.length:=Paired.length r
theorem AX.get:∀{xs:O V} {us:O A0} {i:Nat} {x:V},AX xs us->xs[i]?=Z x->∃u,us[i]?=Z u/\Au x u
 |_,_,_,_,.nil,e=>by simp at e
 |_,_,0,_,.cons r _,e=>by simp at e;subst e;exact⟨_,rfl,r⟩
 |_,_,i+1,x,.cons _ t,e=>by
  obtain⟨u,h1,h2⟩:=AX.get (i:=i) (x:=x) t (by simpa using e);exact⟨u,by simpa using h1,h2⟩
theorem AX.set{x:V}{u:A0}(r:Au x u):∀{xs:O V} {us:O A0} (i:Nat),AX xs us->AX (xs.set i x) (us.set i u)
 |_,_,_,.nil=>.nil
 |_,_,0,.cons _ t=>.cons r t
 |_,_,i+1,.cons q t=>.cons q (AX.set r i t)
theorem AX.append:∀{xs ys:O V} {us ws:O A0},AX xs us->AX ys ws->AX (xs++ys) (us++ws)
 |_,_,_,_,.nil,s=>s
 |_,_,_,_,.cons r t,s=>.cons r (AX.append t s)
theorem AX.take:∀{xs:O V} {us:O A0} (n:Nat),AX xs us->AX (xs.take n) (us.take n)
 |_,_,0,_=>.nil
 |_,_,_+1,.nil=>.nil
 |_,_,n+1,.cons r t=>.cons r (AX.take n t)
theorem AX.drop:∀{xs:O V} {us:O A0} (n:Nat),AX xs us->AX (xs.drop n) (us.drop n)
 |_,_,0,r=>r
 |_,_,_+1,.nil=>.nil
 |_,_,n+1,.cons _ t=>AX.drop n t
def Mu:Y V->Y A0->Prop
 |some v,Z u=>Au v u
 |none,X9=>True
 |_,_=>False
def KV:O (κ×V)->O (κ×A0)->Prop:=AI λ(p:κ×V) (q:κ×A0)=>p.1=q.1/\Au p.2 q.2
def kV:AY->V
 |.inl i=>.int i
 |.inr x=>.str x
inductive HO where
 |lst (xs:List V)
 |tup (xs:List V)
 |dK (AO:List (AY×V))|dT (AO:List (List AY×V))
 |set (S:Int->Bool) (n:Nat)
 |ins (C dx:Addr) (fs:List (Str×V))
 |own (x:Addr)
 |xd (fs:List (Str×V))
 |met (f x:Addr)
 |rng (lo hi:Int)
 |jl (o:Obj) (u:HO)
 |Ql (ps:Array Value)
 |ext (φ:Heap->Prop)
abbrev Hp:=A1->Y HO
def B4(H:Hp)(a:A1)(o:HO):Hp:=λb=>if b=a then Z o else H b
theorem aU{H:Hp}{o:HO}:B4 H a o a=Z o:=by unfold B4;rw[zl rfl]
theorem aK{H:Hp}{b:A1}{o:HO}(h:b≠a):B4 H a o b=H b:=by unfold B4;rw[zv h]
def iz(h:A6)(a:A1)(items:Array A0):Prop:=∃o,h.get? a=Z o/\o.cls=.type "tuple" ∧ (∃n,o.data=.seq items n)/\o.dict=X9
theorem iz.weak(x:iz h a items):IsTup h a items:=let ⟨o,e,c,d,_⟩:=x;⟨o,e,c,d⟩
theorem iz.new(h:A6)(items:Array A0):iz (h.push { cls:=.type "tuple",data:=.seq items }) h.objs.size items:=⟨_,zC _ rfl,rfl,⟨_,rfl⟩,rfl⟩
theorem nH{H:Hp}{b:A1}{o u:HO}(h:H a=Z o)(h':H b=Z u)(d:o≠u):a≠b:=by
 intro e;subst e;rw[h]at h';exact d (k9 h')
theorem cM{H:Hp}{b:A1}{o:HO}(h:H a=Z o)(h':H b=X9):a≠b:=by
 intro e;subst e;rw[h]at h';cases h'
def tq(ps:Array A0):AJ:=match ps[0]? with
 |some (Value.str q _)=>q
 |_ => ""
def tr(ps:Array A0):Array A0:=ps.extract 1 ps.size
def HG:AZ:=["most_word","longest_word","ground_of","least_for","nearest_pair"]
def MX(K:B6)(P:A1)(q:AJ):Prop:=∃c o vs x t,K.lookup c=Z o/\o.data=.fields vs/\vs[1]?=Z (.str x t)/\x∈HG/\vs[11]?=Z (.ref P)/\q=x++(".<locals>.<lambda>":AJ)
def anY(o:AE):Bool:=match o.data with
 |.fields vs=>match vs[1]? with
  |some (Value.str x _)=>!HG.contains x
  |_=>true
 |_=>true
def BU(K:B6)(H:Hp):Prop:=∀P q,MX K P q->∃ps,H P=Z (.Ql ps)/\tq ps=q/\0<ps.size
theorem BU.go{H H':Hp}(x:BU K H)(u:∀b ps,H b=Z (.Ql ps)->∃a,H' b=Z (.Ql (ps++a))):BU K H':=λP q k=>by
 obtain⟨ps,e,h,z⟩:=x P q k;obtain⟨a,e'⟩:=u P ps e;refine⟨_,e',?_,by rw[K0];omega⟩;rw[<-h];unfold tq;rw[Array.getElem?_append_left z]
section
variable(P:A3)(w:A4)
def fQ(H:Hp)(h:A6)(a:A1):HO->Prop
 |.lst xs=>xs.length<=AA/\∃(AQ:O A0) (n:Nat),AX xs AQ/\h.get? a=Z { cls:=.type "list",data:=.seq AQ.toArray n }
 |.tup xs=>xs.length<=AA/\∃AQ:O A0,AX xs AQ/\iz h a AQ.toArray
 |.dK AO=>AO.length<=AA/\(a==sysModules)=false/\∃vs,KV AO vs/\h.DictOf (cH P w) a vs
 |.dT AO=>AO.length<=AA/\(a==sysModules)=false/\∃xs:O (O AY×A1×A0),
   AI (λ(p:O AY×V) (q:O AY×A1×A0)=>p.1=q.1/\H q.2.1=Z (.tup (p.1.map kV))/\Au p.2 q.2.2) AO xs ∧
   ∃o es ep,h.get? a=Z o/\o.ExactDict/\o.data=.dict es ep/\es.toList=xs.map (entryOfKey (tupleKind (cH P w)))/\(xs.map (·.1)).Nodup
 |.set S n=>h.SetOf (intKind P w) a S n
 |.ins C dx fs=>H dx=Z (.own a)/\fs.length<=1000/\dx≠a/\h.get? a=Z (PySem.W.instObj C dx) ∧
   ∃mA,h.Ns1 dx mA/\(∀f,Mu (fs.lookup f) (mA f))/\PySem.Within mA (fs.map (·.1))
 |.own _=>∃o,h.get? a=Z o
 |.xd fs=>∃mA,h.Ns1 a mA/\∀f,Mu (fs.lookup f) (mA f)
 |.rng lo hi=>∃t u v,h.get? a=Z { cls:=.type "range",data:=.fields #[.int lo t,.int hi u,.int 1 v] }
 |.jl o u=>h.get? a=Z o/\fQ H h a u
 |.Ql ps=>∃d,h.get? a=Z { cls:=.none,data:=.fields (tr ps++d) }/\TriplesOk (tr ps++d).toList ∧
   ∀pos e,codeAmong pos (tr ps++d).toList=Z e->∃c g vs t,e=.ref c/\H c=Z (.jl g (.ext λ_=>True))/\g.data=.fields vs/\vs[1]?=Z (.str (tq ps) t)
 |.met f x=>h.get? a=Z (methodObj (.ref f) (.ref x))
 |.ext b=>b h/\(∃o,h.get? a=Z o)/\∀h1 h2:A6,b h1->(∀o,h1.get? a=Z o->h2.get? a=Z o)->b h2
def Cq(H:Hp)(h:A6):Prop:=∀a o,H a=Z o->fQ P w H h a o
end
section
variable{H H':Hp}{h':A6}{o:HO}
theorem fQ.lt(x:fQ P w H h a o):a<h.objs.size:=by
 cases o with
 |lst xs=>obtain⟨_,_,_,_,e⟩:=x;exact zz e
 |tup xs=>obtain⟨_,_,_,p⟩:=x;exact p.weak.lt
 |dK AO=>obtain⟨_,_,_,_,o,_,_,e,_⟩:=x;exact zz e
 |dT AO=>obtain⟨_,_,_,_,o,_,_,e,_⟩:=x;exact zz e
 |set S n=>obtain⟨o,_,_,_,e,_⟩:=x;exact zz e
 |ins C dx fs=>obtain⟨_,_,_,e,_⟩:=x;exact zz e
 |own y=>obtain⟨_,e⟩:=x;exact zz e
 |xd fs=>obtain⟨_,⟨_,_,_,e,_⟩,_⟩:=x;exact zz e
 |rng lo hi=>obtain⟨_,_,_,e⟩:=x;exact zz e
 |jl b u=>obtain⟨e,_⟩:=x;exact zz e
 |Ql ps=>obtain⟨_,e,_⟩:=x;exact zz e
 |met f y=>exact zz (show h.get? a=Z _ from x)
 |ext c=>obtain⟨_,⟨_,e⟩,_⟩:=x;exact zz e
theorem Paired.ae9{α β:Type}{F G:α->β->Prop}:∀{c:O α} {d:O β},AI F c d->(∀a b,F a b->G a b)->AI G c d
 |_,_,.nil,_=>.nil
 |_,_,.cons r t,f=>.cons (f _ _ r) (Paired.ae9 t f)
theorem Paired.imp'{F G:α->β->Prop}(f:∀a b,F a b->G a b){c:O α}{d:O β}(r:AI F c d):AI G c d:=Paired.ae9 r f
theorem fQ.stay(x:fQ P w H h a o)(k:∀b u,(b=a\/H b=Z (.own a))->h.get? b=Z u->h'.get? b=Z u)
  (D:∀b,H b=Z (.own a)->H' b=Z (.own a)) (A:∀b xs,H b=Z (.tup xs)->H' b=Z (.tup xs)) (s:∀b o l,H b=Z (.jl o (.ext l))->H' b=Z (.jl o (.ext l))):fQ P w H' h' a o:=by
 induction o with
 |lst xs=>obtain⟨z,AQ,n,r,e⟩:=x;exact⟨z,AQ,n,r,k _ _ (.inl X2) e⟩
 |tup xs=>obtain⟨z,AQ,r,i,e,c⟩:=x;exact⟨z,AQ,r,i,k _ _ (.inl X2) e,c⟩
 |dK AO=>obtain⟨z,y,vs,r,i,es,ep,e,c⟩:=x;exact⟨z,y,vs,r,i,es,ep,k _ _ (.inl X2) e,c⟩
 |dT AO=>
  obtain⟨z,y,xs,r,i,es,ep,e,c⟩:=x;exact⟨z,y,xs,Paired.ae9 r λp q z=>⟨z.1,A _ _ z.2.1,z.2.2⟩,i,es,ep,k _ _ (.inl X2) e,c⟩
 |set S n=>obtain⟨i,es,ep,t,e,c⟩:=x;exact⟨i,es,ep,t,k _ _ (.inl X2) e,c⟩
 |ins C dx fs=>
  obtain⟨d,z,ne,e,mA,⟨j,es,ep,e2,c⟩,r⟩:=x;exact⟨D _ d,z,ne,k _ _ (.inl X2) e,mA,⟨j,es,ep,k _ _ (.inr d) e2,c⟩,r⟩
 |own y=>obtain⟨i,e⟩:=x;exact⟨i,k _ _ (.inl X2) e⟩
 |xd fs=>obtain⟨mA,⟨j,es,ep,e,c⟩,r⟩:=x;exact⟨mA,⟨j,es,ep,k _ _ (.inl X2) e,c⟩,r⟩
 |rng lo hi=>obtain⟨t,u,v,e⟩:=x;exact⟨t,u,v,k _ _ (.inl X2) e⟩
 |jl i u F=>obtain⟨e,q⟩:=x;exact⟨k _ _ (.inl X2) e,F q⟩
 |Ql ps=>
  obtain⟨G,e,E,B⟩:=x;refine⟨G,k a _ (.inl X2) e,E,λpos I z=>?_⟩;obtain⟨c,m,vs,t,rfl,g,d,v⟩:=B pos I z;exact⟨c,m,vs,t,rfl,s c m _ g,d,v⟩
 |met f y=>
  have e:h.get? a=Z (methodObj (.ref f) (.ref y)):=x;show h'.get? a=Z (methodObj (.ref f) (.ref y));exact k a _ (.inl X2) e
 |ext l=>obtain⟨p,⟨o,e⟩,st⟩:=x;exact⟨st _ _ p λo q=>k _ _ (.inl X2) q,⟨o,k _ _ (.inl X2) e⟩,st⟩
theorem Cq.lt(x:Cq P w H h)(e:H a=Z o):a<h.objs.size:=(x a o e).lt
theorem Cq.fresh(x:Cq P w H h)(e:h.objs.size<=a):H a=X9:=by
 cases q:H a with
 |none=>rfl
 |some u=>exact absurd (zD (x.lt q) e) (ki _)
theorem Cq.kept(x:Cq P w H h)(k:∀b u,h.get? b=Z u->h'.get? b=Z u):Cq P w H h':=λa o e=>
 (x a o e).stay (λb u _ q=>k b u q) (λ_ q=>q) (λ_ _ q=>q) λ_ _ _ q=>q
theorem Cq.laid(x:Cq P w H h)(k:∀b u,h.get? b=Z u->h'.get? b=Z u)(hp:h.objs.size<=a)(new:fQ P w (B4 H a o) h' a o):Cq P w (B4 H a o) h':=λb u e=>by
 have d:=x.fresh hp;by_cases f:b=a
 ·subst f;rw[aU]at e;cases e;exact new
 ·rw[aK f]at e;exact(x b u e).stay (λc v _ q=>k c v q) (λc q=>by rw[aK (cM q d)];exact q) (λc xs q=>by rw[aK (cM q d)];exact q) λc o' g q=>by rw[aK (cM q d)];exact q
end
def Rd(H:Hp)(a:A1)(u:HO):Prop:=H a=Z u\/∃o,H a=Z (.jl o u)
theorem Rd.ok{H:Hp}{u:HO}(r:Rd H a u)(x:Cq P w H h):fQ P w H h a u:=by
 rcases r with r|⟨o,r⟩
 ·exact x a u r
 ·obtain⟨_,q⟩:=x a _ r;exact q
def Fu:Y HO->Prop
 |some (.lst _)=>True
 |some (.dK _)=>True
 |some (.dT _)=>True
 |some (.set _ _)=>True
 |some (.ins _ _ _)=>True
 |some (.ext _)=>True
 |_=>False
section
variable{H:Hp}{h':A6}{x e:A1}{o':HO}
theorem Cq.write(ok:Cq P w H h)(a:Fu (H x))(he:e=x\/H e=Z (.own x))(k:∀b u,b≠e->h.get? b=Z u->h'.get? b=Z u)(o:∃u,h'.get? e=Z u)
  (new:fQ P w (B4 H x o') h' x o'):Cq P w (B4 H x o') h':=λb u q=>by
 have l:∀c y,H c=Z (.own y)->c≠x:=λc y r z=>by subst z;rw[r]at a;exact a
 have n:∀c xs,H c=Z (.tup xs)->c≠x:=λc xs r z=>by subst z;rw[r]at a;exact a
 have m:∀c o' i,H c=Z (.jl o' i)->c≠x:=λc o' i r z=>by subst z;rw[r]at a;exact a
 by_cases g:b=x
 ·subst g;rw[aU]at q;cases q;exact new
 ·rw[aK g]at q;by_cases d:b=e
  ·have j:H b=Z (.own x):=by
    rcases he with z|z
    ·exact absurd (d.trans z) g
    ·rw[d];exact z
   rw[q]at j;cases j;obtain⟨v,hv⟩:=o;exact⟨v,by rw[d];exact hv⟩
  ·refine(ok b u q).stay (λc v f r=>k c v ?_ r) (λc r=>by rw[aK (l c b r)];exact r) (λc xs r=>by rw[aK (n c xs r)];exact r) λc o' i r=>by rw[aK (m c o' _ r)];exact r
   rcases f with rfl|f
   ·exact d
   ·rintro rfl;rcases he with z|z
    ·exact l c b f z
    ·rw[f]at z;cases z;exact g rfl
end
structure Un (fs ex:List Addr) (H H':Hp) (h h':Heap):Prop where
 keep:∀b o,h.get? b=some o->H b=none->b∉fs->b∉ex->h'.get? b=some o
 slot:∀b o,h.get? b=some o->H b=none->b∈fs->b∉ex->∃sl,h'.get? b=some { o with slots:=sl }
 free:∀b o,h.get? b=some o->H b=none->b∉ex->H' b=none
 there:∀b o,h.get? b=some o->b∉ex->∃o',h'.get? b=some o'
 tups:∀b xs,H b=some (.tup xs)->H' b=some (.tup xs)
 Cu:∀b o u,H b=some (.jl o u)->H' b=some (.jl o u)
 Al:∀b ps,H b=some (.Ql ps)->∃more,H' b=some (.Ql (ps++more))
section
variable{fs fs' ex ex':O A1}{H H1 H2:Hp}{h1 h2 h':A6}{x e:A1}{o:HO}
theorem Un.any(u:Un fs ex H H1 h h1){b:A1}{a:AE}(q:h.get? b=Z a)(n:H b=X9)(hx:b∉ex):∃sl,h1.get? b=Z { a with slots:=sl }:=by
 by_cases c:b∈fs
 ·exact u.slot b a q n c hx
 ·exact⟨a.slots,u.keep b a q n c hx⟩
theorem Un.kept(k:∀b u,h.get? b=Z u->h'.get? b=Z u):Un fs ex H H h h':=
 ⟨λb a q _ _ _=>k b a q,λb a q _ _ _=>⟨a.slots,k b a q⟩,λ_ _ _ n _=>n,λb a q _=>⟨a,k b a q⟩,λ_ _ q=>q,λ_ _ _ q=>q,λ_ ps q=>⟨#[],by rw[q];simp⟩⟩
theorem Un.refl:Un fs ex H H h h:=Un.kept λ_ _ q=>q
theorem Un.laid(k:∀b u,h.get? b=Z u->h'.get? b=Z u)(hp:h.objs.size<=a)(c:H a=X9):Un fs ex H (B4 H a o) h h' where
 keep:=λb u q _ _ _=>k b u q
 slot:=λb u q _ _ _=>⟨u.slots,k b u q⟩
 free:=λb u q n _=>by rw[aK (zS (zD (zz q) hp))];exact n
 there:=λb u q _=>⟨u,k b u q⟩
 tups:=λb xs q=>by rw[aK (cM q c)];exact q
 Cu:=λb u xs q=>by rw[aK (cM q c)];exact q
 Al:=λb ps q=>⟨#[],by rw[aK (cM q c),q];simp⟩
theorem Un.write(a:Fu (H x))(he:e=x\/H e=Z (.own x))(k:∀b u,b≠e->h.get? b=Z u->h'.get? b=Z u)(g:∃u,h'.get? e=Z u):Un fs ex H (B4 H x o) h h':=by
 have hx:∀b,H b=X9->b≠x:=λb n z=>by subst z;rw[n]at a;exact a
 have f:∀b,H b=X9->b≠e:=λb n z=>by
  subst z;rcases he with r|r
  ·exact hx b n r
  ·rw[n]at r;cases r
 have c:∀b u,H b=Z u->¬ Fu (Z u)->b≠x:=λb u q nm z=>by subst z;rw[q]at a;exact nm a
 refine⟨λb u q n _ _=>k b u (f b n) q,λb u q n _ _=>⟨u.slots,k b u (f b n) q⟩,λb u q n _=>by rw[aK (hx b n)];exact n,λb u q _=>?_,
  λb xs q=>by rw[aK (c b _ q λz=>z)];exact q,λb u xs q=>by rw[aK (c b _ q λz=>z)];exact q,λb ps q=>⟨#[],by rw[aK (c b _ q λz=>z),q];simp⟩⟩
 by_cases d:b=e
 ·subst d;exact g
 ·exact⟨u,k b u d q⟩
end
def GW(h:A6)(H:Hp):O A1:=(dg h.objs.size).filter λa=>(H a).isSome
def Qm(h:A6)(H:Hp):A6:=PySem.W.hideAll h (GW h H)
theorem WZ(h:A6)(H:Hp):(Qm h H).objs.size=h.objs.size:=PySem.W.hideAll_size _ _
theorem mI{H:Hp}{b:A1}{o:AE}(e:h.get? b=Z o)(n:H b=X9):(Qm h H).get? b=Z o:=
 PySem.W.hideAll_get _ e λa=>by
  have q:(H b).isSome=true:=(cb.mp a).2;rw[n]at q;simp at q
theorem cE{H:Hp}{b:A1}{o:AE}(e:(Qm h H).get? b=Z o):h.get? b=Z o/\H b=X9:=by
 have e':h.get? b=Z o:=PySem.W.of_hideAll (GW h H) e;refine⟨e',?_⟩;cases q:H b with
 |none=>rfl
 |some x=>
  have a:b∈GW h H:=cb.mpr ⟨eX.mpr (zz e'),by simp[q]⟩;have z:(Qm h H).get? b=X9:=PySem.W.hideAll_none (GW h H) a;rw[z]at e;cases e
def bb(g h:A6)(L:A1):O (A1×AE):=(dg h.objs.size).filterMap λa=>if a=L\/(g.get? a).isSome=true then X9 else(h.get? a).map λo=>(a,o)
def AS(g h:A6)(L d:A1):O (A1×AE):=(bb g h L).filter λp=>decide (p.1≠d)
end L2
namespace L2
structure Mod (K:B6) (mg:Str->Option Value) (base:Heap):Prop where
 kin:K.In base
 glob:base.Ns mainGlobals mg
 blt:∃mb,base.Ns builtinsNs mb/\∀x:Str,x ≠ "__name__" → mb x=bootBuiltins x
 nolimit:base.NoLimit
 bmain:∃bm ob,mg "__builtins__"=some (.ref bm)/\bm≠builtinsNs/\base.get? bm=some ob/\ob.cls=.type "module" ∧ ob.dict=some builtinsNs/\ob.data=.plain
structure Cx where
 prog:Program
 w:World
 K:B6
 mg:Str->Option Value
 base:Heap
 A:Around
 N:AZ
 s₀:Shared
 H₀:Hp
 env:Env
 outer:List Env
 stack:List Env
 ex:List Addr
 fn:Str->Bool
 calm:Bool
 pn:List (Addr×Obj)
 xe:BF
abbrev bi(X:Cx):=A8 X.prog X.w
def Ct(l:O Env):O A1:=l.filterMap (·.frame)
abbrev Cx.fs(X:Cx):O A1:=Ct X.outer
def Wi(a:Scope)(x:AJ):Prop:=a.names.lookup x=Z .local\/a.names.lookup x=Z .cell\/a.names.lookup x=Z .free
def Cf(a:Scope)(x:AJ):Prop:=a.names.lookup x=Z .local\/a.names.lookup x=Z .cell
def LH(env:Env)(h:A6)(m:AJ->Y A0)(x:AJ)(u:A0):Prop:=
 (env.kindOf x=Z .local/\m x=Z u)\/((env.kindOf x=Z .cell\/env.kindOf x=Z .free)/\∃c,env.cells.lookup x=Z c/\h.IsCell c (Z u))
structure Cx.Ok (X:Cx):Prop where
 mod:Mod X.K X.mg X.base
 kind:X.env.scope.kind=.function
 glob:X.env.globals=mainGlobals
 blt:X.env.builtins=builtinsNs
 above:X.s₀.heap.objs.size<=X.env.locals
 inj:∀x y c,X.env.cells.lookup x=some c->X.env.cells.lookup y=some c->x=y
 has:∀x,(X.env.kindOf x=some .cell\/X.env.kindOf x=some .free)->∃c,X.env.cells.lookup x=some c
 cab:∀x c,X.fn x=true->X.env.cells.lookup x=some c->X.s₀.heap.objs.size<=c
 hd:X.calm=true->X.A.handled=none
 frames:X.A.frames=some X.stack
 stk:X.stack=X.outer\/(X.stack=X.env::X.outer/\X.env.frame=some X.env.locals)
 exf:∀b∈X.ex,b≠X.env.locals/\∀x c,X.env.cells.lookup x=some c->c≠b
 bs:∀b o,X.base.get? b=some o->X.s₀.heap.get? b=some o/\X.H₀ b=none
 bsz:X.base.objs.size<=X.s₀.heap.objs.size
 abF:∀b o,X.base.get? b=some o->b∉X.ex
 afc:∀b∈X.ex,b∉X.fs
 HW:X.s₀.heap.FunFrames X.base X.outer
 frf:∀b∈X.fs,X.H₀ b=none
 tabs:BU X.K X.H₀
structure AU (X:Cx) (AN:List (Addr×Obj)) (σ:List (Option V)) (H:Hp) (s:Shared):Prop where
 ok:X.Ok
 os:s.os=X.s₀.os
 bare:AllBare s.gens
 base:Un X.fs X.ex X.H₀ H X.s₀.heap s.heap
 loc:∃m,s.heap.Ns X.env.locals m/\∀(i:Nat) (x:Str) (v:V),X.N[i]?=some x->σ[i]?=some (some v)->Wi X.env.scope x->∃u,Au v u/\LH X.env s.heap m x u
 cell:∀x c,X.env.cells.lookup x=some c->∃v,s.heap.IsCell c v
 free:H X.env.locals=none
 qX:∀x c,X.env.cells.lookup x=some c->H c=none
 pin:∀p∈X.pn++AN,s.heap.get? p.1=some p.2/\H p.1=none/\p.1≠X.env.locals/\p.1∉X.fs/\∀v,p.2.data≠.cell v
 hok:Cq X.prog X.w H s.heap
 len:σ.length=X.N.length
section
variable{X:Cx}{σ:O (Y V)}{H H':Hp}{h':A6}
theorem Cx.Ok.an1(ok:X.Ok){b:A1}{o:AE}(e:X.base.get? b=Z o):b∉X.fs:=λa=>by
 have:=(ok.HW.mem a).1;rw[e]at this;cases this
theorem AU.bs(I:AU X AN σ H s):∀b o,X.base.get? b=Z o->s.heap.get? b=Z o/\H b=X9:=λb o e=>
 ⟨I.base.keep b o (I.ok.bs b o e).1 (I.ok.bs b o e).2 (I.ok.an1 e) (I.ok.abF b o e),I.base.free b o (I.ok.bs b o e).1 (I.ok.bs b o e).2 (I.ok.abF b o e)⟩
theorem AU.bk(I:AU X AN σ H s):∀b o,X.base.get? b=Z o->s.heap.get? b=Z o:=λb o e=>(I.bs b o e).1
theorem AU.mod(I:AU X AN σ H s):Mod X.K X.mg X.base:=I.ok.mod
theorem AU.kIn(I:AU X AN σ H s):X.K.In s.heap:=I.ok.mod.kin.keeps I.bk
theorem AU.nolimit(I:AU X AN σ H s):s.heap.NoLimit:=I.ok.mod.nolimit.keeps I.bk
theorem AU.lt(I:AU X AN σ H s):X.env.locals<s.heap.objs.size:=let ⟨_,hn,_⟩:=I.loc;hn.lt
theorem AU.sz(I:AU X AN σ H s):X.s₀.heap.objs.size<=s.heap.objs.size:=zt I.ok.above (ZI I.lt)
theorem AU.ak6(I:AU X AN σ H s)(h:s.heap.objs.size<=a):a∉X.fs:=λc=>by
 obtain⟨_,o,b,_⟩:=I.ok.HW.mem c;exact absurd (zD (zz b) (zt I.sz h)) (ki _)
theorem AU.cne(I:AU X AN σ H s):∀x c,X.env.cells.lookup x=Z c->c≠X.env.locals:=λx c e z=>by
 obtain⟨v,o,a,hd⟩:=I.cell x c e;obtain⟨m,⟨o',es,ep,d,b,_⟩,_⟩:=I.loc;rw[z,d]at a;cases a;rw[b]at hd;cases hd
theorem AU.HW(I:AU X AN σ H s):s.heap.FunFrames X.base X.outer:=by
 have all:∀(l:O Env),(∀b∈Ct l,b∈X.fs)->X.s₀.heap.FunFrames X.base l->s.heap.FunFrames X.base l:=by
  intro l
  induction l with
  |nil=>intro _ _;trivial
  |cons env r h=>
   intro hs f;obtain⟨hk,⟨L,o,a,i,j,hd⟩,g⟩:=f;have c:L∈X.fs:=hs L (by unfold Ct;rw[qv,a];exact zh);obtain⟨sl,e⟩:=I.base.slot L o j (I.ok.frf L c) c λz=>I.ok.afc L z c;exact⟨hk,⟨L,_,a,i,e,hd⟩,h (λb d=>hs b (by unfold Ct;rw[qv,a];exact zi _ d)) g⟩
 exact all X.outer (λ_ d=>d) I.ok.HW
theorem AU.stack(I:AU X AN σ H s):s.heap.FunFrames X.base X.stack:=by
 rcases I.ok.stk with e|⟨e,b⟩
 ·rw[e];exact I.HW
 ·rw[e];obtain⟨m,a,_⟩:=I.loc;refine .cons (by rw[I.ok.kind];decide) b a ?_ I.HW;exact Heap.get?_none_of_le (zt I.ok.bsz I.ok.above)
theorem AU.Qn(I:AU X AN σ H s):∀b∈Ct X.stack,b∈X.env.locals::X.fs:=λb a=>by
 rcases I.ok.stk with e|⟨e,c⟩
 ·rw[e]at a;exact zi _ a
 ·rw[e]at a;unfold Ct at a;rw[qv,c]at a;exact a
theorem AU.Qo(I:AU X AN σ H s):∀b∈Ct X.stack,H b=X9:=λb a=>by
 rcases List.mem_cons.mp (I.Qn b a)with e|a
 ·rw[e];exact I.free
 ·obtain⟨_,o,c,_⟩:=I.ok.HW.mem a;exact I.base.free b o c (I.ok.frf b a) λz=>I.ok.afc b z a
theorem AU.step{g':Array GenState}{t':Nat}{d':Drawn}{ch:O A1}(I:AU X AN σ H s)
  (h:∀b∈ch,(b∈X.ex\/X.s₀.heap.objs.size<=b)/\b≠X.env.locals/\(∀x c,X.env.cells.lookup x=Z c->c≠b)/\∀p∈X.pn++AN,p.1≠b)
  (keep:∀b o,b≠X.env.locals->b∉X.fs->b∉ch->s.heap.get? b=Z o->H b=X9->h'.get? b=Z o)
  (A:∀b o,b≠X.env.locals->b∈X.fs->b∉ch->s.heap.get? b=Z o->H b=X9->∃sl,h'.get? b=Z { o with slots:=sl }) (free:∀b o,b∉ch->s.heap.get? b=Z o->H b=X9->H' b=X9)
  (Q:∀b o,b∉ch->s.heap.get? b=Z o->∃o',h'.get? b=Z o')
  (P:∀b xs,H b=Z (.tup xs)->H' b=Z (.tup xs)) (G:∀b o u,H b=Z (.jl o u)->H' b=Z (.jl o u)) (F:∀b ps,H b=Z (.Ql ps)->∃L,H' b=Z (.Ql (ps++L)))
  (K:∀m,s.heap.Ns X.env.locals m->h'.Ns X.env.locals m) (E:Cq X.prog X.w H' h') (M:AllBare g'):
  AU X AN σ H' { s with heap:=h',gens:=g',drawn:=d',toks:=t' }:=by
 have B:∀b o,X.s₀.heap.get? b=Z o->b≠X.env.locals:=λb o e=>zS (zD (zz e) I.ok.above);have j:∀b o,X.s₀.heap.get? b=Z o->b∉X.ex->b∉ch:=λb o e hx a=>by
  rcases(h b a).1 with z|z
  ·exact hx z
  ·exact absurd (zD (zz e) z) (ki _)
 have y:∀x c,X.env.cells.lookup x=Z c->∀v,s.heap.IsCell c v->h'.IsCell c v:=λx c e v ⟨o,f,hd⟩=>by
  have g:c∉ch:=λz=>(h c z).2.2.1 x c e rfl;by_cases C:c∈X.fs
  ·obtain⟨sl,q⟩:=A c o (I.cne x c e) C g f (I.qX x c e);exact⟨_,q,hd⟩
  ·exact⟨o,keep c o (I.cne x c e) C g f (I.qX x c e),hd⟩
 refine⟨I.ok,I.os,M,⟨λb o e n a hx=>?_,λb o e n a hx=>?_,λb o e n hx=>?_,λb o e hx=>?_,λb xs e=>P b xs (I.base.tups b xs e),λb o xs e=>G b o xs (I.base.Cu b o xs e),λb ps e=>?_⟩,?_,λx c e=>?_,?_,λx c e=>?_,λp hp=>?_,E,I.len⟩
 ·exact keep b o (B b o e) a (j b o e hx) (I.base.keep b o e n a hx) (I.base.free b o e n hx)
 ·obtain⟨sl,e1⟩:=I.base.slot b o e n a hx;obtain⟨N,e2⟩:=A b _ (B b o e) a (j b o e hx) e1 (I.base.free b o e n hx);exact⟨N,e2⟩
 ·obtain⟨o',e1⟩:=I.base.there b o e hx;exact free b o' (j b o e hx) e1 (I.base.free b o e n hx)
 ·obtain⟨o',e1⟩:=I.base.there b o e hx;exact Q b o' (j b o e hx) e1
 ·obtain⟨J,e1⟩:=I.base.Al b ps e;obtain⟨m2,e2⟩:=F b _ e1;exact⟨J++m2,by rw[e2,xn]⟩
 ·obtain⟨m,S,D⟩:=I.loc;refine⟨m,K m S,λi x v e1 e2 e3=>?_⟩;obtain⟨u,r,l⟩:=D i x v e1 e2 e3;refine⟨u,r,?_⟩;rcases l with l|⟨k,c,e,z⟩
  ·exact .inl l
  ·exact .inr ⟨k,c,e,y x c e _ z⟩
 ·obtain⟨v,z⟩:=I.cell x c e;exact⟨v,y x c e v z⟩
 ·obtain⟨m,⟨o,_,_,f,_⟩,_⟩:=I.loc;exact free _ o (λz=>(h _ z).2.1 X2) f I.free
 ·obtain⟨v,o,f,hd⟩:=I.cell x c e;exact free c o (λz=>(h c z).2.2.1 x c e X2) f (I.qX x c e)
 ·obtain⟨e,n,ne,t,d⟩:=I.pin p hp;have g:p.1∉ch:=λz=>(h p.1 z).2.2.2 p hp rfl;exact⟨keep p.1 p.2 ne t g e n,free p.1 p.2 g e n,ne,t,d⟩
theorem AU.un{t':Nat}(I:AU X AN σ H s)(u:Un X.fs [] H H' s.heap h')(h:Cq X.prog X.w H' h'):AU X AN σ H' { s with heap:=h',toks:=t' }:=by
 obtain⟨m,⟨o,es,ep,d,r⟩,_⟩:=id I.loc;obtain⟨sl,j⟩:=u.any d I.free (by simp);exact I.step (g':=s.gens) (d':=s.drawn) (ch:=[]) (λ_ z=>nomatch z) (λb o _ a _ e n=>u.keep b o e n a (by simp)) (λb o _ a _ e n=>u.slot b o e n a (by simp)) (λb o _ e n=>u.free b o e n (by simp)) (λb o _ e=>u.there b o e (by simp)) u.tups u.Cu u.Al (λp l=>by
  obtain⟨o',i,f,c,g⟩:=l;rw[d]at c;cases c;exact⟨_,i,f,j,g⟩) h I.bare
theorem AU.call{g':Array GenState}{t':Nat}{d':Drawn}{ch:O A1}(I:AU X AN σ H s)(u:Un (Ct X.stack) ch H H' s.heap h')(l:Cq X.prog X.w H' h')(v:AllBare g')
  (g:∀b∈ch,(b∈X.ex\/X.s₀.heap.objs.size<=b)/\b≠X.env.locals/\(∀x c,X.env.cells.lookup x=Z c->c≠b)/\∀p∈X.pn++AN,p.1≠b):
  AU X AN σ H' { s with heap:=h',gens:=g',drawn:=d',toks:=t' }:=by
 obtain⟨m,⟨o,es,ep,h,r⟩,_⟩:=id I.loc;obtain⟨sl,d⟩:=u.any h I.free λz=>(g _ z).2.1 rfl;exact I.step (ch:=ch) g (λb o d y a e n=>u.keep b o e n (λz=>(List.mem_cons.mp (I.Qn b z)).elim d y) a) (λb o _ _ a e n=>u.any e n a) (λb o a e n=>u.free b o e n a) (λb o a e=>u.there b o e a) u.tups u.Cu u.Al (λA t=>by
  obtain⟨o',q,i,f,j⟩:=t;rw[h]at f;cases f;exact⟨_,q,i,d,j⟩) l v
theorem AU.turned{t':Nat}(I:AU X AN σ H s)(k:∀b o,b≠it->s.heap.get? b=Z o->h'.get? b=Z o)(i:H it=X9)(d:it≠X.env.locals)(h1:it∈X.ex\/X.s₀.heap.objs.size<=it)(h2:∀x c,X.env.cells.lookup x=Z c->c≠it)(g:∀p∈X.pn++AN,p.1≠it):AU X AN σ H { s with heap:=h',toks:=t' }:=by
 have f:∀b u,H b=Z u->b≠it:=λb u e z=>by rw[z,i]at e;cases e
 refine I.step (g':=s.gens) (d':=s.drawn) (ch:=[it]) (λb l=>?_) (λb o _ _ a e _=>k b o (λz=>a (by simp[z])) e) (λb o _ _ a e _=>⟨o.slots,k b o (λz=>a (by simp[z])) e⟩) (λ_ _ _ _ n=>n)
  (λb o a e=>⟨o,k b o (λz=>a (by simp[z])) e⟩) (λ_ _ e=>e) (λ_ _ _ e=>e) (λb ps e=>⟨#[],by rw[e];simp⟩) (λm h=>?_) (λb u e=>?_) I.bare
 ·have e:b=it:=by simpa using l
  subst e;exact⟨h1,d,h2,g⟩
 ·obtain⟨o,es,ep,j,r⟩:=h;exact⟨o,es,ep,k _ o (Ki d) j,r⟩
 ·refine(I.hok b u e).stay (λc v a q=>k c v ?_ q) (λ_ q=>q) (λ_ _ q=>q) λ_ _ _ q=>q;rcases a with z|z
  ·rw[z];exact f b u e
  ·exact f c _ z
theorem AU.tok(I:AU X AN σ H s)(t:Nat):AU X AN σ H { s with toks:=t }:=I.un (h':=s.heap) (t':=t) Un.refl I.hok
theorem AU.kept{t':Nat}(I:AU X AN σ H s)(k:∀b u,s.heap.get? b=Z u->h'.get? b=Z u):AU X AN σ H { s with heap:=h',toks:=t' }:=I.un (Un.kept k) (I.hok.kept k)
theorem AU.laid{a:A1}{o:HO}{t':Nat}(I:AU X AN σ H s)(k:∀b u,s.heap.get? b=Z u->h'.get? b=Z u)(hp:s.heap.objs.size<=a)(new:fQ X.prog X.w (B4 H a o) h' a o):
  AU X AN σ (B4 H a o) { s with heap:=h',toks:=t' }:=I.un (Un.laid k hp (I.hok.fresh hp)) (I.hok.laid k hp new)
theorem AU.write{x e:A1}{o:HO}{t':Nat}(I:AU X AN σ H s)(a:Fu (H x))(he:e=x\/H e=Z (.own x))(k:∀b u,b≠e->s.heap.get? b=Z u->h'.get? b=Z u)(c:∃u,h'.get? e=Z u)
  (new:fQ X.prog X.w (B4 H x o) h' x o):AU X AN σ (B4 H x o) { s with heap:=h',toks:=t' }:=I.un (Un.write a he k c) (I.hok.write a he k c new)
theorem AU.Cv{a:O (A1×AE)}(I:AU X AN σ H s)(h:∀p∈a,s.heap.get? p.1=Z p.2/\H p.1=X9/\p.1≠X.env.locals/\p.1∉X.fs/\∀v,p.2.data≠.cell v):AU X a σ H s:=
 ⟨I.ok,I.os,I.bare,I.base,I.loc,I.cell,I.free,I.qX,λp hp=>(bB.mp hp).elim (λz=>I.pin p (k7 _ z)) (h p),I.hok,I.len⟩
theorem Ti(hN:N.Nodup)(a:N[i]?=Z x)(b:N[j]?=Z x):i=j:=by
 obtain⟨h1,e1⟩:=bc.mp a;obtain⟨h2,e2⟩:=bc.mp b;exact(xD hN).mp (e1.trans e2.symm)
theorem aaq{v:V}{Q:Unit->A2->Prop}(I:AU X AN σ H s)(hN:X.N.Nodup)(hi:X.N[i]?=Z x)(hx:Cf X.env.scope x)(r:Au v u)(h:∀s',AU X AN (σ.set i (Z v)) H s'->(∃a,Heap.SameBut a s.heap s'.heap/\(a=X.env.locals\/X.env.cells.lookup x=Z a))->Q db s')(hf:X.fn x=true\/X.env.scope.names.lookup x=Z .local:=by first|exact .inl rfl|exact .inr rfl|assumption):A7 M A (storeName X.env x u) Q E s:=by
 obtain⟨m,G,K⟩:=id I.loc;have a6:(X.env.scope.kind==.class||(X.env.scope.kind==.module&&X.env.locals !=X.env.globals))=false:=by rw[I.ok.kind];rfl
 have W:i<σ.length:=by rw[I.len];exact(bc.mp hi).1
 have cne:=I.cne;have S:∀{a:A1} {h':A6},(∃o,s.heap.get? a=Z o/\H a=X9)->Heap.SameBut a s.heap h'->Cq X.prog X.w H h':=λ{a h'} ha hs b ob e=>by
  obtain⟨_,_,a4⟩:=ha;refine(I.hok b ob e).stay (λc t f q=>(hs.2 c ?_).trans q) (λ_ q=>q) (λ_ _ q=>q) λ_ _ _ q=>q;rintro rfl;rcases f with rfl|f
  ·rw[a4]at e;cases e
  ·rw[a4]at f;cases f
 rcases hx with hk|hk
 ·refine wpAny_storeName_local hk G (λh' a7 hs=>?_) a6;obtain⟨oL,_,_,b0,_⟩:=id G;refine h _ ⟨I.ok,I.os,I.bare,⟨λb o e n l hx=>?_,λb o e n l hx=>?_,I.base.free,λb o e hx=>?_,I.base.tups,I.base.Cu,I.base.Al⟩,⟨_,a7,λj y B e1 e2 e3=>?_⟩,λy c e=>?_,I.free,I.qX,λp hp=>?_,S ⟨oL,b0,I.free⟩ hs,by simpa using I.len⟩ ⟨_,hs,.inl rfl⟩
  ·exact(hs.2 b (zS (zD (zz e) I.ok.above))).trans (I.base.keep b o e n l hx)
  ·obtain⟨sl,e1⟩:=I.base.slot b o e n l hx;exact⟨sl,(hs.2 b (zS (zD (zz e) I.ok.above))).trans e1⟩
  ·obtain⟨o',e1⟩:=I.base.there b o e hx;exact⟨o',(hs.2 b (zS (zD (zz e) I.ok.above))).trans e1⟩
  ·by_cases g:j=i
   ·subst g;rw[hi]at e1;cases e1;rw[jJ W]at e2;cases e2;exact⟨u,r,.inl ⟨hk,by simp⟩⟩
   ·rw[ei (Ki g)]at e2;obtain⟨F,C,q⟩:=K j y B e1 e2 e3;refine⟨F,C,?_⟩;rcases q with⟨k,e⟩|⟨k,c,e,z⟩
    ·refine .inl ⟨k,?_⟩;have:y≠x:=λe=>g (Ti hN e1 (e▸hi));simp[this,e]
    ·exact .inr ⟨k,c,e,z.sameBut hs (cne y c e)⟩
  ·obtain⟨t,z⟩:=I.cell y c e;exact⟨t,z.sameBut hs (cne y c e)⟩
  ·obtain⟨e,n,ne,D,d⟩:=I.pin p hp;exact⟨(hs.2 p.1 ne).trans e,n,ne,D,d⟩
 ·have J:X.fn x=true:=by
   rcases hf with z|z
   ·exact z
   ·rw[z]at hk;cases hk
  obtain⟨c,f⟩:=I.ok.has x (.inl hk);obtain⟨t,z⟩:=I.cell x c f;refine wpAny_storeName_cell I.ok.kind hk f z (λh' L hs=>?_);obtain⟨U,a3,a5⟩:=id z;refine h { s with heap:=h' } ⟨I.ok,I.os,I.bare,⟨λb o e n l hx=>?_,λb o e n l hx=>?_,I.base.free,λb o e hx=>?_,I.base.tups,I.base.Cu,I.base.Al⟩,⟨m,G.sameBut hs (Ki (cne x c f)),λj y B e1 e2 e3=>?_⟩,λy c' e=>?_,I.free,I.qX,λp hp=>?_,S ⟨U,a3,I.qX x c f⟩ hs,by simpa using I.len⟩ ⟨c,hs,.inr f⟩
  ·exact(hs.2 b (zS (zD (zz e) (I.ok.cab x c J f)))).trans (I.base.keep b o e n l hx)
  ·obtain⟨sl,e1⟩:=I.base.slot b o e n l hx;exact⟨sl,(hs.2 b (zS (zD (zz e) (I.ok.cab x c J f)))).trans e1⟩
  ·obtain⟨o',e1⟩:=I.base.there b o e hx;exact⟨o',(hs.2 b (zS (zD (zz e) (I.ok.cab x c J f)))).trans e1⟩
  ·by_cases g:j=i
   ·subst g;rw[hi]at e1;cases e1;rw[jJ W]at e2;cases e2;exact⟨u,r,.inr ⟨.inl hk,c,f,L⟩⟩
   ·rw[ei (Ki g)]at e2;obtain⟨F,C,q⟩:=K j y B e1 e2 e3;refine⟨F,C,?_⟩;rcases q with q|⟨k,c',e,z'⟩
    ·exact .inl q
    ·refine .inr ⟨k,c',e,z'.sameBut hs ?_⟩;rintro rfl;exact g (Ti hN e1 (I.ok.inj _ _ _ e f▸hi))
  ·by_cases P:c'=c
   ·subst P;exact⟨_,L⟩
   ·obtain⟨w2,z2⟩:=I.cell y c' e;exact⟨w2,z2.sameBut hs P⟩
  ·obtain⟨e,n,ne,D,d⟩:=I.pin p hp;refine⟨(hs.2 p.1 ?_).trans e,n,ne,D,d⟩;intro q;rw[q,a3]at e;have q':U=p.2:=k9 e;exact d t (by rw[<-q'];exact a5)
theorem Cw{v:V}{Q:Unit->A2->Prop}(I:AU X AN σ H s)(hN:X.N.Nodup)(hi:X.N[i]?=Z x)(hx:Cf X.env.scope x)(r:Au v u)(h:∀s',AU X AN (σ.set i (Z v)) H s'->Q db s')(b:X.fn x=true\/X.env.scope.names.lookup x=Z .local:=by first|exact .inl rfl|exact .inr rfl|assumption):A7 M A (storeName X.env x u) Q E s:=
 aaq I hN hi hx r (λs' a _=>h s' a) b
theorem AU.call'{s':A2}{ch:O A1}(I:AU X AN σ H s)(a:s'.os=s.os)(u:Un (Ct X.stack) ch H H' s.heap s'.heap)(g:Cq X.prog X.w H' s'.heap)(d:AllBare s'.gens)
  (f:∀b∈ch,(b∈X.ex\/X.s₀.heap.objs.size<=b)/\b≠X.env.locals/\(∀x c,X.env.cells.lookup x=Z c->c≠b)/\∀p∈X.pn++AN,p.1≠b):AU X AN σ H' s':=by
 obtain⟨h',g',d',t',o'⟩:=s';have e:o'=s.os:=a;subst e;exact I.call (g':=g') (t':=t') (d':=d') u g d f
end
abbrev XK:=A0->Y A1->Hp->Prop
abbrev St:=O (Y V)
abbrev VK:=V->Hp->Prop
abbrev TE:=St->Hp->VK->Prop
abbrev TT:=St->Hp->(Bool->Hp->Prop)->Prop
abbrev TA:=St->Hp->(O V->Hp->Prop)->Prop
structure C6 where
 nx:St->Hp->Prop
 rt:VK
 bk:St->Hp->Prop:=λ_ _=>False
 ct:St->Hp->Prop:=λ_ _=>False
abbrev TS:=C6->St->Hp->Prop
def EP(X:Cx)(AN:O (A1×AE))(σ:St)(Q:VK)(u:A0)(s':A2):Prop:=∃v H',AU X AN σ H' s'/\Au v u/\Q v H'
def TP(X:Cx)(AN:O (A1×AE))(σ:St)(Q:Bool->Hp->Prop)(b:Bool)(s':A2):Prop:=∃H',AU X AN σ H' s'/\Q b H'
def AP(X:Cx)(AN:O (A1×AE))(σ:St)(Q:O V->Hp->Prop)(us:O A0)(s':A2):Prop:=∃vs H',AU X AN σ H' s'/\AX vs us/\Q vs H'
def SP(X:Cx)(AN:O (A1×AE))(D:C6)(f:Flow)(s':A2):Prop:=
 match f with
 |.next=>∃ σ' H',AU X AN σ' H' s'/\D.nx σ' H'
 |.brk=>∃ σ' H',AU X AN σ' H' s'/\D.bk σ' H'
 |.cont=>∃ σ' H',AU X AN σ' H' s'/\D.ct σ' H'
 |.ret u=>∃v σ' H',AU X AN σ' H' s'/\Au v u/\D.rt v H'
def PE(X:Cx)(e:Expr)(t:TE):Prop:=
 ∀(AN:O (A1×AE)) (s:A2) (σ:St) (H:Hp) (Q:VK),AU X AN σ H s->t σ H Q->A7 (bi X) X.A (eval e X.env) (EP X AN σ Q) X.xe s
def PT(X:Cx)(e:Expr)(t:TT):Prop:=
 ∀(AN:O (A1×AE)) (s:A2) (σ:St) (H:Hp) (Q:Bool->Hp->Prop),AU X AN σ H s->t σ H Q->A7 (bi X) X.A (isTrue e X.env (eval e X.env)) (TP X AN σ Q) X.xe s
def PW(X:Cx)(e:Expr)(t:TT):Prop:=
 ∀(a:Sem A0) (AN:O (A1×AE)) (s:A2) (σ:St) (H:Hp) (Q:Bool->Hp->Prop),AU X AN σ H s->t σ H Q->A7 (bi X) X.A (isTrue e X.env a) (TP X AN σ Q) X.xe s
theorem PW.pt{X:Cx}{t:TT}(h:PW X e t):PT X e t:=h _
def PA(X:Cx)(es:O Expr)(t:TA):Prop:=
 ∀(pos:Pos) (AN:O (A1×AE)) (s:A2) (σ:St) (H:Hp) (Q:O V->Hp->Prop),AU X AN σ H s->t σ H Q->A7 (bi X) X.A (spliced (AD pos (A9 es X.env))) (AP X AN σ Q) X.xe s
def PS(X:Cx)(st:AB)(t:TS):Prop:=
 ∀(AN:O (A1×AE)) (s:A2) (σ:St) (H:Hp) (D:C6),AU X AN σ H s->t D σ H->A7 (bi X) X.A (exec st X.env) (SP X AN D) X.xe s
def Wj(X:Cx)(st:O AB)(t:TS):Prop:=
 ∀(AN:O (A1×AE)) (s:A2) (σ:St) (H:Hp) (D:C6),AU X AN σ H s->t D σ H->A7 (bi X) X.A (execs st X.env) (SP X AN D) X.xe s
theorem jH{t:Sem α}{Q b:α->A2->Prop}(h:A7 M A t Q E s)(c:∀a s,Q a s->b a s):A7 M A t b E s:=qa h c λ_ _ x=>x
end L2
namespace L2
section
variable{X:Cx}
def Pd(i:Nat):TE:=λσ H Q=>∃v,σ[i]?=Z (Z v)/\Q v H
def tC(v:V):TE:=λ_ H Q=>Q v H
theorem yD(hN:X.N[i]?=Z x)(hv:Wi X.env.scope x)(hd:ad x:=by decide)(g:(x==("__classdict__":AJ))=false:=by decide):PE X (.Name x pos) (Pd i):=by
 intro AN s σ H Q I h;obtain⟨v,e,h⟩:=h;obtain⟨m,n,f⟩:=I.loc;obtain⟨u,r,l⟩:=f i x v hN e hv;have a:EP X AN σ Q u s:=⟨v,H,I,r,h⟩;rcases l with⟨hk,j⟩|⟨hk,c,b,d⟩
 ·exact wpAny_Name (wpAny_loadName_local I.ok.kind hk n j a) hd
 ·rcases hk with hk|hk
  ·exact wpAny_Name (wpAny_loadName_cell I.ok.kind hk b d a) hd
  ·exact wpAny_Name (wpAny_loadName_free I.ok.kind hk b d a g) hd
theorem lI{i j pos}:PE X (.Constant (.int i) j pos) (tC (.int i)):=λ_ _ _ H _ I h=>wpAny_Constant_int ⟨.int i,H,I.tok _,⟨_,rfl⟩,h⟩
theorem wm{b j pos}:PE X (.Constant (.bool b) j pos) (tC (.bl b)):=λ_ _ _ H _ I h=>Constant_bool ⟨.bl b,H,I,rfl,h⟩
theorem c6{j pos}:PE X (.Constant .none j pos) (tC .non):=λ_ _ _ H _ I h=>Constant_none ⟨.non,H,I,rfl,h⟩
theorem ia{x j pos}:PE X (.Constant (.str x) j pos) (tC (.str x)):=λ_ _ _ H _ I h=>Calls.Constant_str ⟨.str x,H,I.tok _,⟨_,rfl⟩,h⟩
def Gl(X:Cx)(x:AJ):Prop:=X.env.kindOf x=Z .globalImplicit
theorem Qp{σ:St}{H:Hp}(I:AU X AN σ H s)(a:Gl X x)(b:X.mg x=Z u)(h:Q u s)(hd:ad x:=by decide):A7 (bi X) X.A (eval (.Name x pos) X.env) Q E s:=
 Calls.Name_function_global I.ok.kind a (Calls.loadGlobal_global (by rw[I.ok.glob];exact I.mod.glob.keeps I.bk) b h) hd
theorem yE{σ:St}{H:Hp}(I:AU X AN σ H s)(b:Gl X x)(c:X.mg x=X9)(hv:AH x=Z u)(h:Q u s)(a:x ≠ "__name__":=by decide)(hd:ad x:=by decide):A7 (bi X) X.A (eval (.Name x pos) X.env) Q E s:=by
 obtain⟨d,h1,h2⟩:=I.mod.blt;exact Calls.Name_function_global I.ok.kind b (Calls.loadGlobal_builtin (by rw[I.ok.glob];exact I.mod.glob.keeps I.bk) c (by rw[I.ok.blt];exact h1.keeps I.bk) ((h2 x a).trans hv) h) hd
variable{a b:Expr}{ta tb:TE}
variable{tA tB':TT}{AS:O Expr}
def OK(t u:TT):TT:=λσ H Q=>t σ H λc H1=>if c=true then u σ H1 Q else Q false H1
def SA(t u:TT):TT:=λσ H Q=>t σ H λc H1=>if c=true then Q true H1 else u σ H1 Q
def kw(t:TT):TT:=λσ H Q=>t σ H λc H1=>Q (!c) H1
theorem pe(b:PT X a tA):PW X (.BoolOp .And [a] pos) tA:=by
 intro f AN s σ H Q I h;refine isTrue_and (jH (b AN s σ H Q I h) λc d e=>?_);cases c with
 |true=>exact isTrue_and_nil e
 |false=>exact e
theorem ae(b:PT X a tA):PW X (.BoolOp .Or [a] pos) tA:=by
 intro f AN s σ H Q I h;refine isTrue_or (jH (b AN s σ H Q I h) λc d e=>?_);cases c with
 |false=>exact isTrue_or_nil e
 |true=>exact e
theorem oq(e:PT X a tA)(f:PW X (.BoolOp .And (b::AS) pos) tB'):PW X (.BoolOp .And (a::b::AS) pos) (OK tA tB'):=by
 intro d AN s σ H Q I h;refine isTrue_and (jH (e AN s σ H _ I h) λc s1 ⟨H1,I1,q1⟩=>?_);cases c with
 |true=>exact f d AN s1 σ H1 Q I1 q1
 |false=>exact⟨H1,I1,q1⟩
theorem u8(e:PT X a tA)(f:PW X (.BoolOp .Or (b::AS) pos) tB'):PW X (.BoolOp .Or (a::b::AS) pos) (SA tA tB'):=by
 intro d AN s σ H Q I h;refine isTrue_or (jH (e AN s σ H _ I h) λc s1 ⟨H1,I1,q1⟩=>?_);cases c with
 |true=>exact⟨H1,I1,q1⟩
 |false=>exact f d AN s1 σ H1 Q I1 q1
theorem XX(b:PT X a tA):PT X (.UnaryOp .Not a pos) (kw tA):=by
 intro AN s σ H Q I h;exact isTrue_not (b AN s σ H (λc H1=>Q (!c) H1) I h)
def iq(ta tb:TE):TE:=λσ H Q=>ta σ H λx H1=>∃c,x=.bl c/\if c=true then tb σ H1 Q else Q (.bl false) H1
theorem sD{op}{t:TE}(h:PE X a t):PE X (.BoolOp op [a] pos) t:=λAN s σ H Q I b=>BoolOp_one (h AN s σ H Q I b)
theorem ck(d:PE X a ta)(e:PE X (.BoolOp .And (b::AS) pos) tb):PE X (.BoolOp .And (a::b::AS) pos) (iq ta tb):=by
 intro AN s σ H Q I h;refine BoolOp_and (jH (d AN s σ H _ I h) λv s1 ⟨x,H1,I1,r1,q1⟩=>?_);obtain⟨c,rfl,q1⟩:=q1;cases r1;refine ky ?_;cases c with
 |true=>exact e AN s1 σ H1 Q I1 q1
 |false=>exact⟨.bl false,H1,I1,rfl,q1⟩
end
end L2
namespace L2
def su(K:B6)(H:Hp)(a:A1)(xs:O V):Prop:=
 Rd H a (.lst xs) ∨
  ∃(o:AE) (AQ:Array A0) (n:Nat),K.lookup a=Z o/\o.cls=.type "list" ∧ o.dict=X9/\o.data=.seq AQ n/\AQ.size<=AA/\AX xs AQ.toList
def yw(K:B6)(H:Hp)(a:A1)(xs:O V):Prop:=
 Rd H a (.tup xs) ∨
  ∃(o:AE) (AQ:Array A0) (n:Nat),K.lookup a=Z o/\(o.cls=.type "tuple" ∧ o.dict=X9)/\o.data=.seq AQ n/\AQ.size<=AA/\AX xs AQ.toList
def IL:A0->Y V
 |.none=>Z .non
 |.bool b=>Z (.bl b)
 |.int i _=>Z (.int i)
 |.str x _=>Z (.str x)
 |.bytes b _=>Z (.byt b)
 |.float b _=>Z (.flt b)
 |.ref a=>Z (.ref a)
 |.type n=>Z (.ty n)
 |_=>X9
theorem Au.abs{x:V}(r:Au x u):IL u=Z x:=by
 cases x with
 |non=>cases r;rfl
 |bl _=>cases r;rfl
 |int _=>obtain⟨t,rfl⟩:=r;rfl
 |str _=>obtain⟨t,rfl⟩:=r;rfl
 |byt _=>obtain⟨t,rfl⟩:=r;rfl
 |flt _=>obtain⟨t,rfl⟩:=r;rfl
 |ref _=>cases r;rfl
 |ty _=>cases r;rfl
theorem Au.inj{x y:V}{u:A0}(r:Au x u)(q:Au y u):x=y:=k9 (r.abs.symm.trans q.abs)
theorem AX.inj:∀{xs ys:O V} {us:O A0},AX xs us->AX ys us->xs=ys
 |_,_,_,.nil,.nil=>rfl
 |_,_,_,.cons r t,.cons r' t'=>by rw[r.inj r',AX.inj t t']
section
variable{X:Cx}{σ:St}{H:Hp}{xs ys:O V}
theorem AU.list(I:AU X AN σ H s)(h:su X.K H a xs):∃AQ:O A0,AX xs AQ/\PlainL s.heap a AQ.toArray/\xs.length<=AA:=by
 rcases h with h|⟨o,AQ,n,hk,b,hd,hs,c,r⟩
 ·obtain⟨z,AQ,n,r,e⟩:=h.ok I.hok;exact⟨AQ,r,⟨_,n,e,rfl,rfl,rfl⟩,z⟩
 ·refine⟨AQ.toList,r,⟨o,n,I.kIn a o hk,b,hd,by simpa using hs⟩,?_⟩;have e:=r.length;simp only[ZN]at e;omega
theorem AU.tuple(I:AU X AN σ H s)(h:yw X.K H a xs):∃AQ:O A0,AX xs AQ/\IsTup s.heap a AQ.toArray/\xs.length<=AA:=by
 rcases h with h|⟨o,AQ,n,hk,b,hs,c,r⟩
 ·obtain⟨z,AQ,r,p⟩:=h.ok I.hok;exact⟨AQ,r,p.weak,z⟩
 ·refine⟨AQ.toList,r,⟨o,I.kIn a o hk,b.1,n,by simpa using hs⟩,?_⟩;have e:=r.length;simp only[ZN]at e;omega
theorem AU.Jy(I:AU X AN σ H s)(h:su X.K H a xs)(h':su X.K H a ys):xs=ys:=by
 obtain⟨AQ,r,⟨o,n,e,_,_,d⟩,_⟩:=I.list h;obtain⟨g,c,⟨o',i,e',_,_,b⟩,_⟩:=I.list h';rw[e]at e';cases e';rw[d]at b;injection b with f _;have:AQ=g:=by simpa using congrArg lS f
 subst this;exact r.inj c
theorem AU.Ey(I:AU X AN σ H s)(h:yw X.K H a xs)(h':yw X.K H a ys):xs=ys:=by
 obtain⟨AQ,r,⟨o,e,_,n,d⟩,_⟩:=I.tuple h;obtain⟨g,c,⟨o',e',_,i,b⟩,_⟩:=I.tuple h';rw[e]at e';cases e';rw[d]at b;injection b with f _;have:AQ=g:=by simpa using congrArg lS f
 subst this;exact r.inj c
end
abbrev Cx.wish(X:Cx)(E:BF):Cx:={ X with xe:=E }
abbrev Cx.nox(X:Cx):Cx:=X.wish λ_ _=>False
theorem Cx.Ok.wish{X:Cx}(ok:X.Ok)(E:BF):(X.wish E).Ok:=
 ⟨ok.mod,ok.kind,ok.glob,ok.blt,ok.above,ok.inj,ok.has,ok.cab,ok.hd,ok.frames,ok.stk,ok.exf,ok.bs,ok.bsz,ok.abF,ok.afc,ok.HW,ok.frf,ok.tabs⟩
theorem Cx.Ok.yF{X:Cx}(ok:(X.wish E).Ok):X.Ok:=
 ⟨ok.mod,ok.kind,ok.glob,ok.blt,ok.above,ok.inj,ok.has,ok.cab,ok.hd,ok.frames,ok.stk,ok.exf,ok.bs,ok.bsz,ok.abF,ok.afc,ok.HW,ok.frf,ok.tabs⟩
section
variable{X:Cx}{σ:St}{H:Hp}
theorem AU.wish(I:AU X AN σ H s)(E:BF):AU (X.wish E) AN σ H s:=⟨I.ok.wish E,I.os,I.bare,I.base,I.loc,I.cell,I.free,I.qX,I.pin,I.hok,I.len⟩
theorem AU.yF(I:AU (X.wish E) AN σ H s):AU X AN σ H s:=⟨I.ok.yF,I.os,I.bare,I.base,I.loc,I.cell,I.free,I.qX,I.pin,I.hok,I.len⟩
theorem SP.yF{D:C6}{f:Flow}{s':A2}(h:SP (X.wish E) AN D f s'):SP X AN D f s':=by
 cases f with
 |next=>obtain⟨σ',H',I,q⟩:=h;exact⟨σ',H',I.yF,q⟩
 |brk=>obtain⟨σ',H',I,q⟩:=h;exact⟨σ',H',I.yF,q⟩
 |cont=>obtain⟨σ',H',I,q⟩:=h;exact⟨σ',H',I.yF,q⟩
 |ret u=>obtain⟨v,σ',H',I,r,q⟩:=h;exact⟨v,σ',H',I.yF,r,q⟩
theorem Wj.nox{st:O AB}{t:TS}(h:Wj X.nox st t):Wj X st t:=λAN s σ H D I a=>
 qa (h AN s σ H D (I.wish _) a) (λ_ _ q=>q.yF) λ_ _ z=>False.elim z
end
section
variable{X:Cx}{AS:O AB}{t u:TS}{te:TE}
def ul:TS:=λD σ H=>D.nx σ H
def dS(t u:TS):TS:=λD σ H=>t { D with nx:=u D } σ H
theorem bq:Wj X [] ul:=λ_ _ σ H _ I h=>wpAny_execs_nil ⟨σ,H,I,h⟩
theorem Jz(h1:PS X st t)(h2:Wj X AS u):Wj X (st::AS) (dS t u):=by
 intro AN s σ H D I h;refine wpAny_execs_cons (jH (h1 AN s σ H { D with nx:=u D } I h) λf a q=>?_);cases f with
 |next=>
  obtain⟨σ',H',b,q⟩:=q;exact h2 AN a σ' H' D b q
 |ret v=>exact q
 |brk=>exact q
 |cont=>exact q
theorem AU.quiet{σ:St}{H:Hp}(I:AU X AN σ H s):interactive X.env=false:=by simp[interactive,I.ok.kind]
def tN(te:TE):TS:=λD σ H=>te σ H λ_ H1=>D.nx σ H1
theorem Yr(he:PE X e te)(hs:swapsWith e X9 pos.line X.env=pure false:=by rfl):PS X (.Expr e pos) (tN te):=by
 intro AN s σ H D I h;exact wpAny_Expr_any (jH (he AN s σ H _ I h) λv s1 ⟨x,H1,I1,r1,q1⟩=>⟨σ,H1,I1,q1⟩) I.quiet hs
def wn(te:TE):TS:=λD σ H=>te σ H D.rt
theorem Nl(he:PE X e te):PS X (.Return (Z e) pos) (wn te):=by
 intro AN s σ H D I h;exact wpAny_Return_some (jH (he AN s σ H _ I h) λv s1 ⟨x,H1,I1,r1,q1⟩=>⟨x,σ,H1,I1,r1,q1⟩)
def g5(c:TT)(t u:TS):TS:=λD σ H=>c σ H λb H1=>if b=true then t D σ H1 else u D σ H1
theorem alf{a b:O AB}{tc:TT}(e:PT X c tc)(f:Wj X a t)(g:Wj X b u):PS X (.If c a b pos) (g5 tc t u):=by
 intro AN s σ H D I h;refine wpAny_If (jH (e AN s σ H _ I h) λd s1 ⟨H1,I1,q1⟩=>?_);cases d with
 |true=>exact f AN s1 σ H1 D I1 q1
 |false=>exact g AN s1 σ H1 D I1 q1
end
abbrev TG:=V->St->Hp->(St->Hp->Prop)->Prop
abbrev DT:=O V->St->Hp->(St->Hp->Prop)->Prop
def PG(X:Cx)(a:Expr)(t:TG):Prop:=
 ∀(AN:O (A1×AE)) (s:A2) (σ:St) (H:Hp) (v:V) (u:A0) (Q:St->Hp->Prop),AU X AN σ H s->Au v u->t v σ H Q →
  A7 (bi X) X.A (assign a X.env u) (λ_ s'=>∃ σ' H',AU X AN σ' H' s'/\Q σ' H') X.xe s
def CH(X:Cx)(ts:O Expr)(t:DT):Prop:=
 ∀(AN:O (A1×AE)) (s:A2) (σ:St) (H:Hp) (vs:O V) (us:O A0) (Q:St->Hp->Prop),AU X AN σ H s->AX vs us->t vs σ H Q →
  A7 (bi X) X.A (assignInOrder ((assignEach ts X.env).map (·.2)) us) (λ_ s'=>∃ σ' H',AU X AN σ' H' s'/\Q σ' H') X.xe s
section
variable{X:Cx}
def RO(i:Nat):TG:=λv σ H Q=>Q (σ.set i (Z v)) H
theorem Ys(hN:X.N.Nodup)(hi:X.N[i]?=Z x)(hx:Cf X.env.scope x)(b:X.fn x=true\/X.env.scope.names.lookup x=Z .local:=by first|exact .inl rfl|exact .inr rfl|assumption):PG X (.Name x pos) (RO i):=by
 intro AN s σ H v u Q I r h;exact wpAny_assign_Name (Cw I hN hi hx r (λs' a=>⟨_,H,a,h⟩) b)
def ww:DT:=λvs σ H Q=>vs=[]/\Q σ H
def tT(t:TG)(u:DT):DT:=λvs σ H Q=>∃v r,vs=v::r/\t v σ H λσ' H'=>u r σ' H' Q
theorem wT:CH X [] ww:=by
 intro AN s σ H vs us Q I r h;obtain⟨e,h⟩:=h;subst e;cases r;exact assignInOrder_nil ⟨σ,H,I,h⟩
theorem ip{t:TG}{u:DT}(h1:PG X e t)(h2:CH X es u)(hs:(assignEach (e::es) X.env).map (·.2)=assign e X.env::(assignEach es X.env).map (·.2):=by rfl):CH X (e::es) (tT t u):=by
 intro AN s σ H vs us Q I r h;obtain⟨v,b,e1,h⟩:=h;subst e1;cases r with
 |cons r a=>
  rw[hs];refine assignInOrder_cons (jH (h1 AN s σ H _ _ _ I r h) λ_ s1 ⟨σ1,H1,I1,q1⟩=>?_);exact h2 AN s1 σ1 H1 _ _ Q I1 a q1
def an8(K:B6)(n:Nat)(t:DT):TG:=λv σ H Q=>∃a xs,v=.ref a/\yw K H a xs/\xs.length=n/\t xs σ H Q
theorem WE{k:Nat}{t:DT}(l:X.calm=true)(h:CH X es t)(p:(assignEach es X.env).length=n:=by rfl)(f:(assignEach es X.env).findIdx? (·.1)=X9:=by rfl):PG X (.Tuple es k pos) (an8 X.K n t):=by
 intro AN s σ H v u Q I r c;obtain⟨a,xs,e1,m,g,c⟩:=c;subst e1;cases r;obtain⟨AQ,d,j,q⟩:=I.tuple m;refine assign_Tuple_tuple (I.ok.hd l) j (by simp[p,<-g,d.length]) f λh' hx=>?_;have i:AU X AN σ H { s with heap:=h' }:=I.kept (t':=s.toks) λb o e=>hx b o (zS (zz e)) e;exact h AN _ σ H xs _ Q i (by simpa using d) c
def PY(te:TE)(g:TG):TS:=λD σ H=>te σ H λx H1=>g x σ H1 D.nx
theorem fF{te:TE}{g:TG}(he:PE X e te)(a:PG X tg g)(hs:swapsWithSole [tg] e pos.line X.env=pure false:=by rfl)(b:swappedStores [tg] e X.env=pure X9:=by rfl)(h1:(assignEach [tg] X.env).map (·.2)=[assign tg X.env]:=by rfl):PS X (.Assign [tg] e pos) (PY te g):=by
 intro AN s σ H D I h;refine wpAny_Assign_stores (jH (he AN s σ H _ I h) λv s1 ⟨x,H1,I1,r1,q1⟩=>?_) hs b;rw[h1];exact jH (a AN s1 σ H1 x v _ I1 r1 q1) λ_ c q=>q
theorem Qq{te:TE}{pos':Pos}(hN:X.N.Nodup)(hi:X.N[i]?=Z x)(hx:Cf X.env.scope x)(he:PE X e te)(hs:swapsWith e (Z (.Name x pos')) pos.line X.env=pure false:=by rfl)(b:X.fn x=true\/X.env.scope.names.lookup x=Z .local:=by first|exact .inl rfl|exact .inr rfl|assumption):
  PS X (.Assign [.Name x pos'] e pos) (PY te (RO i)):=by
 intro AN s σ H D I h;refine wpAny_Assign_Name (jH (he AN s σ H _ I h) λv s1 ⟨y,H1,I1,r1,q1⟩=>?_) hs;exact Cw I1 hN hi hx r1 (λc a=>⟨_,H1,a,q1⟩) b
def sQ(i j:Nat)(ta:TA):TS:=λD σ H=>ta σ H λvs H1=>∃v w,vs=[v,w]/\D.nx ((σ.set i (Z v)).set j (Z w)) H1
theorem XL{a b:Expr}{ta:TA}{px py pt:Pos}{kt k2 pt2}(z:X.calm=true)(hN:X.N.Nodup)(hi:X.N[i]?=Z x)(n:X.N[j]?=Z y)(C:i≠j)(hx:X.env.scope.names.lookup x=Z .local)(f:X.env.scope.names.lookup y=Z .local)(t:PA X [a,b] ta)(J:swappedStores [.Tuple [.Name x px,.Name y py] kt pt] (.Tuple [a,b] k2 pt2) X.env=pure (Z [x,y]))(hs:swapsWithSole [.Tuple [.Name x px,.Name y py] kt pt] (.Tuple [a,b] k2 pt2) pos.line X.env=pure false:=by rfl):
  PS X (.Assign [.Tuple [.Name x px,.Name y py] kt pt] (.Tuple [a,b] k2 pt2) pos) (sQ i j ta):=by
 intro AN s σ H D I h;rw[exec_Assign_arm];refine zb (kH ?_);rw[hs];refine zb (ze ?_);rw[zv ()];refine zb (Tuple_ (jH (t _ AN s σ H _ I h) λus s1 ⟨vs,H1,I1,r1,q1⟩=>?_));obtain⟨v,w,e1,q1⟩:=q1;subst e1;obtain⟨c,d,rfl,G,l⟩:∃c d,us=[c,d]/\Au v c/\Au w d:=by
  cases r1 with
  |cons p q=>
   cases q with
   |cons p' m=>
    cases m;exact⟨_,_,rfl,p,p'⟩
 refine QA ?_ (by show 2<=AA;decide);have E:AU X AN σ H1 { s1 with heap:=s1.heap.push { cls:=.type "tuple",data:=.seq [c,d].toArray } }:=I1.kept (t':=s1.toks) λb o e=>zd _ e;rw[J];refine zb (ze ?_);show A7 (bi X) X.A (do rule "assign.swapped-stores"; let items <-unpackItems (.ref s1.heap.objs.size) 2 X9;assignInOrder [λv=>bindName X.env y v,λv=>bindName X.env x v] items.reverse;pure Flow.next) _ _ _;refine zb (QY (zb (unpackItems_tuple (items:=#[c,d]) (I.ok.hd z) (IsTup.new s1.heap _) λh' F=>?_)));have u:=E.kept (h':=h') (t':=s1.toks) λb o e=>F b o (zS (zz e)) e;show A7 _ _ (assignInOrder [λv=>bindName X.env y v,λv=>bindName X.env x v] [d,c] >>= λ_=>pure Flow.next) _ _ _;refine zb (assignInOrder_cons (wpAny_bindName (Cw u hN n (.inl f) l (λL B=>?_) (.inr f))));refine assignInOrder_cons (wpAny_bindName (Cw B hN hi (.inl hx) G (λK g=>assignInOrder_nil (ze ?_)) (.inr hx)));rw[List.set_comm _ _ (Ki C)]at g;exact⟨_,H1,g,q1⟩
end
structure It where
 go:Nat->Hp->Prop
 yld:Nat->Hp->V->Hp->Prop
 stop:Nat->Hp->Prop
def ux(X:Cx)(AN:O (A1×AE))(H:Hp)(b:A1):Prop:=
 H b=X9/\b≠X.env.locals/\b∉X.fs/\(b∈X.ex\/X.s₀.heap.objs.size<=b)/\(∀x c,X.env.cells.lookup x=Z c->c≠b)/\∀p∈X.pn++AN,p.1≠b
theorem AU.Tj{X:Cx}{σ:St}{H H':Hp}{b:A1}(I:AU X AN σ H s)(a:s.heap.objs.size<=b)(d:H' b=X9):ux X AN H' b:=by
 refine⟨d,kg (zD I.lt a),I.ak6 a,.inr (zt I.sz a),λx c e z=>?_,λp hp z=>?_⟩
 ·obtain⟨v,q⟩:=I.cell x c e;exact absurd (zD q.lt (by rw[z];exact a)) (ki _)
 ·exact absurd (zD (zz (I.pin p hp).1) (by rw[z];exact a)) (ki _)
structure C4 (P:Program) (w:World) (K:B6) (tg:Expr) (J:It) (fp:List Addr) (it:Addr) (tn:Nat->Heap->Prop):Prop where
 mem:it∈fp
 obj:∀i h,tn i h->∀b∈fp,∃o,h.get? b=some o/\∀v,o.data≠.cell v
 keep:∀i h h',tn i h->(∀b∈fp,∀o,h.get? b=some o->h'.get? b=some o)->tn i h'
 item:∀(X:Cx),X.prog=P->X.w=w->X.K=K->X.calm=true->∀(i:Nat) (AN:List (Addr×Obj)) (s:Shared) (σ:St) (H:Hp) (E:BF),AU X AN σ H s->(∀b∈fp,ux X AN H b)->tn i s.heap->J.go i H →
  wpAny (model P w) X.A (pyNext (.ref it)) (λr s1=>∃u,r=some u ∧
   wpAny (model P w) X.A (letOwnedTupleGo tg (.ref it) u) (λ_ s2=>∃x H',AU X AN σ H' s2/\Au x u/\J.yld i H x H'/\tn (i+1) s2.heap/\∀b∈fp,H' b=none) E s1) E s
 done:∀(X:Cx),X.prog=P->X.w=w->X.K=K->X.calm=true->∀(i:Nat) (AN:List (Addr×Obj)) (s:Shared) (σ:St) (H:Hp) (E:BF),AU X AN σ H s->(∀b∈fp,ux X AN H b)->tn i s.heap->J.stop i H →
  wpAny (model P w) X.A (pyNext (.ref it)) (λr s1=>r=none/\AU X AN σ H s1) E s
 self:∀(A:Around) (i:Nat) (s:Shared) (Q:BF) (E:BF),tn i s.heap->Q (.ref it) s->wpAny (model P w) A (pyIter (.ref it)) Q E s
abbrev TI:=St->Hp->(It->Hp->Prop)->Prop
def Sf(X:Cx)(AN:O (A1×AE))(σ:St)(tg:Expr)(R:It->Hp->Prop)(c:A0)(a:A2):Prop:=
 ∃(it:A1) (fp:O A1) (tn:Nat->A6->Prop) (J:It) (H':Hp),c=.ref it/\AU X AN σ H' a/\C4 X.prog X.w X.K tg J fp it tn/\tn 0 a.heap/\(∀b∈fp,ux X AN H' b)/\R J H'
def PI(X:Cx)(tg iter:Expr)(b:TI):Prop:=
 ∀(AN:O (A1×AE)) (s:A2) (σ:St) (H:Hp) (R:It->Hp->Prop),AU X AN σ H s->b σ H R →
  A7 (bi X) X.A (eval iter X.env) (λv a=>A7 (bi X) X.A (pyIter v) (Sf X AN σ tg R) X.xe a) X.xe s
theorem N8{o:AE}{n:String}{vs:Array A0}{Q:Unit->A2->Prop}(d:s.heap.get? it=Z o)(b:o.cls=.type n)(hd:o.data=.fields vs)(c:["enumerate","zip","dict_itemiterator","dict_reverseitemiterator","odict_iterator","itertools.zip_longest","itertools.pairwise"].contains n=false)(a:Q db s):A7 M A (letOwnedTupleGo tg (.ref it) u) Q E s:=by
 unfold letOwnedTupleGo;cases tg<;>first
  |exact ze a
  |(cases u<;>first
    |exact ze a
    |(refine zb (wpAny_load d ?_)
      rw[b,hd];show A7 M A (if(["enumerate","zip","dict_itemiterator","dict_reverseitemiterator","odict_iterator","itertools.zip_longest","itertools.pairwise"].contains n&&vs[0]?==Z (rawInt _))=true then _ else _) Q E s;rw[zv (by intro h;rw[c,jZ]at h;cases h)];exact ze a))
def HE(K:B6)(a:A1):It:=
 ⟨λi H=>∃xs x,su K H a xs/\xs[i]?=Z x,λi H x H'=>H'=H/\∀xs,su K H a xs->xs[i]?=Z x,λi H=>∃xs,su K H a xs/\xs.length<=i⟩
def LU(K:B6)(a:A1):It:=
 ⟨λi H=>∃xs x,yw K H a xs/\xs[i]?=Z x,λi H x H'=>H'=H/\∀xs,yw K H a xs->xs[i]?=Z x,λi H=>∃xs,yw K H a xs/\xs.length<=i⟩
def Hc(lo:Int)(n:Nat):It:=⟨λi _=>i<n,λi H x H'=>H'=H/\x=.int (lo+i),λi _=>n<=i⟩
theorem aas(a it:A1):C4 P w K tg (HE K a) [it] it (λi h=>h.IsListIter it a i) where
 mem:=by simp
 obj:=λi h st b f=>by
  have e:b=it:=by simpa using f
  subst e;obtain⟨o,e,c,d⟩:=st;exact⟨o,e,λv z=>by rw[d]at z;cases z⟩
 keep:=λi h h' st k=>st.at λo e=>k it (by simp) o e
 item:=by
  intro X y l n C i AN s σ H E I j st t;subst y l n;obtain⟨xs,x,g,hx⟩:=t;obtain⟨AQ,q,p,F⟩:=I.list g;obtain⟨u,J,L⟩:=q.get hx;obtain⟨f0,f1,f2,f3,A,m⟩:=j it (by simp);refine wpAny_pyNext_list_item st p.isList (x:=u) (by simpa using J) λh' B D=>?_;have M:AU X AN σ H { s with heap:=h' }:=I.turned (t':=s.toks) (λb o f e=>(D.2 b f).trans e) f0 f1 f3 A m;obtain⟨o,e,c,d⟩:=id B;exact⟨u,rfl,N8 (s:={ s with heap:=h' }) e c d () ⟨x,H,M,L,⟨rfl,λys G=>by rw[I.Jy G g];exact hx⟩,B,λb f=>(j b f).1⟩⟩
 done:=by
  intro X y l n C i AN s σ H E I j st t;subst y l n;obtain⟨xs,g,hx⟩:=t;obtain⟨AQ,q,p,F⟩:=I.list g;obtain⟨f0,f1,f2,f3,A,m⟩:=j it (by simp);have N:=q.length;exact wpAny_pyNext_list_end (I.ok.hd C) st p.isList (by simp;omega) λh' eb=>⟨rfl,I.turned (t':=s.toks) (λb o f e=>eb b o f e) f0 f1 f3 A m⟩
 self:=λ_ _ _ _ _ st h=>wpAny_pyIter_listiter st h
theorem Wk(a it:A1):C4 P w K tg (LU K a) [it] it (λi h=>h.IsTupleIter it a i) where
 mem:=by simp
 obj:=λi h st b f=>by
  have e:b=it:=by simpa using f
  subst e;obtain⟨o,e,c,d⟩:=st;exact⟨o,e,λv z=>by rw[d]at z;cases z⟩
 keep:=λi h h' st k=>st.at λo e=>k it (by simp) o e
 item:=by
  intro X y l n C i AN s σ H E I j st t;subst y l n;obtain⟨xs,x,g,hx⟩:=t;obtain⟨AQ,q,p,F⟩:=I.tuple g;obtain⟨u,J,L⟩:=q.get hx;obtain⟨f0,f1,f2,f3,A,m⟩:=j it (by simp);refine wpAny_pyNext_tuple_item st (show s.heap.IsTuple a AQ.toArray from p) (x:=u) (by simpa using J) λh' B D=>?_;have M:AU X AN σ H { s with heap:=h' }:=I.turned (t':=s.toks) (λb o f e=>(D.2 b f).trans e) f0 f1 f3 A m;obtain⟨o,e,c,d⟩:=id B;exact⟨u,rfl,N8 (s:={ s with heap:=h' }) e c d () ⟨x,H,M,L,⟨rfl,λys G=>by rw[I.Ey G g];exact hx⟩,B,λb f=>(j b f).1⟩⟩
 done:=by
  intro X y l n C i AN s σ H E I j st t;subst y l n;obtain⟨xs,g,hx⟩:=t;obtain⟨AQ,q,p,F⟩:=I.tuple g;obtain⟨f0,f1,f2,f3,A,m⟩:=j it (by simp);have N:=q.length;exact wpAny_pyNext_tuple_end (I.ok.hd C) st (show s.heap.IsTuple a AQ.toArray from p) (by simp;omega) λh' eb=>⟨rfl,I.turned (t':=s.toks) (λb o f e=>eb b o f e) f0 f1 f3 A m⟩
 self:=λ_ _ _ _ _ st h=>wpAny_pyIter_tupleiter st h
theorem Wm(it:A1)(lo:Int)(n:Nat):C4 P w K tg (Hc lo n) [it] it (λi h=>IsRangeIter h it (lo+(i:Nat)*1) ((n:Int)-(i:Nat)) 1) where
 mem:=by simp
 obj:=λi h st b a=>by
  have e:b=it:=by simpa using a
  subst e;exact⟨_,st,λv z=>by
   have u:Data.fields _=Data.cell v:=z;cases u⟩
 keep:=λi h h' st k=>k it (by simp) _ st
 item:=by
  intro X g p j f i AN s σ H E I c st l;subst g p j;obtain⟨f0,f1,f2,f3,m,d⟩:=c it (by simp);have W:=Walks.range (prog:=X.prog) (w:=X.w) (I.ok.hd f) it lo 1 n;refine W.item i s _ _ l st λv h' tk hv q kk=>?_;obtain⟨t,rfl⟩:=hv;have x:AU X AN σ H { s with heap:=h',toks:=tk }:=I.turned (λb o a e=>kk b o (by simpa using a) e) f0 f1 f3 m d;refine⟨_,rfl,N8 (s:={ s with heap:=h',toks:=tk }) (n :="range_iterator") q X2 X2 () ⟨.int (lo+i),H,x,⟨t,?_⟩,⟨rfl,rfl⟩,q,λb a=>(c b a).1⟩⟩;rw[Int.mul_one]
 done:=by
  intro X g p j f i AN s σ H E I c st l;subst g p j;obtain⟨f0,f1,f2,f3,m,d⟩:=c it (by simp);exact wpAny_pyNext_range_end (I.ok.hd f) st (by have:n<=i:=l;omega) λh' eb=>⟨rfl,I.turned (t':=s.toks) (λb o a e=>eb b o a e) f0 f1 f3 m d⟩
 self:=λ_ _ _ _ _ st h=>wpAny_pyIter_rangeiter st h
end L2
namespace L2
section
variable{X:Cx}
theorem ac{σ:St}{H:Hp}{R:It->Hp->Prop}{lo hi:Int}{t u v:Tok}{tk:Nat}(I:AU X AN σ H s)(h1 : -(2 ^ 62)<=lo)(h2:lo<2 ^ 62)(c : -(2 ^ 62)<=hi)(d:hi<2 ^ 62)(q:R (Hc lo (hi-lo).toNat) H):A7 (bi X) X.A (pyIter (.ref s.heap.objs.size)) (Sf X AN σ tg R) E { s with heap:=s.heap.push { cls:=.type "range",data:=.fields #[.int lo t,.int hi u,.int 1 v] },toks:=tk }:=by
 refine wpAny_pyIter_range (IsRange.new ..) (small_one h1 h2 c d) ?_;have a:AU X AN σ H { s with heap:=s.heap.push { cls:=.type "range",data:=.fields #[.int lo t,.int hi u,.int 1 v] },toks:=tk }:=I.kept λb o e=>zd _ e;refine⟨(s.heap.push { cls:=.type "range",data:=.fields #[.int lo t,.int hi u,.int 1 v] }).objs.size,[(s.heap.push { cls:=.type "range",data:=.fields #[.int lo t,.int hi u,.int 1 v] }).objs.size],_,_,H,rfl,
  a.kept (t':=tk) λb o e=>zd _ e,Wm _ lo (hi-lo).toNat,?_,λb f=>?_,q⟩
 ·have e1:lo+((0:Nat):Int)*1=lo:=by simp
  have e2:(((hi-lo).toNat:Nat):Int)-((0:Nat):Int)=Builtin.Range.rangeSize lo hi 1:=by rw[rangeSize_one];split<;>omega
  show IsRangeIter _ _ (lo+((0:Nat):Int)*1) ((((hi-lo).toNat:Nat):Int)-((0:Nat):Int)) 1;rw[e1,e2];exact zC _ rfl
 ·have e:b=(s.heap.push { cls:=.type "range",data:=.fields #[.int lo t,.int hi u,.int 1 v] }).objs.size:=by simpa using f
  subst e;exact a.Tj (zo _) (a.hok.fresh (zo _))
def a9(ta:TA):TI:=λσ H R=>ta σ H λvs H1=>∃j:Int,vs=[.int j] ∧ -(2 ^ 62)<=j/\j<2 ^ 62/\R (Hc 0 j.toNat) H1
theorem i7{a:Expr}{ta:TA}{p:Pos}(c:Gl X "range")(f:X.mg "range"=X9)(b:PA X [a] ta)(hs:A9 [a] X.env=[(false,eval a X.env)]:=by rfl):PI X tg (.Call (.Name "range" p) [a] [] pos) (a9 ta):=by
 intro AN s σ H R I h;refine Call_ (yE I c f boot_range (PyProof.Rows.callWith_type1 (jH (b pos AN s σ H _ I h) λus s1 ⟨vs,H1,I1,r1,q1⟩=>?_) hs X2));obtain⟨j,e,q1,q2,q⟩:=q1;subst e;cases r1 with
 |cons r d=>
  cases d;obtain⟨t,rfl⟩:=r;exact call_range_1 (ac I1 () () q1 q2 (by simpa using q))
def VO(c:TI)(g:TG)(tb:TS):TS:=λD σ H=>c σ H λJ H1=>∃W:Nat->Nat->St->Hp->Prop,(∃m,W 0 m σ H1)/\∀i m σ H,W i m σ H →
 (J.stop i H/\D.nx σ H)\/(J.go i H/\∃N:St->Hp->Prop,(∀ σ' H',N σ' H'->∃a,a<m/\W (i+1) a σ' H')/\∀x H',J.yld i H x H'->g x σ H' λb H2=>tb { D with nx:=N,ct:=N,bk:=D.nx } b H2)
def Ez(fp:O A1)(h:A6):O (A1×AE):=fp.filterMap λb=>(h.get? b).map λo=>(b,o)
theorem vP{b:A1}{o:AE}(a:b∈fp)(e:h.get? b=Z o):(b,o)∈Ez fp h:=dz.mpr ⟨b,a,by rw[e];rfl⟩
theorem nV{p:A1×AE}(hp:p∈Ez fp h):p.1∈fp/\h.get? p.1=Z p.2:=by
 obtain⟨b,a,e⟩:=dz.mp hp;cases q:h.get? b with
 |none=>rw[q]at e;cases e
 |some o=>
  rw[q]at e;have e':(b,o)=p:=k9 e;subst e';exact⟨a,q⟩
theorem AU.pinned{σ:St}{H:Hp}(I:AU X AN σ H s)(f:∀b∈fp,ux X AN H b)(c:∀b∈fp,∃o,s.heap.get? b=Z o/\∀v,o.data≠.cell v):AU X (AN++Ez fp s.heap) σ H s:=
 I.Cv λp hp=>(bB.mp hp).elim (λz=>I.pin p (ZE _ z)) λz=>by
  obtain⟨a,e⟩:=nV z;obtain⟨f0,f1,f2,_⟩:=f p.1 a;obtain⟨o,e',d⟩:=c p.1 a;rw[e]at e';cases e';exact⟨e,f0,f1,f2,d⟩
theorem AU.yG{pl:O (A1×AE)}{σ:St}{H:Hp}(I:AU X (AN++pl) σ H s):AU X AN σ H s:=I.Cv λp hp=>I.pin p (ZE _ (k7 _ hp))
theorem S4{C:TI}{g:TG}{tb:TS}(hp:PassesOwn (bi X) X.A X.env X.xe)(L:X.calm=true)(hi:PI X tg iter C)(hg:PG X tg g)(j:Wj X body tb)(hs:∀x,foldedSetIterable iter X.env x=pure x:=by intro _;rfl):PS X (.For tg iter body [] pos) (VO C g tb):=by
 intro AN s σ H D I h;refine wpAny_For (jH (hi AN s σ H _ I h) λv s1 h1=>jH h1 λa4 s2 h2=>?_) hs;obtain⟨it,fp,tn,J,H2,e,P,T,M,f2,W,⟨m0,w0⟩,turn⟩:=h2;subst e;have z:∀{H':Hp},(∀b∈fp,H' b=X9)->∀b∈fp,ux X AN H' b:=λhn b j=>⟨hn b j,(f2 b j).2⟩;refine codeAny_forLoop_any (λn s'=>∃i σ' H',AU X AN σ' H' s'/\tn i s'.heap/\(∀b∈fp,H' b=X9)/\W i n σ' H') ?_ m0 ⟨0,σ,H2,P,M,λb j=>(f2 b j).1,w0⟩;rintro n G ⟨i,q,y,K,E,F,w3⟩;rcases turn i n q y w3 with⟨a3,qn⟩|⟨go,N,hN,step⟩
 ·refine xa hp (jH (T.done X X2 X2 X2 L i AN G q y X.xe K (z F) E a3) λr s4 ⟨hr,I4⟩=>?_);subst hr;exact wpAny_execs_nil ⟨q,y,I4,qn⟩
 ·refine xa hp (jH (T.item X X2 X2 X2 L i AN G q y X.xe K (z F) E go) λr s4 ⟨u,hr,h4⟩=>?_);subst hr;refine xa hp (jH h4 λ_ s5 ⟨x,H5,I5,r5,y5,st5,fr5⟩=>?_);have S:=I5.pinned (z fr5) (T.obj _ _ st5);refine xa hp (jH (hg _ s5 q H5 x u _ S r5 (step x H5 y5)) λ_ s6 ⟨σ6,H6,I6,q6⟩=>?_);refine xa hp (jH (j _ s6 σ6 H6 _ I6 q6) λf B p=>?_);have again:∀{c:St} {l:Hp},AU X (AN++Ez fp s5.heap) c l B->N c l->∃m,m<n/\∃i σ' H',AU X AN σ' H' B/\tn i B.heap/\(∀b∈fp,H' b=X9)/\W i m σ' H':=λ{c l} a t=>by
   obtain⟨U,Q,w7⟩:=hN c l t;refine⟨U,Q,i+1,c,l,a.yG,T.keep _ _ _ st5 λb j o e=>(a.pin (b,o) (ZE _ (ZE _ (vP j e)))).1,λb j=>?_,w7⟩;obtain⟨o,e,d⟩:=T.obj _ _ st5 b j;exact(a.pin (b,o) (ZE _ (ZE _ (vP j e)))).2.1
  cases f with
  |next=>obtain⟨c,l,a,t⟩:=p;exact again a t
  |cont=>obtain⟨c,l,a,t⟩:=p;exact again a t
  |brk=>obtain⟨c,l,a,p⟩:=p;exact⟨c,l,a.yG,p⟩
  |ret v=>obtain⟨x7,c,l,a,r7,p⟩:=p;exact⟨x7,c,l,a.yG,r7,p⟩
end
end L2
namespace L2
abbrev R2:=V->V->Hp->VK->Prop
def EY(X:Cx)(f:A0->A0->Sem A0)(r:R2):Prop:=
 ∀(AN:O (A1×AE)) (s:A2) (σ:St) (H:Hp) (x y:V) (v u:A0) (Q:VK),AU X AN σ H s->Au x v->Au y u->r x y H Q →
  A7 (bi X) X.A (f v u) (EP X AN σ Q) X.xe s
def DL(X:Cx)(f:A0->Sem A0)(r:V->Hp->VK->Prop):Prop:=
 ∀(AN:O (A1×AE)) (s:A2) (σ:St) (H:Hp) (x:V) (v:A0) (Q:VK),AU X AN σ H s->Au x v->r x H Q →
  A7 (bi X) X.A (f v) (EP X AN σ Q) X.xe s
def jh(X:Cx)(f:A0)(r:O V->Hp->VK->Prop):Prop:=
 ∀(AN:O (A1×AE)) (s:A2) (σ:St) (H:Hp) (xs:O V) (us:O A0) (Q:VK),AU X AN σ H s->AX xs us->r xs H Q →
  A7 (bi X) X.A (call f us) (EP X AN σ Q) X.xe s
def Ts(X:Cx)(r:V->Hp->(Bool->Hp->Prop)->Prop):Prop:=
 ∀(AN:O (A1×AE)) (s:A2) (σ:St) (H:Hp) (x:V) (v:A0) (Q:Bool->Hp->Prop),AU X AN σ H s->Au x v->r x H Q →
  A7 (bi X) X.A (truthy v) (TP X AN σ Q) X.xe s
def FY(r:R2)(ta tb:TE):TE:=λσ H Q=>ta σ H λx H1=>tb σ H1 λy H2=>r x y H2 Q
def RA(r:V->Hp->VK->Prop)(ta:TE):TE:=λσ H Q=>ta σ H λx H1=>r x H1 Q
def rI(C:Int->Int->Prop)(g:Int->Int->V):R2:=λx y H Q=>∃i j,x=.int i/\y=.int j/\C i j/\Q (g i j) H
def EH(g:Int->Int->V):R2:=λx y H Q=>∃i j,x=.int i/\y=.int j/\Q (g i j) H
def rU(g:Int->V):V->Hp->VK->Prop:=λx H Q=>∃i,x=.int i/\Q (g i) H
section
variable{X:Cx}{a b:Expr}{ta tb tc:TE}
theorem MV(g:PE X a ta)(j:PE X b tb){σ:St}{H:Hp}{R:V->V->Hp->Prop}(I:AU X AN σ H s)(h:ta σ H λx H1=>tb σ H1 λy H2=>R x y H2){f:A0->A0->Sem A0}(e:∀v u c x y H2,AU X AN σ H2 c->Au x v->Au y u->R x y H2->A7 (bi X) X.A (f v u) Q X.xe c):
  A7 (bi X) X.A (eval a X.env) (λv d=>A7 (bi X) X.A (eval b X.env) (λu i=>A7 (bi X) X.A (f v u) Q X.xe i) X.xe d) X.xe s:=by
 refine jH (g AN s σ H _ I h) λv s1 ⟨x,H1,I1,r1,q1⟩=>?_;refine jH (j AN s1 σ H1 _ I1 q1) λu c ⟨y,H2,I2,r2,q2⟩=>?_;exact e v u c x y H2 I2 r1 r2 q2
theorem VY{op:Operator}{r:R2}(g:EY X (binaryOp op) r)(c:PE X a ta)(j:PE X b tb):PE X (.BinOp a op b pos) (FY r ta tb):=by
 intro AN s σ H Q I h;exact wpAny_BinOp (MV c j I h λv u i x y H2 d f e q=>g AN i σ H2 x y v u Q d f e q)
theorem hZ{op:UnaryOp}{r:V->Hp->VK->Prop}(b:DL X (unaryOp op) r)(c:PE X a ta):PE X (.UnaryOp op a pos) (RA r ta):=by
 intro AN s σ H Q I h;exact UnaryOp_ (jH (c AN s σ H _ I h) λv s1 ⟨x,H1,I1,r1,q1⟩=>b AN s1 σ H1 x v Q I1 r1 q1)
theorem Hm{f:A0->A0->Sem A0}{C:Int->Int->Prop}{g:Int->Int->Int}
  (e:∀(i j:Int) (t u:Tok) (s:A2) (Q:BF) (E:BF),C i j->Q (.int (g i j) s.toks) { s with toks:=s.toks+1 }->A7 (bi X) X.A (f (.int i t) (.int j u)) Q E s):
  EY X f (rI C λi j=>.int (g i j)):=by
 intro AN s σ H x y v u Q I d c h;obtain⟨i,j,rfl,rfl,b,q⟩:=h;obtain⟨t,rfl⟩:=d;obtain⟨a,rfl⟩:=c;exact e i j t a s _ _ b ⟨.int (g i j),H,I.tok _,⟨_,rfl⟩,q⟩
theorem Mm{f:A0->A0->Sem A0}{g:Int->Int->Int}
  (a:∀(i j:Int) (t u:Tok) (s:A2) (Q:BF) (E:BF),Q (.int (g i j) s.toks) { s with toks:=s.toks+1 }->A7 (bi X) X.A (f (.int i t) (.int j u)) Q E s):
  EY X f (EH λi j=>.int (g i j)):=by
 intro AN s σ H x y v u Q I d b h;obtain⟨i,j,rfl,rfl,q⟩:=h;obtain⟨t,rfl⟩:=d;obtain⟨c,rfl⟩:=b;exact a i j t c s _ _ ⟨.int (g i j),H,I.tok _,⟨_,rfl⟩,q⟩
theorem LL{f:A0->A0->Sem A0}{g:Int->Int->Bool}
  (a:∀(i j:Int) (t u:Tok) (s:A2) (Q:BF) (E:BF),Q (.bool (g i j)) s->A7 (bi X) X.A (f (.int i t) (.int j u)) Q E s):
  EY X f (EH λi j=>.bl (g i j)):=by
 intro AN s σ H x y v u Q I d b h;obtain⟨i,j,rfl,rfl,q⟩:=h;obtain⟨t,rfl⟩:=d;obtain⟨c,rfl⟩:=b;exact a i j t c s _ _ ⟨.bl (g i j),H,I,rfl,q⟩
def i9(i j:Int):Prop:=0<j/\j<1073741824
def xL(i j:Int):Prop:=0<=j/\j<=1000000/\i.natAbs<2 ^ 64
def L5(i j:Int):Prop:=(-(2 ^ 64)<i/\i<2 ^ 64)\/(-(2 ^ 64)<j/\j<2 ^ 64)
theorem L5.ok{i j:Int}(h:L5 i j):IntMulOk i j:=by
 rcases h with⟨h1,h2⟩|⟨h1,h2⟩
 ·exact .of_left (intBits_le_64 h1 h2)
 ·exact .of_right (intBits_le_64 h1 h2)
theorem WU:EY X (binaryOp .Add) (EH λi j=>.int (i+j)):=Mm λ_ _ _ _ _ _ _ q=>add_int q
theorem Tu:EY X (binaryOp .Sub) (EH λi j=>.int (i-j)):=Mm λ_ _ _ _ _ _ _ q=>sub_int q
theorem WG:EY X (binaryOp .Mult) (rI L5 λi j=>.int (i*j)):=Hm λ_ _ _ _ _ _ _ a q=>mul_int q a.ok
theorem mi:EY X (binaryOp .FloorDiv) (rI i9 λi j=>.int (i / j)):=Hm λi j _ _ _ _ _ a q=>by
 have h1:(0:Int)<j:=a.1;have h2:j<1073741824:=a.2;exact floordiv_int () (by rw[Int.fdiv_eq_ediv_of_nonneg i ()];exact q) (.inl (PyProof.noPylong_small ()))
theorem eW:EY X (binaryOp .Mod) (rI (λ_ j=>0<j) λi j=>.int (i%j)):=Hm λi j _ _ _ _ _ a q=>by
 have h1:(0:Int)<j:=a;exact mod_int' () (by rw[Int.fmod_eq_emod_of_nonneg i ()];exact q)
theorem p5:EY X (binaryOp .Pow) (rI xL λi j=>.int (i ^ j.toNat)):=Hm λ_ _ _ _ _ _ _ a q=>pow_int_small a.1 a.2.1 a.2.2 q
theorem jp{f:A0->Sem A0}{g:Int->Int}
  (a:∀(i:Int) (t:Tok) (s:A2) (Q:BF) (E:BF),Q (.int (g i) s.toks) { s with toks:=s.toks+1 }->A7 (bi X) X.A (f (.int i t)) Q E s):
  DL X f (rU λi=>.int (g i)):=by
 intro AN s σ H x v Q I b h;obtain⟨i,rfl,q⟩:=h;obtain⟨t,rfl⟩:=b;exact a i t s _ _ ⟨.int (g i),H,I.tok _,⟨_,rfl⟩,q⟩
theorem aI:DL X (unaryOp .USub) (rU λi=>.int (-i)):=jp λ_ _ _ _ _ q=>neg_int q
theorem NS{σ:St}{H:Hp}{Q:VK}{k a:Bool}(I:AU X AN σ H s)(q:Q (.bl k) H)(e:k=a):EP X AN σ Q (.bool a) s:=by
 subst e;exact⟨.bl k,H,I,rfl,q⟩
theorem eQ:EY X (AG .Lt) (EH λi j=>.bl (decide (i<j))):=LL λ_ _ _ _ _ _ _ q=>lt_int q
theorem io:EY X (AG .Gt) (EH λi j=>.bl (decide (j<i))):=LL λ_ _ _ _ _ _ _ q=>gt_int q
theorem cK:EY X (AG .GtE) (EH λi j=>.bl (decide (j<=i))):=LL λ_ _ _ _ _ _ _ q=>ge_int q
theorem iL:EY X (AG .Is) (λx y H Q=>y=.non/\Q (.bl (decide (x=.non))) H):=by
 intro AN s σ H x y v u Q I a b h;obtain⟨rfl,q⟩:=h;cases b;refine is_none_gen (NS I q ?_);cases x<;>first
  |(cases a;rfl)
  |(obtain⟨t,rfl⟩:=a;rfl)
theorem UT:EY X (AG .IsNot) (λx y H Q=>y=.non/\Q (.bl (!decide (x=.non))) H):=by
 intro AN s σ H x y v u Q I a b h;obtain⟨rfl,q⟩:=h;cases b;refine isnot_none_gen (NS I q ?_);cases x<;>first
  |(cases a;rfl)
  |(obtain⟨t,rfl⟩:=a;rfl)
theorem aX(b:Expr)(h:op≠.In:=by decide)(h2:op≠.NotIn:=by decide):behindInMarks op b=false:=by
 have e1:(op==CmpOp.In)=false:=by cases op<;>first|rfl|exact absurd X2 h
 have e2:(op==CmpOp.NotIn)=false:=by cases op<;>first|rfl|exact absurd X2 h2
 cases b<;>simp[behindInMarks,e1,e2]
theorem lc{r:R2}(i:EY X (AG op) r)(c:PE X a ta)(l:PE X b tb)(f:behindInMarks op b=false):PE X (.Compare a [op] [b] pos) (FY r ta tb):=by
 intro AN s σ H Q I h;exact wpAny_Compare1 (MV c l I h λv u j x y H2 d g e q=>i AN j σ H2 x y v u Q d g e q) f
def uB(t:TE):TT:=λσ H Q=>t σ H λx H'=>∃k,x=.bl k/\Q k H'
theorem fq{r:R2}(d:EY X (AG op) r)(f:PE X a ta)(i:PE X b tb)(g:behindInMarks op b=false):PT X (.Compare a [op] [b] pos) (uB (FY r ta tb)):=by
 intro AN s σ H Q I h;refine wpAny_isTrue_Compare1 (jH (f AN s σ H _ I h) λv s1 ⟨x,H1,I1,r1,q1⟩=>jH (i AN s1 σ H1 _ I1 q1) λu s2 ⟨y,H2,I2,r2,q2⟩=>
  jH (d AN s2 σ H2 x y v u _ I2 r1 r2 q2) λc s3 ⟨z,H3,I3,r3,k,e,q3⟩=>?_) g
 subst e;cases r3;exact ky ⟨H3,I3,q3⟩
def MG(K:B6)(x:V)(H:Hp)(k:Bool):Prop:=
 match x with
 |.non=>k=false
 |.bl b=>k=b
 |.int i=>k=(i != 0)
 |.str y=>y.length<=AA/\k=((y.length:Int) != 0)
 |.byt y=>y.size<=AA/\k=((y.size:Int) != 0)
 |.ref p=>(∃xs,su K H p xs/\k=!xs.isEmpty)\/(∃xs,yw K H p xs/\k=!xs.isEmpty)\/∃AO,H p=Z (.dK AO)/\k=!AO.isEmpty
 |_=>False
theorem Wn{AO:O (κ×V)}{vs:O (κ×A0)}(r:KV AO vs):(!vs.isEmpty)=!AO.isEmpty:=by
 cases r<;>rfl
theorem JB{xs:O V}(r:AX xs AQ):(!AQ.toArray.isEmpty)=!xs.isEmpty:=by
 cases r<;>simp
theorem Fe:(AA:Nat)<2 ^ 63:=by rw[sizeLine_eq];decide
theorem cy:Ts X (λx H Q=>∃k,MG X.K x H k/\Q k H):=by
 intro AN s σ H x v Q I a h;obtain⟨k,e,q⟩:=h;have j:=Fe;have hs:AA=16777216:=sizeLine_eq;cases x with
 |non=>
  cases a;have e':k=false:=e;subst e';exact truthy_none ⟨H,I,q⟩
 |bl b=>
  cases a;have e':k=b:=e;subst e';exact ky ⟨H,I,q⟩
 |int i=>
  obtain⟨t,rfl⟩:=a;have e':k=(i != 0):=e;subst e';exact PySem.P.truthy_int ⟨H,I,q⟩
 |str y=>
  obtain⟨t,rfl⟩:=a;obtain⟨f,e'⟩:y.length<=AA/\k=((y.length:Int) != 0):=e;subst e';exact PySem.P.truthy_str () ⟨H,I.tok _,q⟩
 |byt y=>
  obtain⟨t,rfl⟩:=a;obtain⟨f,e'⟩:y.size<=AA/\k=((y.size:Int) != 0):=e;subst e';exact PySem.W.truthy_bytes () ⟨H,I.tok _,q⟩
 |ref p=>
  cases a;have e':(∃xs,su X.K H p xs/\k=!xs.isEmpty)\/(∃xs,yw X.K H p xs/\k=!xs.isEmpty)\/∃AO,H p=Z (.dK AO)/\k=!AO.isEmpty:=e;rcases e' with⟨xs,hx,e'⟩|⟨xs,hx,e'⟩|⟨AO,hx,e'⟩
  ·subst e';obtain⟨AQ,r,pl,c⟩:=I.list hx;have d:=r.length;exact wpAny_truthy_list pl.isList (by simp only[zr];omega) ⟨H,I.tok _,by rw[JB r];exact q⟩
  ·subst e';obtain⟨AQ,r,pl,c⟩:=I.tuple hx;have d:=r.length;exact truthy_tuple pl (by simp only[zr];omega) ⟨H,I.tok _,by rw[JB r];exact q⟩
  ·subst e';obtain⟨c,g,vs,r,m⟩:AO.length<=AA/\(p==sysModules)=false/\∃vs,KV AO vs/\s.heap.DictOf (cH X.prog X.w) p vs:=I.hok p _ hx;have d:AO.length=vs.length:=Paired.length r;exact wpAny_truthy_dict g m () ⟨H,I.tok _,by rw[Wn r];exact q⟩
 |_=>exact(show False from e).elim
theorem sf(c:PE X a ta)(he:∀b,isTrue a X.env b=(do let v <-b;standAt a.pos;holding [v] (truthy v))):
  PT X a (λσ H Q=>ta σ H λx H'=>∃k,MG X.K x H' k/\Q k H'):=by
 intro AN s σ H Q I h;exact isTrue_plain (jH (c AN s σ H _ I h) λv s1 ⟨x,H1,I1,r1,q1⟩=>cy AN s1 σ H1 x v Q I1 r1 q1) (he _)
theorem Wo:EY X (binaryOp .Add) (λx y H Q=>∃i j,x=.str i/\y=.str j/\i.length+j.length<=AA/\Q (.str (i++j)) H):=by
 intro AN s σ H x y v u Q I d a h;obtain⟨i,j,rfl,rfl,c,q⟩:=h;obtain⟨t,rfl⟩:=d;obtain⟨b,rfl⟩:=a;exact add_str (λb tk=>⟨.str (i++j),H,I.tok _,⟨_,rfl⟩,q⟩) c
theorem BA{x:V}(r:AX [x] us):∃u,us=[u]/\Au x u:=by
 cases r with
 |cons a b=>cases b;exact⟨_,rfl,a⟩
theorem DO{x y:V}(r:AX [x,y] us):∃u a,us=[u,a]/\Au x u/\Au y a:=by
 cases r with
 |cons e b=>
  cases b with
  |cons c d=>cases d;exact⟨_,_,rfl,e,c⟩
theorem Xt:jh X (.builtin "abs") (λxs H Q=>∃i,xs=[.int i]/\Q (.int (if i<0 then -i else i)) H):=by
 intro AN s σ H xs us Q I r h;obtain⟨i,rfl,q⟩:=h;obtain⟨u,rfl,t,rfl⟩:=BA r;exact call_abs_int λu tk=>⟨.int (if i<0 then -i else i),H,I.tok _,⟨_,rfl⟩,q⟩
theorem VV:jh X (.type "int") (λxs H Q=>(∃i,xs=[.int i]/\Q (.int i) H)\/∃k,xs=[.bl k]/\Q (.int (if k then 1 else 0)) H):=by
 intro AN s σ H xs us Q I r h;rcases h with⟨i,rfl,q⟩|⟨k,rfl,q⟩
 ·obtain⟨u,rfl,t,rfl⟩:=BA r;exact call_int_int ⟨.int i,H,I,⟨_,rfl⟩,q⟩
 ·obtain⟨u,rfl,a⟩:=BA r;cases a;exact call_int_bool ⟨.int (if k then 1 else 0),H,I.tok _,⟨_,rfl⟩,q⟩
end
end L2
namespace L2
section
variable{x dx f:A1}{mA:AJ->Y A0}{v:A0}
end
theorem Mu.some_of{v:V}{o:Y A0}(r:Mu (Z v) o):∃u,o=Z u/\Au v u:=by
 cases o with
 |none=>exact(show False from r).elim
 |some u=>exact⟨u,rfl,r⟩
section
variable{H H':Hp}{h':A6}{dx:A1}{fs fs':O (AJ×V)}
end
section
variable{X:Cx}{σ:St}{H:Hp}{dx:A1}{fs:O (AJ×V)}{f:AJ}{v:V}
end
section
variable{X:Cx}{o value:Expr}{f:AJ}{pos':Pos}{ta tv:TE}
end
section
variable{X:Cx}{σ:St}{H:Hp}{c:A0}{b:Bool}
end
end L2
namespace L2
structure iQ (k:Nat) (A:Around):Prop where
 hd:A.handled=none
 dp:A.depth+3*k+5<recursionLimit
 un:A.units+16*k+200<cLine
theorem iQ.mono{k:Nat}(r:iQ k A)(h:j<=k):iQ j A:=⟨r.hd,by have:=r.dp;omega,by have:=r.un;omega⟩
theorem iQ.deeper{k:Nat}(r:iQ (k+1) A)(env:Env):iQ k (A.deeper env):=
 ⟨r.hd,by have:=r.dp;show A.depth+1+3*k+5<_;omega,by have:=r.un;show A.units+3+16*k+200<_;omega⟩
theorem iQ.in1{k:Nat}(r:iQ (k+1) A):iQ k A.in1:=
 ⟨r.hd,by have:=r.dp;show A.depth+3*k+5<_;omega,by have:=r.un;show A.units+1+16*k+200<_;omega⟩
theorem iQ.depth{k:Nat}(r:iQ k A):A.depth<recursionLimit:=by have:=r.dp;omega
def eJ:TA:=λ_ H Q=>Q [] H
def ZB(ta:TE)(tr:TA):TA:=λσ H Q=>ta σ H λx H1=>tr σ H1 λxs H2=>Q (x::xs) H2
section
variable{X:Cx}{te:TE}{t:TA}
theorem yH:PA X [] eJ:=λ_ _ _ _ H Q I h=>Calls.spliced_nil ⟨[],H,I,.nil,h⟩
theorem qp(a:PE X e te)(b:PA X es t)(hs:A9 (e::es) X.env=(false,eval e X.env)::A9 es X.env:=by rfl):PA X (e::es) (ZB te t):=by
 intro pos AN s σ H Q I h;rw[hs];show A7 _ _ (spliced ((false,eval e X.env)::AD pos (A9 es X.env))) _ _ s;refine Calls.spliced_cons (jH (a AN s σ H _ I h) λu s1 ⟨x,H1,I1,r1,q1⟩=>?_);exact jH (b pos AN s1 σ H1 _ I1 q1) λus s2 ⟨xs,H2,I2,r2,q2⟩=>⟨x::xs,H2,I2,.cons r1 r2,q2⟩
def sB(t:TA):TE:=λσ H Q=>t σ H λxs H1=>xs.length<=AA/\∀p,H1 p=X9->Q (.ref p) (B4 H1 p (.tup xs))
def TK(t:TA):TE:=λσ H Q=>t σ H λxs H1=>xs.length<=AA/\∀p,H1 p=X9->Q (.ref p) (B4 H1 p (.lst xs))
theorem pV{x1}(h:PA X es t):PE X (.Tuple es x1 pos) (sB t):=by
 intro AN s σ H Q I a;refine wpAny_Tuple_spliced (jH (h pos AN s σ H _ I a) λus s1 ⟨xs,H1,I1,r,z,q⟩=>⟨by rw[<-r.length];exact z,?_⟩);have c:H1 s1.heap.objs.size=X9:=I1.hok.fresh (zo _);refine⟨.ref s1.heap.objs.size,B4 H1 s1.heap.objs.size (.tup xs),I1.laid (t':=s1.toks) (λb u e=>zd _ e) (zo _) ?_,rfl,q _ c⟩;exact⟨z,us,r,⟨_,zC _ rfl,rfl,⟨_,rfl⟩,rfl⟩⟩
theorem mP(h:PA X es t):PE X (.List es pos) (TK t):=by
 intro AN s σ H Q I a;refine wpAny_List_spliced (jH (h pos AN s σ H _ I a) λus s1 ⟨xs,H1,I1,r,z,q⟩=>⟨by rw[<-r.length];exact z,?_⟩);have c:H1 s1.heap.objs.size=X9:=I1.hok.fresh (zo _);refine⟨.ref s1.heap.objs.size,B4 H1 s1.heap.objs.size (.lst xs),I1.laid (t':=s1.toks) (λb u e=>zd _ e) (zo _) ?_,rfl,q _ c⟩;exact⟨z,us,0,r,zC _ rfl⟩
end
abbrev Sp:=O V->Hp->VK->XK->Prop
abbrev CS:=O Env->Hp->A2->XK->A0->A2->Prop
structure IG (P:Program) (w:World) (K:B6) (mg:Str->Option Value) (base:Heap) (A:Around) (outer:List Env) (s:Shared) (H:Hp):Prop where
 frames:A.frames=some outer
 mod:Mod K mg base
 bs:∀b o,base.get? b=some o->s.heap.get? b=some o/\H b=none
 bsz:base.objs.size<=s.heap.objs.size
 HW:s.heap.FunFrames base outer
 frf:∀b∈Ct outer,H b=none
 hok:Cq P w H s.heap
 bare:AllBare s.gens
 tabs:BU K H
def CE(outer:O Env)(P:A3)(w:A4)(H:Hp)(s:A2)(Q:VK)(u:A0)(s':A2):Prop:=
 ∃v H',s'.os=s.os/\AllBare s'.gens/\Un (Ct outer) [] H H' s.heap s'.heap/\Cq P w H' s'.heap/\Au v u/\Q v H'
def CR(CX:CS)(outer:O Env)(P:A3)(w:A4)(H:Hp)(s:A2)(Q:VK)(E:XK)(r:Result)(s':A2):Prop:=
 match r with
 |.ok (.ret u)=>CE outer P w H s Q u s'
 |.ok _=>False
 |.error e=>CX outer H s E e s'
structure qt (P:Program) (w:World) (K:B6) (mg:Str->Option Value) (base:Heap) (CX:CS) (k:Nat) (f:Addr) (fd:FuncData) (ps:AZ) (sp:Sp):Prop where
 len:∀vs H Q E,sp vs H Q E->vs.length=ps.length
 run:∀(A:Around) (outer:List Env) (s:Shared) (H:Hp) (args:Args) (us:List Value) (vs:List V) (Q:VK) (E:XK),iQ k A->IG P w K mg base A outer s H->BindsTo s fd args (ps.zip us)->AX vs us->sp vs H Q E →
  codeAny (model P w) A (.call (.ref f) args) (CR CX outer P w H s Q E) s
section
variable{X:Cx}{σ:St}{H:Hp}{s':A2}
theorem AU.env0(I:AU X AN σ H s):IG X.prog X.w X.K X.mg X.base X.A X.stack s H:=
 ⟨I.ok.frames,I.ok.mod,I.bs,zt I.ok.bsz I.sz,I.stack,I.Qo,I.hok,I.bare,I.ok.tabs.go I.base.Al⟩
theorem AU.after{Q:VK}(I:AU X AN σ H s)(h:CE X.stack X.prog X.w H s Q u s'):EP X AN σ Q u s':=by
 obtain⟨v,H',os,c,un,f,r,q⟩:=h;obtain⟨a,g,d,t,e⟩:=s';obtain rfl:e=s.os:=os;exact⟨v,H',I.call (h':=a) (g':=g) (d':=d) (t':=t) (ch:=[]) un f c (λb z=>absurd z (by simp)),r,q⟩
end
def sF(sp:Sp)(dvs:O V)(E:XK)(t:TA):TE:=λσ H Q=>t σ H λvs H1=>sp (vs++dvs) H1 Q E
def BG(K:B6)(fd:FuncData)(ps:AZ)(ds:O A0):Prop:=
 ∀(s:A2) (us:O A0),K.In s.heap->(us++ds).length=ps.length->BindsTo s fd ⟨us,[]⟩ (ps.zip (us++ds))
theorem BG.all(h:∀us:O A0,us.length=ps.length->bindArgs fd ⟨us,[]⟩=pure (ps.zip us)):BG K fd ps []:=λs us _ a=>by
 rw[qk]at a ⊢;exact .of_eq (h us a)
def C9(CX:CS)(X:Cx)(E:XK):Prop:=∀(AN:O (A1×AE)) (σ:St) (H:Hp) (s:A2) (e:A0) (s':A2),AU X AN σ H s->CX X.stack H s E e s'->X.xe e s'
section
variable{X:Cx}{CX:CS}{k:Nat}{f:A1}{sp:Sp}{dvs:O V}{ds:O A0}{E:XK}{m:AJ}{p:Pos}{o:Expr}{ta:TE}{t:TA}
theorem N2{σ:St}{H:Hp}{Q:VK}{vs:O V}(F:qt X.prog X.w X.K X.mg X.base CX k f fd ps sp)(d:iQ k X.A)(g:BG X.K fd ps ds)(hd:AX dvs ds)(hx:C9 CX X E)(I:AU X AN σ H s)(r:AX vs us)(h:sp (vs++dvs) H Q E):A7 (bi X) X.A (call (.ref f) us) (EP X AN σ Q) X.xe s:=by
 have b:AX (vs++dvs) (us++ds):=r.append hd;have c:(us++ds).length=ps.length:=by rw[<-b.length];exact F.len _ _ _ _ h
 refine wpAny_call (codeAny_mono (F.run X.A X.stack s H ⟨us,[]⟩ (us++ds) (vs++dvs) Q E d I.env0 (g s us I.kIn c) b h) λr s' a=>?_);cases r with
 |error e=>exact hx AN σ H s e s' I a
 |ok fl=>
  cases fl with
  |ret u=>exact I.after a
  |next=>exact False.elim a
  |brk=>exact False.elim a
  |cont=>exact False.elim a
theorem Yt(F:qt X.prog X.w X.K X.mg X.base CX k f fd ps sp)(d:iQ k X.A)(i:Gl X x)(g:X.mg x=Z (.ref f))(hk:keepIn X.K (.ref f)=true)(j:BG X.K fd ps ds)(hd:AX dvs ds)(hx:C9 CX X E)
  (b:PA X (e::es) t) (c:ad x:=by decide) (he:A9 (e::es) X.env=(false,eval e X.env)::A9 es X.env:=by rfl) (a:(AD pos (A9 es X.env)).any (·.1)=false:=by rfl):
  PE X (.Call (.Name x p) (e::es) [] pos) (sF sp dvs E t):=by
 intro AN s σ H Q I h;refine jv (Qp I i g ?_ c);refine callWith_K (h₀:=X.base) I.ok.mod.kin hk (jH (b pos AN s σ H _ I h) λus s1 ⟨vs,H1,I1,r,q⟩=>⟨I1.kIn,?_⟩) he a;exact N2 F d j hd hx I1 r q
end
section
variable{X:Cx}{CX:CS}{k:Nat}{f:A1}{ks:AZ}{sp:Sp}{E:XK}{m:AJ}{p kpos:Pos}{o:Expr}{kws:O AC}{te ta:TE}{t tk:TA}{nm:Y AJ}
variable{g:O A0->O A0->O A0}{gV:O V->O V->O V}
end
structure aW (N P:AZ) (sc:Scope):Prop where
 kind:sc.kind=.function
 co:sc.isCoroutine=false
 gen:sc.isGenerator=false
 nd:N.Nodup
 pre:N.take P.length=P
 par:∀x∈P,sc.names.lookup x=some .local\/sc.names.lookup x=some .cell
 aip:∀y∈sc.names,y.2≠.free
theorem Oa{a:AJ->Y NameKind}{x:AJ}:∀{binds:O (AJ×A0)} {m:AJ->Y A0},(∀v,(x,v)∉binds)->bindL a binds m x=m x
 |[],_,_=>rfl
 |(n,v)::r,m,h=>by
  unfold bindL;rw[Oa λw b=>h w (zi _ b)];split
  ·have:x≠n:=by rintro rfl;exact h v zh
   simp[this]
  ·rfl
theorem Ob{a:AJ->Y NameKind}{x:AJ}:∀{binds:O (AJ×A0)} {m:AJ->Y A0},(∀v,(x,v)∉binds)->bindC a binds m x=m x
 |[],_,_=>rfl
 |(n,v)::r,m,h=>by
  unfold bindC;rw[Ob λw b=>h w (zi _ b)];split
  ·rfl
  ·have:x≠n:=by rintro rfl;exact h v zh
   simp[this]
theorem Oc{a:AJ->Y NameKind}{x:AJ}{v:A0}:∀{P:AZ} {vs:O A0} {i:Nat} {m:AJ->Y A0},P.Nodup->P[i]?=Z x->vs[i]?=Z v->a x=Z .local →
  bindL a (P.zip vs) m x=Z v
 |[],_,_,_,_,h,_,_=>by simp at h
 |_::_,[],_,_,_,_,h,_=>by simp at h
 |p::P,w::vs,0,m,nd,h1,h2,hk=>by
  simp at h1 h2;subst h1;subst h2;show bindL a ((p,w)::P.zip vs) m p=_;unfold bindL;rw[Oa λv hv=>(dr.mp nd).1 (xc hv).1,zl hk];simp
 |p::P,w::vs,i+1,m,nd,h1,h2,hk=>by
  show bindL a ((p,w)::P.zip vs) m x=_;unfold bindL;exact Oc (i:=i) (dr.mp nd).2 (by simpa using h1) (by simpa using h2) hk
theorem Od{a:AJ->Y NameKind}{x:AJ}{v:A0}:∀{P:AZ} {vs:O A0} {i:Nat} {m:AJ->Y A0},P.Nodup->P[i]?=Z x->vs[i]?=Z v->a x≠Z .local →
  bindC a (P.zip vs) m x=Z v
 |[],_,_,_,_,h,_,_=>by simp at h
 |_::_,[],_,_,_,_,h,_=>by simp at h
 |p::P,w::vs,0,m,nd,h1,h2,hk=>by
  simp at h1 h2;subst h1;subst h2;show bindC a ((p,w)::P.zip vs) m p=_;unfold bindC;rw[Ob λv hv=>(dr.mp nd).1 (xc hv).1,zv hk];simp
 |p::P,w::vs,i+1,m,nd,h1,h2,hk=>by
  show bindC a ((p,w)::P.zip vs) m x=_;unfold bindC;exact Od (i:=i) (dr.mp nd).2 (by simpa using h1) (by simpa using h2) hk
def start(N:AZ)(vs:O V):St:=vs.map Z++ba (N.length-vs.length) X9
def HX(CX:CS)(P:A3)(w:A4)(K:B6)(mg:AJ->Y A0)(base:A6)(N:AZ)(qual:AJ)(scope:Scope)(f:A1)(a:A0)(A:A5)(outer:O Env)(s:A2)(H:Hp)(E:XK):Cx where
 prog:=P
 w:=w
 K:=K
 mg:=mg
 base:=base
 A:=A.deeper (AK qual scope s.heap.objs.size f a)
 N:=N
 s₀:=s
 H₀:=H
 env:=AK qual scope s.heap.objs.size f a
 outer:=outer
 stack:=AK qual scope s.heap.objs.size f a::outer
 ex:=[]
 calm:=true
 fn:=λ_=>true
 pn:=[]
 xe:=λe s'=>A7 (A8 P w) (A.deeper (AK qual scope s.heap.objs.size f a)) (leaving (AK qual scope s.heap.objs.size f a) e) (λ_ b=>CX outer H s E e b) (λe' b=>CX outer H s E e' b) s'
theorem Tn{a:Scope}(h:a.names.lookup x=Z .cell):∃c,(cellsFrom n a.names []).lookup x=Z c:=by
 have q:=cellsFrom_some a.names n [] (.inl h);exact dV.mp q
theorem df{CX:CS}{f:A1}{g:A0}{outer:O Env}{o:A2}{H:Hp}{E:XK}{vs:O V}(S:aW N ps scope)(hd:A.handled=X9)(e0:IG P w K mg base A outer s H)(C:vs.length=ps.length)(r:AX vs us)(x:InCallC s s.heap.objs.size (bindL (AK qual scope s.heap.objs.size f g).kindOf (ps.zip us) λ_=>X9) (cellsFrom (s.heap.objs.size+1) scope.names []) (bindC (AK qual scope s.heap.objs.size f g).kindOf (ps.zip us) λ_=>X9) o):
  AU (HX CX P w K mg base N qual scope f g A outer s H E) [] (start N vs) H o:=by
 have D:ps.length<=N.length:=by have:=congrArg dv S.pre;rw[qB]at this;omega
 obtain⟨h1,tk,rfl,hk⟩:=x.done;have j:∀b:A1,b∉(HX CX P w K mg base N qual scope f g A outer s H E).ex:=λb z=>absurd (show b∈([]:O A1) from z) (by simp);refine⟨⟨e0.mod,S.kind,rfl,rfl,zo _,λy z c h1 h2=>?_,λy d=>?_,λy c _ h=>?_,λ_=>hd,Around.frames_deeper e0.frames,.inr ⟨rfl,rfl⟩,λb z=>absurd z (j b),e0.bs,e0.bsz,λb _ _=>j b,λb z=>absurd z (j b),e0.HW,e0.frf,e0.tabs⟩,
  rfl,e0.bare,Un.kept hk,⟨_,x.toInCall.ns,λi y v h1 h2 F=>?_⟩,λy c h=>⟨_,x.cell y c h⟩,e0.hok.fresh (zo _),λy c h=>?_,λp hp=>absurd (show p∈([]:O (A1×AE)) from hp) (by simp),e0.hok.kept hk,?_⟩
 ·exact name_of_addr x.apart (JO h1) (JO h2)
 ·have d:scope.names.lookup y=Z .cell\/scope.names.lookup y=Z .free:=d;rcases d with d|d
  ·exact Tn d
  ·exact absurd X2 (S.aip _ (JO d))
 ·exact ZI (x.above y c (JO h))
 ·have hi:i<vs.length:=by
   unfold start at h2;by_cases hi:i<vs.length
   ·exact hi
   ·rw[qo (by simpa using hi)]at h2;rw[QI]at h2;split at h2<;>cases h2
  have t:vs[i]?=Z v:=by
   unfold start at h2;rw[ZH (by simpa using hi),Zp]at h2;cases e:vs[i]? with
   |none=>rw[e]at h2;cases h2
   |some a=>rw[e]at h2;cases h2;rfl
  obtain⟨u,l,B⟩:=r.get t;have hp:ps[i]?=Z y:=by
   rw[<-S.pre,hL ()];exact h1
  have m:ps.Nodup:=by rw[<-S.pre];exact S.nd.sublist (xw _ _)
  refine⟨u,B,?_⟩;rcases S.par y (Jn hp)with k|k
  ·exact .inl ⟨k,Oc m hp l k⟩
  ·obtain⟨c,e⟩:=Tn (n:=s.heap.objs.size+1) k;refine .inr ⟨.inl k,c,e,?_⟩;have q:=x.cell y c e;rw[Od m hp l (by show scope.names.lookup y≠_;rw[k];decide)]at q;exact q
 ·exact e0.hok.fresh (ZI (x.above y c (JO h)))
 ·unfold start;show _=N.length;rw[Zl,zg,List.length_replicate];omega
theorem Pv{CX:CS}{k:Nat}{f:A1}{j kV g pm a ct F:A0}{l B:Y A1}{sp:Sp}(L:K.lookup f=Z ⟨F,B,.func (fnOf name qual params body scope j kV g pm l a ct),osl⟩)(a3:codeIn K a qual=true)(S:aW N ps scope)(len:∀vs H Q E,sp vs H Q E->vs.length=ps.length)(U:∀(A:A5) (outer:O Env) (s:A2) (H:Hp) (vs:O V) (Q:VK) (E:XK),iQ k (A.deeper (AK qual scope s.heap.objs.size f a))->sp vs H Q E →
   ∃t,Wj (HX CX P w K mg base N qual scope f a A outer s H E) body t/\t { nx:=λ_ H'=>Q .non H',rt:=Q } (start N vs) H):
  qt P w K mg base CX (k+1) f (fnOf name qual params body scope j kV g pm l a ct) ps sp:=by
 refine⟨len,λA outer s H a5 us vs Q E c e0 M r i=>?_⟩;have z:=len _ _ _ _ i;have h:K.In s.heap:=e0.mod.kin.keeps λb o e=>(e0.bs b o e).1;have D:s.heap.NoLimit:=e0.mod.nolimit.keeps λb o e=>(e0.bs b o e).1;have a4:∀y∈ps.zip us,scope.names.lookup y.1=Z .local\/(scope.names.lookup y.1=Z .cell/\((cellsFrom (s.heap.objs.size+1) scope.names []).lookup y.1).isSome=true):=λ⟨n,v⟩ hy=>by
  rcases S.par n (xc hy).1 with q|q
  ·exact .inl q
  ·exact .inr ⟨q,cellsFrom_some _ _ _ (.inl q)⟩
 refine codeAny_call_function c.depth (h _ _ L) X2 S.co S.gen X2 (PySem.W.codeRec_of h a3) (M _ _ _ _ ?_);refine wpAny_newFunctionEnv_cells S.kind a4 λenv X p x=>?_;subst X;refine⟨D.keeps x.toInCall.keep,codeAny_func ?_⟩;obtain⟨t,G,C⟩:=U A outer s H vs Q E (c.deeper _) i;have I:AU (HX CX P w K mg base N qual scope f a A outer s H E) [] (start N vs) H p:=df S c.hd e0 z r x;refine qa (G [] p (start N vs) H _ I C) (λfl s' hs=>?_) λe s' hs=>hs;have m:∀{σ':St} {H':Hp} {v:V} {u:A0},AU (HX CX P w K mg base N qual scope f a A outer s H E) [] σ' H' s'->Au v u->Q v H'->CE outer P w H s Q u s':=
  λ{σ' H' v u} J d q=>⟨v,H',J.os,J.bare,J.base,J.hok,d,q⟩
 cases fl with
 |ret u=>
  obtain⟨v,σ',H',J,d,q⟩:=hs;exact m J d q
 |next=>
  obtain⟨σ',H',J,q⟩:=hs;exact m (v:=V.non) (u:=Value.none) J X2 q
 |brk=>
  obtain⟨_,_,_,q⟩:=hs;exact False.elim q
 |cont=>
  obtain⟨_,_,_,q⟩:=hs;exact False.elim q
end L2
namespace L2
section
variable{X:Cx}{p:Pos}{t:TA}{id T:String}{r:O V->Hp->VK->Prop}
def IM(r:O V->Hp->VK->Prop)(t:TA):TE:=λσ H Q=>t σ H λvs H1=>r vs H1 Q
theorem WS(d:jh X (.builtin id) r)(i:Gl X x)(f:X.mg x=X9)(hv:AH x=Z (.builtin id))(b:PA X (e::es) t)(g:x ≠ "__name__":=by decide)(c:ad x:=by decide)
  (he:A9 (e::es) X.env=(false,eval e X.env)::A9 es X.env:=by rfl) (a:(AD pos (A9 es X.env)).any (·.1)=false:=by rfl):PE X (.Call (.Name x p) (e::es) [] pos) (IM r t):=by
 intro AN s σ H Q I h;refine jv (yE I i f hv ?_ g c);exact PyProof.Rows.callWith_builtin1 (jH (b pos AN s σ H _ I h) λus s1 ⟨vs,H1,I1,r1,q1⟩=>d AN s1 σ H1 vs us Q I1 r1 q1) he a
theorem Oe(d:jh X (.type T) r)(i:Gl X x)(f:X.mg x=X9)(hv:AH x=Z (.type T))(b:PA X (e::es) t)(g:x ≠ "__name__":=by decide)(c:ad x:=by decide)
  (he:A9 (e::es) X.env=(false,eval e X.env)::A9 es X.env:=by rfl) (a:(AD pos (A9 es X.env)).any (·.1)=false:=by rfl):PE X (.Call (.Name x p) (e::es) [] pos) (IM r t):=by
 intro AN s σ H Q I h;refine jv (yE I i f hv ?_ g c);exact PyProof.Rows.callWith_type1 (jH (b pos AN s σ H _ I h) λus s1 ⟨vs,H1,I1,r1,q1⟩=>d AN s1 σ H1 vs us Q I1 r1 q1) he a
end
end L2
namespace HT
open PySem PyProof.Rows
section
open PySem.SeqAt
open PySem.AutoSeq1 (wpAny_loadPart')
open PySem.MeetsSeq PySem.MeetsSeq2 PySem.MeetsSeq3
end
theorem afn{t b:A1}{vs ws:O A0}(o:IsTup s.heap t vs.toArray)(p:IsTup s.heap b ws.toArray)(hv:vs≠[])(h1:ws=[]->Q (.ref t) s)(h2:ws≠[]->Q (.ref s.heap.objs.size) { s with heap:=s.heap.push { cls:=.type "tuple",data:=.seq (vs++ws).toArray } })(hsz:vs.length+ws.length<=AA):A7 (A8 prog w) A (binaryOp .Add (.ref t) (.ref b)) Q E s:=by
 obtain⟨⟨cls,f,data,sl⟩,c,h,n,hd⟩:=id o;obtain⟨⟨cls2,g,q,l⟩,a,m,j,i⟩:=id p;simp only at h hd m i;subst h hd m i;have e:vs.toArray++ws.toArray=(vs++ws).toArray:=by simp
 by_cases d:ws=[]
 ·exact concat_meets ⟨_,c,rfl⟩ ⟨_,a,rfl⟩ noFill_tuple_add seq_tuple_add PySem.F.slot_tuple_add xF (xy _ _)
   (tuple_addW1 t b vs.toArray ws.toArray n j f g sl l (by simpa using hv) (by simp[d])) ⟨c,a,h1 d⟩
 ·refine concat_meets ⟨_,c,rfl⟩ ⟨_,a,rfl⟩ noFill_tuple_add seq_tuple_add PySem.F.slot_tuple_add xF (xy _ _)
   (tuple_addW2 t b vs.toArray ws.toArray n j f g sl l (by simpa using hv) (by simpa using d) (by rw[zr,zr];exact hsz)) ⟨c,a,?_⟩
  rw[e];exact h2 d
def jo(n d:Nat):Y Int->Nat
 |none=>d
 |some v=>if v<0 then(v+(n:Int)).toNat else min v.toNat n
theorem abR(n d:Nat):jo n d X9=d:=rfl
theorem afo(n d k:Nat):jo n d (Z (k:Int))=min k n:=by
 show(if(k:Int)<0 then((k:Int)+(n:Int)).toNat else min (k:Int).toNat n)=min k n;rw[zv (),KW]
theorem XZ(n d:Nat)(hd:d<=n)(o:Y Int):jo n d o<=n:=by
 cases o with
 |none=>exact hd
 |some v=>
  show(if v<0 then(v+(n:Int)).toNat else min v.toNat n)<=n;by_cases hv:v<0
  ·rw[zl hv];omega
  ·rw[zv hv];exact Nat.min_le_right _ _
theorem Yu(v:Int)(n d:Nat):(if v<0 then max (v+(n:Int)) 0 else min v (n:Int))=((jo n d (Z v):Nat):Int):=by
 show(if v<0 then max (v+(n:Int)) 0 else min v (n:Int))=(((if v<0 then(v+(n:Int)).toNat else min v.toNat n):Nat):Int);by_cases hv:v<0
 ·simp only[zl hv];omega
 ·simp only[zv hv];omega
theorem Wq(lo hi:Y Int)(n:Nat):Builtin.Slice.sliceAdjust lo hi 1 (n:Int)=(((jo n 0 lo:Nat):Int),((jo n n hi:Nat):Int)):=by
 have h1:¬ ((1:Int)<0):=by omega
 unfold Builtin.Slice.sliceAdjust;simp only[h1,qh];refine xk ?_ ?_
 ·cases lo with
  |none=>rfl
  |some v=>exact Yu v n 0
 ·cases hi with
  |none=>rfl
  |some v=>exact Yu v n n
theorem Wr(i j:Nat):Builtin.Slice.slicePlaces (i:Int) (j:Int) 1=j-i:=by
 unfold Builtin.Slice.slicePlaces;have h1:(1:Int)>0:=by omega
 simp only[h1,QQ,Int.ediv_one];split<;>omega
theorem JC{v:A0}{o:Y Int}{Q:Y Int->A2->Prop}(p:IsPart v o)(h:Q o s):A7 (A8 prog w) A (Builtin.Slice.slicePartIndex v) Q E s:=by
 cases p with
 |none=>exact slicePart_none h
 |int i t=>exact slicePart_int h
theorem uR{sl:A1}{c a:A0}{Q:Int×Int×Nat->A2->Prop}(hs:s.heap.IsSliceOf sl c a .none)(pl:IsPart c lo)(e:IsPart a hi)(h:Q (((jo n 0 lo:Nat):Int),1,jo n n hi-jo n 0 lo) s):A7 (A8 prog w) A (Builtin.Slice.sliceApplied (.ref sl) (pure (n:Int))) Q E s:=by
 obtain⟨os,b,f,d⟩:=id hs;unfold Builtin.Slice.sliceApplied Builtin.Slice.sliceFields;refine zb (zb (km b d (x:=c) X2 (zb (km b d (x:=a) X2 (zb (km b d (x:=.none) X2 (ze ?_)))))));refine zb (slicePart_none ?_);show A7 _ _ (if((1:Int)==0)=true then _ else _) _ _ s;rw[zv ()];refine zb (JC pl (zb (JC e (zb (ze ?_)))));show A7 _ _ (match Builtin.Slice.sliceAdjust lo hi 1 (n:Int)with|(lo,hi)=>pure (lo,(1:Int),Builtin.Slice.slicePlaces lo hi 1)) _ _ s;rw[Wq lo hi n];show A7 _ _ (pure (((jo n 0 lo:Nat):Int),(1:Int),Builtin.Slice.slicePlaces ((jo n 0 lo:Nat):Int) ((jo n n hi:Nat):Int) 1)) _ _ s;rw[Wr];exact ze h
theorem XA(xs:Array A0)(i k:Nat):((dg k).filterMap λ(m:Nat)=>xs[((i:Int)+(m:Int)*1).toNat]?).toArray=((xs.toList.drop i).take k).toArray:=by
 have e:(λ(m:Nat)=>xs[((i:Int)+(m:Int)*1).toNat]?)=λm=>xs[i+m]?:=by
  funext m;have:((i:Int)+(m:Int)*1).toNat=i+m:=by omega
  rw[this]
 rw[e];have:=pick_run xs i k;rw[l0]at this;have e2:((λx=>xs[x]?) ∘ λx=>i+x)=λm=>xs[i+m]?:=rfl;rw[e2]at this;rw[this]
theorem Cy{t sl:A1}{d c:A0}(b:IsTup s.heap t items)(hs:s.heap.IsSliceOf sl d c .none)(pl:IsPart d lo)(g:IsPart c hi)(l:¬ (jo items.size 0 lo=0/\jo items.size items.size hi=items.size))(h:Q (.ref s.heap.objs.size) { s with heap:=s.heap.push { cls:=.type "tuple",data:=.seq ((items.toList.drop (jo items.size 0 lo)).take (jo items.size items.size hi-jo items.size 0 lo)).toArray } })(hsz:items.size<=AA):A7 (A8 prog w) A (getItem (.ref t) (.ref sl)) Q E s:=by
 have a:sizeOk (.seq ((items.toList.drop (jo items.size 0 lo)).take (jo items.size items.size hi-jo items.size 0 lo)).toArray):=by
  show((items.toList.drop (jo items.size 0 lo)).take (jo items.size items.size hi-jo items.size 0 lo)).toArray.size<=AA;rw[zr,qB,jS,ZN];omega
 have n:jo items.size items.size hi<=items.size:=XZ _ _ (zo _) hi;obtain⟨os,j,f,o⟩:=id hs;have i:s.TypeIs (.ref sl) "slice":=⟨os,j,f⟩;unfold getItem
 try with_reducible refine Z3 ?_
 first|refine zb (ze ?_)|skip
 refine zb (wpAny_sequenceKey b.typeIs () ?_);refine zb (JA (name:=Str.ofString "__getitem__") b.typeIs PyProof.Rows.slot_tuple_getitem
  (jI PyProof.Rows.slot_tuple_getitem b.typeIs entry_tuple_getitem ?_ (args_tuple_getitem _ _)))
 show A7 _ _ (Builtin.Tuple.tupleItemsOf (.ref t) >>= _) _ _ s;refine zb (tupleItemsOf_ b ?_);refine zb (JE i ?_);rw[zl ()];refine zb (uR hs pl g ?_);have e:¬ ((((jo items.size 0 lo:Nat):Int)==0&&(1:Int)==1&&(jo items.size items.size hi-jo items.size 0 lo)==items.size)=true):=by
  intro q;rw[qi,qi]at q;have q1:((jo items.size 0 lo:Nat):Int)=0:=eq_of_beq q.1.1;have q2:jo items.size items.size hi-jo items.size 0 lo=items.size:=eq_of_beq q.2;exact l ⟨by omega,by omega⟩
 show A7 _ _ (if(((jo items.size 0 lo:Nat):Int)==0&&(1:Int)==1&&(jo items.size items.size hi-jo items.size 0 lo)==items.size)=true then _ else _) _ _ s;rw[zv e,XA]
 first
  |exact zb (m:=Builtin.Tuple.tupleExact _) (QA (ze ⟨_,rfl,ze h⟩) a)
  |exact zb (m:=Builtin.Tuple.tupleExact _) (QA (zb (ze (ze ⟨_,rfl,ze h⟩))) a)
  |exact zb (zb (m:=Builtin.Tuple.tupleExact _) (QA (ze (ze ⟨_,rfl,ze h⟩)) a))
  |exact zb (zb (m:=Builtin.Tuple.tupleExact _) (QA (ze ⟨_,rfl,ze h⟩) a))
end HT
namespace L2
abbrev TO:=St->Hp->(Y Int->Hp->Prop)->Prop
def PO(X:Cx)(e:Y Expr)(t:TO):Prop:=
 ∀(AN:O (A1×AE)) (s:A2) (σ:St) (H:Hp) (Q:Y Int->Hp->Prop),AU X AN σ H s->t σ H Q →
  A7 (bi X) X.A (evalPart e X.env) (λu s'=>∃o H',AU X AN σ H' s'/\IsPart u o/\Q o H') X.xe s
def mM:TO:=λ_ H Q=>Q X9 H
def gg(t:TE):TO:=λσ H Q=>t σ H λx H1=>∃i,x=.int i/\Q (Z i) H1
section
variable{X:Cx}{te:TE}{lo hi:Y Expr}{tl th:TO}
theorem b8:PO X X9 mM:=by
 intro AN s σ H Q I h;rw[evalPart_none];exact ze ⟨X9,H,I,.none,h⟩
theorem wc(h:PE X e te):PO X (Z e) (gg te):=by
 intro AN s σ H Q I a;rw[evalPart_some];refine jH (h AN s σ H _ I a) λu s1 ⟨x,H1,I1,r1,q1⟩=>?_;obtain⟨i,rfl,q⟩:=q1;obtain⟨t,rfl⟩:=r1;exact⟨Z i,H1,I1,.int i t,q⟩
def HC(X:Cx)(r:V->Y Int->Y Int->Hp->VK->Prop):Prop:=
 ∀(AN:O (A1×AE)) (s:A2) (σ:St) (H:Hp) (x:V) (v a b:A0) (lo hi:Y Int) (sl:A1) (Q:VK),AU X AN σ H s->Au x v->s.heap.IsSliceOf sl a b .none->IsPart a lo->IsPart b hi->r x lo hi H Q →
  ∃T id,typeLookup (.type T) "__getitem__"=pure (Z (.builtin id))/\s.TypeIs v T/\A7 (bi X) X.A (getItem v (.ref sl)) (EP X AN σ Q) X.xe s
def VZ(r:V->Y Int->Y Int->Hp->VK->Prop)(te:TE)(tl th:TO):TE:=λσ H Q=>te σ H λx H1=>tl σ H1 λl H2=>th σ H2 λu a=>r x l u a Q
theorem bP{r:V->Y Int->Y Int->Hp->VK->Prop}(g:HC X r)(he:PE X e te)(a:PO X lo tl)(d:PO X hi th):PE X (.Subscript e (.Slice lo hi X9 p2) pos) (VZ r te tl th):=by
 intro AN s σ H Q I h;refine Subscript_ (jH (he AN s σ H _ I h) λv s1 ⟨x,H1,I1,r1,q1⟩=>?_);refine wpAny_Slice (jH (a AN s1 σ H1 _ I1 q1) λvl s2 ⟨l,H2,I2,pl,q2⟩=>jH (d AN s2 σ H2 _ I2 q2) λvu s3 ⟨u,H3,I3,pu,q3⟩=>?_);rw[evalPart_none];refine ze ?_;have f:AU X AN σ H3 { s3 with heap:=s3.heap.push { cls:=.type "slice",data:=.fields #[vl,vu,.none] } }:=I3.kept (t':=s3.toks) λb m q=>zd _ q;obtain⟨T,id,i,c,j⟩:=g AN { s3 with heap:=s3.heap.push { cls:=.type "slice",data:=.fields #[vl,vu,.none] } } σ H3 x v vl vu l u s3.heap.objs.size Q f r1 (Heap.IsSliceOf.new ..) pl pu q3;show A7 (bi X) X.A (subscriptTail e (.Slice lo hi X9 p2) v (.ref s3.heap.objs.size)) (EP X AN σ Q) X.xe { s3 with heap:=s3.heap.push { cls:=.type "slice",data:=.fields #[vl,vu,.none] } };exact tail_any (ops:=[.ref s3.heap.objs.size,v]) c i j (by with_unfolding_all rfl)
def Tp(xs:O V)(lo hi:Y Int):O V:=(xs.drop (HT.jo xs.length 0 lo)).take (HT.jo xs.length xs.length hi-HT.jo xs.length 0 lo)
theorem GZ(xs:O V)(lo hi:Y Int):(Tp xs lo hi).length<=xs.length:=by
 unfold Tp;rw[qB,jS];omega
def tz(K:B6):V->Y Int->Y Int->Hp->VK->Prop:=λx lo hi H Q=>∃a xs,x=.ref a/\yw K H a xs ∧
 ¬ (HT.jo xs.length 0 lo=0/\HT.jo xs.length xs.length hi=xs.length)/\∀p,H p=X9->Q (.ref p) (B4 H p (.tup (Tp xs lo hi)))
theorem si:HC X (tz X.K):=by
 intro AN s σ H x v m l lo hi sl Q I g hs pl f h;obtain⟨a,xs,rfl,hx,i,q⟩:=h;cases g;obtain⟨AQ,r,d,e⟩:=I.tuple hx;have c:AQ.toArray.size=xs.length:=by rw[zr];exact r.length.symm
 refine⟨"tuple", _,PyProof.Rows.slot_tuple_getitem.lookup,d.typeIs,?_⟩;refine HT.Cy d hs pl f (by rw[c];exact i) ?_ (by rw[c];exact e);rw[c];refine⟨.ref s.heap.objs.size,_,I.laid (t':=s.toks) (o:=.tup (Tp xs lo hi)) (λb j q=>zd _ q) (zo _) ?_,rfl,q _ (I.hok.fresh (zo _))⟩;exact⟨zt (GZ xs lo hi) e,_,(r.drop (HT.jo xs.length 0 lo)).take (HT.jo xs.length xs.length hi-HT.jo xs.length 0 lo),iz.new _ _⟩
def sd(K:B6):R2:=λx y H Q=>∃a b xs ys,x=.ref a/\y=.ref b/\yw K H a xs/\yw K H b ys/\xs≠[]/\xs.length+ys.length<=AA ∧
 (ys=[]->Q (.ref a) H)/\(ys≠[]->∀p,H p=X9->Q (.ref p) (B4 H p (.tup (xs++ys))))
theorem AX.IV{xs:O V}(r:AX xs us):us=[]↔xs=[]:=by
 cases r with
 |nil=>simp
 |cons _ _=>simp
theorem ue:EY X (binaryOp .Add) (sd X.K):=by
 intro AN s σ H x y v u Q I i g h;obtain⟨a,b,xs,ys,rfl,rfl,f,j,hx,e,q1,q2⟩:=h;cases i;cases g;obtain⟨AQ,d,p1,_⟩:=I.tuple f;obtain⟨m,c,p2,_⟩:=I.tuple j;refine HT.afn p1 p2 (λz=>hx (d.IV.mp z)) (λz=>⟨.ref a,H,I,rfl,q1 (c.IV.mp z)⟩) (λz=>?_) (by rw[<-d.length,<-c.length];exact e);refine⟨.ref s.heap.objs.size,_,I.laid (t':=s.toks) (o:=.tup (xs++ys)) (λb l q=>zd _ q) (zo _) ?_,rfl,q2 (λw=>z (c.IV.mpr w)) _ (I.hok.fresh (zo _))⟩;exact⟨by rw[Zl];exact e,_,d.append c,iz.new _ _⟩
end
end L2
namespace L2
def DZ(n:Nat)(i:Int):Y Nat:=if 0<=i then(if i<n then Z i.toNat else X9)else if -(n:Int)<=i then Z (i+n).toNat else X9
def IW(xs:O α)(i:Int):Y α:=(DZ xs.length i).bind λj=>xs[j]?
theorem UX{i:Int}(h:DZ n i=Z j):seqIndex? i n=Z j/\j<n ∧ -(n:Int)<=i/\i<n:=by
 unfold DZ at h;by_cases h0:0<=i
 ·rw[zl h0]at h;by_cases h1:i<n
  ·rw[zl h1]at h;have e:i.toNat=j:=k9 h;exact⟨by rw[seqIndex_of h0 h1,e],by omega,by omega,h1⟩
  ·rw[zv h1]at h;cases h
 ·rw[zv h0]at h;by_cases h1 : -(n:Int)<=i
  ·rw[zl h1]at h;have e:(i+n).toNat=j:=k9 h;exact⟨by rw[seqIndex_neg () h1,e],by omega,h1,by omega⟩
  ·rw[zv h1]at h;cases h
theorem Qs{xs:O α}{i:Int}{v:α}(h:IW xs i=Z v):∃j,seqIndex? i xs.length=Z j/\xs[j]?=Z v/\j<xs.length ∧ -(xs.length:Int)<=i/\i<xs.length:=by
 unfold IW at h;cases e:DZ xs.length i with
 |none=>rw[e]at h;cases h
 |some j=>
  rw[e]at h;obtain⟨h1,h2,a,b⟩:=UX e;exact⟨j,h1,h,h2,a,b⟩
def Yw(b:Expr):Prop:=∀o i,subscripted b false o i=operate [o,i] (getItem o i)
def DH(X:Cx)(r:R2):Prop:=
 ∀(value a:Expr) (AN:O (A1×AE)) (s:A2) (σ:St) (H:Hp) (x y:V) (v u:A0) (Q:VK),AU X AN σ H s->Au x v->Au y u->r x y H Q →
  subscripted a false v u=operate [v,u] (getItem v u)->A7 (bi X) X.A (subscriptTail value a v u) (EP X AN σ Q) X.xe s
def LO(X:Cx)(id:String)(r:V->O V->Hp->VK->Prop):Prop:=
 ∀(AN:O (A1×AE)) (s:A2) (σ:St) (H:Hp) (x:V) (xs:O V) (v:A0) (us:O A0) (Q:VK),AU X AN σ H s->Au x v->AX xs us->r x xs H Q →
  A7 (bi X) X.A (call (.builtin id) (v::us)) (EP X AN σ Q) X.xe s
section
variable{X:Cx}{a b:Expr}{ta tb:TE}
theorem DH.or{r c:R2}(h:DH X r)(h':DH X c):DH X (λx y H Q=>r x y H Q\/c x y H Q):=by
 intro value a AN s σ H x y v u Q I d b q hs;rcases q with q|q
 ·exact h value a AN s σ H x y v u Q I d b q hs
 ·exact h' value a AN s σ H x y v u Q I d b q hs
theorem l5{r:R2}(d:DH X r)(c:PE X a ta)(j:PE X b tb)(hs:Yw b):PE X (.Subscript a b pos) (FY r ta tb):=by
 intro AN s σ H Q I h;exact Subscript_ (MV c j I h λv u i x y H2 e g f q=>d a b AN i σ H2 x y v u Q e g f q (hs _ _))
def NG(K:B6):R2:=λx y H Q=>∃p xs i v,x=.ref p/\y=.int i/\su K H p xs/\IW xs i=Z v/\Q v H
def Sk(K:B6):R2:=λx y H Q=>∃p xs i v,x=.ref p/\y=.int i/\yw K H p xs/\IW xs i=Z v/\Q v H
def SZ:R2:=λx y H Q=>∃z i c,x=.str z/\y=.int i/\z.length<=AA/\IW z.cps.toList i=Z c/\Q (.str ⟨#[c]⟩) H
theorem vT:DH X (NG X.K):=by
 intro value A AN s σ H x y v u Q I m g h hs;obtain⟨p,xs,i,z,rfl,rfl,n,f,q⟩:=h;cases m;obtain⟨t,rfl⟩:=g;obtain⟨AQ,r,pl,B⟩:=I.list n;obtain⟨j,h1,h2,C,l,o⟩:=Qs f;obtain⟨w,b,d⟩:=r.get h2;have e:=r.length;have D:=Fe;have c:EP X AN σ Q w s:=⟨z,H,I,d,q⟩;by_cases h0:0<=i
 ·have a:i.toNat=j:=by
   rw[seqIndex_of h0 o]at h1;exact k9 h1
  exact item_listR pl.isList h0 () (by rw[a];simpa using b) c hs
 ·have a:(i+(AQ.toArray.size:Int)).toNat=j:=by
   rw[seqIndex_neg () l]at h1;rw[zr,<-e];exact k9 h1
  exact subscriptTail_builtinR (x:=w) pl.isList.typeIs slot_list_getitem.lookup
   (wpAny_getItem_list_neg (Q:=λr s'=>r=w/\EP X AN σ Q r s') pl.isList () (by rw[zr]<;>omega) () (by rw[a];simpa using b) ⟨rfl,c⟩) hs
theorem on:DH X (Sk X.K):=by
 intro value m AN s σ H x y v u Q I g f h hs;obtain⟨p,xs,i,z,rfl,rfl,l,b,q⟩:=h;cases g;obtain⟨t,rfl⟩:=f;obtain⟨AQ,r,pl,n⟩:=I.tuple l;obtain⟨j,h1,h2,o,A,C⟩:=Qs b;obtain⟨w,a,d⟩:=r.get h2;have c:=r.length;have B:=Fe;have e:EP X AN σ Q w s:=⟨z,H,I,d,q⟩;exact subscriptTail_builtinR (x:=w) pl.typeIs slot_tuple_getitem.lookup
  (getItem_tuple (j:=j) (Q:=λr s'=>r=w/\EP X AN σ Q r s') pl () () (by rw[zr,<-c];exact h1) (by simpa using a) ⟨rfl,e⟩) hs
theorem VW:DH X SZ:=by
 intro value l AN s σ H x y v u Q I f d h hs;obtain⟨z,i,c,rfl,rfl,n,a,q⟩:=h;obtain⟨t,rfl⟩:=f;obtain⟨m,rfl⟩:=d;obtain⟨j,h1,h2,o,e,g⟩:=Qs a;have b:z.cps.toList.length=z.length:=by simp[Str.length]
 rw[b]at h1 e g;have p:=Fe;exact tail_any (typeIs_str s z t) slot_str_getitem.lookup (getItem_str (c:=c) (by
  have e1:decide (i < -(2 ^ 63:Int))=false:=z4 ();have e2:decide (i>=2 ^ 63)=false:=z4 ();rw[e1,e2,lj]) (by rw[h1];simpa using h2) ⟨.str ⟨#[c]⟩,H,I.tok _,⟨_,rfl⟩,q⟩) hs
def XO(K:B6):R2:=λx y H Q=>NG K x y H Q\/Sk K x y H Q\/SZ x y H Q
theorem i5:DH X (XO X.K):=vT.or (on.or VW)
theorem AU.lst{σ:St}{H:Hp}{p:A1}{xs:O V}(I:AU X AN σ H s)(h:H p=Z (.lst xs)):
  ∃(AQ:O A0) (n:Nat),AX xs AQ/\s.heap.get? p=Z { cls:=.type "list",data:=.seq AQ.toArray n }/\xs.length<=AA:=by
 obtain⟨z,AQ,n,r,e⟩:=I.hok p _ h;exact⟨AQ,n,r,e,z⟩
theorem Qt(lo hi:Y Int)(n:Nat):(sliceBounds lo hi X9 n).1=((HT.jo n 0 lo:Nat):Int)/\(sliceBounds lo hi X9 n).2.1=((HT.jo n n hi:Nat):Int)/\(sliceBounds lo hi X9 n).2.2=1:=by
 refine⟨?_,?_,rfl⟩
 ·cases lo with
  |none=>simp[sliceBounds,HT.jo]
  |some i=>
   simp only[sliceBounds,HT.jo,ov,show(1:Int)>0 by decide,QQ];by_cases h:i<0
   ·simp only[h,QQ]<;>omega
   ·simp only[h,qh]<;>omega
 ·cases hi with
  |none=>simp[sliceBounds,HT.jo]
  |some i=>
   simp only[sliceBounds,HT.jo,ov,show(1:Int)>0 by decide,QQ];by_cases h:i<0
   ·simp only[h,QQ]<;>omega
   ·simp only[h,qh]<;>omega
theorem Mv(AQ:O A0)(lo hi:Y Int):slicePick AQ.toArray lo hi X9=((AQ.drop (HT.jo AQ.length 0 lo)).take (HT.jo AQ.length AQ.length hi-HT.jo AQ.length 0 lo)).toArray:=by
 obtain⟨h1,h2,a⟩:=Qt lo hi AQ.toArray.size;unfold slicePick;rw[h1,h2,a];simp only[sliceRange_one,pick_run,zr]<;>rfl
def aom(K:B6):V->Y Int->Y Int->Hp->VK->Prop:=λx lo hi H Q=>∃a xs,x=.ref a/\su K H a xs/\∀p,H p=X9->Q (.ref p) (B4 H p (.lst (Tp xs lo hi)))
theorem nB:HC X (aom X.K):=by
 intro AN s σ H x v l j lo hi sl Q I f hs pl e h;obtain⟨a,xs,rfl,hx,q⟩:=h;cases f;obtain⟨AQ,r,c,d⟩:=I.list hx;have g:=r.length;refine⟨"list", _,slot_list_getitem.lookup,c.isList.typeIs,?_⟩;refine wpAny_getItem_list_slice c.isList hs pl e .none (by simp) ?_ (by rw[zr]<;>omega);rw[Mv,<-g];refine⟨.ref s.heap.objs.size,_,I.laid (t':=s.toks) (o:=.lst (Tp xs lo hi)) (λb i q=>zd _ q) (zo _) ?_,rfl,q _ (I.hok.fresh (zo _))⟩;exact⟨zt (GZ xs lo hi) d,_,0,(r.drop (HT.jo xs.length 0 lo)).take (HT.jo xs.length xs.length hi-HT.jo xs.length 0 lo),zC _ rfl⟩
theorem Qu:jh X (.builtin "len") (λxs H Q=>∃p ys,xs=[.ref p]/\(su X.K H p ys\/yw X.K H p ys)/\Q (.int ys.length) H):=by
 intro AN s σ H xs us Q I r h;obtain⟨p,ys,rfl,a,q⟩:=h;obtain⟨u,rfl,e⟩:=BA r;cases e;have f:=Fe;rcases a with a|a
 ·obtain⟨AQ,b,pl,d⟩:=I.list a;have c:=b.length;exact Calls.call_len_list pl.isList (by simp only[zr]<;>omega) ⟨.int ys.length,H,I.tok _,⟨s.toks+1,by rw[zr,c]⟩,q⟩
 ·obtain⟨AQ,b,pl,d⟩:=I.tuple a;have c:=b.length;exact len_tuple pl (by simp only[zr]<;>omega) ⟨.int ys.length,H,I.tok _,⟨s.toks+1,by rw[zr,c]⟩,q⟩
theorem Qv:jh X (.builtin "len") (λxs H Q=>∃z,xs=[.str z]/\z.length<=AA/\Q (.int z.length) H):=by
 intro AN s σ H xs us Q I r h;obtain⟨z,rfl,b,q⟩:=h;obtain⟨u,rfl,t,rfl⟩:=BA r;have a:=Fe;exact len_str () ⟨.int z.length,H,I.tok _,⟨_,rfl⟩,q⟩
theorem jh.or{f:A0}{r b:O V->Hp->VK->Prop}(h:jh X f r)(h':jh X f b):jh X f (λxs H Q=>r xs H Q\/b xs H Q):=by
 intro AN s σ H xs us Q I a q;rcases q with q|q
 ·exact h AN s σ H xs us Q I a q
 ·exact h' AN s σ H xs us Q I a q
theorem Qw:jh X (.type "list") (λxs H Q=>∃p ys,xs=[.ref p]/\(su X.K H p ys\/yw X.K H p ys)/\∀l,H l=X9->Q (.ref l) (B4 H l (.lst ys))):=by
 intro AN s σ H xs us Q I r h;obtain⟨p,ys,rfl,d,q⟩:=h;obtain⟨u,rfl,m⟩:=BA r;cases m;have i:∀(AQ:O A0),AX ys AQ->ys.length<=AA->∀(h':A6) (c':Nat),(∀b o',s.heap.get? b=Z o'->h'.get? b=Z o') →
   h'.get? s.heap.objs.size=Z { cls:=.type "list",dict:=X9,data:=.seq AQ.toArray c',slots:=#[] }->EP X AN σ Q (.ref s.heap.objs.size) { s with heap:=h' }:=λAQ a c h' c' kp e=>
  ⟨.ref s.heap.objs.size,_,I.laid (t':=s.toks) kp (zo _) (show fQ X.prog X.w _ h' _ (.lst ys) from⟨c,AQ,c',a,e⟩),rfl,q _ (I.hok.fresh (zo _))⟩
 rcases d with d|d
 ·obtain⟨AQ,a,pl,c⟩:=I.list d;have j:=a.length;obtain⟨o,g,f,n,hd⟩:=pl.isList;exact call_list_seq p (.inl X2) g f hd (λh' c' kp e=>i AQ a c h' c' kp e) (by simp only[zr]<;>omega)
 ·obtain⟨AQ,a,pl,c⟩:=I.tuple d;have j:=a.length;obtain⟨o,g,f,n,hd⟩:=pl;exact call_list_seq p (.inr X2) g f hd (λh' c' kp e=>i AQ a c h' c' kp e) (by simp only[zr]<;>omega)
theorem Mw:jh X (.type "tuple") (λxs H Q=>∃p ys,xs=[.ref p]/\((su X.K H p ys/\∀l,H l=X9->Q (.ref l) (B4 H l (.tup ys)))\/(yw X.K H p ys/\Q (.ref p) H))):=by
 intro AN s σ H xs us Q I r h;obtain⟨p,ys,rfl,h⟩:=h;obtain⟨u,rfl,i⟩:=BA r;cases i;rcases h with⟨c,q⟩|⟨c,q⟩
 ·obtain⟨AQ,a,pl,f⟩:=I.list c;have j:=a.length;refine call_tuple_list pl.isList (λh' kp=>?_) (by simp only[zr]<;>omega);have d:AU X AN σ H { s with heap:=h' }:=I.kept (t':=s.toks) kp;have g:AU X AN σ (B4 H h'.objs.size (.tup ys)) { s with heap:=h'.push { cls:=.type "tuple",data:=.seq AQ.toArray } }:=
   d.laid (t':=s.toks) (λb o e=>zd _ e) (zo _) (show fQ X.prog X.w _ _ _ (.tup ys) from⟨f,AQ,a,iz.new _ _⟩)
  exact⟨.ref h'.objs.size,_,g,rfl,q _ (d.hok.fresh (zo _))⟩
 ·obtain⟨AQ,a,pl,f⟩:=I.tuple c;exact call_tuple_same pl ⟨.ref p,H,I,rfl,q⟩
def RI(K:B6)(T:String)(x:V)(H:Hp):Prop:=match x with
 |.str _=>T ="str"
 |.int _=>T ="int"
 |.ref p=>(T ="list" ∧ ∃xs,su K H p xs)\/(T ="tuple" ∧ ∃o,K.lookup p=Z o/\o.cls=.type "tuple" ∧ o.dict=X9) ∨
   (T ="dict" ∧ ((∃AO,H p=Z (.dK AO))\/∃AO,H p=Z (.dT AO)))\/(T ="set" ∧ ∃S n,H p=Z (.set S n))
 |_=>False
theorem nv{σ:St}{H:Hp}{T:String}{x:V}{v:A0}(I:AU X AN σ H s)(r:Au x v)(ty:RI X.K T x H):
  s.TypeIs v T/\∀a,v=.ref a->∃b,s.heap.get? a=Z b/\b.dict=X9:=by
 cases x with
 |str z=>
  obtain⟨t,rfl⟩:=r;cases(show T ="str" from ty);exact⟨typeIs_str s z t,λ_ e=>nomatch e⟩
 |int i=>
  obtain⟨t,rfl⟩:=r;cases(show T ="int" from ty);exact⟨typeIs_int s i t,λ_ e=>nomatch e⟩
 |ref p=>
  cases r;rcases ty with⟨rfl,xs,d⟩|⟨rfl,o,hk,f,hd⟩|⟨rfl,hk⟩|⟨rfl,S,n,hk⟩
  ·obtain⟨AQ,_,pl,_⟩:=I.list d;refine⟨pl.isList.typeIs,λa e=>?_⟩;cases e;obtain⟨o,n,e,c,hd,_⟩:=pl;exact⟨o,e,hd⟩
  ·refine⟨⟨o,I.kIn p o hk,f⟩,λa e=>?_⟩;cases e;exact⟨o,I.kIn _ o hk,hd⟩
  ·have z:∃o,s.heap.get? p=Z o/\o.ExactDict:=by
    rcases hk with⟨AO,hk⟩|⟨AO,hk⟩
    ·obtain⟨_,_,_,_,o,_,_,e,ex,_⟩:=I.hok p _ hk;exact⟨o,e,ex⟩
    ·obtain⟨_,_,_,_,o,_,_,e,ex,_⟩:=I.hok p _ hk;exact⟨o,e,ex⟩
   obtain⟨o,e,ex⟩:=z;refine⟨⟨o,e,ex.1⟩,λa e2=>?_⟩;cases e2;exact⟨o,e,ex.2.1⟩
  ·obtain⟨o,_,_,_,e,ex,_⟩:=I.hok p _ hk;refine⟨⟨o,e,ex.1⟩,λa e2=>?_⟩;cases e2;exact⟨o,e,ex.2.1⟩
 |_=>exact False.elim ty
def tBM(K:B6)(T:String)(r:V->O V->Hp->VK->Prop)(to:TE)(t:TA):TE:=λσ H Q=>to σ H λx H1=>RI K T x H1/\t σ H1 λxs H2=>r x xs H2 Q
variable{o:Expr}{to:TE}{t:TA}{T id:String}{r:V->O V->Hp->VK->Prop}
theorem Yx(pa:PlainAttrs T)(i:Slot T name id)(b:typeOf (.builtin id)=pure (.type "method_descriptor"))(j:LO X id r)(m:PE X o to)(d:PA X (e::es) t)
  (f:attributeBase o name X.env (eval o X.env)=eval o X.env:=by rfl)
  (g:((AD cpos (A9 (e::es) X.env)).all (λx=>!x.1)&&(backToKw cpos (keywordEach [] X.env)).all (λx=>x.1.isSome)
   && decide ((e::es).length+([]:O AC).length+(if([]:O AC).isEmpty then 0 else 1)<30))=true:=by rfl)
  (c:(apos.endLine==cpos.line)=true:=by rfl) (hs:A9 (e::es) X.env=(false,eval e X.env)::A9 es X.env:=by rfl) (l:(AD cpos (A9 es X.env)).any (·.1)=false:=by rfl):
  PE X (.Call (.Attribute o name apos) (e::es) [] cpos) (tBM X.K T r to t):=by
 intro AN s σ H Q I h;refine wpAny_Call_method_late f g c X2 (jH (m AN s σ H _ I h) λv s1 ⟨x,H1,I1,r1,ty,q1⟩=>?_);obtain⟨h1,h2⟩:=nv I1 r1 ty;refine⟨T,id,pa,i,b,h1,h2,?_⟩;have a:=d cpos AN s1 σ H1 _ I1 q1;rw[hs]at a ⊢;refine Calls.callWith_builtin (by show(false||(AD cpos (A9 es X.env)).any (·.1))=false;rw[l]<;>rfl) (Calls.evalArgs_plain ?_);exact jH a λus s2 ⟨vs,H2,I2,r2,q2⟩=>j AN s2 σ H2 x vs v us Q I2 r1 r2 q2
end
end L2
namespace L2
def NU(X:Cx)(id:String)(r:V->O V->Hp->VK->Prop):Prop:=
 ∀(AN:O (A1×AE)) (s:A2) (σ:St) (H:Hp) (x:V) (xs:O V) (v:A0) (us:O A0) (Q:VK),AU X AN σ H s->Au x v->AX xs us->r x xs H Q →
  A7 (bi X) X.A (call (.builtin id) (v::us)) (EP X AN σ Q) X.xe s
theorem AX.one:∀{x:V} {us:O A0},AX [x] us->∃u,us=[u]/\Au x u:=λh=>by
 cases h with
 |cons r t=>cases t;exact⟨_,rfl,r⟩
theorem AX.two:∀{x y:V} {us:O A0},AX [x,y] us->∃u v,us=[u,v]/\Au x u/\Au y v:=λh=>by
 cases h with
 |cons r t=>
  cases t with
  |cons q t=>cases t;exact⟨_,_,rfl,r,q⟩
theorem AX.eraseIdx:∀{xs:O V} {us:O A0} (i:Nat),AX xs us->AX (xs.eraseIdx i) (us.eraseIdx i)
 |_,_,_,.nil=>.nil
 |_,_,0,.cons _ t=>t
 |_,_,i+1,.cons r t=>.cons r (AX.eraseIdx i t)
theorem Og{α:Type}:∀(l:O α) (i:Nat),(l.eraseIdx i).length<=l.length
 |[],_=>zo _
 |_::_,0=>Kj _
 |_::r,i+1=>ka (Og r i)
section
variable{X:Cx}{σ:St}{H:Hp}{b:A1}{xs ys zs:O V}
theorem AU.abU{its':O A0}{f:Array A0->Array A0}{t':Nat}(I:AU X AN σ H s)(d:H l=Z (.lst xs))(e:s.heap.get? l=Z { cls:=.type "list",data:=.seq AQ.toArray n })(a:f AQ.toArray=its'.toArray)(hv:AX ys its')(c:ys.length<=AA):
  AU X AN σ (B4 H l (.lst ys)) { s with heap:=s.heap.update l (Obj.mapSeq f),toks:=t' }:=by
 have q:=PySem.IsL.update e f;rw[a]at q;refine I.write (x:=l) (e:=l) (by rw[d];exact trivial) (.inl X2) (λh u g b=>(QU s.heap (Obj.mapSeq f) (Ki g)).trans b) ⟨_,q⟩ ?_;exact⟨c,its',_,hv,q⟩
theorem AU.Qx(I:AU X AN σ H s)(a:H l=Z (.lst xs)):xs.length<=AA/\∃(AQ:O A0) (n:Nat),AX xs AQ/\xs.length=AQ.length/\s.heap.get? l=Z { cls:=.type "list",data:=.seq AQ.toArray n }:=by
 obtain⟨z,AQ,n,r,e⟩:=I.hok l _ a;exact⟨z,AQ,n,r,r.length,e⟩
end
section
variable{X:Cx}
def TH:V->O V->Hp->VK->Prop:=λx vs H Q=>∃l xs y,x=.ref l/\vs=[y]/\H l=Z (.lst xs)/\xs.length<AA/\Q .non (B4 H l (.lst (xs++[y])))
theorem Oh:NU X "list.append" TH:=by
 intro AN s σ H x vs v us Q I c d h;obtain⟨l,xs,y,rfl,rfl,a,g,q⟩:=h;cases c;obtain⟨u,rfl,b⟩:=d.one;obtain⟨z,AQ,n,r,f,e⟩:=I.Qx a;refine call_meets F.slot_list_append ⟨_,e,rfl⟩ F.entry_list_append (F.args_list_append_2 _ _) (PySem.list_append l AQ.toArray n u (by rw[zr];omega)) ⟨e,?_⟩;refine⟨.non,_,I.abU (its':=AQ++[u]) a e (by simp) (r.append (.cons b .nil)) ?_,rfl,q⟩;rw[Zl,ef];omega
def W1:V->O V->Hp->VK->Prop:=λx vs H Q=>∃l xs i k y,x=.ref l/\vs=[.int i]/\H l=Z (.lst xs) ∧ -(2 ^ 63)<=i/\i<2 ^ 63/\seqIndex? i xs.length=Z k/\xs[k]?=Z y/\Q y (B4 H l (.lst (xs.eraseIdx k)))
theorem vS:NU X "list.pop" W1:=by
 intro AN s σ H x vs v us Q I g j h;obtain⟨l,xs,i,k,y,rfl,rfl,a,h1,h2,hk,f,q⟩:=h;cases g;obtain⟨u,rfl,d⟩:=j.one;obtain⟨t,rfl⟩:=d;obtain⟨z,AQ,n,r,c,e⟩:=I.Qx a;obtain⟨w,m,b⟩:=r.get f;refine call_meets F.slot_list_pop ⟨_,e,rfl⟩ F.entry_list_pop (F.args_list_pop_2 _ _)
  (MeetsSeq.list_pop_at l AQ.toArray n i t k w (fitsIndex_both h1 h2) (by rw[zr,<-c];exact hk) (by rw[<-kR];exact m) (by rw[zr];omega)) ⟨e,?_⟩
 refine⟨y,_,I.abU (its':=AQ.eraseIdx k) a e ?_ (r.eraseIdx k) ?_,b,q⟩
 ·show AQ.toArray.eraseIdxIfInBounds k=(AQ.eraseIdx k).toArray;rw[List.eraseIdxIfInBounds_toArray]
 ·have:=Og xs k;omega
end
section
variable{X:Cx}
end
end L2
namespace L2
section
variable [DecidableEq κ]
def Fg(AO:O (κ×V))(k:κ):Y V:=(AO.find? λa=>decide (a.1=k)).map (·.2)
def BM(AO:O (κ×V))(k:κ)(v:V):O (κ×V):=
 if(AO.any λa=>decide (a.1=k))=true then AO.map (λa=>if a.1=k then(a.1,v)else a)else AO++[(k,v)]
theorem Cz{p:κ×V}{r:O (κ×V)}{k:κ}(e:p.1=k):Fg (p::r) k=Z p.2:=by simp[Fg,JY,e]
theorem CG{p:κ×V}{r:O (κ×V)}{k:κ}(e:¬ p.1=k):Fg (p::r) k=Fg r k:=by simp[Fg,JY,e]
theorem Tq(k:κ):∀AO:O (κ×V),(AO.any λa=>decide (a.1=k))=(Fg AO k).isSome
 |[]=>rfl
 |p::r=>by
  rw[xx];by_cases e:p.1=k
  ·simp only[Cz e,z5 e,Bool.true_or,fJ]
  ·rw[CG e,z4 e,gi];exact Tq k r
theorem sO(AO:O (κ×V))(k:κ)(v:V):(BM AO k v).length<=AO.length+1:=by
 unfold BM;split
 ·rw[zg];omega
 ·rw[Zl,ZO,List.length_nil];omega
theorem Mu.Fi{o:Y V}{u:Y A0}(r:Mu o u):o.isSome=u.isSome:=by
 cases o with
 |none=>cases u with
  |none=>rfl
  |some _=>exact(show False from r).elim
 |some _=>cases u with
  |none=>exact(show False from r).elim
  |some _=>rfl
theorem KV.val{AO:O (κ×V)}{vs:O (κ×A0)}(r:KV AO vs)(k:κ):Mu (Fg AO k) (valueAt vs k):=by
 unfold KV at r
 induction r with
 |nil=>exact True.intro
 |@cons p q ps a h t c=>
  obtain⟨h1,h2⟩:=h;by_cases e:p.1=k
  ·have e':q.1=k:=h1.symm.trans e;have b:valueAt (q::a) k=Z q.2:=by simp[valueAt,JY,e']
   rw[Cz e,b];exact h2
  ·have e':¬ q.1=k:=λz=>e (h1.trans z);have b:valueAt (q::a) k=valueAt a k:=by simp[valueAt,JY,e']
   rw[CG e,b];exact c
theorem KV.any{AO:O (κ×V)}{vs:O (κ×A0)}(r:KV AO vs)(k:κ):(AO.any λa=>decide (a.1=k))=vs.any λa=>decide (a.1=k):=by
 unfold KV at r
 induction r with
 |nil=>rfl
 |cons h t b=>rw[xx,xx,b,h.1]
theorem KV.repl{AO:O (κ×V)}{vs:O (κ×A0)}(r:KV AO vs)(k:κ){y:V}(b:Au y u):
  KV (AO.map λa=>if a.1=k then(a.1,y)else a) (vs.map λa=>if a.1=k then(a.1,u)else a):=by
 unfold KV at r ⊢
 induction r with
 |nil=>exact .nil
 |@cons p q ps d h t c=>
  rw[zk,zk];refine .cons ?_ c;obtain⟨h1,h2⟩:=h;by_cases e:p.1=k
  ·rw[zl e,zl (h1.symm.trans e)];exact⟨h1,b⟩
  ·rw[zv e,zv (λz=>e (h1.trans z))];exact⟨h1,h2⟩
theorem KV.put{AO:O (κ×V)}{vs:O (κ×A0)}(r:KV AO vs)(k:κ){y:V}(a:Au y u):KV (BM AO k y) (stored vs k u):=by
 unfold BM stored;rw[r.any k];by_cases e:(vs.any λb=>decide (b.1=k))=true
 ·rw[zl e,zl e];exact r.repl k a
 ·rw[zv e,zv e];exact Paired.snoc r ⟨rfl,a⟩
theorem KV.length{AO:O (κ×V)}{vs:O (κ×A0)}(r:KV AO vs):AO.length=vs.length:=Paired.length r
end
theorem Oi{k:AY}(r:Au (kV k) u):(cH P w).is k u=true:=by
 cases k with
 |inl i=>obtain⟨t,e⟩:=(show ∃t,u=Value.int i t from r);subst e;exact Tf P w i t
 |inr x=>obtain⟨t,e⟩:=(show ∃t,u=Value.str x t from r);subst e;exact Tg P w x t
theorem Oj{P:A3}{w:A4}:∀{ks:O AY} {us:O A0},AX (ks.map kV) us->ItemsAre (cH P w) ks us
 |[],_,r=>by rw[kF]at r;cases r;exact .nil
 |k::ks,_,r=>by
  rw[zk]at r;cases r with
  |cons h t=>exact .cons (Oi h) (Oj t)
abbrev KT(H:Hp):O (O AY×V)->O (O AY×A1×A0)->Prop:=AI λp q=>p.1=q.1/\H q.2.1=Z (.tup (p.1.map kV))/\Au p.2 q.2.2
theorem KT.val{H:Hp}{AO:O (O AY×V)}{xs:O (O AY×A1×A0)}(r:KT H AO xs)(k:O AY):Mu (Fg AO k) ((atKey xs k).map (·.2)):=by
 induction r with
 |nil=>exact True.intro
 |@cons p q ps a h t c=>
  obtain⟨h1,_,h2⟩:=h;by_cases e:p.1=k
  ·have e':q.1=k:=h1.symm.trans e;have b:atKey (q::a) k=Z q.2:=by simp[atKey,JY,e']
   rw[Cz e,b];exact h2
  ·have e':¬ q.1=k:=λz=>e (h1.trans z);have b:atKey (q::a) k=atKey a k:=by simp[atKey,JY,e']
   rw[CG e,b];exact c
theorem KT.repl{H:Hp}{AO:O (O AY×V)}{xs:O (O AY×A1×A0)}(r:KT H AO xs)(k:O AY){y:V}(c:Au y u):
  KT H (AO.map λa=>if a.1=k then(a.1,y)else a) (xs.map (putAt k u)):=by
 induction r with
 |nil=>exact .nil
 |@cons p q ps f h t d=>
  rw[zk,zk];refine .cons ?_ d;obtain⟨h1,h2,b⟩:=h;unfold putAt;by_cases e:p.1=k
  ·rw[zl e,zl (h1.symm.trans e)];exact⟨h1,h2,c⟩
  ·rw[zv e,zv (λz=>e (h1.trans z))];exact⟨h1,h2,b⟩
theorem KT.put{H:Hp}{AO:O (O AY×V)}{xs:O (O AY×A1×A0)}(r:KT H AO xs)(k:O AY){b:A1}{y:V}(d:H b=Z (.tup (k.map kV)))(a:Au y u):
  KT H (BM AO k y) (storedH xs k b u):=by
 have e:(AO.any λc=>decide (c.1=k))=(atKey xs k).isSome:=by
  rw[Tq,(r.val k).Fi,gO]
 unfold BM storedH;rw[e];by_cases q:(atKey xs k).isSome=true
 ·rw[zl q,zl q];exact r.repl k a
 ·rw[zv q,zv q];exact Paired.snoc r ⟨rfl,d,a⟩
theorem KT.keeps{H H':Hp}{AO:O (O AY×V)}{xs:O (O AY×A1×A0)}(r:KT H AO xs)(a:∀b ys,H b=Z (.tup ys)->H' b=Z (.tup ys)):KT H' AO xs:=
 Paired.ae9 r λ_ _ z=>⟨z.1,a _ _ z.2.1,z.2.2⟩
section
variable{H:Hp}
theorem OH{u:HO}(ok:Cq P w H h)(e:Rd H a u):fQ P w H h a u:=e.ok ok
theorem qY{AO:O (AY×V)}(ok:Cq P w H h)(e:Rd H a (.dK AO)):AO.length<=AA/\(a==sysModules)=false/\∃vs,KV AO vs/\h.DictOf (cH P w) a vs:=
 show fQ P w H h a (.dK AO) from OH ok e
theorem Oy{AO:O (AY×V)}(ok:Cq P w H h)(e:H a=Z (.dK AO)):AO.length<=AA/\(a==sysModules)=false/\∃vs,KV AO vs/\h.DictOf (cH P w) a vs:=qY ok (.inl e)
theorem Qy{ks:O AY}(ok:Cq P w H h)(e:H a=Z (.tup (ks.map kV))):(tupleKind (cH P w)).is h ks a:=by
 obtain⟨_,AQ,r,o,h1,h2,⟨n,b⟩,_⟩:=(show fQ P w H h a (.tup (ks.map kV)) from ok a _ e);exact⟨o,AQ.toArray,n,h1,h2,b,by simpa using Oj r⟩
theorem Tr{AO:O (O AY×V)}(ok:Cq P w H h)(e:Rd H a (.dT AO)):AO.length<=AA/\(a==sysModules)=false ∧
  ∃xs,KT H AO xs/\h.DictOfH (tupleKind (cH P w)) a xs:=by
 obtain⟨z,y,xs,r,o,es,ep,h1,h2,c,f,g⟩:=(show fQ P w H h a (.dT AO) from OH ok e);refine⟨z,y,xs,r,o,es,ep,h1,h2,c,f,λx hx=>?_,g⟩;have all:∀{l:O (O AY×V)} {m:O (O AY×A1×A0)},KT H l m->∀x∈m,(tupleKind (cH P w)).is h x.1 x.2.1:=by
  intro l m q
  induction q with
  |nil=>intro x hx;exact nomatch hx
  |@cons p q ps i b t d=>
   intro x hx;rcases List.mem_cons.mp hx with e|hx
   ·subst e;exact Qy ok (by rw[<-b.1];exact b.2.1)
   ·exact d x hx
 exact all r x hx
theorem alC{AO:O (O AY×V)}(ok:Cq P w H h)(e:H a=Z (.dT AO)):AO.length<=AA/\(a==sysModules)=false ∧
  ∃xs,KT H AO xs/\h.DictOfH (tupleKind (cH P w)) a xs:=Tr ok (.inl e)
end
def GB(H:Hp)(a:A1)(y:V)(r:Y V):Prop:=
 (∃AO k,Rd H a (.dK AO)/\y=kV k/\r=Fg AO k)\/∃AO k b,Rd H a (.dT AO)/\y=.ref b/\H b=Z (.tup (k.map kV))/\r=Fg AO k
def FX(H:Hp)(a:A1)(y v:V)(H':Hp):Prop:=
 (∃AO k,H a=Z (.dK AO)/\y=kV k/\AO.length<AA/\H'=B4 H a (.dK (BM AO k v))) ∨
 ∃AO k b,H a=Z (.dT AO)/\y=.ref b/\H b=Z (.tup (k.map kV))/\AO.length<AA/\H'=B4 H a (.dT (BM AO k v))
theorem FX.k{H:Hp}{a:A1}{AO:O (AY×V)}{k:AY}{v:V}(e:H a=Z (.dK AO))(b:AO.length<AA):FX H a (kV k) v (B4 H a (.dK (BM AO k v))):=.inl ⟨AO,k,e,rfl,b,rfl⟩
section
variable{X:Cx}{σ:St}{H:Hp}{y v:V}{r:A0}{o:Y V}
theorem AU.big(I:AU X AN σ H s):sysModules<s.heap.objs.size:=by
 have h:mainGlobals<s.heap.objs.size:=(I.mod.glob.keeps I.bk).lt;exact hO () h
theorem aax(q:A.units+1<cLine)(I:AU X AN σ H s)(g:GB H a y (Z v))(n:Au y u)(h:∀c s',AU X AN σ H s'->Au v c->Q c s'):
  A7 (bi X) A (getItem (.ref a) u) Q E s:=by
 rcases g with⟨AO,k,e,d,l⟩|⟨AO,k,b,e,d,eb,l⟩
 ·subst d;obtain⟨z,hd,vs,j,f⟩:=qY I.hok e;obtain⟨c,m,i⟩:=Mu.some_of (v:=v) (o:=valueAt vs k) (by rw[l];exact j.val k);exact wpAny_getItem_of (Oi n) f.mapOf m (h c _ (I.tok _) i)
 ·subst d;cases(show u=Value.ref b from n);obtain⟨z,hd,xs,j,f⟩:=Tr I.hok e;obtain⟨c,m,i⟩:=Mu.some_of (v:=v) (o:=(atKey xs k).map (·.2)) (by rw[l];exact j.val k);obtain⟨p,hp,t⟩:=da.mp m;refine wpAny_getItem_heap (tupleKind_room_in1 q) (Qy I.hok eb) f hp ?_;rw[t];exact h c _ (I.tok _) i
theorem aon(j:A.units+1<cLine)(I:AU X AN σ H s)(g:GB H a y o)(i:Au y u)(h:∀s',AU X AN σ H s'->Q (.bool o.isSome) s'):
  A7 (bi X) A (AG .In u (.ref a)) Q E s:=by
 rcases g with⟨AO,k,e,c,l⟩|⟨AO,k,b,e,c,eb,l⟩
 ·subst c;obtain⟨z,hd,vs,f,d⟩:=qY I.hok e;refine wpAny_in_of (Oi i) hd d.mapOf ?_;rw[<-(f.val k).Fi,<-l];exact h _ (I.tok _)
 ·subst c;cases(show u=Value.ref b from i);obtain⟨z,hd,xs,f,d⟩:=Tr I.hok e;refine wpAny_in_heap (tupleKind_room_in1 j) (Qy I.hok eb) hd d ?_;have q:=(f.val k).Fi;rw[gO]at q;rw[<-q,<-l];exact h _ (I.tok _)
theorem Qz{h':A6}{t':Nat}{c:HO}(I:AU X AN σ H s)(d:Fu (H a))(hs:Heap.SameBut a s.heap h')(he:∃q,h'.get? a=Z q)(new:fQ X.prog X.w (B4 H a c) h' a c):
  AU X AN σ (B4 H a c) { s with heap:=h',toks:=t' }:=
 I.write (x:=a) (e:=a) d (.inl X2) (λb q f z=>(hs.2 b f).trans z) he new
theorem Sr{H':Hp}{h':A6}{AO:O (AY×V)}{vs:O (AY×A0)}(z:AO.length<=AA)(hd:(a==sysModules)=false)(c:KV AO vs)(b:h'.DictOf (cH P w) a vs):
  fQ P w H' h' a (.dK AO):=⟨z,hd,vs,c,b⟩
theorem ph{H':Hp}{Q:Unit->A2->Prop}(D:A.units+1<cLine)(I:AU X AN σ H s)(g:FX H a y v H')(t:Au y u)(x:Au v r)(h:∀s',AU X AN σ H' s'->Q db s'):
  A7 (bi X) A (setItem (.ref a) u r) Q E s:=by
 rcases g with⟨AO,k,e,j,l,o⟩|⟨AO,k,b,e,j,eb,l,o⟩
 ·subst j o;obtain⟨z,hd,vs,d,m⟩:=Oy I.hok e;have p:vs.length<=AA:=by rw[<-d.length];exact z
  have n:(BM AO k v).length<=AA:=by have:=sO AO k v;omega
  refine wpAny_setItem_pairs (hsz:=p) (Oi t) m λh' f hs=>h _ ?_;have C:∃q,h'.get? a=Z q:=let ⟨q,_,_,i,_⟩:=f;⟨q,i⟩;exact Qz I (by rw[e];exact True.intro) hs C (Sr n hd (d.put k x) f)
 ·subst j o;cases(show u=Value.ref b from t);obtain⟨z,hd,xs,d,m⟩:=alC I.hok e;have p:xs.length<=AA:=by rw[<-Paired.length d];exact z
  have n:(BM AO k v).length<=AA:=by have:=sO AO k v;omega
  refine wpAny_setItem_heap (hsz:=p) (tupleKind_room_in1 D) (Qy I.hok eb) m λh' f hs=>h _ ?_;obtain⟨q,es,ep,i,h2,F,G,_,J⟩:=f;refine Qz I (by rw[e];exact True.intro) hs ⟨q,i⟩ ⟨n,hd,_,(d.put k eb x).keeps λc ys B=>?_,q,es,ep,i,h2,F,G,J⟩;rw[aK (nH B e (λz=>nomatch z))];exact B
end
section
variable{X:Cx}{σ:St}{H:Hp}{AO:O (AY×V)}{k:AY}
end
def FI(i:Expr):Prop:=∀a iv,subscripted i false a iv=operate [a,iv] (getItem a iv)
theorem Yy{value a:Expr}{T id:String}(l:typeLookup (.type T) "__getitem__"=pure (Z (.builtin id)))(hs:FI a)(h:A7 (A8 prog w) A (eval value env) (λo e=>A7 (A8 prog w) A (eval a env) (λi b=>b.TypeIs o T/\A7 (A8 prog w) A (getItem o i) Q E b) E e) E s):
  A7 (A8 prog w) A (eval (.Subscript value a pos) env) Q E s:=by
 refine Subscript_ (qa h (λo e m=>qa m (λi b d=>?_) λ_ _ x=>x) λ_ _ x=>x);obtain⟨g,d⟩:=d;unfold subscriptTail;refine zb ?_;rw[getitemInPython_of_ne g.not_modules];refine zb (wpAny_specialOf g l ?_);have c:A7 (A8 prog w) A (subscripted a false o i) (λr f=>A7 (A8 prog w) A (letTemporaryGo value o r >>= λ_=>pure r) Q E f) E b:=by
  rw[hs o i];exact wpAny_operating (qa d (λr f j=>zb (wpAny_letTemporaryGo (ze j))) λ_ _ x=>x)
 first
  |exact ze (zb c)
  |exact zb (ze (zb c))
  |exact zb c
theorem Tt{X:Cx}{σ:St}{H:Hp}{y:V}{o:Y V}(I:AU X AN σ H s)(g:GB H a y o):s.TypeIs (.ref a) "dict":=by
 rcases g with⟨AO,k,e,_,_⟩|⟨AO,k,b,e,_,_,_⟩
 ·obtain⟨_,_,vs,_,c⟩:=qY I.hok e;exact c.typeIs
 ·obtain⟨_,_,xs,_,c⟩:=Tr I.hok e;exact c.typeIs
def alD(td ty:TE):TE:=λσ H Q=>td σ H λx H1=>ty σ H1 λy H2=>∃a v,x=.ref a/\GB H2 a y (Z v)/\Q v H2
def tP(td ty tv:TE):TS:=λD σ H=>tv σ H λv H1=>td σ H1 λx H2=>ty σ H2 λy c=>∃a b,x=.ref a/\FX c a y v b/\D.nx σ b
section
variable{X:Cx}{o i value:Expr}{pos':Pos}{td ty tv:TE}
theorem W'(d:X.A.units+1<cLine)(e:PE X o td)(hi:PE X i ty)(hs:FI i):PE X (.Subscript o i pos) (alD td ty):=by
 intro AN s σ H Q I h;refine Yy PySem.F.slot_dict_getitem.lookup hs (jH (e AN s σ H _ I h) λu s1 ⟨x,H1,I1,rx,q1⟩=>jH (hi AN s1 σ H1 _ I1 q1) λiv s2 ⟨y,H2,I2,ry,a,v,ex,g,q2⟩=>?_);subst ex;obtain rfl:u=Value.ref a:=rx;exact⟨Tt I2 g,aax d I2 g ry λf j c b=>⟨v,H2,c,b,q2⟩⟩
theorem afz(b:X.A.units+1<cLine)(c:PE X o td)(hi:PE X i ty)(hv:PE X value tv)(hs:swapsWith value (Z (.Subscript o i pos')) pos.line X.env=pure false):
  PS X (.Assign [.Subscript o i pos'] value pos) (tP td ty tv):=by
 intro AN s σ H D I h;refine wpAny_Assign_Subscript (jH (hv AN s σ H _ I h) λr s1 ⟨v,H1,I1,rv,q1⟩=>jH (c AN s1 σ H1 _ I1 q1) λu s2 ⟨x,H2,I2,rx,q2⟩=>jH (hi AN s2 σ H2 _ I2 q2) λiv s3 ⟨y,H3,I3,ry,a,H4,ex,g,q3⟩=>?_) hs;subst ex;obtain rfl:u=Value.ref a:=rx;exact ph b I3 g ry rv λe d=>⟨σ,H4,d,q3⟩
end
theorem Tv{H:Hp}(h:A6)(a:sysModules<h.objs.size):fQ P w H (h.push { cls:=.type "dict",data:=.dict #[] }) h.objs.size (.dK []):=
 ⟨Zs _,beq_eq_false_iff_ne.mpr (Ki (zS a)),[],.nil,Heap.DictOf.new h⟩
def XB:TE:=λ_ H Q=>∀p,H p=X9->Q (.ref p) (B4 H p (.dK []))
section
variable{X:Cx}
theorem WP:PE X (.Dict [] [] pos) XB:=λAN s σ H Q I h=>
 wpAny_Dict_empty ⟨.ref s.heap.objs.size,_,I.laid (a:=s.heap.objs.size) (o:=.dK []) (t':=s.toks) (λ_ _ q=>zd _ q) (zo _) (Tv s.heap I.big),rfl,h _ (I.hok.fresh (zo _))⟩
end
structure M1 (X:Cx) (o:Expr) (m:Str) (apos:Pos) (e:Expr) (cpos:Pos):Prop where
 base:attributeBase o m X.env (eval o X.env)=eval o X.env
 few:((backTo cpos (starEach [e] X.env)).all (λx=>!x.1)&&(backToKw cpos (keywordEach [] X.env)).all (λx=>x.1.isSome)
  && decide (([e]:List Expr).length+([]:List Keyword).length+(if([]:List Keyword).isEmpty then 0 else 1)<30))=true
 line:(apos.endLine==cpos.line)=true
 trees:backTo cpos (starEach [e] X.env)=[(false,eval e X.env)]
structure M2 (X:Cx) (o:Expr) (m:Str) (apos:Pos) (e f:Expr) (cpos:Pos):Prop where
 base:attributeBase o m X.env (eval o X.env)=eval o X.env
 few:((backTo cpos (starEach [e,f] X.env)).all (λx=>!x.1)&&(backToKw cpos (keywordEach [] X.env)).all (λx=>x.1.isSome)
  && decide (([e,f]:List Expr).length+([]:List Keyword).length+(if([]:List Keyword).isEmpty then 0 else 1)<30))=true
 line:(apos.endLine==cpos.line)=true
 trees:backTo cpos (starEach [e,f] X.env)=[(false,eval e X.env),(false,eval f X.env)]
def mN(H:Hp)(a:A1):Prop:=(∃AO,Rd H a (.dK AO))\/∃AO,Rd H a (.dT AO)
theorem UI{X:Cx}{σ:St}{H:Hp}(I:AU X AN σ H s)(d:mN H a):
  s.TypeIs (.ref a) "dict" ∧ (∀b,Value.ref a=.ref b->∃c,s.heap.get? b=Z c/\c.dict=X9)/\(a==sysModules)=false:=by
 rcases d with⟨AO,e⟩|⟨AO,e⟩
 ·obtain⟨_,hd,vs,_,f⟩:=qY I.hok e;refine⟨f.typeIs,λb q=>?_,hd⟩;cases q;obtain⟨c,_,_,h1,h2,_⟩:=f;exact⟨c,h1,h2.2.1⟩
 ·obtain⟨_,hd,xs,_,f⟩:=Tr I.hok e;refine⟨f.typeIs,λb q=>?_,hd⟩;cases q;obtain⟨c,_,_,h1,h2,_⟩:=f;exact⟨c,h1,h2.2.1⟩
section
variable{X:Cx}{σ:St}{H:Hp}{y d:V}{r:A0}{o:Y V}
end
section
variable{X:Cx}{o f:Expr}{td ty tx:TE}
end
section
variable{X:Cx}{σ:St}{H:Hp}{AO:O (AY×V)}
end
section
variable{X:Cx}{σ:St}{H:Hp}{y:V}
end
end L2
namespace Att
open PySem PySem.W PySem.Calls PyProof.Rows
theorem HY{P:Params}:∀(c:O Int) (vs:O A0),WellAll P h vs (c.map WData.int)->IntsAre vs c:=by
 intro c
 induction c with
 |nil=>
  intro vs w;rw[kF]at w;cases w;exact .nil
 |cons n c d=>
  intro vs w;rw[zk]at w;cases w with
  |cons a b=>
   cases a;exact .cons _ _ (d _ b)
theorem p9{l:OpenLaw}(w:l.most=Z n){P:Params}{args:O WData}{i:O A0}(g:l.row.toRowW.claim.pre args=true)(v:WellAll P h i args):
  ∃a vs b,i=[Value.ref a]/\args=[WData.list (b.map WData.int)]/\h.get? a=Z { cls:=.type "list",data:=.seq vs.toArray }/\IntsAre vs b/\b.length<=n:=by
 have o:WShape.hasAll [] args [.list .int]=true:=(pre_splitW g).1;have f:l.pre.holds [] { args:=args }=true:=(pre_splitW g).2;obtain⟨d,r,rfl,h1,h2⟩:=hasAllW_cons o;obtain rfl:=hasAllW_nil h2;obtain⟨xs,rfl,u⟩:=hasW_list h1;obtain⟨b,rfl⟩:=items_int u;have x:b.length<=n:=by
  unfold OpenLaw.pre at f;have e:(WTm.not (.lt (.lit (.int (n:Int))) (.len (.arg 0)))).holds [] { args:=[.list (b.map .int)] }=true:=by
   have e:=(holds_andW f).1;rw[w]at e;exact e
  have c:=condW_of e (w_not (w_lt w_lit (w_len_list (w_arg X2))));rw[zg]at c;refine xA λq=>?_;have m:(n:Int)<((b.length:Nat):Int):=by omega
  first
   |(rw[z5 m]at c;exact absurd c ())
   |(simp at c;omega)
 cases v with
 |cons j s=>
  cases s;cases j with
  |list t p=>exact⟨_,_,b,rfl,rfl,t,HY b _ p,x⟩
theorem VE(l:OpenLaw)(args:O WData):l.row.toRowW.claim.post args (.bool true) args=true:=
 postW_of (r:=l.row.toRowW) (X:=(true==true))
  (show WShape.has [] (.bool true) .bool=true by first|rfl|decide|simp[WShape.has,WShape.arms,WShape.armsAll])
  (show(WTm.eq .res (.lit (.bool true))).value [] { args:=args,res:=Z (.bool true),after:=args }=Z (.bool (true==true)) from w_eq_bool (w_res X2) w_lit) rfl
theorem Tw{l:OpenLaw}{q:A3}{loose:AZ}{d:DefRec}(H:l.most=Z n)(E:d.params.defaults=[])(call:∀(w:A4) (h b:A2) (mg i:AJ->Option A0) (fa:A1) (o:AE) (pm e g:A0) (a:A1) (vs:O A0) (c:O Int),
   Ground q loose [] XP w h mg i b.heap->YP w b.heap →
   b.heap.get? fa=Z o->o.data=.func (docDef d.name d.params d.body d.scope pm e g)->b.heap.CodeRec e d.name->mg d.name=Z (.ref fa) →
   b.heap.get? a=Z { cls:=.type "list",data:=.seq vs.toArray }->IntsAre vs c->c.length<=n->b.gens=#[] →
   AF (A8 l.prog w) callerA (.call (.ref fa) ⟨[.ref a],[]⟩) (λr s'=>r=.ok (.ret (.bool true))/\OldK b.heap s'.heap/\s'.os=b.os/\AllBare s'.gens) b):
  WalkO q loose XP YP l.row.toRowW d [] (λf vs=>PySem.call f vs):=by
 intro w h b mg i G Y fa o pm e g v kV u hd C j B A M K as x J L F I;obtain rfl:v=.none:=Dflts.none j E;obtain rfl:kV=.none:=Dflts.noKw j;obtain⟨a,vs,c,rfl,rfl,y,t,s⟩:=p9 H x F;refine enter_call (codeAny_mono (call w h b mg i fa o pm e g a vs c G Y u (fd_plain hd) C B y t s A) λr s' p=>?_);obtain⟨rfl,h2,D,z⟩:=p;exact⟨.inl ⟨.bool true,.bool true,[],rfl,λ_=>X2,.bool true,VE l _,λ_=>⟨List.Pairwise.nil,λ_ m=>(nomatch m)⟩⟩,h2,D,z⟩
section
variable{K:Frag}
end
end Att
namespace L2
theorem zH:∀{vs:O A0} {a:O Int},IntsAre vs a->AX (a.map V.int) vs
 |_,_,.nil=>.nil
 |_,_,.cons n t h=>.cons ⟨t,rfl⟩ (zH h)
def Co(H:Hp):Prop:=∀b,H b=X9\/(∃o xs,H b=Z (.jl o (.lst xs)))\/∃ps,H b=Z (.Ql ps)
structure FK (K:B6) (h:Heap) (TL:List (Addr×Array Value)):Prop where
 all:∀P q,MX K P q->∃ps,TL.lookup P=some ps/\tq ps=q/\0<ps.size
 ok:∀P ps,TL.lookup P=some ps->K.lookup P=none/\h.get? P=some { cls:=.none,data:=.fields #[] }/\isCodeTable h P/\tr ps=#[]
theorem uv{E:AJ->Y A0}{CX:CS}{k:Nat}{fa:A1}{sp:Sp}{c:A2}{vs:O A0}{A:O Int}{f:O (A1×Array A0)}(M:K.In c.heap)(U:c.heap.Ns mainGlobals mg)(i:c.heap.Ns builtinsNs E)(a3:∀x:AJ,x ≠ "__name__" → E x=AH x)(a6:c.heap.NoLimit)(a5:∃j p,mg "__builtins__"=Z (.ref j)/\j≠builtinsNs/\c.heap.get? j=Z p/\p.cls=.type "module" ∧ p.dict=Z builtinsNs/\p.data=.plain)(hg:c.gens=#[])(t:c.heap.get? a=Z { cls:=.type "list",data:=.seq vs.toArray })(hi:IntsAre vs A)(I:A.length<=AA)(hr:iQ k callerA)(F:∀base:A6,K.In base->base.Ns mainGlobals mg->qt P w K mg base CX k fa fd [x] sp)(b0:∀(s:A2) (u:A0),BindsTo s fd ⟨[u],[]⟩ [(x,u)])(c0:∀H:Hp,Co H->su K H a (A.map V.int)->sp [.ref a] H (λv _=>v=.bl true) λ_ _ _=>False)(a7:∀H e s',CX [] H c (λ_ _ _=>False) e s'->False)(T:FK K c.heap f):
  AF (A8 P w) callerA (.call (.ref fa) ⟨[.ref a],[]⟩) (λr s'=>r=.ok (.ret (.bool true))/\OldK c.heap s'.heap/\s'.os=c.os/\AllBare s'.gens) c:=by
 have X:=zH hi;have c4:=hi.length;have nt:f.lookup a=X9:=by
  cases e:f.lookup a with
  |none=>rfl
  |some ps=>
   have q:=(T.ok a ps e).2.1;rw[t]at q;cases q
 have tok:∀(H:Hp) (b:A1) (ps:Array A0),f.lookup b=Z ps->fQ P w H c.heap b (.Ql ps):=λH b ps e=>by
  obtain⟨_,g,_,z⟩:=T.ok b ps e;refine⟨#[],by rw[z];exact g,?_,λpos cv q=>?_⟩
  ·rw[z];simp[TriplesOk]
  ·rw[z]at q;cases q
 have N:∀H:Hp,Co H->su K H a (A.map V.int)->Cq P w H c.heap->(∀b,H b≠X9->b=a\/∃ps,f.lookup b=Z ps)->(∀b ps,f.lookup b=Z ps->H b=Z (.Ql ps))->(H a≠X9->K.lookup a=X9) →
   AF (A8 P w) callerA (.call (.ref fa) ⟨[.ref a],[]⟩) (λr s'=>r=.ok (.ret (.bool true))/\OldK c.heap s'.heap/\s'.os=c.os/\AllBare s'.gens) c:=by
  intro H W hS D B d0 hK;have G:∀{b:A1} {o:AE},c.heap.get? b=Z o->H b=X9->(Qm c.heap H).get? b=Z o:=λe n=>mI e n;have a4:∀{b:A1} {o:AE} {es:Array DictEntry} {ep:Nat},c.heap.get? b=Z o->o.data=.dict es ep->H b=X9:=λ{b o es ep} e d=>by
   cases q:H b with
   |none=>rfl
   |some u=>
    rcases B b (by rw[q];simp)with e'|⟨ps,e'⟩
    ·subst e';rw[t]at e;cases e;have d':Data.seq vs.toArray _=Data.dict es ep:=d;cases d'
    ·rw[(T.ok b ps e').2.1]at e;cases e;cases d
  have C:∀{b:A1} {m:AJ->Y A0},c.heap.Ns b m->(Qm c.heap H).Ns b m:=λ{b m} ⟨o,es,ep,e,d,r⟩=>⟨o,es,ep,G e (a4 e d),d,r⟩;have J:K.In (Qm c.heap H):=λb o e=>G (M b o e) (by
   cases q:H b with
   |none=>rfl
   |some u=>
    rcases B b (by rw[q];simp)with e'|⟨ps,e'⟩
    ·subst e';rw[hK (by rw[q];simp)]at e;cases e
    ·rw[(T.ok b ps e').1]at e;cases e)
  have hM:Mod K mg (Qm c.heap H):=⟨J,C U,⟨E,C i,a3⟩,let ⟨mc,h1,h2⟩:=a6;⟨mc,C h1,h2⟩,let ⟨j,p,b1,b2,b3,b4,b5,b6⟩:=a5;⟨j,p,b1,b2,G b3 (by
   cases q:H j with
   |none=>rfl
   |some u=>
    rcases B j (by rw[q];simp)with e'|⟨ps,e'⟩
    ·subst e';rw[t]at b3;cases b3;injection b4 with z;exact absurd z ()
    ·rw[(T.ok j ps e').2.1]at b3;cases b3;cases b4),b4,b5,b6⟩⟩
  have e0:IG P w K mg (Qm c.heap H) callerA [] c H:=⟨rfl,hM,λb o e=>cE e,xi (WZ _ _),trivial,λb i=>absurd (show b∈([]:O A1) from i) (by simp),D,.of_eq hg,λP q k=>by
   obtain⟨ps,l,r⟩:=T.all P q k;exact⟨ps,d0 P ps l,r⟩⟩
  refine codeAny_mono ((F _ J (C U)).run callerA [] c H ⟨[.ref a],[]⟩ [.ref a] [.ref a] _ _ hr e0 (b0 c (.ref a)) (.cons X2 .nil) (c0 H W hS)) λr s' h=>?_;cases r with
  |error e=>exact(a7 H e s' h).elim
  |ok fl=>
   cases fl with
   |next=>exact False.elim h
   |brk=>exact False.elim h
   |cont=>exact False.elim h
   |ret u=>
    obtain⟨v,H',os,d2,un,L,r',q⟩:=h;have q':v=.bl true:=q;subst q';obtain rfl:u=Value.bool true:=r';have S:∀b o,c.heap.get? b=Z o->s'.heap.get? b=Z o\/(isCodeTable c.heap b/\o.cls=.none/\∃vs Q,o.data=.fields vs/\s'.heap.get? b=Z { o with data:=.fields (vs++Q) }):=λb o e=>by
     cases q:H b with
     |none=>exact .inl (un.keep b o e q (by intro z;exact absurd (show b∈([]:O A1) from z) (by simp)) (by simp))
     |some u=>
      rcases W b with z|⟨p,xs,z⟩|⟨ps,z⟩
      ·rw[q]at z;cases z
      ·have z2:=un.Cu b p _ z;obtain⟨e1,_⟩:=D b _ z;obtain⟨e2,_⟩:=L b _ z2;rw[e]at e1;cases e1;exact .inl e2
      ·rcases B b (by rw[q];simp)with e'|⟨d1,e'⟩
       ·subst e';obtain⟨Q,g,_⟩:=D b _ z;rw[t]at g;cases g
       ·obtain⟨_,g,ct,_⟩:=T.ok b d1 e';rw[e]at g;cases g;obtain⟨m1,z2⟩:=un.Al b ps z;obtain⟨m2,g2,_⟩:=L b _ z2;exact .inr ⟨ct,rfl,#[],_,rfl,by rw[g2,Array.empty_append]⟩
    refine⟨rfl,⟨λb o e=>(S b o e).imp id .inl,λb o e=>?_⟩,os,d2⟩;rcases S b o e with z|⟨_,_,_,_,_,z⟩<;>exact⟨_,z⟩
 cases hk:K.lookup a with
 |some o=>
  have e:=M a o hk;rw[t]at e;cases e;refine N (λb=>(f.lookup b).map .Ql) (λb=>?_) (.inr ⟨_,vs.toArray,_,hk,rfl,rfl,rfl,by rw[zr,c4];exact I,by simpa using X⟩) (λb u z=>?_) (λb z=>?_) (λb ps e=>by show(f.lookup b).map _=_;rw[e];rfl) λz=>absurd (by show(f.lookup a).map _=X9;rw[nt];rfl) z
  ·cases e:f.lookup b with
   |none=>exact .inl (by show(f.lookup b).map HO.Ql=X9;rw[e];rfl)
   |some ps=>exact .inr (.inr ⟨ps,by show(f.lookup b).map HO.Ql=_;rw[e];rfl⟩)
  ·have z:(f.lookup b).map HO.Ql=Z u:=z;cases e:f.lookup b with
   |none=>rw[e]at z;cases z
   |some ps=>rw[e]at z;cases z;exact tok _ b ps e
  ·cases e:f.lookup b with
   |none=>exact absurd (by show(f.lookup b).map HO.Ql=X9;rw[e];rfl) z
   |some ps=>exact .inr ⟨ps,rfl⟩
 |none=>
  refine N (λb=>if b=a then Z (.jl { cls:=.type "list",data:=.seq vs.toArray } (.lst (A.map V.int)))else(f.lookup b).map .Ql) (λb=>?_) (.inl (.inr ⟨{ cls:=.type "list",data:=.seq vs.toArray },zl rfl⟩)) (λb u z=>?_) (λb z=>?_) (λb ps e=>?_) λ_=>hk
  ·by_cases i:b=a
   ·exact .inr (.inl ⟨_,_,zl i⟩)
   ·cases e:f.lookup b with
    |none=>exact .inl ((zv i).trans (by rw[e];rfl))
    |some ps=>exact .inr (.inr ⟨ps,(zv i).trans (by rw[e];rfl)⟩)
  ·by_cases i:b=a
   ·have y:=(zl i).symm.trans z;cases y;subst i;exact⟨t,by rw[zg];exact I,vs,_,X,t⟩
   ·have y:=(zv i).symm.trans z;cases e:f.lookup b with
    |none=>rw[e]at y;cases y
    |some ps=>rw[e]at y;cases y;exact tok _ b ps e
  ·by_cases i:b=a
   ·exact .inl i
   ·cases e:f.lookup b with
    |none=>exact absurd ((zv i).trans (by rw[e];rfl)) z
    |some ps=>exact .inr ⟨ps,rfl⟩
  ·have i:b≠a:=λz=>by rw[z,nt]at e;cases e
   exact(zv i).trans (by rw[e];rfl)
end L2
namespace L2
theorem sK{l:PySem.W.OpenLaw}{k:Nat}{q:A3}{loose:AZ}{d:DefRec}{K:Params->B6}{CX:A4->CS}{sp:A4->Sp}(hn:l.most=Z n)(B:n<=AA)(S:d.params.defaults=[])(y:iQ k callerA)(X:∀(w:A4) (h:A6),YP w h->(K w.params).In h)(F:∀(w:A4) (mg:AJ->Option A0) (fa:A1) (h:A6),(K w.params).In h->h.Ns mainGlobals mg->mg d.name=Z (.ref fa) →
   ∃fd:FuncData,(∀(s:A2) (u:A0),BindsTo s fd ⟨[u],[]⟩ [(x,u)]) ∧
    ∀base:A6,(K w.params).In base->base.Ns mainGlobals mg->qt l.prog w (K w.params) mg base (CX w) k fa fd [x] (sp w))(I:∀(w:A4) (H:Hp) (a:A1) (c:O Int),c.length<=n->Co H->su (K w.params) H a (c.map V.int)->sp w [.ref a] H (λv _=>v=.bl true) λ_ _ _=>False)(C:∀(w:A4) (H:Hp) (s:A2) (e:A0) (s':A2),CX w [] H s (λ_ _ _=>False) e s'->False)(D:∀(w:A4) (h:A6) (mg m:AJ->Option A0) (P:ExcName->Option A0) (A:AZ),(K w.params).In h->Top q A P mg m h->∃p,FK (K w.params) h p):
  PySem.W.WalkO q loose XP YP l.row.toRowW d [] (λf vs=>PySem.call f vs):=by
 refine Att.Tw hn S λw a4 N mg m fa o pm cd a3 a vs c G Y ho hd a5 Q L z j M=>?_;have i:=X w _ Y;obtain⟨fd,E,t⟩:=F w mg fa _ i G.T.g Q;obtain⟨p,tl⟩:=D w _ _ _ _ _ i G.T;exact uv i G.T.g G.T.b G.T.builtins G.T.nolimit G.T.bmain M L z (zt j B) y t E (λH J U=>I w H a c j J U) (λH e s'=>C w H N e s') tl
theorem gT{l:PySem.W.OpenLaw}{k:Nat}{q:A3}{loose:AZ}{d:DefRec}{K:Params->B6}{CX:CS}{sp:B6->Sp}(B:l.most=Z n)(i:n<=AA)(y:d.params.defaults=[])(o:iQ k callerA)(A:∀(w:A4) (h:A6),YP w h->(K w.params).In h)(F:∀(w:A4) (mg:AJ->Y A0) (fa:A1) (h:A6),(K w.params).In h->h.Ns mainGlobals mg->mg d.name=Z (.ref fa) →
   ∃fd:FuncData,(∀(s:A2) (u:A0),BindsTo s fd ⟨[u],[]⟩ [(x,u)]) ∧
    ∀base:A6,(K w.params).In base->base.Ns mainGlobals mg->qt l.prog w (K w.params) mg base CX k fa fd [x] (sp (K w.params)))(g:∀(K:B6) (H:Hp) (a:A1) (b:O Int),b.length<=n->Co H->su K H a (b.map V.int)->sp K [.ref a] H (λv _=>v=.bl true) λ_ _ _=>False)(j:∀(H:Hp) (s:A2) (e:A0) (s':A2),CX [] H s (λ_ _ _=>False) e s'->False)(t:∀(w:A4) (h:A6) (mg m:AJ->Y A0) (c:ExcName->Y A0) (C:AZ),(K w.params).In h->Top q C c mg m h->∃p,FK (K w.params) h p):
  PySem.W.WalkO q loose XP YP l.row.toRowW d [] (λf vs=>PySem.call f vs):=
 sK (K:=K) (CX:=λ_=>CX) (sp:=λw=>sp (K w.params)) B i y o A F (λw H a b h1 h2 z=>g (K w.params) H a b h1 h2 z) (λ_ H s e s'=>j H s e s') t
end L2
namespace L2
def vQ(s:AB):Arguments:=match s with
 |.FunctionDef _ a _ _ _ _ _ _ _ _=>a
 |_=>{ posonlyargs:=[],args:=[],vararg:=X9,kwonlyargs:=[],kw_defaults:=[],kwarg:=X9,defaults:=[] }
def ji(s:AB):O AB:=match s with
 |.FunctionDef _ _ b _ _ _ _ _ _ _=>b
 |_=>[]
def aJ(s:AB):Scope:=match s with
 |.FunctionDef _ _ _ _ _ _ a _ _ _=>a
 |_=>{ kind:=.function,names:=[],isGenerator:=false,isCoroutine:=false }
abbrev Fj:CS:=λ_ _ _ _ _ _=>False
abbrev E0:XK:=λ_ _ _=>False
theorem L4{X:Cx}:C9 Fj X E0:=λ_ _ _ _ _ _ _ h=>h.elim
structure Cc (K:B6) (x qual:Str) (st:Stmt) (f:Addr) (fd:FuncData):Prop where
 ex:∃(oc:Value) (od:Option Addr) (kV doc pm:Value) (an:Option Addr) (cdv ct:Value) (osl:Array (Option Value)),
  fd=fnOf x qual (vQ st) (ji st) (aJ st) .none kV doc pm an cdv ct/\K.lookup f=some ⟨oc,od,.func fd,osl⟩/\codeIn K cdv qual=true
 kp:keepIn K (.ref f)=true
theorem Cc.ok{f:A1}{k:Nat}{sp:Sp}(F:Cc K x qual st f fd)(S:aW N ps (aJ st))(len:∀vs H Q E,sp vs H Q E->vs.length=ps.length)(b:∀(a:A0) (A:A5) (outer:O Env) (s:A2) (H:Hp) (vs:O V) (Q:VK) (E:XK),iQ k (A.deeper (AK qual (aJ st) s.heap.objs.size f a))->sp vs H Q E →
   ∃t,Wj (HX Fj P w K mg base N qual (aJ st) f a A outer s H E).nox (ji st) t/\t { nx:=λ_ H'=>Q .non H',rt:=Q } (start N vs) H):qt P w K mg base Fj (k+1) f fd ps sp:=by
 obtain⟨m,i,kV,j,pm,l,a,ct,osl,rfl,g,e⟩:=F.ex;refine Pv g e S len λA outer s H vs Q E d c=>?_;obtain⟨t,h,q⟩:=b a A outer s H vs Q E d c;exact⟨t,h.nox,q⟩
theorem Cc.binds{f:A1}(F:Cc K x qual st f fd)(h:∀(kV b pm:A0) (c:Y A1) (a ct:A0) (us:O A0),us.length=ps.length->bindArgs (fnOf x qual (vQ st) (ji st) (aJ st) .none kV b pm c a ct) ⟨us,[]⟩=pure (ps.zip us)):BG K fd ps []:=by
 obtain⟨i,d,kV,b,pm,c,a,ct,osl,rfl,g,e⟩:=F.ex;exact .all (h kV b pm c a ct)
theorem Ps{f:A1}{g:A0}{e d:Y A1}{kV b pm a ct:A0}(l:K.lookup f=Z ⟨g,e,.func (fnOf x qual (vQ st) (ji st) (aJ st) .none kV b pm d a ct),osl⟩)(c:codeIn K a qual=true)(k:keepIn K (.ref f)=true):Cc K x qual st f (fnOf x qual (vQ st) (ji st) (aJ st) .none kV b pm d a ct):=⟨⟨g,e,kV,b,pm,d,a,ct,osl,rfl,l,c⟩,k⟩
section
variable{X:Cx}
theorem pv(i:Nat)(hN:X.N[i]?=Z x:=by rfl)(hv:Wi X.env.scope x:=by first|exact kC rfl|exact QN (kC X2)|exact QN (QN X2))(hd:ad x:=by decide)(a:(x==("__classdict__":AJ))=false:=by decide):PE X (.Name x pos) (Pd i):=yD hN hv hd a
end
def AV(H H':Hp):Prop:=∀b o,H b=Z o->H' b=Z o
theorem AV.refl(H:Hp):AV H H:=λ_ _ h=>h
theorem AV.trans{H H1 H2:Hp}(a:AV H H1)(b:AV H1 H2):AV H H2:=λc o h=>b c o (a c o h)
theorem AV.free{H H':Hp}(e:AV H H')(h:H' l=Option.none):H l=Option.none:=by
 cases q:H l with
 |none=>rfl
 |some o=>
  rw[e l o q]at h;cases h
theorem AV.seq{H H':Hp}{xs:O V}(e:AV H H')(h:su K H a xs):su K H' a xs:=by
 rcases h with (h|⟨o,h⟩)|h
 ·exact .inl (.inl (e _ _ h))
 ·exact .inl (.inr ⟨o,e _ _ h⟩)
 ·exact .inr h
end L2
variable{H:L2.Hp}{X:L2.Cx}{σ:L2.St}{v:L2.V}{ta te:L2.TE}{J:L2.It}{vs:O L2.V}{sp:L2.Sp}{ks:O (L2.AY×L2.V)}{H0 Hs:L2.Hp}{cI:O (O L2.AY)}
namespace P1
open L2
inductive Dt where
 |non|bl (b:Bool)|int (i:Int)|str (x:Str)|tup (xs:List Dt)|lst (xs:List Dt)|emp
inductive Bx where
 |z (d:Dt)|l (ds:List Dt)|o (ds:List Dt)|n (AO:List (AY×Dt))|m (AO:List (AY×Dt)) (w:Option Addr)
abbrev Ev:=O (Y Bx)
def FO(K:B6)(H:Hp)(a:A1)(xs:O V):Prop:=
 (∃o,H a=Z (.jl o (.lst xs))) ∨
  ∃(o:AE) (AQ:Array A0) (n:Nat),K.lookup a=Z o/\o.cls=.type "list" ∧ o.dict=X9/\o.data=.seq AQ n/\AQ.size<=AA/\AX xs AQ.toList
theorem FO.sq{xs:O V}(h:FO K H a xs):su K H a xs:=by
 rcases h with h|h
 ·exact .inl (.inr h)
 ·exact .inr h
mutual
def AW(K:B6)(H:Hp):Dt->V->Prop
 |.non,v=>v=.non
 |.bl b,v=>v=.bl b
 |.int i,v=>v=.int i
 |.str x,v=>v=.str x/\x.length<=AA
 |.tup ds,v=>∃a vs,v=.ref a/\yw K H a vs/\aO K H ds vs
 |.lst ds,v=>∃a vs,v=.ref a/\FO K H a vs/\aO K H ds vs
 |.emp,v=>∃a o,v=.ref a/\H a=Z (.jl o (.dK []))
def aO(K:B6)(H:Hp):O Dt->O V->Prop
 |[],vs=>vs=[]
 |d::ds,vs=>∃v r,vs=v::r/\AW K H d v/\aO K H ds r
end
structure Kp (H H':Hp):Prop where
 t:∀a xs,H a=some (.tup xs)->H' a=some (.tup xs)
 f:∀a o u,H a=some (.jl o u)->H' a=some (.jl o u)
theorem Kp.of{H':Hp}(s:AV H H'):Kp H H':=⟨λa _ h=>s a _ h,λa _ _ h=>s a _ h⟩
theorem Kp.sqT{H':Hp}{xs:O V}(k:Kp H H')(h:yw K H a xs):yw K H' a xs:=by
 rcases h with (h|⟨o,h⟩)|h
 ·exact .inl (.inl (k.t _ _ h))
 ·exact .inl (.inr ⟨o,k.f _ _ _ h⟩)
 ·exact .inr h
theorem Kp.fzL{H':Hp}{xs:O V}(k:Kp H H')(h:FO K H a xs):FO K H' a xs:=by
 rcases h with⟨o,h⟩|h
 ·exact .inl ⟨o,k.f _ _ _ h⟩
 ·exact .inr h
theorem Kp.lst{xs:O V}{o:HO}(h:H a=Z (.lst xs)):Kp H (B4 H a o):=by
 refine⟨λb ys e=>?_,λb c u e=>?_⟩
 ·rw[aK (nH e h (by intro z;cases z))];exact e
 ·rw[aK (nH e h (by intro z;cases z))];exact e
theorem Kp.dk{xs:O (AY×V)}{o:HO}(h:H a=Z (.dK xs)):Kp H (B4 H a o):=by
 refine⟨λb ys e=>?_,λb c u e=>?_⟩
 ·rw[aK (nH e h (by intro z;cases z))];exact e
 ·rw[aK (nH e h (by intro z;cases z))];exact e
mutual
theorem AW.kp{K:B6}{H H':Hp}(k:Kp H H'):∀{d:Dt} {v:V},AW K H d v->AW K H' d v
 |.non,_,h=>by simpa only[AW]using h
 |.bl _,_,h=>by simpa only[AW]using h
 |.int _,_,h=>by simpa only[AW]using h
 |.str _,_,h=>by simpa only[AW]using h
 |.tup ds,_,h=>by
  simp only[AW]at h ⊢;obtain⟨a,vs,e,q,r⟩:=h;exact⟨a,vs,e,k.sqT q,aO.kp k r⟩
 |.lst ds,_,h=>by
  simp only[AW]at h ⊢;obtain⟨a,vs,e,q,r⟩:=h;exact⟨a,vs,e,k.fzL q,aO.kp k r⟩
 |.emp,_,h=>by
  simp only[AW]at h ⊢;obtain⟨a,o,e,q⟩:=h;exact⟨a,o,e,k.f _ _ _ q⟩
theorem aO.kp{K:B6}{H H':Hp}(k:Kp H H'):∀{ds:O Dt} {vs:O V},aO K H ds vs->aO K H' ds vs
 |[],_,h=>by simpa only[aO]using h
 |d::ds,_,h=>by
  simp only[aO]at h ⊢;obtain⟨v,r,e,q,t⟩:=h;exact⟨v,r,e,AW.kp k q,aO.kp k t⟩
end
theorem aO.length{K:B6}{H:Hp}:∀{ds:O Dt} {vs:O V},aO K H ds vs->vs.length=ds.length
 |[],_,h=>by simp only[aO]at h;subst h;rfl
 |d::ds,_,h=>by
  simp only[aO]at h;obtain⟨v,r,rfl,_,t⟩:=h;simp[aO.length t]
theorem aO.nil:aO K H [] []:=by simp only[aO]
theorem aO.cons{K:B6}{H:Hp}{d:Dt}{v:V}{ds:O Dt}{vs:O V}(h:AW K H d v)(t:aO K H ds vs):aO K H (d::ds) (v::vs):=by
 simp only[aO];exact⟨v,vs,rfl,h,t⟩
theorem aO.append{K:B6}{H:Hp}:∀{ds es:O Dt} {vs us:O V},aO K H ds vs->aO K H es us->aO K H (ds++es) (vs++us)
 |[],_,_,_,h,t=>by simp only[aO]at h;subst h;exact t
 |d::ds,_,_,_,h,t=>by
  simp only[aO]at h;obtain⟨v,r,rfl,q,h⟩:=h;exact aO.cons q (aO.append h t)
theorem aO.drop{K:B6}{H:Hp}:∀(n:Nat) {ds:O Dt} {vs:O V},aO K H ds vs->aO K H (ds.drop n) (vs.drop n)
 |0,_,_,h=>h
 |n+1,[],_,h=>by simp only[aO]at h;subst h;exact aO.nil
 |n+1,d::ds,_,h=>by
  simp only[aO]at h;obtain⟨v,r,rfl,q,h⟩:=h;exact aO.drop n h
theorem aO.take{K:B6}{H:Hp}:∀(n:Nat) {ds:O Dt} {vs:O V},aO K H ds vs->aO K H (ds.take n) (vs.take n)
 |0,_,_,_=>aO.nil
 |n+1,[],_,h=>by simp only[aO]at h;subst h;exact aO.nil
 |n+1,d::ds,_,h=>by
  simp only[aO]at h;obtain⟨v,r,rfl,q,h⟩:=h;exact aO.cons q (aO.take n h)
theorem aO.get{K:B6}{H:Hp}:∀{ds:O Dt} {vs:O V} {i:Nat} {d:Dt},aO K H ds vs->ds[i]?=Z d->∃v,vs[i]?=Z v/\AW K H d v
 |[],_,_,_,_,e=>by simp at e
 |d::ds,_,0,_,h,e=>by
  simp only[aO]at h;obtain⟨v,r,rfl,q,h⟩:=h;simp at e;subst e;exact⟨v,rfl,q⟩
 |d::ds,_,i+1,_,h,e=>by
  simp only[aO]at h;obtain⟨v,r,rfl,q,h⟩:=h;obtain⟨u,e1,e2⟩:=aO.get h (i:=i) (by simpa using e);exact⟨u,by simpa using e1,e2⟩
theorem aO.alH{ds:O Dt}(h:aO K H ds vs)(e:vs[i]?=Z v):∃d,ds[i]?=Z d/\AW K H d v:=by
 have b:=h.length;have hi:i<vs.length:=(bc.mp e).1;have a:i<ds.length:=by omega
 obtain⟨u,e1,e2⟩:=h.get (i:=i) (d:=ds[i]) (by simp[a]);rw[e]at e1;cases e1;exact⟨ds[i],by simp[a],e2⟩
def DM:AY->Prop
 |.inl _=>True
 |.inr x=>x.length<=AA
def fV(K:B6)(H:Hp)(AO:O (AY×Dt))(ks:O (AY×V)):Prop:=ks.map (·.1)=AO.map (·.1)/\aO K H (AO.map (·.2)) (ks.map (·.2))/\∀p∈AO,DM p.1
theorem fV.kp{K:B6}{H H':Hp}{AO:O (AY×Dt)}{ks:O (AY×V)}(h:fV K H AO ks)(k:Kp H H'):fV K H' AO ks:=⟨h.1,h.2.1.kp k,h.2.2⟩
def bJ(K:B6)(H:Hp):Bx->V->Prop
 |.z d,v=>AW K H d v
 |.l ds,v=>∃a vs,v=.ref a/\Rd H a (.lst vs)/\aO K H ds vs
 |.o ds,v=>∃a vs,v=.ref a/\H a=Z (.lst vs)/\aO K H ds vs
 |.n AO,v=>∃a ks,v=.ref a/\Rd H a (.dK ks)/\fV K H AO ks
 |.m AO w,v=>∃a ks,v=.ref a/\H a=Z (.dK ks)/\fV K H AO ks/\∀b,w=Z b->b=a
theorem bJ.same{H':Hp}(s:AV H H'){b:Bx}(h:bJ K H b v):bJ K H' b v:=by
 cases b with
 |z d=>exact AW.kp (.of s) h
 |l ds=>
  obtain⟨a,vs,e,q,r⟩:=h;refine⟨a,vs,e,?_,r.kp (.of s)⟩;rcases q with q|⟨o,q⟩
  ·exact .inl (s _ _ q)
  ·exact .inr ⟨o,s _ _ q⟩
 |o ds=>
  obtain⟨a,vs,e,q,r⟩:=h;exact⟨a,vs,e,s _ _ q,r.kp (.of s)⟩
 |n AO=>
  obtain⟨a,vs,e,q,r⟩:=h;refine⟨a,vs,e,?_,r.kp (.of s)⟩;rcases q with q|⟨o,q⟩
  ·exact .inl (s _ _ q)
  ·exact .inr ⟨o,s _ _ q⟩
 |m AO _=>
  obtain⟨a,vs,e,q,r⟩:=h;exact⟨a,vs,e,s _ _ q,r.1.kp (.of s),r.2⟩
def sE:Bx->Y (O Dt)
 |.z (.lst ds)=>Z ds
 |.l ds=>Z ds
 |.o ds=>Z ds
 |_=>X9
theorem bJ.Ib{b:Bx}{ds:O Dt}(h:bJ K H b v)(e:sE b=Z ds):∃a vs,v=.ref a/\su K H a vs/\aO K H ds vs:=by
 cases b with
 |z d=>
  cases d<;>first|(cases e;done)|skip;cases e;simp only[bJ,AW]at h;obtain⟨a,vs,e,q,r⟩:=h;exact⟨a,vs,e,q.sq,r⟩
 |l c=>
  cases e;obtain⟨a,vs,e,q,r⟩:=h;exact⟨a,vs,e,.inl q,r⟩
 |o c=>
  cases e;obtain⟨a,vs,e,q,r⟩:=h;exact⟨a,vs,e,.inl (.inl q),r⟩
 |n _=>cases e
 |m _ _=>cases e
abbrev uT(K:B6)(H:Hp):O Bx->O V->Prop:=AI (bJ K H)
def Nw(H:Hp):Bx->V->Prop
 |.o _,v=>∀a,v=.ref a->H a=X9
 |.m _ _,v=>∀a,v=.ref a->H a=X9
 |_,_=>True
theorem Nw.old{H1:Hp}(s:AV H H1){b:Bx}(h:Nw H1 b v):Nw H b v:=by
 cases b with
 |o ds=>exact λa e=>s.free (h a e)
 |m ds _=>exact λa e=>s.free (h a e)
 |_=>trivial
def loose:Bx->Bool
 |.z _=>false
 |_=>true
def vR:Bx->Bool
 |.o _=>true
 |.m _ _=>true
 |_=>false
structure bV (K:B6) (H0 H:Hp) (σ:L2.St) (ρ:Ev):Prop where
 len:σ.length=ρ.length
 val:∀(i:Nat) b,ρ[i]?=some (some b)->∃v,σ[i]?=some (some v)/\bJ K H b v
 own:∀(i j:Nat) c a b,ρ[i]?=some (some c)->vR c=true->σ[i]?=some (some (.ref a))->ρ[j]?=some (some b)->loose b=true->σ[j]?=some (some (.ref a))->i=j
 base:AV H0 H
 new:∀(i:Nat) c a,ρ[i]?=some (some c)->vR c=true->σ[i]?=some (some (.ref a))->H0 a=none
theorem bV.grow{H':Hp}{ρ:Ev}(r:bV K H0 H σ ρ)(s:AV H H'):bV K H0 H' σ ρ:=
 ⟨r.len,λi b e=>let ⟨v,e1,h⟩:=r.val i b e;⟨v,e1,h.same s⟩,r.own,r.base.trans s,r.new⟩
def tF(K:B6)(f:Ev->Y Bx):TE:=λσ H Q=>∃H0 ρ b,bV K H0 H σ ρ/\f ρ=Z b/\∀v H',AV H H'->Nw H b v->bJ K H' b v->Q v H'
def Sb(K:B6)(f:Ev->Y (O Bx)):TA:=λσ H Q=>∃H0 ρ bs,bV K H0 H σ ρ/\f ρ=Z bs/\∀vs H',AV H H'->uT K H' bs vs->Q vs H'
def D8(K:B6)(f:Ev->Y Bool):TT:=λσ H Q=>∃H0 ρ b,bV K H0 H σ ρ/\f ρ=Z b/\∀H',AV H H'->Q b H'
def PV(X:Cx)(e:Expr)(f:Ev->Y Bx):Prop:=PE X e (tF X.K f)
structure QV (X:Cx) (e:Expr) (f:Ev->Option Bx):Prop where
 run:PV X e f
def F2(X:Cx)(es:O Expr)(f:Ev->Y (O Bx)):Prop:=PA X es (Sb X.K f)
structure Yz (X:Cx) (es:List Expr) (f:Ev->Option (List Bx)):Prop where
 run:F2 X es f
def PB(X:Cx)(e:Expr)(f:Ev->Y Bool):Prop:=PT X e (D8 X.K f)
structure QB (X:Cx) (e:Expr) (f:Ev->Option Bool):Prop where
 run:PB X e f
theorem S8{t t':TE}(h:PE X e t)(m:∀ σ H Q,t' σ H Q->t σ H Q):PE X e t':=λAN s σ H Q I q=>h AN s σ H Q I (m σ H Q q)
theorem OB{e:O Expr}{t t':TA}(h:PA X e t)(m:∀ σ H Q,t' σ H Q->t σ H Q):PA X e t':=λpos AN s σ H Q I q=>h pos AN s σ H Q I (m σ H Q q)
theorem MR{t t':TT}(h:PT X e t)(m:∀ σ H Q,t' σ H Q->t σ H Q):PT X e t':=λAN s σ H Q I q=>h AN s σ H Q I (m σ H Q q)
theorem No{t t':TT}(h:PW X e t)(m:∀ σ H Q,t' σ H Q->t σ H Q):PW X e t':=λa AN s σ H Q I q=>h a AN s σ H Q I (m σ H Q q)
theorem CY{e:AB}{t t':TS}(h:PS X e t)(m:∀D σ H,t' D σ H->t D σ H):PS X e t':=λAN s σ H D I q=>h AN s σ H D I (m D σ H q)
theorem Hk{e:O AB}{t t':TS}(h:Wj X e t)(m:∀D σ H,t' D σ H->t D σ H):Wj X e t':=λAN s σ H D I q=>h AN s σ H D I (m D σ H q)
def rF(K:B6)(g:Bx->Bx->Y Bx):R2:=λx y H Q=>∃a b c,bJ K H a x/\bJ K H b y/\g a b=Z c/\∀w H',AV H H'->Nw H c w->bJ K H' c w->Q w H'
def NV(K:B6)(g:Bx->Y Bx):V->Hp->VK->Prop:=λx H Q=>∃a c,bJ K H a x/\g a=Z c/\∀w H',AV H H'->Nw H c w->bJ K H' c w->Q w H'
def PQ(K:B6)(g:O Bx->Y Bx):O V->Hp->VK->Prop:=λxs H Q=>∃bs c,uT K H bs xs/\g bs=Z c/\∀w H',AV H H'->Nw H c w->bJ K H' c w->Q w H'
abbrev S9(X:Cx)(f:A0->A0->Sem A0)(g:Bx->Bx->Y Bx):Prop:=EY X f (rF X.K g)
abbrev NM(X:Cx)(f:A0->Sem A0)(g:Bx->Y Bx):Prop:=DL X f (NV X.K g)
abbrev nJ(X:Cx)(f:A0)(g:O Bx->Y Bx):Prop:=jh X f (PQ X.K g)
theorem EY.imp{X:Cx}{f:A0->A0->Sem A0}{r a:R2}(h:EY X f r)(m:∀x y H Q,a x y H Q->r x y H Q):EY X f a:=λAN s σ H x y v u Q I c b q=>h AN s σ H x y v u Q I c b (m x y H Q q)
theorem DL.imp{X:Cx}{f:A0->Sem A0}{r a:V->Hp->VK->Prop}(h:DL X f r)(m:∀x H Q,a x H Q->r x H Q):DL X f a:=λAN s σ H x v Q I b q=>h AN s σ H x v Q I b (m x H Q q)
theorem jh.imp{X:Cx}{f:A0}{r a:O V->Hp->VK->Prop}(h:jh X f r)(m:∀x H Q,a x H Q->r x H Q):jh X f a:=λAN s σ H xs us Q I b q=>h AN s σ H xs us Q I b (m xs H Q q)
def b2(g:Bx->Bx->Y Bx)(fa fb:Ev->Y Bx):Ev->Y Bx:=λρ=>(fa ρ).bind λx=>(fb ρ).bind λy=>g x y
def b1(g:Bx->Y Bx)(fa:Ev->Y Bx):Ev->Y Bx:=λρ=>(fa ρ).bind g
def cN(g:O Bx->Y Bx)(fs:Ev->Y (O Bx)):Ev->Y Bx:=λρ=>(fs ρ).bind g
theorem AT{o:Y α}{f:α->Y β}{b:β}(h:o.bind f=Z b):∃a,o=Z a/\f a=Z b:=by
 cases o with
 |none=>cases h
 |some a=>exact⟨a,rfl,h⟩
theorem MI{g:Bx->Bx->Y Bx}{fa fb:Ev->Y Bx}(σ:L2.St)(H:Hp)(Q:VK)(h:tF K (b2 g fa fb) σ H Q):FY (rF K g) (tF K fa) (tF K fb) σ H Q:=by
 obtain⟨H0,ρ,c,E,e,q⟩:=h;obtain⟨a,ea,e⟩:=AT e;obtain⟨b,eb,e⟩:=AT e;refine⟨H0,ρ,a,E,ea,λv H1 d p o=>⟨H0,ρ,b,E.grow d,eb,λu H2 f s i=>?_⟩⟩;exact⟨a,b,c,o.same f,i,e,λw n j m l=>q w n ((d.trans f).trans j) (m.old (d.trans f)) l⟩
theorem ut{g:Bx->Y Bx}{fa:Ev->Y Bx}(σ:L2.St)(H:Hp)(Q:VK)(h:tF K (b1 g fa) σ H Q):RA (NV K g) (tF K fa) σ H Q:=by
 obtain⟨H0,ρ,c,E,e,q⟩:=h;obtain⟨a,ea,e⟩:=AT e;exact⟨H0,ρ,a,E,ea,λv H1 b m l=>⟨a,c,l,e,λw j d i f=>q w j (b.trans d) (i.old b) f⟩⟩
theorem DU{g:O Bx->Y Bx}{fs:Ev->Y (O Bx)}(σ:L2.St)(H:Hp)(Q:VK)(h:tF K (cN g fs) σ H Q):IM (PQ K g) (Sb K fs) σ H Q:=by
 obtain⟨H0,ρ,c,E,e,q⟩:=h;obtain⟨a,ea,e⟩:=AT e;exact⟨H0,ρ,a,E,ea,λv H1 b l=>⟨a,c,l,e,λw j d i f=>q w j (b.trans d) (i.old b) f⟩⟩
section
variable{a b:Expr}{fa fb fc f:Ev->Y Bx}{fs:Ev->Y (O Bx)}
theorem aY{op:Operator}{g:Bx->Bx->Y Bx}(e:S9 X (binaryOp op) g)(c:QV X a fa)(d:QV X b fb):QV X (.BinOp a op b pos) (b2 g fa fb):=⟨have c:=c.run;have d:=d.run;S8 (VY e c d) MI⟩
theorem Tz{op:UnaryOp}{g:Bx->Y Bx}(c:NM X (unaryOp op) g)(b:QV X a fa):QV X (.UnaryOp op a pos) (b1 g fa):=⟨have b:=b.run;S8 (hZ c b) ut⟩
theorem jf{g:Bx->Bx->Y Bx}(e:S9 X (AG op) g)(c:QV X a fa)(d:QV X b fb)(f:behindInMarks op b=false):QV X (.Compare a [op] [b] pos) (b2 g fa fb):=⟨have c:=c.run;have d:=d.run;S8 (lc e c d f) MI⟩
def Ws:Bx->Y Bool
 |.z (.bl b)=>Z b
 |_=>X9
theorem TF{b:Bx}{k:Bool}(h:bJ K H b v)(e:Ws b=Z k):v=.bl k:=by
 cases b with
 |z d=>
  cases d<;>first|(cases e;done)|skip;cases e;simpa only[bJ,AW]using h
 |_=>cases e
theorem UZ(σ:L2.St)(H:Hp)(Q:Bool->Hp->Prop)(h:D8 K (λρ=>(f ρ).bind Ws) σ H Q):tF K f σ H (λx H'=>∃k,x=.bl k/\Q k H'):=by
 obtain⟨H0,ρ,k,E,e,q⟩:=h;obtain⟨b,eb,e⟩:=AT e;exact⟨H0,ρ,b,E,eb,λv H1 c d a=>⟨k,TF a e,q H1 c⟩⟩
theorem bO{g:Bx->Bx->Y Bx}(e:S9 X (AG op) g)(c:QV X a fa)(d:QV X b fb)(f:behindInMarks op b=false):QB X (.Compare a [op] [b] pos) (λρ=>(b2 g fa fb ρ).bind Ws):=⟨have c:=c.run;have d:=d.run;MR (fq e c d f) λσ H Q h=>MI σ H _ (UZ σ H Q h)⟩
def Fl(ρ:Ev)(i:Nat):Y Bx:=match ρ[i]? with
 |some (Z (.o ds))=>Z (.l ds)
 |some (Z (.m AO _))=>Z (.n AO)
 |some (Z b)=>Z b
 |_=>X9
theorem TJ{ρ:Ev}{b:Bx}(E:bV K H0 H σ ρ)(e:Fl ρ i=Z b):∃v,σ[i]?=Z (Z v)/\bJ K H b v:=by
 unfold Fl at e;split at e
 ·rename_i ds h;cases e;obtain⟨v,e1,a,vs,e2,q,r⟩:=E.val i _ h;exact⟨v,e1,a,vs,e2,.inl q,r⟩
 ·rename_i ds h;cases e;obtain⟨v,e1,a,vs,e2,q,r⟩:=E.val i _ h;exact⟨v,e1,a,vs,e2,.inl q,r.1⟩
 ·rename_i c h;cases e;exact E.val i _ h
 ·cases e
theorem CJ{ρ:Ev}{b:Bx}(e:Fl ρ i=Z b):vR b=false:=by
 unfold Fl at e;split at e
 ·cases e;rfl
 ·cases e;rfl
 ·rename_i c h1 h2 a;cases e;cases b with
  |o ds=>exact absurd X2 (h1 ds)
  |m ds _=>exact absurd X2 (h2 ds _)
  |_=>rfl
 ·cases e
theorem ao(i:Nat)(hN:X.N[i]?=Z x:=by rfl)(hv:Wi X.env.scope x:=by first|exact kC rfl|exact QN (kC X2)|exact QN (QN X2))(hd:ad x:=by decide)(a:(x==("__classdict__":AJ))=false:=by decide):QV X (.Name x pos) (λρ=>Fl ρ i):=⟨S8 (yD hN hv hd a) λσ H Q h=>by
 obtain⟨H0,ρ,b,E,e,q⟩:=h;obtain⟨v,e1,r⟩:=TJ E e;refine⟨v,e1,q v H (AV.refl H) ?_ r⟩;cases b with
 |o ds=>have:=CJ e;cases this
 |m ds _=>have:=CJ e;cases this
 |_=>trivial⟩
def cB(d:Dt):Ev->Y Bx:=λ_=>Z (.z d)
theorem GV{d:Dt}(h:PE X e (tC v))(r:∀H,AW X.K H d v):PV X e (cB d):=S8 h λσ H Q q=>by
 obtain⟨H0,ρ,b,E,e,q⟩:=q;cases e;exact q v H (AV.refl H) trivial (r H)
theorem aD{i j}:QV X (.Constant (.int i) j pos) (cB (.int i)):=⟨GV lI λH=>by simp only[AW]⟩
theorem G3{i j}:QV X (.Constant (.bool i) j pos) (cB (.bl i)):=⟨GV wm λH=>by simp only[AW]⟩
theorem uy{j}:QV X (.Constant .none j pos) (cB .non):=⟨GV c6 λH=>by simp only[AW]⟩
theorem NC{j}(hx:x.length<=AA:=by decide):PV X (.Constant (.str x) j pos) (cB (.str x)):=GV ia λH=>by unfold AW;exact⟨rfl,hx⟩
def GI:Bx->Y Bool
 |.z .non=>Z false
 |.z (.bl b)=>Z b
 |.z (.int i)=>Z (i != 0)
 |.z (.str x)=>Z ((x.length:Int) != 0)
 |.z (.tup ds)=>Z (!ds.isEmpty)
 |.z (.lst ds)=>Z (!ds.isEmpty)
 |.l ds=>Z (!ds.isEmpty)
 |.o ds=>Z (!ds.isEmpty)
 |.z .emp=>X9
 |.n _=>X9
 |.m _ _=>X9
theorem aO.isEmpty{ds:O Dt}(h:aO K H ds vs):(!ds.isEmpty)=!vs.isEmpty:=by
 have:=h.length;cases ds<;>cases vs<;>simp_all
theorem po{b:Bx}{k:Bool}(r:bJ K H b v)(e:GI b=Z k):MG K v H k:=by
 cases b with
 |z d=>
  cases d with
  |non=>cases e;simp only[bJ,AW]at r;subst r;rfl
  |bl b=>cases e;simp only[bJ,AW]at r;subst r;rfl
  |int b=>cases e;simp only[bJ,AW]at r;subst r;rfl
  |str x=>cases e;simp only[bJ,AW]at r;obtain⟨rfl,h⟩:=r;exact⟨h,rfl⟩
  |tup ds=>
   cases e;simp only[bJ,AW]at r;obtain⟨a,vs,rfl,q,r⟩:=r;exact .inr (.inl ⟨vs,q,r.isEmpty⟩)
  |lst ds=>
   cases e;obtain⟨a,vs,rfl,q,r⟩:=r.Ib rfl;exact .inl ⟨vs,q,r.isEmpty⟩
  |emp=>cases e
 |l ds=>
  cases e;obtain⟨a,vs,rfl,q,r⟩:=r.Ib rfl;exact .inl ⟨vs,q,r.isEmpty⟩
 |o ds=>
  cases e;obtain⟨a,vs,rfl,q,r⟩:=r.Ib rfl;exact .inl ⟨vs,q,r.isEmpty⟩
 |n _=>cases e
 |m _ _=>cases e
theorem JD(h:QV X e f)(he:∀a,isTrue e X.env a=(do let v <-a;standAt e.pos;holding [v] (truthy v)):=by intro _;rfl):QB X e (λρ=>(f ρ).bind GI):=⟨have h:=h.run;MR (sf h he) λσ H Q q=>by
 obtain⟨H0,ρ,k,E,e,q⟩:=q;obtain⟨b,eb,e⟩:=AT e;exact⟨H0,ρ,b,E,eb,λv H1 c g d=>⟨k,po d e,q H1 c⟩⟩⟩
def Wu(p q:Ev->Y Bool):Ev->Y Bool:=λρ=>(p ρ).bind λc=>if c=true then q ρ else Z false
def D5(p q:Ev->Y Bool):Ev->Y Bool:=λρ=>(p ρ).bind λc=>if c=true then Z true else q ρ
def F0(p:Ev->Y Bool):Ev->Y Bool:=λρ=>(p ρ).bind λc=>Z (!c)
def TD(X:Cx)(e:Expr)(f:Ev->Y Bool):Prop:=PW X e (D8 X.K f)
structure ED (X:Cx) (e:Expr) (f:Ev->Option Bool):Prop where
 run:TD X e f
variable{p q:Ev->Y Bool}{AS:O Expr}
theorem JF(b:QB X a p):ED X (.BoolOp .And [a] pos) p:=⟨have b:=b.run;pe b⟩
theorem zJ(b:QB X a p):ED X (.BoolOp .Or [a] pos) p:=⟨have b:=b.run;ae b⟩
theorem nr(σ:L2.St)(H:Hp)(Q:Bool->Hp->Prop)(h:D8 K (Wu p q) σ H Q):OK (D8 K p) (D8 K q) σ H Q:=by
 obtain⟨H0,ρ,k,E,e,w⟩:=h;obtain⟨c,d,e⟩:=AT e;refine⟨H0,ρ,c,E,d,λH1 a=>?_⟩;cases c with
 |true=>rw[zl rfl]at e ⊢;exact⟨H0,ρ,k,E.grow a,e,λH2 b=>w H2 (a.trans b)⟩
 |false=>rw[zv ZT]at e ⊢;cases e;exact w H1 a
theorem sN(σ:L2.St)(H:Hp)(Q:Bool->Hp->Prop)(h:D8 K (D5 p q) σ H Q):SA (D8 K p) (D8 K q) σ H Q:=by
 obtain⟨H0,ρ,k,E,e,w⟩:=h;obtain⟨c,d,e⟩:=AT e;refine⟨H0,ρ,c,E,d,λH1 a=>?_⟩;cases c with
 |true=>rw[zl rfl]at e ⊢;cases e;exact w H1 a
 |false=>rw[zv ZT]at e ⊢;exact⟨H0,ρ,k,E.grow a,e,λH2 b=>w H2 (a.trans b)⟩
theorem QD(c:QB X a p)(d:ED X (.BoolOp .And (b::AS) pos) q):ED X (.BoolOp .And (a::b::AS) pos) (Wu p q):=⟨have c:=c.run;have d:=d.run;No (oq c d) nr⟩
theorem Fo(c:QB X a p)(d:ED X (.BoolOp .Or (b::AS) pos) q):ED X (.BoolOp .Or (a::b::AS) pos) (D5 p q):=⟨have c:=c.run;have d:=d.run;No (u8 c d) sN⟩
theorem QF(h:ED X e p):QB X e p:=⟨have h:=h.run;h.pt⟩
theorem Wv(b:QB X a p):QB X (.UnaryOp .Not a pos) (F0 p):=⟨have b:=b.run;MR (XX b) λσ H Q h=>by
 obtain⟨H0,ρ,k,E,e,w⟩:=h;obtain⟨c,f,e⟩:=AT e;cases e;exact⟨H0,ρ,c,E,f,λH1 d=>w H1 d⟩⟩
def QG(fa fb:Ev->Y Bx):Ev->Y Bx:=λρ=>((fa ρ).bind Ws).bind λc=>if c=true then fb ρ else Z (.z (.bl false))
theorem QH{op}(h:QV X a fa):QV X (.BoolOp op [a] pos) fa:=⟨have h:=h.run;sD h⟩
theorem Fp(g:QV X a fa)(i:QV X (.BoolOp .And (b::AS) pos) fb):QV X (.BoolOp .And (a::b::AS) pos) (QG fa fb):=⟨have g:=g.run;have i:=i.run;S8 (ck g i) λσ H Q h=>by
 obtain⟨H0,ρ,k,E,e,w⟩:=h;obtain⟨c,f,e⟩:=AT e;obtain⟨x,ex,f⟩:=AT f;refine⟨H0,ρ,x,E,ex,λv H1 d o l=>⟨c,TF l f,?_⟩⟩;cases c with
 |true=>rw[zl rfl]at e ⊢;exact⟨H0,ρ,k,E.grow d,e,λv H2 n m j=>w v H2 (d.trans n) (m.old d) j⟩
 |false=>rw[zv ZT]at e ⊢;cases e;exact w _ H1 d trivial (by simp only[bJ,AW])⟩
theorem YB:F2 X [] (λ_=>Z []):=OB yH λσ H Q h=>by
 obtain⟨H0,ρ,bs,E,e,q⟩:=h;cases e;exact q [] H (AV.refl H) .nil
def aq(f:Ev->Y Bx)(fs:Ev->Y (O Bx)):Ev->Y (O Bx):=λρ=>(f ρ).bind λb=>(fs ρ).bind λbs=>Z (b::bs)
theorem TQ(h1:PV X e f)(h2:F2 X es fs)(hs:A9 (e::es) X.env=(false,eval e X.env)::A9 es X.env:=by rfl):F2 X (e::es) (aq f fs):=OB (qp h1 h2 hs) λσ H Q h=>by
 obtain⟨H0,ρ,bs,E,e,q⟩:=h;obtain⟨b,eb,e⟩:=AT e;obtain⟨d,i,e⟩:=AT e;cases e;refine⟨H0,ρ,b,E,eb,λv H1 a l j=>⟨H0,ρ,d,E.grow a,i,λvs H2 c g=>?_⟩⟩;exact q (v::vs) H2 (a.trans c) (.cons (j.same c) g)
def Bt:Bx->Y Bx
 |.z d=>Z (.z d)
 |.o ds=>Z (.z (.lst ds))
 |.l _=>X9
 |.n _=>X9
 |.m _ _=>X9
theorem JG{a:A1}(I:L2.AU X AN σ H s)(h:H a=Z (.lst vs)):∃o,L2.AU X AN σ (B4 H a (.jl o (.lst vs))) s:=by
 obtain⟨z,AQ,n,r,e⟩:=I.hok a _ h;refine⟨{ cls:=.type "list",data:=.seq AQ.toArray n },⟨I.ok,I.os,I.bare,⟨I.base.keep,I.base.slot,λb d q1 q2 q3=>?_,I.base.there,λb xs q=>?_,λb d u q=>?_,λb ps q=>?_⟩,I.loc,I.cell,?_,λx c q=>?_,λp hp=>?_,?_,I.len⟩⟩
 ·have:=I.base.free b d q1 q2 q3;rw[aK (cM h this).symm];exact this
 ·have:=I.base.tups b xs q;rw[aK (nH this h (by intro z;cases z))];exact this
 ·have:=I.base.Cu b d u q;rw[aK (nH this h (by intro z;cases z))];exact this
 ·obtain⟨m,this⟩:=I.base.Al b ps q;rw[aK (nH this h (by intro z;cases z))];exact⟨m,this⟩
 ·rw[aK (cM h I.free).symm];exact I.free
 ·rw[aK (cM h (I.qX x c q)).symm];exact I.qX x c q
 ·obtain⟨q1,q2,q3⟩:=I.pin p hp;refine⟨q1,?_,q3⟩;rw[aK (cM h q2).symm];exact q2
 ·intro b u q;by_cases f:b=a
  ·subst f;rw[aU]at q;cases q;exact⟨e,z,AQ,n,r,e⟩
  ·rw[aK f]at q;refine(I.hok b u q).stay (λc v _ w=>w) (λc w=>?_) (λc xs w=>?_) λc o' g w=>?_
   ·rw[aK (nH w h (by intro z;cases z))];exact w
   ·rw[aK (nH w h (by intro z;cases z))];exact w
   ·rw[aK (nH w h (by intro z;cases z))];exact w
theorem ig(h:QV X e f):QV X e (b1 Bt f):=⟨by
 have h:=h.run;intro AN s σ H Q I q;obtain⟨H0,ρ,b,E,e,q⟩:=q;obtain⟨x,ex,e⟩:=AT e;cases x with
 |z d=>
  cases e;exact h AN s σ H Q I ⟨H0,ρ,_,E,ex,λv H' s' i g=>q v H' s' trivial g⟩
 |l ds=>cases e
 |n ds=>cases e
 |m ds _=>cases e
 |o ds=>
  cases e;refine jH (h AN s σ H (λv H'=>AV H H'/\Nw H (.o ds) v/\bJ X.K H' (.o ds) v) I ⟨H0,ρ,_,E,ex,λv H' s' i g=>⟨s',i,g⟩⟩) λu D A=>?_;obtain⟨v,H1,w,B,s',i,g⟩:=A;obtain⟨a,vs,rfl,j,C⟩:=g;obtain⟨o,y⟩:=JG w j;refine⟨.ref a,_,y,B,q _ _ (λc t p=>?_) trivial ?_⟩
  ·rw[aK (cM p (i a X2))];exact s' c t p
  ·simp only[bJ,AW];exact⟨a,vs,rfl,.inl ⟨o,aU⟩,C.kp (.lst j)⟩⟩
def QJ:O Bx->Y (O Dt)
 |[]=>Z []
 |.z d::r=>(QJ r).bind λds=>Z (d::ds)
 |_=>X9
theorem JH{K:B6}{H:Hp}:∀{bs:O Bx} {vs:O V} {ds:O Dt},uT K H bs vs->QJ bs=Z ds->aO K H ds vs
 |_,_,_,.nil,e=>by cases e;exact aO.nil
 |b::bs,_,_,.cons h t,e=>by
  cases b with
  |z d=>
   simp only[QJ]at e;obtain⟨a,e1,e2⟩:=AT e;cases e2;exact aO.cons h (JH t e1)
  |_=>cases e
theorem JK:∀{bs:O Bx} {ds:O Dt},QJ bs=Z ds->ds.length=bs.length
 |[],_,e=>by cases e;rfl
 |.z d::r,_,e=>by
  simp only[QJ]at e;obtain⟨a,e1,e2⟩:=AT e;cases e2;simp[JK e1]
 |.l _::_,_,e=>by cases e
 |.o _::_,_,e=>by cases e
 |.n _::_,_,e=>by cases e
 |.m _ _::_,_,e=>by cases e
def gP(bs:O Bx):Y Bx:=if bs.length<=1000 then(QJ bs).bind λds=>Z (.z (.tup ds))else X9
def mO(bs:O Bx):Y Bx:=if bs.length<=1000 then(QJ bs).bind λds=>Z (.o ds)else X9
theorem bY{p:A1}{o:HO}(h:H p=X9):AV H (B4 H p o):=λb u e=>by rw[aK (cM e h)];exact e
theorem OX(h:n<=1000):n<=AA:=zt h ()
theorem dj{x1}(h:Yz X es fs):QV X (.Tuple es x1 pos) (cN gP fs):=⟨have h:=h.run;S8 (pV h) λσ H Q q=>by
 obtain⟨H0,ρ,c,E,e,q⟩:=q;obtain⟨bs,d,e⟩:=AT e;refine⟨H0,ρ,bs,E,d,λvs H1 g f=>?_⟩;unfold gP at e;split at e
 ·rename_i b;obtain⟨ds,e1,e⟩:=AT e;cases e;have a:=JH f e1;refine⟨OX (by rw[a.length,JK e1];exact b),λp hp=>q _ _ (g.trans (bY hp)) trivial ?_⟩;simp only[bJ,AW];exact⟨p,vs,rfl,.inl (.inl aU),a.kp (.of (bY hp))⟩
 ·cases e⟩
theorem eV(h:Yz X es fs):QV X (.List es pos) (cN mO fs):=⟨have h:=h.run;S8 (mP h) λσ H Q q=>by
 obtain⟨H0,ρ,c,E,e,q⟩:=q;obtain⟨bs,g,e⟩:=AT e;refine⟨H0,ρ,bs,E,g,λvs H1 d i=>?_⟩;unfold mO at e;split at e
 ·rename_i f;obtain⟨ds,e1,e⟩:=AT e;cases e;have b:=JH i e1;refine⟨OX (by rw[b.length,JK e1];exact f),λp hp=>q _ _ (d.trans (bY hp)) (λa ea=>by cases ea;exact d.free hp) ?_⟩;exact⟨p,vs,rfl,aU,b.kp (.of (bY hp))⟩
 ·cases e⟩
theorem cF{id:String}{g:O Bx->Y Bx}{p:Pos}(d:nJ X (.builtin id) g)(i:Gl X x)(f:X.mg x=X9)(hv:AH x=Z (.builtin id))(a:Yz X (e::es) fs)(h:x ≠ "__name__":=by decide)(c:ad x:=by decide)(he:A9 (e::es) X.env=(false,eval e X.env)::A9 es X.env:=by rfl)(b:(AD pos (A9 es X.env)).any (·.1)=false:=by rfl):QV X (.Call (.Name x p) (e::es) [] pos) (cN g fs):=⟨have a:=a.run;S8 (WS d i f hv a h c he b) DU⟩
theorem fH{T:String}{g:O Bx->Y Bx}{p:Pos}(d:nJ X (.type T) g)(i:Gl X x)(f:X.mg x=X9)(hv:AH x=Z (.type T))(a:Yz X (e::es) fs)(h:x ≠ "__name__":=by decide)(c:ad x:=by decide)(he:A9 (e::es) X.env=(false,eval e X.env)::A9 es X.env:=by rfl)(b:(AD pos (A9 es X.env)).any (·.1)=false:=by rfl):QV X (.Call (.Name x p) (e::es) [] pos) (cN g fs):=⟨have a:=a.run;S8 (Oe d i f hv a h c he b) DU⟩
end
inductive Ap where
 |nx (ρ:Ev)|rt (b:Bx)|bk (ρ:Ev)|ct (ρ:Ev)
def GH(K:B6)(H0:Hp)(D:C6):Ap->Prop
 |.nx ρ=>∀ σ H,bV K H0 H σ ρ->D.nx σ H
 |.rt b=>∀v H,AV H0 H->Nw H0 b v->bJ K H b v->D.rt v H
 |.bk ρ=>∀ σ H,bV K H0 H σ ρ->D.bk σ H
 |.ct ρ=>∀ σ H,bV K H0 H σ ρ->D.ct σ H
def tG(K:B6)(g:Ev->Y Ap):TS:=λD σ H=>∃H0 ρ r,bV K H0 H σ ρ/\g ρ=Z r/\GH K H0 D r
def RE(X:Cx)(st:AB)(g:Ev->Y Ap):Prop:=PS X st (tG X.K g)
structure Ww (X:Cx) (st:Stmt) (g:Ev->Option Ap):Prop where
 run:RE X st g
def CH(X:Cx)(st:O AB)(g:Ev->Y Ap):Prop:=Wj X st (tG X.K g)
structure TV (X:Cx) (st:List Stmt) (g:Ev->Option Ap):Prop where
 run:CH X st g
def aF(g1 g2:Ev->Y Ap):Ev->Y Ap:=λρ=>(g1 ρ).bind λr=>match r with
 |.nx a=>g2 a
 |r=>Z r
section
variable{a b:Expr}{fa fb fc f:Ev->Y Bx}{fs:Ev->Y (O Bx)}{AS:O AB}{g g1 g2:Ev->Y Ap}
theorem aG  :TV X [] (λρ=>Z (.nx ρ)):=⟨Hk bq λD σ H h=>by
 obtain⟨H0,ρ,r,E,e,q⟩:=h;cases e;exact q σ H E⟩
theorem aA(h1:Ww X st g1)(h2:TV X AS g2):TV X (st::AS) (aF g1 g2):=⟨have h1:=h1.run;have h2:=h2.run;Hk (Jz h1 h2) λD σ H h=>by
 obtain⟨H0,ρ,r,E,e,q⟩:=h;obtain⟨c,e1,e⟩:=AT e;refine⟨H0,ρ,c,E,e1,?_⟩;cases c with
 |nx a=>exact λσ' H' d=>⟨H0,a,r,d,e,q⟩
 |rt b=>cases e;exact q
 |bk a=>cases e;exact q
 |ct a=>cases e;exact q⟩
def Fk:Bx->Y Ap
 |.l _=>X9
 |.n _=>X9
 |b=>Z (.rt b)
theorem bD(h:QV X e f):Ww X (.Return (Z e) pos) (λρ=>(f ρ).bind Fk):=⟨have h:=h.run;CY (Nl h) λD σ H h=>by
 obtain⟨H0,ρ,r,E,e,q⟩:=h;obtain⟨b,eb,e⟩:=AT e;refine⟨H0,ρ,b,E,eb,λv H1 c g a=>?_⟩;cases b with
 |l ds=>cases e
 |z d=>cases e;exact q v H1 (E.base.trans c) trivial a
 |o ds=>cases e;exact q v H1 (E.base.trans c) (g.old E.base) a
 |n ds=>cases e
 |m ds _=>cases e;exact q v H1 (E.base.trans c) (g.old E.base) a⟩
def JL(i:Nat)(ρ:Ev):Y Ap:=match ρ[i]? with
 |some (Z b)=>Fk b
 |_=>X9
theorem Ja(i:Nat){p:Pos}(hN:X.N[i]?=Z x:=by rfl)(hv:Wi X.env.scope x:=by first|exact kC rfl|exact QN (kC X2)|exact QN (QN X2))(hd:ad x:=by decide)(g:(x==("__classdict__":AJ))=false:=by decide):Ww X (.Return (Z (.Name x p)) pos) (JL i):=⟨CY (Nl (yD hN hv hd g)) λD σ H h=>by
 obtain⟨H0,ρ,r,E,e,q⟩:=h;unfold JL at e;split at e
 ·rename_i b f;obtain⟨v,e1,c⟩:=E.val i b f;refine⟨v,e1,?_⟩;cases b with
  |l ds=>cases e
  |z d=>cases e;exact q v H E.base trivial c
  |o ds=>cases e;exact q v H E.base (λa ea=>E.new i _ a f X2 (by rw[e1,ea])) c
  |n ds=>cases e
  |m ds _=>cases e;exact q v H E.base (λa ea=>E.new i _ a f X2 (by rw[e1,ea])) c
 ·cases e⟩
def xX(p:Ev->Y Bool)(g1 g2:Ev->Y Ap):Ev->Y Ap:=λρ=>(p ρ).bind λk=>if k=true then g1 ρ else g2 ρ
theorem fj{p:Ev->Y Bool}{u v:O AB}(a:QB X c p)(b:TV X u g1)(d:TV X v g2):Ww X (.If c u v pos) (xX p g1 g2):=⟨have a:=a.run;have b:=b.run;have d:=d.run;CY (alf a b d) λD σ H h=>by
 obtain⟨H0,ρ,r,E,e,q⟩:=h;obtain⟨k,ek,e⟩:=AT e;refine⟨H0,ρ,k,E,ek,λH1 f=>?_⟩;cases k with
 |true=>rw[zl rfl]at e ⊢;exact⟨H0,ρ,r,E.grow f,e,q⟩
 |false=>rw[zv ZT]at e ⊢;exact⟨H0,ρ,r,E.grow f,e,q⟩⟩
theorem BD{l:O α}{x y:α}(h:(l.set i x)[j]?=Z y):(j=i/\y=x/\i<l.length)\/(j≠i/\l[j]?=Z y):=by
 rw[y8]at h;by_cases e:i=j
 ·subst e;rw[zl rfl]at h;split at h
  ·cases h;exact .inl ⟨rfl,rfl,by assumption⟩
  ·cases h
 ·rw[zv e]at h;exact .inr ⟨λz=>e z.symm,h⟩
theorem JM{l:O α}(x:α)(h:i<l.length):(l.set i x)[i]?=Z x:=by
 rw[y8,zl rfl,zl h]
theorem JN{l:O α}(x:α)(h:j≠i):(l.set i x)[j]?=l[j]?:=by
 rw[y8,zv (Ki h)]
theorem bV.set{H1:Hp}{ρ:Ev}{b:Bx}(E:bV K H0 H σ ρ)(s:AV H H1)(r:bJ K H1 b v)(u:vR b=true\/loose b=false)(n:Nw H b v):bV K H0 H1 (σ.set i (Z v)) (ρ.set i (Z b)):=by
 have C:=E.grow s;have D:∀(j:Nat) (g:Bx) (a:A1),ρ[j]?=Z (Z g)->loose g=true->σ[j]?=Z (Z (.ref a))->H a≠X9:=λj g a e1 e2 e3 z=>by
  obtain⟨I,h,x⟩:=E.val j g e1;rw[e3]at h;cases h;cases g with
  |z d=>cases e2
  |l ds=>
   obtain⟨A,vs,f,q,_⟩:=x;cases f;rcases q with q|⟨o,q⟩<;>(rw[z]at q;cases q)
  |o ds=>
   obtain⟨A,vs,f,q,_⟩:=x;cases f;rw[z]at q;cases q
  |n ds=>
   obtain⟨A,vs,f,q,_⟩:=x;cases f;rcases q with q|⟨o,q⟩<;>(rw[z]at q;cases q)
  |m ds _=>
   obtain⟨A,vs,f,q,_⟩:=x;cases f;rw[z]at q;cases q
 have y:vR b=true->∀a,v=.ref a->H a=X9:=λG=>by
  cases b with
  |o ds=>exact n
  |m ds _=>exact n
  |_=>cases G
 refine⟨by rw[KL,KL];exact E.len,λj g e=>?_,λj k c a g e1 t e2 e3 h f=>?_,C.base,λj c a e1 t e2=>?_⟩
 ·rcases BD e with⟨rfl,e',hi⟩|⟨w,e'⟩
  ·cases e';exact⟨v,JM _ (by rw[E.len];exact hi),r⟩
  ·rw[JN _ w];exact C.val j g e'
 ·rcases BD e1 with⟨rfl,e',hi⟩|⟨w,e'⟩
  ·cases e';rw[JM _ (by rw[E.len];exact hi)]at e2;cases e2;rcases BD e3 with⟨rfl,p,_⟩|⟨B,p⟩
   ·rfl
   ·rw[JN _ B]at f;exact absurd (y t a X2) (D k g a p h f)
  ·rw[JN _ w]at e2;rcases BD e3 with⟨rfl,p,hi⟩|⟨B,p⟩
   ·cases p;rw[JM _ (by rw[E.len];exact hi)]at f;cases f;have F:loose c=true:=by cases c<;>first|rfl|cases t
    rcases u with u|u
    ·exact absurd (y u a X2) (D j _ a e' F e2)
    ·rw[u]at h;cases h
   ·rw[JN _ B]at f;exact E.own j k c a g e' t e2 p h f
 ·rcases BD e1 with⟨rfl,e',hi⟩|⟨w,e'⟩
  ·cases e';rw[JM _ (by rw[E.len];exact hi)]at e2;cases e2;exact E.base.free (y t a X2)
  ·rw[JN _ w]at e2;exact E.new j c a e' t e2
def TX(ρ:Ev)(i:Nat):Bx->Y Ev
 |.l _=>X9
 |.n _=>X9
 |b=>Z (ρ.set i (Z b))
theorem QK{H1:Hp}{ρ ρ':Ev}{b:Bx}(E:bV K H0 H σ ρ)(s:AV H H1)(r:bJ K H1 b v)(n:Nw H b v)(e:TX ρ i b=Z ρ'):bV K H0 H1 (σ.set i (Z v)) ρ':=by
 cases b with
 |l ds=>cases e
 |z d=>cases e;exact E.set s r (.inr X2) n
 |o d=>cases e;exact E.set s r (.inl X2) n
 |n ds=>cases e
 |m d _=>cases e;exact E.set s r (.inl X2) n
theorem bG(i:Nat){p:Pos}(hN:X.N.Nodup)(he:QV X e f)(hi:X.N[i]?=Z x:=by rfl)(hx:Cf X.env.scope x:=by first|exact kC rfl|exact QN X2)(hs:swapsWith e (Z (.Name x p)) pos.line X.env=pure false:=by rfl)(a:X.fn x=true\/X.env.scope.names.lookup x=Z .local:=by first|exact .inl rfl|exact .inr X2):Ww X (.Assign [.Name x p] e pos) (λρ=>(f ρ).bind λb=>(TX ρ i b).bind λρ'=>Z (.nx ρ')):=⟨have he:=he.run;CY (Qq hN hi hx he hs a) λD σ H h=>by
 obtain⟨H0,ρ,r,E,e,q⟩:=h;obtain⟨b,eb,e⟩:=AT e;obtain⟨ρ',d,e⟩:=AT e;cases e;exact⟨H0,ρ,b,E,eb,λv H1 c j g=>q _ _ (QK E c g j d)⟩⟩
def Lo(σ:L2.St)(ρ:Ev)(σ':L2.St)(ρ':Ev):Prop:=∀(j:Nat) b,loose b=true->ρ'[j]?=Z (Z b)->ρ[j]?=Z (Z b)/\σ'[j]?=σ[j]?
theorem Lo.refl{σ:L2.St}{ρ:Ev}:Lo σ ρ σ ρ:=λ_ _ _ e=>⟨e,rfl⟩
theorem Lo.trans{σ f h:L2.St}{ρ g d:Ev}(a:Lo σ ρ f g)(b:Lo f g h d):Lo σ ρ h d:=λj c l e=>by
 obtain⟨e1,e2⟩:=b j c l e;obtain⟨e3,i⟩:=a j c l e1;exact⟨e3,e2.trans i⟩
theorem Lo.set{ρ:Ev}(i:Nat)(v:V)(d:Dt):Lo σ ρ (σ.set i (Z v)) (ρ.set i (Z (.z d))):=λj b l e=>by
 rcases BD e with⟨rfl,e',_⟩|⟨a,e'⟩
 ·cases e';cases l
 ·exact⟨e',JN _ a⟩
def OW(K:B6)(g:Dt->Ev->Y Ev):TG:=λv σ H Q=>∃H0 ρ d a,bV K H0 H σ ρ/\AW K H d v/\g d ρ=Z a/\∀ σ',bV K H0 H σ' a->Lo σ ρ σ' a->Q σ' H
def FF(X:Cx)(t:Expr)(g:Dt->Ev->Y Ev):Prop:=PG X t (OW X.K g)
structure CC (X:Cx) (t:Expr) (g:Dt->Ev->Option Ev):Prop where
 run:FF X t g
theorem aQ(i:Nat)(hN:X.N.Nodup)(hi:X.N[i]?=Z x:=by rfl)(hx:Cf X.env.scope x:=by first|exact kC rfl|exact QN X2)(a:X.fn x=true\/X.env.scope.names.lookup x=Z .local:=by first|exact .inl rfl|exact .inr X2):CC X (.Name x pos) (λd ρ=>Z (ρ.set i (Z (.z d)))):=⟨λAN s σ H v u Q I r h=>by
 obtain⟨H0,ρ,d,f,E,c,e,q⟩:=h;cases e;exact Ys hN hi hx a AN s σ H v u Q I r (q _ (E.set (b:=.z d) (AV.refl H) c (.inr X2) trivial) (Lo.set i v d))⟩
theorem bv(i:Nat)(hN:X.N.Nodup:=by show List.Nodup (_++_);decide +kernel)(hi:X.N[i]?=Z x:=by rfl)(hx:Cf X.env.scope x:=by first|exact kC rfl|exact QN X2)(a:X.fn x=true\/X.env.scope.names.lookup x=Z .local:=by first|exact .inl rfl|exact .inr X2):CC X (.Name x pos) (λd ρ=>Z (ρ.set i (Z (.z d)))):=aQ i hN hi hx a
def r8(K:B6)(g:O Dt->Ev->Y Ev):DT:=λvs σ H Q=>∃H0 ρ ds a,bV K H0 H σ ρ/\aO K H ds vs/\g ds ρ=Z a/\∀ σ',bV K H0 H σ' a->Lo σ ρ σ' a->Q σ' H
def fA(X:Cx)(t:O Expr)(g:O Dt->Ev->Y Ev):Prop:=L2.CH X t (r8 X.K g)
structure HH (X:Cx) (t:List Expr) (g:List Dt->Ev->Option Ev):Prop where
 run:fA X t g
def uU:O Dt->Ev->Y Ev
 |[],ρ=>Z ρ
 |_,_=>X9
def cX(g:Dt->Ev->Y Ev)(gs:O Dt->Ev->Y Ev):O Dt->Ev->Y Ev
 |d::ds,ρ=>(g d ρ).bind (gs ds)
 |_,_=>X9
theorem mR  :HH X [] uU:=⟨λAN s σ H vs us Q I r h=>by
 obtain⟨H0,ρ,ds,b,E,a,e,q⟩:=h;cases ds with
 |nil=>cases e;unfold aO at a;exact wT AN s σ H vs us Q I r ⟨a,q _ E Lo.refl⟩
 |cons d ds=>cases e⟩
theorem cj{t:Expr}{ts:O Expr}{gt:Dt->Ev->Y Ev}{gs:O Dt->Ev->Y Ev}(h1:CC X t gt)(h2:HH X ts gs)(hs:(assignEach (t::ts) X.env).map (·.2)=assign t X.env::(assignEach ts X.env).map (·.2):=by rfl):HH X (t::ts) (cX gt gs):=⟨have h1:=h1.run;have h2:=h2.run;λAN s σ H vs us Q I r h=>by
 obtain⟨H0,ρ,ds,g,E,a,e,q⟩:=h;cases ds with
 |nil=>cases e
 |cons d ds=>
  unfold aO at a;obtain⟨v,c,rfl,l,i⟩:=a;simp only[cX]at e;obtain⟨b,e1,e⟩:=AT e;exact ip h1 h2 hs AN s σ H _ us Q I r ⟨v,c,rfl,H0,ρ,d,b,E,l,e1,λp j f=>⟨H0,b,ds,g,j,i,e,λm n o=>q m n (f.trans o)⟩⟩⟩
def qZ(n:Nat)(gs:O Dt->Ev->Y Ev):Dt->Ev->Y Ev
 |.tup ds,ρ=>if ds.length=n then gs ds ρ else X9
 |_,_=>X9
theorem q8{ts:O Expr}{k:Nat}{gs:O Dt->Ev->Y Ev}(j:X.calm=true)(h:HH X ts gs)(l:(assignEach ts X.env).length=n:=by rfl)(f:(assignEach ts X.env).findIdx? (·.1)=X9:=by rfl):CC X (.Tuple ts k pos) (qZ n gs):=⟨have h:=h.run;λAN s σ H v u Q I r o=>by
 obtain⟨H0,ρ,d,g,E,b,e,q⟩:=o;cases d with
 |tup ds=>
  simp only[qZ]at e;split at e
  ·rename_i i;unfold AW at b;obtain⟨a,vs,rfl,m,c⟩:=b;exact WE j h l f AN s σ H _ u Q I r ⟨a,vs,rfl,m,by rw[c.length];exact i,H0,ρ,ds,g,E,c,e,q⟩
  ·cases e
 |_=>cases e⟩
theorem Wx{gt:Dt->Ev->Y Ev}(he:QV X e f)(a:CC X tg gt)(hs:swapsWithSole [tg] e pos.line X.env=pure false:=by rfl)(l:swappedStores [tg] e X.env=pure X9:=by rfl)(h1:(assignEach [tg] X.env).map (·.2)=[assign tg X.env]:=by rfl):Ww X (.Assign [tg] e pos) (λρ=>(f ρ).bind λb=>match b with|.z d=>(gt d ρ).bind λρ'=>Z (.nx ρ')|_=>X9):=⟨have he:=he.run;have a:=a.run;CY (fF he a hs l h1) λD σ H h=>by
 obtain⟨H0,ρ,r,E,e,q⟩:=h;obtain⟨b,eb,e⟩:=AT e;refine⟨H0,ρ,b,E,eb,λv H1 c m i=>?_⟩;cases b with
 |z d=>
  obtain⟨ρ',g,e⟩:=AT e;cases e;exact⟨H0,ρ,d,ρ',E.grow c,i,g,λσ' j _=>q _ _ j⟩
 |_=>cases e⟩
def HK(i j:Nat)(ρ:Ev):O Bx->Y Ap
 |[.z d,.z d']=>Z (.nx ((ρ.set i (Z (.z d))).set j (Z (.z d'))))
 |_=>X9
theorem We(i j:Nat){px py pt:Pos}{kt k2 pt2}(l:X.calm=true)(hN:X.N.Nodup)(c:Yz X [a,b] fs)(hi:X.N[i]?=Z x:=by rfl)(f:X.N[j]?=Z y:=by rfl)(m:i≠j:=by decide)(hx:X.env.scope.names.lookup x=Z .local:=by rfl)(o:X.env.scope.names.lookup y=Z .local:=by rfl)(v:swappedStores [.Tuple [.Name x px,.Name y py] kt pt] (.Tuple [a,b] k2 pt2) X.env=pure (Z [x,y]):=by rfl)(hs:swapsWithSole [.Tuple [.Name x px,.Name y py] kt pt] (.Tuple [a,b] k2 pt2) pos.line X.env=pure false:=by rfl):Ww X (.Assign [.Tuple [.Name x px,.Name y py] kt pt] (.Tuple [a,b] k2 pt2) pos) (λρ=>(fs ρ).bind (HK i j ρ)):=⟨have c:=c.run;CY (XL l hN hi f m hx o c v hs) λD σ H h=>by
 obtain⟨H0,ρ,r,E,e,q⟩:=h;obtain⟨bs,eb,e⟩:=AT e;refine⟨H0,ρ,bs,E,eb,λvs H1 u s=>?_⟩;unfold HK at e;split at e
 ·rename_i d n;cases e;cases s with
  |cons p t=>
   cases t with
   |cons p' g=>
    cases g;refine⟨_,_,rfl,q _ _ ?_⟩;exact((E.grow u).set (b:=.z d) (AV.refl H1) p (.inr X2) trivial).set (b:=.z n) (AV.refl H1) p' (.inr X2) trivial
 ·cases e⟩
def HZ(ρ:Ev)(i:Nat):Bx->Y Ap
 |.z d=>match ρ[i]? with
  |some (Z (.o ds))=>if ds.length<AA then Z (.nx (ρ.set i (Z (.o (ds++[d])))))else X9
  |_=>X9
 |_=>X9
theorem bV.aiD{ρ:Ev}{w c1:Bx}{a:A1}{u:HO}(E:bV K H0 H σ ρ)(h:ρ[i]?=Z (Z w))(x:vR w=true)(hs:σ[i]?=Z (Z (.ref a)))(k:Kp H (B4 H a u))(r:bJ K (B4 H a u) c1 (.ref a)):
  bV K H0 (B4 H a u) σ (ρ.set i (Z c1)):=by
 have hi:i<ρ.length:=(bc.mp h).1;have L:H0 a=X9:=E.new i w a h x hs;have lo:∀c,vR c=true->loose c=true:=λc P=>by cases c<;>first|rfl|cases P
 refine⟨by rw[KL];exact E.len,λj A e=>?_,λj G c f A e1 B e2 e3 M J=>?_,λc o e=>?_,λj c f e1 B e2=>?_⟩
 ·rcases BD e with⟨rfl,e',_⟩|⟨D,e'⟩
  ·cases e';exact⟨_,hs,r⟩
  ·obtain⟨v,e1,t⟩:=E.val j A e';refine⟨v,e1,?_⟩;have y:∀f,v=.ref f->loose A=true->f≠a:=λf ev I z=>by
    subst z;exact D (E.own i j w _ _ h x hs e' I (by rw[e1,ev])).symm
   cases A with
   |z d=>exact AW.kp k t
   |l C=>
    obtain⟨f,s,rfl,q,p⟩:=t;refine⟨f,s,rfl,?_,p.kp k⟩;have g:=y f X2 rfl;rcases q with q|⟨o,q⟩
    ·exact .inl (by rw[aK g];exact q)
    ·exact .inr ⟨o,by rw[aK g];exact q⟩
   |o C=>
    obtain⟨f,s,rfl,q,p⟩:=t;have g:=y f X2 rfl;exact⟨f,s,rfl,by rw[aK g];exact q,p.kp k⟩
   |n C=>
    obtain⟨f,s,rfl,q,p⟩:=t;refine⟨f,s,rfl,?_,p.kp k⟩;have g:=y f X2 rfl;rcases q with q|⟨o,q⟩
    ·exact .inl (by rw[aK g];exact q)
    ·exact .inr ⟨o,by rw[aK g];exact q⟩
   |m C=>
    obtain⟨f,s,rfl,q,p⟩:=t;have g:=y f X2 rfl;exact⟨f,s,rfl,by rw[aK g];exact q,p.1.kp k,p.2⟩
 ·have F:∀(m:Nat) (b:Bx),(ρ.set i (Z c1))[m]?=Z (Z b)->loose b=true->∃b0,ρ[m]?=Z (Z b0)/\loose b0=true/\(vR b=true->vR b0=true):=λm b e l=>by
   rcases BD e with⟨rfl,e',_⟩|⟨D,e'⟩
   ·exact⟨_,h,lo _ x,λ_=>x⟩
   ·exact⟨b,e',l,λz=>z⟩
  obtain⟨b0,q1,q2,q3⟩:=F j _ e1 (lo _ B);obtain⟨b1,N,Q,_⟩:=F G _ e3 M;exact E.own j G b0 f b1 q1 (q3 B) e2 N Q J
 ·rw[aK (cM e L)];exact E.base c o e
 ·rcases BD e1 with⟨rfl,e',_⟩|⟨D,e'⟩
  ·exact E.new _ w f h x e2
  ·exact E.new j c f e' B e2
theorem bV.abU{ρ:Ev}{ds es:O Dt}{a:A1}{us:O V}(E:bV K H0 H σ ρ)(h:ρ[i]?=Z (Z (.o ds)))(hs:σ[i]?=Z (Z (.ref a)))(b:H a=Z (.lst vs))(r:aO K H es us):
  bV K H0 (B4 H a (.lst us)) σ (ρ.set i (Z (.o es))):=E.aiD h X2 hs (.lst b) ⟨a,us,rfl,aU,r.kp (.lst b)⟩
theorem q9(i:Nat){p:Pos}(he:QV X e f)(hN:X.N[i]?=Z x:=by rfl)(hv:Wi X.env.scope x:=by first|exact kC rfl|exact QN (kC X2)|exact QN (QN X2))(hd:ad x:=by decide)(w:(x==("__classdict__":AJ))=false:=by decide)(l:A9 [e] X.env=[(false,eval e X.env)]:=by rfl)(s:attributeBase (.Name x p) "append" X.env (eval (.Name x p) X.env)=eval (.Name x p) X.env:=by rfl)(t:((AD cpos (A9 [e] X.env)).all (λx=>!x.1)&&(backToKw cpos (keywordEach [] X.env)).all (λx=>x.1.isSome)&&decide ([e].length+([]:O AC).length+(if([]:O AC).isEmpty then 0 else 1)<30))=true:=by rfl)(n:(apos.endLine==cpos.line)=true:=by rfl)(hs:swapsWith (.Call (.Attribute (.Name x p) "append" apos) [e] [] cpos) X9 pos.line X.env=pure false:=by rfl):Ww X (.Expr (.Call (.Attribute (.Name x p) "append" apos) [e] [] cpos) pos) (λρ=>(f ρ).bind (HZ ρ i)):=⟨have he:=he.run;CY (Yr (Yx PySem.F.plainAttrs_list PySem.F.slot_list_append PySem.F.type_list_append Oh (yD (i:=i) hN hv hd w) (qp he yH (by rw[l]<;>rfl)) s t n (by rw[l]<;>rfl) X2) hs) λD σ H h=>by
  obtain⟨H0,ρ,r,E,e,q⟩:=h;obtain⟨b,eb,e⟩:=AT e;cases b with
  |z d=>
   simp only[HZ]at e;split at e
   ·rename_i ds j;split at e
    ·rename_i o;cases e;obtain⟨v,e1,a,vs,rfl,g,m⟩:=E.val i _ j;refine⟨_,e1,.inl ⟨rfl,vs,.inl (.inl g)⟩,H0,ρ,_,E,eb,λu H1 c B A=>?_⟩;have y:=E.grow c;refine⟨a,vs,u,rfl,rfl,c _ _ g,by rw[m.length];exact o,q _ _ ?_⟩;exact y.abU j e1 (c _ _ g) ((m.kp (.of c)).append (aO.cons A aO.nil))
    ·cases e
   ·cases e
  |_=>cases e⟩
end
def IJ(x:AJ):It:=⟨λi _=>i<x.cps.size,λi H v H'=>H'=H/\∃c,x.cps[i]?=Z c/\v=.str ⟨#[c]⟩,λi _=>x.cps.size<=i⟩
def Uf(h:A6)(it:A1)(x:AJ)(i:Nat):Prop:=∃t,h.IsStrIter it "str_ascii_iterator" x t i\/h.IsStrIter it "str_iterator" x t i
theorem TY(it:A1)(x:AJ):C4 P w K tg (IJ x) [it] it (λi h=>Uf h it x i) where
 mem:=by simp
 obj:=λi h st b a=>by
  have e:b=it:=by simpa using a
  subst e;obtain⟨t,⟨o,e,c,d⟩|⟨o,e,c,d⟩⟩:=st
  ·exact⟨o,e,λv z=>by rw[d]at z;cases z⟩
  ·exact⟨o,e,λv z=>by rw[d]at z;cases z⟩
 keep:=λi h h' st k=>by
  obtain⟨t,⟨o,e,c⟩|⟨o,e,c⟩⟩:=st
  ·exact⟨t,.inl ⟨o,k it (by simp) o e,c⟩⟩
  ·exact⟨t,.inr ⟨o,k it (by simp) o e,c⟩⟩
 item:=by
  intro X q A u p i AN s σ H E I g st y;subst q A u;obtain⟨f0,f1,f2,f3,l,f⟩:=g it (by simp);have hi:i<x.cps.size:=y;have hx:x.cps[i]?=Z x.cps[i]:=by simp[hi]
  obtain⟨t,st|st⟩:=st
  ·refine wpAny_pyNext_ascii_item st hx λh' j m=>?_;have n:L2.AU X AN σ H { s with heap:=h',toks:=s.toks+1 }:=I.turned (λb o a e=>(m.2 b a).trans e) f0 f1 f3 l f;obtain⟨o,e,c,d⟩:=id j;exact⟨_,rfl,N8 (s:={ s with heap:=h',toks:=s.toks+1 }) e c d () ⟨.str ⟨#[x.cps[i]]⟩,H,n,⟨_,rfl⟩,⟨rfl,_,hx,rfl⟩,⟨t,.inl j⟩,λb a=>(g b a).1⟩⟩
  ·refine wpAny_pyNext_wide_item st hx λh' j m=>?_;have n:L2.AU X AN σ H { s with heap:=h',toks:=s.toks+1 }:=I.turned (λb o a e=>(m.2 b a).trans e) f0 f1 f3 l f;obtain⟨o,e,c,d⟩:=id j;exact⟨_,rfl,N8 (s:={ s with heap:=h',toks:=s.toks+1 }) e c d () ⟨.str ⟨#[x.cps[i]]⟩,H,n,⟨_,rfl⟩,⟨rfl,_,hx,rfl⟩,⟨t,.inr j⟩,λb a=>(g b a).1⟩⟩
 done:=by
  intro X q A u p i AN s σ H E I g st y;subst q A u;obtain⟨f0,f1,f2,f3,l,f⟩:=g it (by simp);have hx:x.cps[i]?=X9:=by have:x.cps.size<=i:=y;simp[this]
  obtain⟨t,st|st⟩:=st
  ·exact wpAny_pyNext_ascii_end (I.ok.hd p) st hx λh' eb=>⟨rfl,I.turned (t':=s.toks) (λb o a e=>eb b o a e) f0 f1 f3 l f⟩
  ·exact wpAny_pyNext_wide_end (I.ok.hd p) st hx λh' eb=>⟨rfl,I.turned (t':=s.toks) (λb o a e=>eb b o a e) f0 f1 f3 l f⟩
 self:=λ_ _ _ _ _ st h=>by
  obtain⟨t,st|st⟩:=st
  ·exact wpAny_pyIter_striter_ascii st h
  ·exact wpAny_pyIter_striter_wide st h
def o6(K:B6)(tl:TE):TI:=λσ H R=>tl σ H λx H1=>(∃a,x=.ref a/\(∃xs,su K H1 a xs)/\R (HE K a) H1)\/(∃a,x=.ref a/\(∃xs,yw K H1 a xs)/\R (LU K a) H1)\/∃y,x=.str y/\R (IJ y) H1
theorem Wy{l:Expr}{tl:TE}(g:PE X l tl):PI X tg l (o6 X.K tl):=by
 intro AN s σ H R I h;refine jH (g AN s σ H _ I h) λv s1 ⟨x,H1,I1,r1,q1⟩=>?_;have c:∀(o:AE) (b:A1),b∈[s1.heap.objs.size]->ux X AN H1 b:=λo b m=>by
  have e:b=s1.heap.objs.size:=by simpa using m
  subst e;exact I1.Tj (zo _) (I1.hok.fresh (zo _))
 rcases q1 with⟨a,e,⟨xs,d⟩,q⟩|⟨a,e,⟨xs,d⟩,q⟩|⟨y,e,q⟩
 ·subst e;cases r1;obtain⟨AQ,j,p,i⟩:=I1.list d;refine wpAny_pyIter_list p.isList ?_;exact⟨s1.heap.objs.size,[s1.heap.objs.size],_,_,H1,rfl,I1.kept (t':=s1.toks) λb o e=>zd _ e,aas a _,⟨_,zC _ rfl,rfl,rfl⟩,c default,q⟩
 ·subst e;cases r1;obtain⟨AQ,j,p,i⟩:=I1.tuple d;refine yB (show s1.heap.IsTuple a AQ.toArray from p) ?_;exact⟨s1.heap.objs.size,[s1.heap.objs.size],_,_,H1,rfl,I1.kept (t':=s1.toks) λb o e=>zd _ e,Wk a _,⟨_,zC _ rfl,rfl,rfl⟩,c default,q⟩
 ·subst e;obtain⟨t,rfl⟩:=r1;cases f:y.cps.all (· < 128)with
  |true=>
   refine wpAny_pyIter_ascii f ?_;exact⟨s1.heap.objs.size,[s1.heap.objs.size],_,_,H1,rfl,I1.kept (t':=s1.toks) λb o e=>zd _ e,TY _ y,⟨t,.inl ⟨_,zC _ rfl,rfl,rfl⟩⟩,c default,q⟩
  |false=>
   refine wpAny_pyIter_wide f ?_;exact⟨s1.heap.objs.size,[s1.heap.objs.size],_,_,H1,rfl,I1.kept (t':=s1.toks) λb o e=>zd _ e,TY _ y,⟨t,.inr ⟨_,zC _ rfl,rfl,rfl⟩⟩,c default,q⟩
def B5(K:B6)(J:It)(ds:O Dt)(Hs:Hp):Prop:=∀(i:Nat) (H:Hp),AV Hs H →
 (∀d,ds[i]?=Z d->J.go i H/\∀x H',J.yld i H x H'->AV H H'/\AW K H' d x)/\(ds.length<=i->J.stop i H)
theorem B5.of{ds:O Dt}(h:∀(i:Nat) (H:Hp),AV Hs H →
  (∀d,ds[i]?=Z d->J.go i H/\∀x H',J.yld i H x H'->H'=H/\AW K H d x)/\(ds.length<=i->J.stop i H)):B5 K J ds Hs:=λi H s=>
 ⟨λd e=>⟨((h i H s).1 d e).1,λx H' y=>by
  obtain⟨rfl,r⟩:=((h i H s).1 d e).2 x H' y;exact⟨AV.refl _,r⟩⟩,(h i H s).2⟩
def Bi(x:AJ):O Dt:=x.cps.toList.map λc=>.str ⟨#[c]⟩
theorem B5.list{ds:O Dt}(h:su K Hs a vs)(r:aO K Hs ds vs):B5 K (HE K a) ds Hs:=.of λi H s=>by
 have h':=s.seq h;have c:=r.kp (.of s);refine⟨λd e=>?_,λe=>⟨vs,h',by rw[r.length];exact e⟩⟩;obtain⟨v,ev,b⟩:=c.get e;refine⟨⟨vs,v,h',ev⟩,λx H' y=>?_⟩;obtain⟨y1,y2⟩:=y;have:=y2 vs h';rw[ev]at this;cases this;exact⟨y1,b⟩
theorem B5.tup{ds:O Dt}(h:yw K Hs a vs)(r:aO K Hs ds vs):B5 K (LU K a) ds Hs:=.of λi H s=>by
 have h':=(Kp.of s).sqT h;have c:=r.kp (.of s);refine⟨λd e=>?_,λe=>⟨vs,h',by rw[r.length];exact e⟩⟩;obtain⟨v,ev,b⟩:=c.get e;refine⟨⟨vs,v,h',ev⟩,λx H' y=>?_⟩;obtain⟨y1,y2⟩:=y;have:=y2 vs h';rw[ev]at this;cases this;exact⟨y1,b⟩
theorem B5.str(x:AJ):B5 K (IJ x) (Bi x) Hs:=.of λi H s=>by
 refine⟨λd e=>?_,λe=>?_⟩
 ·unfold Bi at e;rw[Zp]at e;cases h:x.cps.toList[i]? with
  |none=>rw[h]at e;cases e
  |some c=>
   rw[h]at e;cases e;have b:x.cps[i]?=Z c:=by simpa using h
   have hi:i<x.cps.size:=by
    have:=(bc.mp h).1;simpa using this
   refine⟨hi,λv H' y=>?_⟩;obtain⟨y1,c',a,rfl⟩:=y;rw[b]at a;cases a;refine⟨y1,?_⟩;unfold AW;exact⟨rfl,by show(1:Nat)<=AA;decide⟩
 ·have:(Bi x).length=x.cps.size:=by simp[Bi]
  show x.cps.size<=i;omega
def QL(lo:Int)(n:Nat):O Dt:=(dg n).map λk=>.int (lo+(k:Nat))
theorem B5.rng(lo:Int)(n:Nat):B5 K (Hc lo n) (QL lo n) Hs:=.of λi H s=>by
 refine⟨λd e=>?_,λe=>?_⟩
 ·unfold QL at e;rw[Zp]at e;by_cases hi:i<n
  ·rw[lr hi]at e;cases e;refine⟨hi,λv H' y=>?_⟩;obtain⟨y1,y2⟩:=y;refine⟨y1,?_⟩;unfold AW;exact y2
  ·rw[KO (by simp;omega)]at e;cases e
 ·have:(QL lo n).length=n:=by simp[QL]
  show n<=i;omega
def iF(K:B6)(f:Ev->Y (O Dt)):TI:=λσ H R=>∃H0 ρ ds,bV K H0 H σ ρ/\f ρ=Z ds/\∀J H',AV H H' →
 (∀Hs,AV Hs H'->(∀a,H a=X9->Hs a=H' a)->(∀a o u,H' a=Z (.jl o u)->Hs a=H' a)->(∀a vs,H' a=Z (.tup vs)->Hs a=H' a)->B5 K J ds Hs)->R J H'
def NI(X:Cx)(tg iter:Expr)(f:Ev->Y (O Dt)):Prop:=PI X tg iter (iF X.K f)
structure EK (X:Cx) (tg iter:Expr) (f:Ev->Option (List Dt)):Prop where
 run:NI X tg iter f
def Fn:Bx->Y (O Dt)
 |.z (.lst ds)=>Z ds
 |.z (.tup ds)=>Z ds
 |.z (.str x)=>Z (Bi x)
 |.o ds=>Z ds
 |_=>X9
section
variable{f:Ev->Y Bx}{fs:Ev->Y (O Bx)}
mutual
theorem AW.part{K:B6}{H Hs:Hp}(b:∀a o u,H a=Z (.jl o u)->Hs a=H a)(c:∀a vs,H a=Z (.tup vs)->Hs a=H a):∀{d:Dt} {v:V},AW K H d v->AW K Hs d v
 |.non,_,h=>by simpa only[AW]using h
 |.bl _,_,h=>by simpa only[AW]using h
 |.int _,_,h=>by simpa only[AW]using h
 |.str _,_,h=>by simpa only[AW]using h
 |.tup ds,_,h=>by
  simp only[AW]at h ⊢;obtain⟨a,vs,e,q,r⟩:=h;refine⟨a,vs,e,?_,aO.part b c r⟩;rcases q with (q|⟨o,q⟩)|q
  ·exact .inl (.inl ((c _ _ q).trans q))
  ·exact .inl (.inr ⟨o,(b _ _ _ q).trans q⟩)
  ·exact .inr q
 |.lst ds,_,h=>by
  simp only[AW]at h ⊢;obtain⟨a,vs,e,q,r⟩:=h;refine⟨a,vs,e,?_,aO.part b c r⟩;rcases q with⟨o,q⟩|q
  ·exact .inl ⟨o,(b _ _ _ q).trans q⟩
  ·exact .inr q
 |.emp,_,h=>by
  simp only[AW]at h ⊢;obtain⟨a,o,e,q⟩:=h;exact⟨a,o,e,(b _ _ _ q).trans q⟩
theorem aO.part{K:B6}{H Hs:Hp}(b:∀a o u,H a=Z (.jl o u)->Hs a=H a)(c:∀a vs,H a=Z (.tup vs)->Hs a=H a):∀{ds:O Dt} {vs:O V},aO K H ds vs->aO K Hs ds vs
 |[],_,h=>by simpa only[aO]using h
 |d::ds,_,h=>by
  simp only[aO]at h ⊢;obtain⟨v,r,e,q,t⟩:=h;exact⟨v,r,e,AW.part b c q,aO.part b c t⟩
end
theorem zK(h:QV X e f):EK X tg e (λρ=>(f ρ).bind Fn):=⟨have h:=h.run;λAN s σ H R I q=>by
 refine Wy h AN s σ H R I ?_;obtain⟨H0,ρ,ds,E,e,q⟩:=q;obtain⟨b,eb,e⟩:=AT e;refine⟨H0,ρ,b,E,eb,λv H1 u y j=>?_⟩;cases b with
 |z d=>
  cases d with
  |tup p=>
   cases e;simp only[bJ,AW]at j;obtain⟨a,vs,rfl,c,t⟩:=j;refine .inr (.inl ⟨a,rfl,⟨vs,c⟩,q _ _ u λHs hs w g i=>.tup ?_ (t.part g i)⟩);rcases c with (c|⟨o,c⟩)|c
   ·exact .inl (.inl ((i _ _ c).trans c))
   ·exact .inl (.inr ⟨o,(g _ _ _ c).trans c⟩)
   ·exact .inr c
  |lst p=>
   cases e;simp only[bJ,AW]at j;obtain⟨a,vs,rfl,c,t⟩:=j;refine .inl ⟨a,rfl,⟨vs,c.sq⟩,q _ _ u λHs hs w g i=>.list ?_ (t.part g i)⟩;rcases c with⟨o,c⟩|c
   ·exact .inl (.inr ⟨o,(g _ _ _ c).trans c⟩)
   ·exact .inr c
  |str x=>
   cases e;simp only[bJ,AW]at j;obtain⟨rfl,_⟩:=j;exact .inr (.inr ⟨x,rfl,q _ _ u λHs hs w g i=>.str x⟩)
  |_=>cases e
 |l p=>cases e
 |n p=>cases e
 |m p=>cases e
 |o p=>
  cases e;obtain⟨a,vs,rfl,c,t⟩:=j;refine .inl ⟨a,rfl,⟨vs,.inl (.inl c)⟩,q _ _ u λHs hs w g i=>.list (.inl (.inl ((w a (y a X2)).trans c))) (t.part g i)⟩⟩
def LD:O Bx->Y (O Dt)
 |[.z (.int j)]=>if -(2 ^ 62)<=j/\j<2 ^ 62 then Z (QL 0 j.toNat)else X9
 |_=>X9
theorem mU{p:Pos}(g:Gl X "range")(d:X.mg "range"=X9)(a:Yz X [e] fs)(hs:A9 [e] X.env=[(false,eval e X.env)]:=by rfl):EK X tg (.Call (.Name "range" p) [e] [] pos) (λρ=>(fs ρ).bind LD):=⟨have a:=a.run;λAN s σ H R I q=>by
 refine i7 g d a hs AN s σ H R I ?_;obtain⟨H0,ρ,ds,E,e,q⟩:=q;obtain⟨bs,eb,e⟩:=AT e;refine⟨H0,ρ,bs,E,eb,λvs H1 f c=>?_⟩;unfold LD at e;split at e
 ·rename_i j;split at e
  ·rename_i b;cases e;cases c with
   |cons p t=>
    cases t;simp only[bJ,AW]at p;subst p;exact⟨j,rfl,b.1,b.2,q _ _ f λHs _ _ _ _=>.rng 0 _⟩
  ·cases e
 ·cases e⟩
def yx(gt:Dt->Ev->Y Ev)(gb:Ev->Y Ap):O Dt->Ev->Y Ap
 |[],ρ=>Z (.nx ρ)
 |d::ds,ρ=>(gt d ρ).bind λc=>(gb c).bind λr=>match r with
  |.nx a=>yx gt gb ds a
  |.ct a=>yx gt gb ds a
  |.bk a=>Z (.nx a)
  |.rt b=>Z (.rt b)
noncomputable def gU(H:Hp)(σ:L2.St)(ρ:Ev):Hp:=λa=>@ite _ (∃(i:Nat) (c:Bx),ρ[i]?=Z (Z c)/\vR c=true/\σ[i]?=Z (Z (.ref a))) (Classical.propDecidable _) X9 (H a)
theorem CK{ρ:Ev}:AV (gU H σ ρ) H:=λa o e=>by
 unfold gU at e;split at e
 ·cases e
 ·exact e
theorem bV.rebase{ρ:Ev}(E:bV K Hs H σ ρ)(s:AV H0 Hs):bV K H0 H σ ρ:=⟨E.len,E.val,E.own,s.trans E.base,λi c a e1 b e2=>s.free (E.new i c a e1 b e2)⟩
theorem bV.sans{ρ:Ev}(E:bV K H0 H σ ρ):bV K (gU H σ ρ) H σ ρ:=⟨E.len,E.val,E.own,CK,λi c a e1 b e2=>by
 unfold gU;rw[zl ⟨i,c,e1,b,e2⟩]⟩
theorem bV.sub{ρ:Ev}(E:bV K H0 H σ ρ):AV H0 (gU H σ ρ):=λa o e=>by
 unfold gU;split
 ·rename_i h;obtain⟨i,c,e1,b,e2⟩:=h;rw[E.new i c a e1 b e2]at e;cases e
 ·exact E.base a o e
theorem jK{ρ:Ev}(E:bV K H0 H σ ρ)(h:∀vs,H a≠Z (.lst vs))(h2:∀vs,H a≠Z (.dK vs)):gU H σ ρ a=H a:=by
 unfold gU;split
 ·rename_i e;obtain⟨i,c,e1,g,e2⟩:=e;obtain⟨v,e3,d⟩:=E.val i _ e1;rw[e2]at e3;cases e3;cases c with
  |o ds=>obtain⟨f,vs,b,q,_⟩:=d;cases b;exact absurd q (h vs)
  |m ds _=>obtain⟨f,vs,b,q,_⟩:=d;cases b;exact absurd q (h2 vs)
  |_=>cases g
 ·rfl
theorem GH.rebase{K:B6}{H0 Hs:Hp}{D:C6}{r:Ap}(s:AV H0 Hs)(h:GH K H0 D r):GH K Hs D r:=by
 cases r with
 |nx ρ=>exact λσ H E=>h σ H (E.rebase s)
 |bk ρ=>exact λσ H E=>h σ H (E.rebase s)
 |ct ρ=>exact λσ H E=>h σ H (E.rebase s)
 |rt b=>exact λv H s' n r=>h v H (s.trans s') (n.old s) r
theorem uV{gt:Dt->Ev->Option Ev}{gb:Ev->Option Ap}{ds:O Dt}{H1:Hp}{ρ:Ev}{D:C6}{r:Ap}(p:bV X.K H0 H1 σ ρ)(Y:B5 X.K J ds (gU H1 σ ρ))(e:yx gt gb ds ρ=Z r)(q:GH X.K H0 D r):
  ∃W:Nat->Nat->L2.St->Hp->Prop,(∃m,W 0 m σ H1)/\∀i m σ H,W i m σ H →
   (J.stop i H/\D.nx σ H)\/(J.go i H/\∃N:L2.St->Hp->Prop,(∀ σ' H',N σ' H'->∃l,l<m/\W (i+1) l σ' H')/\∀x H',J.yld i H x H'->OW X.K gt x σ H' λc H2=>tG X.K gb { D with nx:=N,ct:=N,bk:=D.nx } c H2):=by
 have t:=p.sans;have q2:=q.rebase p.sub;generalize gU H1 σ ρ=Hs at Y t q2;refine⟨λi m σ' H'=>m=ds.length-i/\i<=ds.length/\∃d,bV X.K Hs H' σ' d/\yx gt gb (ds.drop i) d=Z r,⟨ds.length,by simp,Zs _,ρ,t,by simpa using e⟩,?_⟩;rintro i m σ' H' ⟨rfl,A,d,h,e'⟩;obtain⟨y1,y2⟩:=Y i H' h.base;by_cases f:i<ds.length
 ·right;have hd:ds[i]?=Z ds[i]:=by simp[f]
  obtain⟨go,w⟩:=y1 _ hd;rw[yn f]at e';simp only[yx]at e';obtain⟨n,e1,e'⟩:=AT e';obtain⟨s,e2,e'⟩:=AT e';refine⟨go,λc H2=>∃a,bV X.K Hs H2 c a/\yx gt gb (ds.drop (i+1)) a=Z r,λc H2 ⟨a,j,e3⟩=>⟨ds.length-(i+1),by omega,rfl,f,a,j,e3⟩,λx H2 z=>?_⟩;obtain⟨y,v⟩:=w x H2 z;refine⟨Hs,d,ds[i],n,h.grow y,v,e1,λB j _=>⟨Hs,n,s,j,e2,?_⟩⟩;cases s with
  |nx a=>exact λc u g=>⟨a,g,e'⟩
  |ct a=>exact λc u g=>⟨a,g,e'⟩
  |bk a=>cases e';exact q2
  |rt b=>cases e';exact q2
 ·left;have o:ds.length<=i:=by omega
  refine⟨y2 o,?_⟩;rw[YA o]at e';cases e';exact q2 σ' H' h
theorem nO{fi:Ev->Y (O Dt)}{gt:Dt->Ev->Y Ev}{gb:Ev->Y Ap}(hp:PassesOwn (bi X) X.A X.env X.xe)(p:X.calm=true)(hi:EK X tg iter fi)(j:CC X tg gt)(g:TV X body gb)(hs:∀x,foldedSetIterable iter X.env x=pure x:=by intro _;rfl):Ww X (.For tg iter body [] pos) (λρ=>(fi ρ).bind λds=>yx gt gb ds ρ):=⟨have hi:=hi.run;have j:=j.run;have g:=g.run;CY (S4 hp p hi j g hs) λD σ H h=>by
 obtain⟨H0,ρ,r,E,e,q⟩:=h;obtain⟨ds,n,e⟩:=AT e;refine⟨H0,ρ,ds,E,n,λJ H1 t y=>?_⟩;have f:=E.grow t;refine uV f ?_ e q;refine y _ CK (λa b=>?_) (λa o u b=>jK f (λvs z=>by rw[b]at z;cases z) (λvs z=>by rw[b]at z;cases z)) λa vs b=>jK f (λvs z=>by rw[b]at z;cases z) (λvs z=>by rw[b]at z;cases z);unfold gU;split
 ·rename_i s;obtain⟨i,c,e1,C,e2⟩:=s;obtain⟨v,e3,l⟩:=E.val i _ e1;rw[e2]at e3;cases e3;cases c with
  |o ds=>obtain⟨B,vs,d,q,_⟩:=l;cases d;rw[b]at q;cases q
  |m ds _=>obtain⟨B,vs,d,q,_⟩:=l;cases d;rw[b]at q;cases q
  |_=>cases C
 ·rfl⟩
theorem bV.lend{ρ:Ev}{ds:O Dt}(E:bV K H0 H σ ρ)(h:ρ[i]?=Z (Z (.o ds))):bV K H0 H σ (ρ.set i (Z (.l ds))):=by
 have g:∀(j:Nat) (b:Bx),(ρ.set i (Z (.l ds)))[j]?=Z (Z b)->(j=i/\b=.l ds)\/(j≠i/\ρ[j]?=Z (Z b)):=λj b e=>by
  rcases BD e with⟨rfl,e',_⟩|⟨f,e'⟩
  ·cases e';exact .inl ⟨rfl,rfl⟩
  ·exact .inr ⟨f,e'⟩
 refine⟨by rw[KL];exact E.len,λj b e=>?_,λj k c a b e1 d e2 e3 n m=>?_,E.base,λj c a e1 d e2=>?_⟩
 ·rcases g j b e with⟨rfl,rfl⟩|⟨f,e'⟩
  ·obtain⟨v,e1,a,vs,e2,q,r⟩:=E.val _ _ h;exact⟨v,e1,a,vs,e2,.inl q,r⟩
  ·exact E.val j b e'
 ·rcases g j _ e1 with⟨rfl,z⟩|⟨f,e'⟩
  ·subst z;cases d
  ·rcases g k _ e3 with⟨rfl,z⟩|⟨s,p⟩
   ·exact E.own j _ c a _ e' d e2 h X2 m
   ·exact E.own j k c a b e' d e2 p n m
 ·rcases g j _ e1 with⟨rfl,z⟩|⟨f,e'⟩
  ·subst z;cases d
  ·exact E.new j c a e' d e2
def Bu(i:Nat)(gt:Dt->Ev->Y Ev)(gb:Ev->Y Ap)(ρ:Ev):Y Ap:=match ρ[i]? with
 |some (Z (.o ds))=>yx gt gb ds (ρ.set i (Z (.l ds)))
 |some (Z (.l ds))=>yx gt gb ds ρ
 |some (Z b)=>(Fn b).bind λds=>yx gt gb ds ρ
 |_=>X9
theorem NW{ρ:Ev}{ds:O Dt}(E:bV X.K H0 H σ ρ)(h:ρ[i]?=Z (Z (.l ds))):∃a vs,σ[i]?=Z (Z (.ref a))/\su X.K H a vs/\B5 X.K (HE X.K a) ds (gU H σ ρ):=by
 obtain⟨v,e1,a,vs,rfl,q,r⟩:=E.val i _ h;have hk:gU H σ ρ a=H a:=by
  unfold gU;split
  ·rename_i f;obtain⟨j,c,e2,e,e3⟩:=f;have:=E.own j i c a _ e2 e e3 h X2 e1;subst this;rw[h]at e2;cases e2;cases e
  ·rfl
 refine⟨a,vs,e1,.inl q,.list (.inl ?_) (r.part (λb o u d=>jK E (λvs z=>by rw[d]at z;cases z) (λvs z=>by rw[d]at z;cases z)) λb ws d=>jK E (λvs z=>by rw[d]at z;cases z) (λvs z=>by rw[d]at z;cases z))⟩;rcases q with q|⟨o,q⟩
 ·exact .inl (hk.trans q)
 ·exact .inr ⟨o,hk.trans q⟩
theorem CN(i:Nat){p:Pos}{gt:Dt->Ev->Option Ev}{gb:Ev->Option Ap}(hp:PassesOwn (bi X) X.A X.env X.xe)(J:X.calm=true)(F:CC X tg gt)(f:TV X body gb)(hN:X.N[i]?=Z x:=by rfl)(hv:Wi X.env.scope x:=by first|exact kC rfl|exact QN (kC X2)|exact QN (QN X2))(hd:ad x:=by decide)(K:(x==("__classdict__":AJ))=false:=by decide)(hs:∀y,foldedSetIterable (.Name x p) X.env y=pure y:=by intro _;rfl):Ww X (.For tg (.Name x p) body [] pos) (Bu i gt gb):=⟨have F:=F.run;have f:=f.run;CY (S4 hp J (Wy (yD (i:=i) hN hv hd K)) F f hs) λD σ H h=>by
 obtain⟨H0,ρ,r,E,e,q⟩:=h;unfold Bu at e;split at e
 ·rename_i ds j;have I:=E.lend j;have hi:i<ρ.length:=(bc.mp j).1;obtain⟨a,vs,e1,sq,Y⟩:=NW I (JM _ hi);exact⟨_,e1,.inl ⟨a,rfl,⟨vs,sq⟩,uV I Y e q⟩⟩
 ·rename_i ds j;obtain⟨a,vs,e1,sq,Y⟩:=NW E j;exact⟨_,e1,.inl ⟨a,rfl,⟨vs,sq⟩,uV E Y e q⟩⟩
 ·rename_i b L M j;obtain⟨ds,g,e⟩:=AT e;obtain⟨v,e1,s⟩:=E.val i _ j;have B:∀b o u,H b=Z (.jl o u)->gU H σ ρ b=H b:=λb o u f=>jK E (λvs z=>by rw[f]at z;cases z) (λvs z=>by rw[f]at z;cases z);have C:∀b ws,H b=Z (.tup ws)->gU H σ ρ b=H b:=λb ws f=>jK E (λvs z=>by rw[f]at z;cases z) (λvs z=>by rw[f]at z;cases z);cases b with
  |z d=>
   cases d with
   |tup t=>
    cases g;simp only[bJ,AW]at s;obtain⟨a,vs,rfl,c,G⟩:=s;refine⟨_,e1,.inr (.inl ⟨a,rfl,⟨vs,c⟩,uV E (.tup ?_ (G.part B C)) e q⟩)⟩;rcases c with (c|⟨o,c⟩)|c
    ·exact .inl (.inl ((C _ _ c).trans c))
    ·exact .inl (.inr ⟨o,(B _ _ _ c).trans c⟩)
    ·exact .inr c
   |lst t=>
    cases g;simp only[bJ,AW]at s;obtain⟨a,vs,rfl,c,G⟩:=s;refine⟨_,e1,.inl ⟨a,rfl,⟨vs,c.sq⟩,uV E (.list ?_ (G.part B C)) e q⟩⟩;rcases c with⟨o,c⟩|c
    ·exact .inl (.inr ⟨o,(B _ _ _ c).trans c⟩)
    ·exact .inr c
   |str x=>
    cases g;simp only[bJ,AW]at s;obtain⟨rfl,_⟩:=s;exact⟨_,e1,.inr (.inr ⟨x,rfl,uV E (.str x) e q⟩)⟩
   |_=>cases g
  |l t=>cases g
  |o t=>exact absurd X2 (L t)
  |n t=>cases g
  |m t=>cases g
 ·cases e⟩
end
def C1(a:O (AJ×A1)):O (AJ×A1)->Prop
 |[]=>True
 |(n,c)::r=>a.lookup n=Z c/\C1 a r
theorem C1.get{a:O (AJ×A1)}:∀{cl:O (AJ×A1)},C1 a cl->∀{x:AJ} {c:A1},cl.lookup x=Z c->a.lookup x=Z c
 |[],_,_,_,e=>by cases e
 |(n,d)::r,h,x,c,e=>by
  rw[ym]at e;by_cases hx:x==n
  ·simp only[hx]at e;cases e;have:x=n:=by simpa using hx
   rw[this];exact h.1
  ·have hx:(x==n)=false:=by simpa using hx
   simp only[hx]at e;exact C1.get h.2 e
structure Sj (X:Cx) (scope:Scope) (cl:List (Str×Addr)) (x:Str) (i:Nat):Prop where
 n:X.N[i]?=some x
 k:X.env.kindOf x=some .cell\/X.env.kindOf x=some .free
 k':(relabel scope X.env).names.lookup x=some .cell\/(relabel scope X.env).names.lookup x=some .free
 c:∃c,cl.lookup x=some c
def Mx(X:Cx)(scope:Scope)(cl:O (AJ×A1)):AZ->O Nat->Prop
 |[],[]=>True
 |x::xs,i::is=>Sj X scope cl x i/\Mx X scope cl xs is
 |_,_=>False
theorem Mx.get{X:Cx}{scope:Scope}{cl:O (AJ×A1)}:∀{xs:AZ} {is:O Nat},Mx X scope cl xs is->xs.length=is.length/\∀(j:Nat) (x:AJ),xs[j]?=Z x->∃i,is[j]?=Z i/\Sj X scope cl x i
 |[],[],_=>⟨rfl,λj x e=>by simp at e⟩
 |x::xs,i::is,h=>by
  obtain⟨h1,h2⟩:=h;obtain⟨l,g⟩:=Mx.get h2;refine⟨by simp[l],λj y e=>?_⟩;cases j with
  |zero=>simp at e;subst e;exact⟨i,rfl,h1⟩
  |succ j=>obtain⟨k,e1,e2⟩:=g j y (by simpa using e);exact⟨k,by simpa using e1,e2⟩
 |[],_::_,h=>h.elim
 |_::_,[],h=>h.elim
def II(a:O (AJ×NameKind))(x:AJ):Bool:=match a.lookup x with
 |some .cell=>true
 |_=>false
def Am(X:Cx)(a:AZ)(scope:Scope)(cl:O (AJ×A1))(C:A1)(s₀:A2)(H₀:Hp)(fp:O A1):Cx:=
 { X with N:=a,s₀:=s₀,H₀:=H₀,env:=compEnvC scope (cellsFrom (C+1) scope.names cl) C X.env,outer:=X.stack,ex:=fp,fn:=II scope.names,pn:=[],xe:=λ_ _=>False }
structure LZ (h:Heap) (cs:List (Str×Addr)):Prop where
 inj:∀x y c,cs.lookup x=some c->cs.lookup y=some c->x=y
 cell:∀x c,cs.lookup x=some c->∃v,h.IsCell c v
theorem mC{n:AJ}{a:α}{l:O (AJ×α)}(h:x≠n):((n,a)::l).lookup x=l.lookup x:=by
 rw[ym,beq_eq_false_iff_ne.mpr h]
theorem LA:∀(g:O (AJ×NameKind)) (h:A6) (d:O (AJ×A1)),LZ h d->LZ (pushCells h g) (cellsFrom h.objs.size g d)
 |[],_,_,x=>x
 |(n,k)::r,h,d,x=>by
  unfold pushCells cellsFrom;split
  ·have i:∀y c,d.lookup y=Z c->c≠h.objs.size:=λy c e=>let ⟨_,q⟩:=x.cell y c e;zS q.lt;have:=LA r (h.push { cls:=.type "cell",data:=.cell X9 }) ((n,h.objs.size)::d) ⟨λy z c e1 e2=>?_,λy c e=>?_⟩
   ·rwa [kK]at this
   ·by_cases a:y=n<;>by_cases f:z=n
    ·rw[a,f]
    ·subst a;rw[KM]at e1;rw[mC f]at e2;cases e1;exact absurd X2 (i _ _ e2)
    ·subst f;rw[KM]at e2;rw[mC a]at e1;cases e2;exact absurd X2 (i _ _ e1)
    ·rw[mC a]at e1;rw[mC f]at e2;exact x.inj y z c e1 e2
   ·by_cases a:y=n
    ·subst a;rw[KM]at e;cases e;exact⟨X9,_,zC _ rfl,rfl⟩
    ·rw[mC a]at e;obtain⟨v,q⟩:=x.cell y c e;exact⟨v,q.keeps λb o e=>zd _ e⟩
  ·exact LA r h d x
theorem CP:∀(b:O (AJ×NameKind)) (n:Nat) (a:O (AJ×A1)) (x:AJ) (c:A1),(cellsFrom n b a).lookup x=Z c->a.lookup x=Z c\/n<=c
 |[],_,_,_,_,e=>.inl e
 |(m,k)::r,n,a,x,c,e=>by
  unfold cellsFrom at e;split at e
  ·rcases CP r _ _ x c e with h|h
   ·by_cases hx:x=m
    ·subst hx;rw[KM]at h;cases h;exact .inr (zo _)
    ·rw[mC hx]at h;exact .inl h
   ·exact .inr ()
  ·exact CP r _ _ x c e
theorem QM:∀(b:O (AJ×NameKind)) (n:Nat) (a:O (AJ×A1)) (x:AJ),(x,NameKind.cell)∉b->(cellsFrom n b a).lookup x=a.lookup x
 |[],_,_,_,_=>rfl
 |(m,k)::r,n,a,x,h=>by
  unfold cellsFrom;have c:(x,NameKind.cell)∉r:=λz=>h (zi _ z);split
  ·rename_i hk;rw[QM r _ _ x c,mC λz=>h (by rw[z,<-beq_iff_eq.mp hk];exact zh ..)]
  ·exact QM r _ _ x c
theorem Wz:∀(b:O (AJ×NameKind)) (n:Nat) (a:O (AJ×A1)) (x:AJ),((x,NameKind.cell)∈b\/∃c,a.lookup x=Z c)->∃c,(cellsFrom n b a).lookup x=Z c
 |[],_,_,_,h=>h.elim (λz=>by simp at z) λz=>z
 |(m,k)::r,n,a,x,h=>by
  unfold cellsFrom;split
  ·refine Wz r _ _ x ?_;by_cases hx:x=m
   ·exact .inr ⟨n,by rw[hx,KM]⟩
   ·rw[mC hx];exact h.imp_left λz=>(List.mem_cons.mp z).elim (λz=>absurd (congrArg Prod.fst z) hx) λz=>z
  ·rename_i hk;exact Wz r _ _ x (h.imp_left λz=>(List.mem_cons.mp z).elim (λz=>by cases z;exact absurd X2 hk) λz=>z)
theorem az{g:A1}{Q:Env->A2->Prop}(h:Q (newEnv scope s.heap.objs.size g (cellsFrom (s.heap.objs.size+1) scope.names cl) qual X9 .none (Z env) builtinsNs) { s with heap:=pushCells (s.heap.push { cls:=.type "dict",data:=.dict #[] }) scope.names }):
  A7 M A (newFunctionEnv scope g cl [] qual X9 .none (Z env)) Q E s:=by
 simp only[newFunctionEnv,fJ,QQ];refine zb (wpAny_alloc ?_);refine zb (wpAny_layCells _ (λname a b=>by cases a==NameKind.cell<;>simp) _ _ _ _ ?_);rw[show({ s with heap:=s.heap.push { cls:=.type "dict",data:=.dict #[] } }:A2).heap.objs.size=s.heap.objs.size+1 from kK ..];rw[List.forIn_nil];exact zb (ze (ze h))
structure uD (X:Cx) (scope:Scope) (cl:List (Str×Addr)) (xs:AZ) (is:List Nat):Prop where
 clos:closureFor scope X.env=pure cl
 kind:scope.kind=.function
 cell:∀y∈scope.names,y.2=.cell->cl.lookup y.1=none
 names:∀y∈scope.names,y.2=.local->scope.names.lookup y.1=some .local
 sub:C1 X.env.cells cl
 has:∀x,((relabel scope X.env).names.lookup x=some .cell\/(relabel scope X.env).names.lookup x=some .free)->(x,NameKind.cell)∈scope.names\/∃c,cl.lookup x=some c
 cap:Mx X scope cl xs is
def uE(is:O Nat)(σ:L2.St):L2.St:=is.map λi=>(σ[i]?).bind λv=>v
def gB(is:O Nat)(ρ:Ev):Ev:=is.map λi=>Fl ρ i
def YC(n m:Nat)(g:Dt->Ev->Y Ev):Prop:=∀d ρ a,g d ρ=Z a->a.length=ρ.length/\∀j,j<n\/m<=j->a[j]?=ρ[j]?
def HQ(n m:Nat)(g:O Dt->Ev->Y Ev):Prop:=∀d ρ a,g d ρ=Z a->a.length=ρ.length/\∀j,j<n\/m<=j->a[j]?=ρ[j]?
theorem cD{m:Nat}(h:n<=i:=by decide)(h':i<m:=by decide):YC n m (λd ρ=>Z (ρ.set i (Z (.z d)))):=λd ρ a e=>by
 cases e;exact⟨by rw[KL],λj b=>JN _ ()⟩
theorem CQ{m:Nat}:HQ n m uU:=λd ρ a e=>by
 cases d with
 |nil=>cases e;exact⟨rfl,λ_ _=>X2⟩
 |cons=>cases e
theorem lq{m:Nat}{g:Dt->Ev->Y Ev}{gs:O Dt->Ev->Y Ev}(h:YC n m g)(hs:HQ n m gs):HQ n m (cX g gs):=λd ρ l e=>by
 cases d with
 |nil=>cases e
 |cons d ds=>
  simp only[cX]at e;obtain⟨o,e1,e⟩:=AT e;obtain⟨a,b⟩:=h _ _ _ e1;obtain⟨i,f⟩:=hs _ _ _ e;exact⟨i.trans a,λj c=>(f j c).trans (b j c)⟩
theorem JQ{m k:Nat}{gs:O Dt->Ev->Y Ev}(hs:HQ n m gs):YC n m (qZ k gs):=λd ρ a e=>by
 cases d with
 |tup ds=>
  simp only[qZ]at e;split at e
  ·exact hs _ _ _ e
  ·cases e
 |_=>cases e
def Fq(gt:Dt->Ev->Y Ev)(p:Ev->Y Bool)(fs:Ev->Y (O Dt))(ρ:Ev):O Dt->Y (O Dt)
 |[]=>Z []
 |d::ds=>(gt d ρ).bind λa=>(p a).bind λk=>if k=true then(fs a).bind λys=>(Fq gt p fs ρ ds).bind λzs=>Z (ys++zs)else Fq gt p fs ρ ds
def IZ:Bx->Y (O Dt)
 |.z y=>Z [y]
 |_=>X9
def G4(gt:Dt->Ev->Y Ev)(p:Ev->Y Bool)(fe:Ev->Y Bx)(ρ:Ev):O Dt->Y (O Dt):=Fq gt p (λρ=>(fe ρ).bind IZ) ρ
theorem Ft{b:Bx}{ys:O Dt}(h:IZ b=Z ys):∃y,b=.z y/\ys=[y]:=by
 cases b<;>cases h;exact⟨_,rfl,rfl⟩
theorem zL{gt:Dt->Ev->Y Ev}{p:Ev->Y Bool}{fe:Ev->Y Bx}{ρ:Ev}:∀{ds out:O Dt},G4 gt p fe ρ ds=Z out->out.length<=ds.length
 |[],_,e=>by cases e;exact zo _
 |d::ds,out,e=>by
  simp only[G4,Fq]at e;obtain⟨f,_,e⟩:=AT e;obtain⟨k,_,e⟩:=AT e;cases k with
  |false=>
   rw[zv ZT]at e;exact zt (zL (gt:=gt) (p:=p) (fe:=fe) e) (by simp)
  |true=>
   rw[zl rfl]at e;obtain⟨ys,a,e⟩:=AT e;obtain⟨zs,c,e⟩:=AT e;obtain⟨b,_,a⟩:=AT a;obtain⟨y,_,rfl⟩:=Ft a;cases e;simpa using zL (gt:=gt) (p:=p) (fe:=fe) c
def C7(X:Cx)(ifs:O Expr)(p:Ev->Y Bool):Prop:=(ifs=[]/\p=λ_=>Z true)\/∃c,ifs=[c]/\PB X c p
structure vU (X:Cx) (ifs:List Expr) (p:Ev->Option Bool):Prop where
 run:C7 X ifs p
section
variable{xs:AZ}{gt:Dt->Ev->Y Ev}{p:Ev->Y Bool}{fe:Ev->Y Bx}{fi:Ev->Y (O Dt)}
theorem ap{p:Hp}{d:A2}(a:L2.AU X AN σ p d)(O:uD X scope cl xs is)(t:∀b∈fp,ux X AN p b)(B:∀b∈fp,b<d.heap.objs.size):
  L2.AU (Am X (xs++ts) scope cl d.heap.objs.size d p fp) [] (uE is σ++ba ts.length X9) p { d with heap:=pushCells (d.heap.push { cls:=.type "dict",data:=.dict #[] }) scope.names }:=by
 obtain⟨G,S⟩:=O.cap.get;have m:=O.sub;have E:(d.heap.push { cls:=.type "dict",data:=.dict #[] }).objs.size=d.heap.objs.size+1:=kK ..;have hk:∀b o,d.heap.get? b=Z o->(pushCells (d.heap.push { cls:=.type "dict",data:=.dict #[] }) scope.names).get? b=Z o:=λb o e=>pushCells_keeps _ _ b o (zd _ e);have D:LZ (pushCells (d.heap.push { cls:=.type "dict",data:=.dict #[] }) scope.names) (cellsFrom (d.heap.objs.size+1) scope.names cl):=by
  rw[<-E];refine LA _ _ _ ⟨λx y c e1 e2=>a.ok.inj x y c (m.get e1) (m.get e2),λx c e=>?_⟩;obtain⟨v,q⟩:=a.cell x c (m.get e);exact⟨v,q.keeps λb o e=>zd _ e⟩
 have C:∀x c,(cellsFrom (d.heap.objs.size+1) scope.names cl).lookup x=Z c->X.env.cells.lookup x=Z c\/d.heap.objs.size<c:=λx c e=>(CP _ _ _ x c e).imp_left m.get;refine⟨⟨a.ok.mod,O.kind,a.ok.glob,a.ok.blt,zo _,D.inj,λx hx=>Wz _ _ _ x (O.has x hx),λx c hx e=>?_,a.ok.hd,a.ok.frames,.inl rfl,λb f=>⟨zS (B b f),λx c e=>?_⟩,a.bs,zt a.ok.bsz a.sz,λb o e f=>?_,λb f J=>?_,a.stack,a.Qo,a.ok.tabs.go a.base.Al⟩,
  rfl,a.bare,Un.kept hk,⟨_,(Heap.Ns.new d.heap (.type "dict")).keeps (pushCells_keeps _ _),λj x v e1 e2 _=>?_⟩,D.cell,a.hok.fresh (zo _),λx c e=>(C x c e).elim (a.qX x c) λh=>a.hok.fresh (ZI h),λq I=>absurd (show q∈([]:List (A1×AE)) from I) (by simp),a.hok.kept hk,?_⟩
 ·refine(CP _ _ _ x c e).elim (λh=>?_) λh=>ZI h;have hx:(x,NameKind.cell)∈scope.names:=by
   have hx:II scope.names x=true:=hx;unfold II at hx;split at hx
   ·rename_i q;exact mem_of_lookup q
   ·cases hx
  rw[O.cell _ hx rfl]at h;cases h
 ·rcases C x c e with h|h
  ·exact(t b f).2.2.2.2.1 x c h
  ·exact kg (hO (B b f) h)
 ·obtain⟨_,_,_,z,_⟩:=t b f;rcases z with z|z
  ·exact a.ok.abF b o e z
  ·exact absurd (zD (zz e) (zt a.ok.bsz z)) (ki _)
 ·obtain⟨_,U,K,_⟩:=t b f;rcases List.mem_cons.mp (a.Qn b J)with z|z
  ·exact U z
  ·exact K z
 ·have A:j<is.length:=by
   by_cases A:j<is.length
   ·exact A
   ·rw[qo (by simp[uE];omega)]at e2;rw[QI]at e2;split at e2<;>cases e2
  have F:xs[j]?=Z x:=by
   have e1:(xs++ts)[j]?=Z x:=e1;rw[ZH ()]at e1;exact e1
  obtain⟨i,H,g⟩:=S j x F;have e3:σ[i]?=Z (Z v):=by
   rw[ZH (by simp[uE];omega)]at e2;unfold uE at e2;rw[Zp,H]at e2;cases q:σ[i]? with
   |none=>rw[xb,q]at e2;cases e2
   |some o=>
    rw[xb,q]at e2;have:o=Z v:=by simpa using e2
    rw[this]
  have P:Wi X.env.scope x:=by
   rcases g.k with k|k
   ·exact .inr (.inl k)
   ·exact .inr (.inr k)
  obtain⟨m',W,M⟩:=a.loc;obtain⟨u,r,l⟩:=M i x v g.n e3 P;refine⟨u,r,?_⟩;rcases l with⟨k,_⟩|⟨k,c,Q,N⟩
  ·rcases g.k with w|w<;>(rw[k]at w;cases w)
  ·obtain⟨c',s⟩:=g.c;have:=m.get s;rw[Q]at this;cases this;refine .inr ⟨g.k',c,(QM _ _ _ x λz=>by rw[O.cell _ z rfl]at s;cases s).trans s,?_⟩;obtain⟨o,L,hd⟩:=N;exact⟨o,hk c o L,hd⟩
 ·show(uE is σ++ba ts.length X9).length=(xs++ts).length;simp[uE,G]
theorem bV.caps{ρ:Ev}(E:bV K H0 H σ ρ)(is:O Nat)(n:Nat):bV K H H (uE is σ++ba n X9) (gB is ρ++ba n X9):=by
 have f:∀(j:Nat) c,(gB is ρ++ba n X9)[j]?=Z (Z c)->vR c=false:=λj c e=>by
  by_cases g:j<is.length
  ·rw[ZH (by simp[gB];omega)]at e;unfold gB at e;rw[Zp]at e;cases q:is[j]? with
   |none=>rw[q]at e;cases e
   |some i=>
    rw[q]at e;have:Fl ρ i=Z c:=by simpa using e
    exact CJ this
  ·rw[qo (by simp[gB];omega),QI]at e;split at e<;>cases e
 refine⟨by simp[uE,gB],λj b e=>?_,λj k c a b e d=>absurd d (by rw[f j c e];exact ZT),AV.refl H,λj c a e d=>absurd d (by rw[f j c e];exact ZT)⟩;by_cases g:j<is.length
 ·rw[ZH (by simp[gB];omega)]at e;rw[ZH (by simp[uE];omega)];unfold gB at e;unfold uE;rw[Zp]at e ⊢;cases q:is[j]? with
  |none=>rw[q]at e;cases e
  |some i=>
   rw[q]at e;have:Fl ρ i=Z b:=by simpa using e
   obtain⟨v,e1,r⟩:=TJ E this;exact⟨v,by simp[e1],r⟩
 ·rw[qo (by simp[gB];omega),QI]at e;split at e<;>cases e
theorem bV.forget{ρ ρ':Ev}(E:bV K H0 H σ ρ')(g:ρ'.length=ρ.length)(h:∀(j:Nat) b,ρ[j]?=Z (Z b)->ρ'[j]?=Z (Z b)):bV K H0 H σ ρ:=
 ⟨E.len.trans g,λj b e=>E.val j b (h j b e),λi j c a b e1 d e2 e3 f l=>E.own i j c a b (h _ _ e1) d e2 (h _ _ e3) f l,E.base,λi c a e1 d e2=>E.new i c a (h _ _ e1) d e2⟩
structure DF (Hb:Hp) (σ:L2.St) (ρ:Ev) (n:Nat):Prop where
 own:∀(j:Nat) c,ρ[j]?=some (some c)->vR c=false
 lt:∀(j:Nat) b,ρ[j]?=some (some b)->j<n
 old:∀(j:Nat) c a,ρ[j]?=some (some c)->loose c=true->σ[j]?=some (some (.ref a))->Hb a≠none
def Fx(σ σ':L2.St)(ρ:Ev):Prop:=∀(j:Nat) c,loose c=true->ρ[j]?=Z (Z c)->σ'[j]?=σ[j]?
theorem DF.fx{d:Hp}{σ':L2.St}{ρ:Ev}(P:DF d σ ρ n)(f:Fx σ σ' ρ):DF d σ' ρ n:=⟨P.own,P.lt,λj c a e b ea=>P.old j c a e b (by rw[<-f j c b e];exact ea)⟩
theorem FU{ρ:Ev}(E:bV K H0 H σ ρ)(j:Nat)(c:Bx)(a:A1)(e:ρ[j]?=Z (Z c))(h:loose c=true)(ea:σ[j]?=Z (Z (.ref a))):H a≠X9:=λz=>by
 obtain⟨v,e1,b⟩:=E.val j _ e;rw[ea]at e1;cases e1;cases c with
 |z d=>cases h
 |l f=>
  obtain⟨g,vs,e2,q,_⟩:=b;cases e2;rcases q with q|⟨o,q⟩<;>(rw[z]at q;cases q)
 |n f=>
  obtain⟨g,vs,e2,q,_⟩:=b;cases e2;rcases q with q|⟨o,q⟩<;>(rw[z]at q;cases q)
 |o f=>
  obtain⟨g,vs,e2,q,_⟩:=b;cases e2;rw[z]at q;cases q
 |m f _=>
  obtain⟨g,vs,e2,q,_⟩:=b;cases e2;rw[z]at q;cases q
theorem bV.grown{g:Hp}{ρ:Ev}{D:A1}{o:HO}(E:bV K g H σ ρ)(P:DF g σ ρ n)(i:g D=X9)(kp:Kp H (B4 H D o)):bV K g (B4 H D o) σ ρ:=by
 refine⟨E.len,λj b e=>?_,λj k c a b e t=>absurd t (by rw[P.own j c e];exact ZT),λc o e=>?_,λj c a e t=>absurd t (by rw[P.own j c e];exact ZT)⟩
 ·obtain⟨v,ev,h⟩:=E.val j b e;refine⟨v,ev,?_⟩;cases b with
  |z d=>exact AW.kp kp h
  |o s=>have:=P.own j _ e;cases this
  |m s _=>have:=P.own j _ e;cases this
  |n s=>
   obtain⟨a,vs,rfl,q,p⟩:=h;refine⟨a,vs,rfl,?_,p.kp kp⟩;have f:a≠D:=λz=>P.old j _ _ e X2 ev (by rw[z];exact i);exact q.imp (λq=>by rw[aK f];exact q) λ⟨o,q⟩=>⟨o,by rw[aK f];exact q⟩
  |l s=>
   obtain⟨a,vs,rfl,q,p⟩:=h;refine⟨a,vs,rfl,?_,p.kp kp⟩;have f:a≠D:=λz=>P.old j _ _ e X2 ev (by rw[z];exact i);exact q.imp (λq=>by rw[aK f];exact q) λ⟨o,q⟩=>⟨o,by rw[aK f];exact q⟩
 ·rw[aK (cM e i)];exact E.base c o e
def WD(X:Cx)(el:A1->Env->Sem Unit)(fs:Ev->Y (O Dt))(Ac:A1->Hp->O Dt->HO->Prop)(N n:Nat):Prop:=∀(AN:O (A1×AE)) (s:A2) (σ:L2.St) (H a:Hp) (ρ:Ev) (D:A1) (o:HO) (b ys:O Dt),L2.AU X AN σ H s->bV X.K a H σ ρ->DF a σ ρ n->a D=X9->fs ρ=Z ys->H D=Z o->Ac D H b o->b.length+ys.length<=N →
 A7 (bi X) X.A (el D X.env) (λ_ s'=>∃ σ' H' o',L2.AU X AN σ' H' s'/\bV X.K a H' σ' ρ/\Fx σ σ' ρ/\H' D=Z o'/\Ac D H' (b++ys) o') X.xe s
theorem Sn{fs:Ev->Y (O Dt)}{Ac:A1->Hp->O Dt->HO->Prop}{N:Nat}(h:∀(AN:O (A1×AE)) (s:A2) (σ:L2.St) (H c:Hp) (ρ:Ev) (D:A1) (o:HO) (b ys:O Dt),L2.AU X AN σ H s->bV X.K c H σ ρ->fs ρ=Z ys->H D=Z o->Ac D H b o->b.length+ys.length<=N →
  A7 (bi X) X.A (el D X.env) (λ_ s'=>∃a o',L2.AU X AN σ (B4 a D o') s'/\AV H a/\Kp a (B4 a D o')/\Ac D (B4 a D o') (b++ys) o') X.xe s):WD X el fs Ac N n:=λAN s σ H c ρ D o b ys I E P d e1 e2 a1 l=>by
 refine qa (h AN s σ H c ρ D o b ys I E e1 e2 a1 l) (λ_ s' ⟨a,o',I',s9,kp,a'⟩=>?_) λ_ _ z=>z;exact⟨σ,_,o',I',(E.grow s9).grown P d kp,λ_ _ _ _=>X2,aU,a'⟩
structure YD (B:Around->Bool->Prop) (P:Program) (w:World) (K:B6) (tg:Expr) (J:It) (fp:List Addr) (it:Addr) (tn:Nat->Heap->Prop):Prop where
 obj:∀i h,tn i h->∀b∈fp,∃o,h.get? b=some o/\∀v,o.data≠.cell v
 keep:∀i h h',tn i h->(∀b∈fp,∀o,h.get? b=some o->h'.get? b=some o)->tn i h'
 item:∀(X:Cx),X.prog=P->X.w=w->X.K=K->B X.A X.calm->∀(i:Nat) (AN:List (Addr×Obj)) (s:Shared) (σ:L2.St) (H:Hp) (E:BF),L2.AU X AN σ H s->(∀b∈fp,ux X AN H b)->tn i s.heap->J.go i H →
  wpAny (model P w) X.A (pyNext (.ref it)) (λr s1=>∃u,r=some u ∧
   wpAny (model P w) X.A (letOwnedTupleGo tg (.ref it) u) (λ_ s2=>∃x H',L2.AU X AN σ H' s2/\Au x u/\J.yld i H x H'/\tn (i+1) s2.heap/\∀b∈fp,H' b=none) E s1) E s
 done:∀(X:Cx),X.prog=P->X.w=w->X.K=K->B X.A X.calm->∀(i:Nat) (AN:List (Addr×Obj)) (s:Shared) (σ:L2.St) (H:Hp) (E:BF),L2.AU X AN σ H s->(∀b∈fp,ux X AN H b)->tn i s.heap->J.stop i H →
  wpAny (model P w) X.A (pyNext (.ref it)) (λr s1=>r=none/\L2.AU X AN σ H s1) E s
 self:∀(A:Around) (i:Nat) (s:Shared) (Q:BF) (E:BF),tn i s.heap->Q (.ref it) s->wpAny (model P w) A (pyIter (.ref it)) Q E s
abbrev G5:A5->Bool->Prop:=λ_ c=>c=true
theorem JR(T:C4 P w K tg J fp it tn):YD G5 P w K tg J fp it tn:=⟨T.obj,T.keep,T.item,T.done,T.self⟩
theorem Ol{B:A5->Bool->Prop}{comp:Expr}{d:Nat}{f5:Pos}{Ac:A1->Hp->O Dt->HO->Prop}{fs:Ev->Option (O Dt)}{N m:Nat}{l:Hp}{D:A1}{ds o0 out:O Dt}{o:HO}{ρ:Ev}{R:Result->A2->Prop}(e2:B X.A X.calm)(hx:X.xe=λ_ _=>False)(Om:FF X tgt gt)(f4:C7 X ifs p)(f9:WD X el fs Ac N m)(g0:YC n m gt)(e6:n<=m)(I:L2.AU X AN σ H s)(E:bV X.K l H σ ρ)(P:DF l σ ρ n)(hD:l D=X9)(g1:H D=Z o)(hA:Ac D H o0 o)(T:YD B X.prog X.w X.K tgt J fp it tn)(st:tn 0 s.heap)(hf:∀b∈fp,ux X AN H b)(Y:B5 X.K J ds l)(f2:Fq gt p fs ρ ds=Z out)(hN:o0.length+out.length<=N)(b3:∀{D:A1} {H H':Hp} {y:O Dt} {o:HO},Kp H H'->Ac D H y o->Ac D H' y o)(g3:∀(it:A0) (D:A1) (env:Env),compTurn comp d it (.ref D) env=(standAt f5 >>= λ_=>pyNext it >>= λr=>match r with
   |none=>pure (.done .next)
   |some v=>letOwnedTupleGo tgt it v >>= λ_=>assign tgt env v >>= λ_=>(forIn ifs true λc r=>if r=true then isTrue c env (eval c env) >>= λok=>pure (ForInStep.yield ok)else pure (ForInStep.yield r)) >>= λok=>if ok=true then el D env >>= λ_=>again (.compLoop comp d it (.ref D) env)else again (.compLoop comp d it (.ref D) env)))(g2:∀{it b5:A0} {env:Env} {Q:Fin->A2->Prop} {E:BF} {s:A2},A7 (bi X) X.A ((compTurn comp d it b5 env).onRaise (λx=>noteFrame x env >>= λ_=>theTreesLotGoes x)) Q E s->A7 (bi X) (X.A.under (.compLoop comp d it b5 env)) ((bi X).den (.compLoop comp d it b5 env)) Q E s)(hR:∀s' σ' H' o',L2.AU X AN σ' H' s'->bV X.K l H' σ' ρ->Fx σ σ' ρ->H' D=Z o'->Ac D H' (o0++out) o'->R (.ok .next) s'):
  AF (bi X) X.A (.compLoop comp d (.ref it) (.ref D) X.env) R s:=by
 have b6:∀{H':Hp},(∀b∈fp,H' b=X9)->∀b∈fp,ux X AN H' b:=λ{H'} hn b C=>⟨hn b C,(hf b C).2⟩;refine codeAny_loop X2 (λk s'=>∃(i:Nat) (σ':L2.St) (H':Hp) (y o2:O Dt) (o:HO),k=ds.length-i/\i<=ds.length/\L2.AU X AN σ' H' s'/\tn i s'.heap/\(∀b∈fp,H' b=X9)/\bV X.K l H' σ' ρ/\Fx σ σ' ρ/\H' D=Z o/\Ac D H' y o/\Fq gt p fs ρ (ds.drop i)=Z o2/\y++o2=o0++out) ?_ ds.length
  ⟨0,σ,H,o0,out,o,by simp,Zs _,I,st,λb C=>(hf b C).1,E,λ_ _ _ _=>X2,g1,hA,by simpa using f2,rfl⟩
 rintro k s4 ⟨i,a3,H4,y,o2,o,rfl,hi,I4,d2,c0,W,F4,a6,r4,g,ho⟩;have P4:=P.fx F4;refine g2 (wpAny_noted ?_);rw[g3];obtain⟨y1,y2⟩:=Y i H4 W.base;by_cases b0:i<ds.length
 ·have hd:ds[i]?=Z ds[i]:=by simp[b0]
  obtain⟨go,yl⟩:=y1 _ hd;rw[yn b0]at g;simp only[Fq]at g;obtain⟨t,e1,g⟩:=AT g;obtain⟨k,ek,g⟩:=AT g;obtain⟨e3,b4⟩:=g0 _ _ _ e1;have c4:∀{a7:L2.St} {H5:Hp},bV X.K l H5 a7 t->bV X.K l H5 a7 ρ:=λE5=>E5.forget e3 λj b e=>by rw[b4 j (.inl (P.lt j b e))];exact e
  refine zb (kH (zb ?_));refine jH (T.item X X2 X2 X2 e2 i AN s4 a3 H4 _ I4 (b6 c0) d2 go) λr s5 ⟨u,hr,h5⟩=>?_;subst hr;refine zb (jH h5 λ_ s6 ⟨x,H6,I6,r6,y6,Fh,fr6⟩=>?_);obtain⟨sm,rx⟩:=yl x H6 y6;have W:=W.grow sm;have a6:=sm _ _ a6;have r4:=b3 (.of sm) r4;have g8:=I6.pinned (b6 fr6) (T.obj _ _ Fh);have ha:=Om _ s6 a3 H6 x u (λσ' H'=>H'=H6/\bV X.K l H6 σ' t/\Lo a3 ρ σ' t) g8 r6 ⟨l,ρ,ds[i],t,W,rx,e1,λσ' E' L'=>⟨rfl,E',L'⟩⟩;rw[hx]at ha;refine zb (qa ha (λ_ s7 h7=>?_) λ_ _ z=>z.elim);obtain⟨L,H7,I7,rfl,E7,L7⟩:=h7;have P7:DF l L t m:=by
   refine⟨λj c e=>?_,λj c e=>?_,λj c a e F ea=>?_⟩
   ·cases c with
    |o ds=>exact P.own j _ (L7 j _ X2 e).1
    |m ds _=>exact P.own j _ (L7 j _ X2 e).1
    |_=>rfl
   ·refine YN λh=>?_;rw[b4 j (.inr h)]at e;exact absurd (zD (P.lt j c e) e6) (ej.mpr h)
   ·obtain⟨e',ee⟩:=L7 j c F e;exact P4.old j c a e' F (by rw[<-ee];exact ea)
  have d1:∀{a7:L2.St},Fx L a7 t->Fx σ a7 ρ:=λf j c F e=>by
   have e':t[j]?=Z (Z c):=by rw[b4 j (.inl (P.lt j c e))];exact e
   exact(f j c F e').trans ((L7 j c F e').2.trans (F4 j c F e))
  have ht:A7 (bi X) X.A (forIn ifs true λc r=>if r=true then do let ok <-isTrue c X.env (eval c X.env);pure (ForInStep.yield ok)else pure (ForInStep.yield r))
    (λok M=>ok=k/\∃q,L2.AU X (AN++Ez fp s6.heap) L q M/\AV H7 q) (notedBy (bi X) X.A X.env λe s'=>R (.error e) s') s7:=by
   rcases f4 with⟨rfl,rfl⟩|⟨c,rfl,hc⟩
   ·cases ek;exact wpAny_tests_nil ⟨rfl,H7,I7,AV.refl H7⟩
   ·refine wpAny_tests_one ?_;have:=hc _ s7 L H7 (λb q=>b=k/\AV H7 q) I7 ⟨l,t,k,E7,ek,λq M=>⟨rfl,M⟩⟩;rw[hx]at this;exact qa this (λb M ⟨q,I8,eb,s8'⟩=>⟨eb,q,I8,s8'⟩) λ_ _ z=>z.elim
  refine zb (qa ht (λok M h8=>?_) λ_ _ z=>z);obtain⟨rfl,q,I8,G⟩:=h8;have e0:∀{a4:L2.St} {S:Hp} {s9:A2},L2.AU X (AN++Ez fp s6.heap) a4 S s9->L2.AU X AN a4 S s9/\tn (i+1) s9.heap/\∀b∈fp,S b=X9:=λ{a4 S s9} U=>by
   refine⟨U.yG,T.keep _ _ _ Fh λb C o e=>(U.pin (b,o) (ZE _ (ZE _ (vP C e)))).1,λb C=>?_⟩;obtain⟨o,e,d⟩:=T.obj _ _ Fh b C;exact(U.pin (b,o) (ZE _ (ZE _ (vP C e)))).2.1
  cases ok with
  |false=>
   rw[zv ZT]at g;obtain⟨U,g6,e9⟩:=e0 I8;exact ze ⟨rfl,ds.length-(i+1),by omega,i+1,L,q,y,o2,o,rfl,b0,U,g6,e9,c4 (E7.grow G),d1 (λ_ _ _ _=>X2),G _ _ a6,b3 (.of G) r4,g,ho⟩
  |true=>
   rw[zl rfl]at g;obtain⟨ys,eb,g⟩:=AT g;obtain⟨zs,e5,g⟩:=AT g;cases g;have F:=congrArg dv ho;simp only[Zl]at F;have he:=f9 _ M L q l t D o y ys I8 (E7.grow G) P7 hD eb (G _ _ a6) (b3 (.of G) r4) ();rw[hx]at he;refine zb (qa he (λ_ h2 e7=>?_) λ_ _ z=>z.elim);obtain⟨a4,S,o',h1,E9,F9,f3,a5⟩:=e7;obtain⟨f0,h0,f1⟩:=e0 h1;exact ze ⟨rfl,ds.length-(i+1),by omega,i+1,a4,S,y++ys,zs,o',rfl,b0,f0,h0,f1,c4 E9,d1 F9,f3,a5,e5,by rw[ZZ];exact ho⟩
 ·have d0:ds.length<=i:=by omega
  rw[YA d0]at g;cases g;refine zb (kH (zb ?_));refine jH (T.done X X2 X2 X2 e2 i AN s4 a3 H4 _ I4 (b6 c0) d2 (y2 d0)) λr s5 ⟨hr,I5⟩=>?_;subst hr;rw[qk]at ho;exact ze (hR s5 a3 H4 o I5 W F4 a6 (by rw[<-ho];exact r4))
theorem Oo{R:Result->A2->Prop}{d:Nat}{f:Expr}{it a:A0}(g:(clausesOf e)[d]?=Z ⟨f,iter,ifs,0⟩)(hd:∀{Q:Fin->A2->Prop} {E:BF},A7 (A8 prog w) A ((compStart e d it a env).onRaise (λx=>do noteFrame x env;standAt theWindowsPlace)) Q E s->A7 (A8 prog w) (A.under (.compStart e d it a env)) ((A8 prog w).den (.compStart e d it a env)) Q E s)(b:Code.quiet (.compLoop e d it a env)=true:=by rfl)(h0:AF (A8 prog w) A (.compLoop e d it a env) R s)(h:A7 (A8 prog w) A (pyIter it) (λc s'=>AF (A8 prog w) A (.compLoop e d c a env) R s') (notedBy (A8 prog w) A env λx s'=>R (.error x) s') s):
  AF (A8 prog w) A (.compStart e d it a env) R s:=by
 refine codeAny_of_tree (hd ?_);refine wpAny_notedAt ?_;unfold compStart;rw[g];show A7 _ _ (ask >>= _) _ _ s;refine zb (wpAny_askSetting (wpAny_ite ?_));split
 ·exact ze (And.intro b h0)
 ·refine zb (QY ?_);show A7 _ _ (standAt iter.pos >>= _) _ _ s;exact zb (kH (zb (qa h (λc s' h'=>ze (And.intro b h')) λ_ _ x=>x)))
def G6(H:Hp)(D:A1):Hp:=λb=>if b=D then X9 else H b
theorem yI{D b:A1}(h:b≠D):G6 H D b=H b:=zv h
theorem JT{D:A1}:AV (G6 H D) H:=λb o e=>by
 by_cases h:b=D
 ·rw[G6,zl h]at e;cases e
 ·rw[yI h]at e;exact e
theorem bV.onto{d b:Hp}{ρ:Ev}(E:bV K d H σ ρ)(P:∀(j:Nat) c,ρ[j]?=Z (Z c)->vR c=false)(s:AV b H):bV K b H σ ρ:=
 ⟨E.len,E.val,E.own,s,λj c a e f=>absurd f (by rw[P j c e];exact ZT)⟩
def DE(fi:Ev->Y (O Dt))(gt:Dt->Ev->Y Ev)(p:Ev->Y Bool)(fs:Ev->Y (O Dt)):Ev->Y (O Dt):=λρ=>(fi ρ).bind λds=>Fq gt p fs ρ ds
theorem T3{comp:Expr}{d:Nat}{Ac:A1->Hp->O Dt->HO->Prop}{fs:Ev->Option (O Dt)}{N m:Nat}(b6:X.calm=true)(hx:X.xe=λ_ _=>False)(hi:NI X tgt iter fi)(Om:FF X tgt gt)(a6:C7 X ifs p)(b0:WD X el fs Ac N m)(b5:YC n m gt)(b4:n<=m)(G:∀{D:A1} {H H':Hp} {g:O Dt} {o:HO},Kp H H'->Ac D H g o->Ac D H' g o)(S:∀{D:A1} {H:Hp} {g:O Dt} {o:HO},Ac D H g o->(∀M u,o≠.jl M u)/\∀vs,o≠.tup vs)(hs:∀x,foldedSetIterable iter X.env x=pure x)(a4:∀(it:A0) (D:A1) (env:Env),compTurn comp d it (.ref D) env=(standAt iter.pos >>= λ_=>pyNext it >>= λr=>match r with
   |none=>pure (.done .next)
   |some v=>letOwnedTupleGo tgt it v >>= λ_=>assign tgt env v >>= λ_=>(forIn ifs true λc r=>if r=true then isTrue c env (eval c env) >>= λok=>pure (ForInStep.yield ok)else pure (ForInStep.yield r)) >>= λok=>if ok=true then el D env >>= λ_=>again (.compLoop comp d it (.ref D) env)else again (.compLoop comp d it (.ref D) env)))(c0:∀{it f:A0} {env:Env} {R:Result->A2->Prop} {s:A2},AF (bi X) X.A (.compLoop comp d it f env) R s->A7 (bi X) X.A (pyIter it) (λb3 s'=>AF (bi X) X.A (.compLoop comp d b3 f env) R s') (notedBy (bi X) X.A env λx s'=>R (.error x) s') s->AF (bi X) X.A (.compStart comp d it f env) R s)(a3:∀{it f:A0} {env:Env} {Q:Fin->A2->Prop} {E:BF} {s:A2},A7 (bi X) X.A ((compTurn comp d it f env).onRaise (λx=>noteFrame x env >>= λ_=>theTreesLotGoes x)) Q E s->A7 (bi X) (X.A.under (.compLoop comp d it f env)) ((bi X).den (.compLoop comp d it f env)) Q E s):
  WD X (λD env=>do let x <-eval iter env;standAt iter.pos;let x <-foldedSetIterable iter env x;let _ <-runOwn (.compStart comp d (<-holding [x] (pyIter x)) (.ref D) env) env) (DE fi gt p fs) Ac N n:=by
 intro AN s σ H F ρ D o g ys I E P hD e L q l;obtain⟨ds,ed,e⟩:=AT e;refine zb (qa (hi AN s σ H (λJ H'=>AV H H'/\∀Hs,AV Hs H'->(∀a,H a=X9->Hs a=H' a)->(∀a o u,H' a=Z (.jl o u)->Hs a=H' a)->(∀a vs,H' a=Z (.tup vs)->Hs a=H' a)->B5 X.K J ds Hs) I ⟨F,ρ,ds,E,ed,λJ H' s' y=>⟨s',y⟩⟩) (λv s1 h1=>?_) λ_ _ z=>z);refine zb (kH (zb (Y2 (hs v) (zb (Z3 (qa h1 (λc4 s2 h2=>?_) λ_ _ z=>z))))));obtain⟨it,fp,tn,J,H2,rfl,I2,T,st,hf,i,Y⟩:=h2;have t:=i _ _ L;have a7:=G (.of i) q;have W:B5 X.K J ds (G6 H2 D):=Y _ JT (λa b=>yI λz=>by rw[z,L]at b;cases b) (λa M u b=>yI λz=>by rw[z,t]at b;cases b;exact(S q).1 _ _ X2) λa vs b=>yI λz=>by rw[z,t]at b;cases b;exact(S q).2 _ rfl
 have C:AV F (G6 H2 D):=λa u ea=>by rw[yI (cM ea hD)];exact i _ _ (E.base _ _ ea)
 have E2:bV X.K (G6 H2 D) H2 σ ρ:=(E.grow i).onto P.own JT;have P2:DF (G6 H2 D) σ ρ n:=⟨P.own,P.lt,λj c a ec l ea z=>P.old j c a ec l ea (C.free z)⟩;have lp:∀{R:Result->A2->Prop},(∀s' σ' H' o',L2.AU X AN σ' H' s'->bV X.K (G6 H2 D) H' σ' ρ->Fx σ σ' ρ->H' D=Z o'->Ac D H' (g++ys) o'->R (.ok .next) s')->AF (bi X) X.A (.compStart comp d (.ref it) (.ref D) X.env) R s2:=λhR=>
  have h:=Ol (B:=G5) b6 hx Om a6 b0 b5 b4 I2 E2 P2 (zl X2) t a7 (JR T) st hf W e l G a4 a3 hR
  c0 h (T.self _ 0 _ _ _ st h)
 exact zb (wpAny_runOwn (lp λs' σ' H' o' I' U F' a5 a'=>ze ⟨σ',H',o',I',U.onto P.own (C.trans U.base),F',a5,a'⟩))
theorem Fv{B:A5->Bool->Prop}{comp:Expr}{mk:Sem A0}{o0:AE}{O0:HO}{Ac:A1->Hp->List Dt->HO->Prop}{fs:Ev->Option (List Dt)}{N m:Nat}{H2:Hp}{a:A2}{ds out:List Dt}{ρ:Ev}(O:uD X scope cl xs is)(e7:B X.A X.calm)(Om:∀C n t fp,FF (Am X (xs++ts) scope cl C n t fp) tgt gt)(b6:∀C n t fp,C7 (Am X (xs++ts) scope cl C n t fp) ifs p)(e5:∀C n t fp,WD (Am X (xs++ts) scope cl C n t fp) el fs Ac N m)(e4:YC is.length m gt)(e2:is.length<=m)(M:L2.AU X AN σ H2 a)(L:bV X.K H2 H2 (uE is σ++ba ts.length X9) (gB is ρ++ba ts.length X9))(T:YD B X.prog X.w X.K tgt J fp it tn)(st:tn 0 a.heap)(hf:∀b∈fp,ux X AN H2 b)(Y:B5 X.K J ds H2)(e9:Fq gt p fs (gB is ρ++ba ts.length X9) ds=Z out)(b0:out.length<=N)(e0:∀(D C:A1) (s':A2) (H':Hp) (o:HO),H2 D=X9->L2.AU X AN σ H' s'->ux X AN H' C->(∃m,s'.heap.Ns C m)->AV H2 H'->H' D=Z o->Ac D H' out o->RR (.ref D) C (.ok .next) s')(b4:∀{Q:BF},Q (.ref a.heap.objs.size) { a with heap:=a.heap.push o0 }->A7 (bi X) X.A mk Q E a)(e1:∀H,fQ X.prog X.w H (a.heap.push o0) a.heap.objs.size O0)(e6:∀H,Ac a.heap.objs.size H [] O0)(d0:∀{D:A1} {H H':Hp} {W:List Dt} {o:HO},Kp H H'->Ac D H W o->Ac D H' W o)(a7:∀(it:A0) (D:A1) (env:Env),compTurn comp 0 it (.ref D) env=(standAt iter.pos >>= λ_=>pyNext it >>= λr=>match r with
   |none=>pure (.done .next)
   |some v=>letOwnedTupleGo tgt it v >>= λ_=>assign tgt env v >>= λ_=>(forIn ifs true λc r=>if r=true then isTrue c env (eval c env) >>= λok=>pure (ForInStep.yield ok)else pure (ForInStep.yield r)) >>= λok=>if ok=true then el D env >>= λ_=>again (.compLoop comp 0 it (.ref D) env)else again (.compLoop comp 0 it (.ref D) env)))(f9:∀{it f:A0} {env:Env} {R:Result->A2->Prop} {s:A2},AF (bi X) X.A (.compLoop comp 0 it f env) R s->A7 (bi X) X.A (pyIter it) (λd2 s'=>AF (bi X) X.A (.compLoop comp 0 d2 f env) R s') (notedBy (bi X) X.A env λx s'=>R (.error x) s') s->AF (bi X) X.A (.compStart comp 0 it f env) R s)(a6:∀{it f:A0} {env:Env} {Q:Fin->A2->Prop} {E:BF} {s:A2},A7 (bi X) X.A ((compTurn comp 0 it f env).onRaise (λx=>noteFrame x env >>= λ_=>theTreesLotGoes x)) Q E s->A7 (bi X) (X.A.under (.compLoop comp 0 it f env)) ((bi X).den (.compLoop comp 0 it f env)) Q E s):
  A7 (bi X) X.A mk (λf c0=>A7 (bi X) X.A (newFunctionEnv scope X.env.globals cl [] X.env.qual X9 .none (Z X.env)) (λa4 c4=>
   AF (bi X) X.A (.compStart comp 0 (.ref it) f { a4 with scope:=relabel scope X.env }) (RR f a4.locals) c4) E c0) E a:=by
 refine b4 (az ?_);have G:H2 a.heap.objs.size=X9:=M.hok.fresh (zo _);have y:L2.AU X AN σ (B4 H2 a.heap.objs.size O0) { a with heap:=a.heap.push o0 }:=
  M.laid (t':=a.toks) (λb o e=>zd _ e) (zo _) (e1 _)
 have P:∀b∈fp,b<a.heap.objs.size:=λb d=>let ⟨o,e,_⟩:=T.obj 0 _ st b d;zz e;have F:∀b∈fp,ux X AN (B4 H2 a.heap.objs.size O0) b:=λb d=>⟨by rw[aK (zS (P b d))];exact(hf b d).1,(hf b d).2⟩;have S:tn 0 (a.heap.push o0):=T.keep 0 _ _ st λb d o e=>zd _ e;have u:∀b∈fp,b<(a.heap.push o0).objs.size:=λb d=>by rw[kK];exact xt (P b d)
 generalize e3:({ a with heap:=a.heap.push o0 }:A2)=s3 at *
 have b5:s3.heap=a.heap.push o0:=by rw[<-e3]
 rw[<-b5]at S u;have IC:=ap (ts:=ts) y O F u;have a3:tn 0 (pushCells (s3.heap.push { cls:=.type "dict",data:=.dict #[] }) scope.names):=T.keep 0 _ _ S λb d o e=>pushCells_keeps _ _ b o (zd _ e);have d1:∀b∈fp,ux (Am X (xs++ts) scope cl s3.heap.objs.size s3 (B4 H2 a.heap.objs.size O0) fp) [] (B4 H2 a.heap.objs.size O0) b:=λb d=>by
  obtain⟨f0,f1,f2,f3,I,f5⟩:=F b d;refine⟨f0,zS (u b d),λz=>?_,.inl d,λx c e z=>?_,λq hq=>absurd (show q∈([]:List (A1×AE)) from hq) (by simp)⟩
  ·rcases List.mem_cons.mp (y.Qn b z)with q|q
   ·exact f1 q
   ·exact f2 q
  ·rcases CP _ _ _ x c e with h|h
   ·exact I x c (O.sub.get h) z
   ·rw[z]at h;exact absurd (zD (u b d) (y4 h)) (ki _)
 have P0:DF H2 (uE is σ++ba ts.length X9) (gB is ρ++ba ts.length X9) is.length:=by
  have g:∀(j:Nat) c,(gB is ρ++ba ts.length X9)[j]?=Z (Z c)->j<is.length/\vR c=false:=λj c e=>by
   by_cases hj:j<is.length
   ·refine⟨hj,?_⟩;rw[ZH (by simp[gB];omega)]at e;unfold gB at e;rw[Zp]at e;cases q:is[j]? with
    |none=>rw[q]at e;cases e
    |some i=>rw[q]at e;exact CJ (by simpa using e)
   ·rw[qo (by simp[gB];omega),QI]at e;split at e<;>cases e
  exact⟨λj c e=>(g j c e).2,λj c e=>(g j c e).1,FU L⟩
 have h:=Ol (B:=B) (X:=Am X (xs++ts) scope cl s3.heap.objs.size s3 (B4 H2 a.heap.objs.size O0) fp) (R:=RR (.ref a.heap.objs.size) s3.heap.objs.size) (o0:=[]) e7 X2 (Om _ _ _ _) (b6 _ _ _ _) (e5 _ _ _ _) e4 e2 IC (L.grow (bY G)) P0 G aU (e6 _) T a3 d1 Y e9 (by simpa using b0) d0 a7 a6 λU g0 H5 o5 l E5 _ b3 a5=>by
  have IB:L2.AU X AN σ H5 U:=y.call' (ch:=fp) l.os l.base l.hok l.bare λb d=>by
   obtain⟨f0,f1,f2,f3,I,f5⟩:=F b d;exact⟨f3,f1,I,f5⟩
  obtain⟨m,hn,_⟩:=l.loc;exact e0 _ _ U H5 o5 G IB (y.Tj (zo _) l.free) ⟨m,hn⟩ E5.base b3 a5
 exact f9 h (T.self _ 0 _ _ _ a3 h)
def YF(K:B6)(_:A1)(H:Hp)(a:O Dt)(o:HO):Prop:=∃us,o=.lst us/\aO K H a us
theorem YF.kp{K:B6}{D:A1}{H H':Hp}{a:O Dt}{o:HO}(k:Kp H H'):YF K D H a o->YF K D H' a o:=λ⟨us,e,r⟩=>⟨us,e,r.kp k⟩
def FR(fe:Ev->Y Bx):Ev->Y (O Dt):=λρ=>(fe ρ).bind IZ
theorem YG(h:PV X elt fe):WD X (λD env=>do let _ <-call (.builtin "list.append") [.ref D,<-eval elt env]) (FR fe) (YF X.K) 100000 n:=by
 refine Sn λAN s σ H Hb ρ D o o1 ys I En d hD ⟨us,e,r4⟩ hl=>?_;subst e;obtain⟨b,eb,d⟩:=AT d;obtain⟨y,rfl,rfl⟩:=Ft d;refine zb (qa (h AN s σ H (λv a=>AV H a/\AW X.K a y v) I ⟨Hb,ρ,_,En,eb,λv a f _ g=>⟨f,g⟩⟩) (λv f q=>?_) λ_ _ z=>z);obtain⟨c,a,m,u,i,g⟩:=q;have j:=i _ _ hD;refine zb (qa ((Oh (X:=X)) _ f σ a (.ref D) [c] (.ref D) [v] (λw l=>l=B4 a D (.lst (us++[c]))) m X2 (.cons u .nil) ⟨_,us,c,rfl,rfl,j,by rw[r4.length];have h0:(100000:Nat)<AA:=();simp at hl;omega,rfl⟩) (λw x p=>?_) λ_ _ z=>z);obtain⟨A,l,t,_,rfl⟩:=p;have kp:Kp a (B4 a D (.lst (us++[c]))):=.lst j;exact ze ⟨a,_,t,i,kp,us++[c],rfl,((r4.kp (.of i)).append (aO.cons g aO.nil)).kp kp⟩
theorem CT{B:A5->Bool->Prop}{H2:Hp}{l:A2}{ds out:List Dt}{ρ:Ev}(O:uD X scope cl xs is)(z:B X.A X.calm)(I:∀C i j fp,FF (Am X (xs++ts) scope cl C i j fp) tgt gt)(x:∀C i j fp,C7 (Am X (xs++ts) scope cl C i j fp) ifs p)(L:∀C i j fp,PV (Am X (xs++ts) scope cl C i j fp) elt fe)(H:YC is.length (is.length+ts.length) gt)(G:L2.AU X AN σ H2 l)(t:bV X.K H2 H2 (uE is σ++ba ts.length X9) (gB is ρ++ba ts.length X9))(T:YD B X.prog X.w X.K tgt J fp it tn)(st:tn 0 l.heap)(u:∀b∈fp,ux X AN H2 b)(Y:B5 X.K J ds H2)(M:ds.length<=100000)(q:G4 gt p fe (gB is ρ++ba ts.length X9) ds=Z out)(v:∀(D C:A1) (s':A2) (H':Hp) (us:List V),H2 D=X9->L2.AU X AN σ H' s'->ux X AN H' C->(∃m,s'.heap.Ns C m)->AV H2 H'->H' D=Z (.lst us)->aO X.K H' out us->RR (.ref D) C (.ok .next) s'):
  A7 (bi X) X.A (newList []) (λs y=>A7 (bi X) X.A (newFunctionEnv scope X.env.globals cl [] X.env.qual X9 .none (Z X.env)) (λn F=>
   AF (bi X) X.A (.compStart (.ListComp elt [⟨tgt,iter,ifs,0⟩] scope pos) 0 (.ref it) s { n with scope:=relabel scope X.env }) (RR s n.locals) F) E y) E l:=
 Fv (B:=B) (Ac:=YF X.K) (O0:=.lst []) (N:=100000) O z I x (λC i j fp=>YG (L C i j fp)) H (yk ..) G t T st u Y q (zt (zL q) M) (λD C s' H' o a b c d e f g=>by obtain⟨us,rfl,r⟩:=g;exact v D C s' H' us a b c d e f r)
  QA (λ_=>⟨Zs _,[],0,.nil,zC _ rfl⟩) (λ_=>⟨[],rfl,aO.nil⟩) YF.kp (λ_ _ _=>X2) codeAny_compStart_list λh=>h
end
def iC(K:B6)(f:Ev->Y (O Dt)):TI:=λσ H R=>∃H0 ρ ds,bV K H0 H σ ρ/\f ρ=Z ds/\∀J H',AV H H'->B5 K J ds H'->R J H'
def OY(X:Cx)(tg iter:Expr)(f:Ev->Y (O Dt)):Prop:=PI X tg iter (iC X.K f)
structure EA (X:Cx) (tg iter:Expr) (f:Ev->Option (List Dt)):Prop where
 run:OY X tg iter f
def HR:Bx->Y (O Dt)
 |.z (.lst ds)=>Z ds
 |.z (.tup ds)=>Z ds
 |.z (.str x)=>Z (Bi x)
 |.o ds=>Z ds
 |.l ds=>Z ds
 |_=>X9
section
variable{f:Ev->Y Bx}{fs:Ev->Y (O Bx)}{xs:AZ}{gt:Dt->Ev->Y Ev}{p:Ev->Y Bool}{fe:Ev->Y Bx}{fi:Ev->Y (O Dt)}
theorem xN(h:EK X tgt iter fi):EA X tgt iter fi:=⟨have h:=h.run;λAN s σ H R I q=>by
 obtain⟨H0,ρ,ds,E,e,q⟩:=q;exact h AN s σ H R I ⟨H0,ρ,ds,E,e,λJ H' s' y=>q J H' s' (y H' (AV.refl H') (λ_ _=>X2) (λ_ _ _ _=>X2) λ_ _ _=>X2)⟩⟩
theorem d8(h:QV X e f):EA X tgt e (λρ=>(f ρ).bind HR):=⟨have h:=h.run;λAN s σ H R I q=>by
 refine Wy h AN s σ H R I ?_;obtain⟨H0,ρ,ds,E,e,q⟩:=q;obtain⟨b,eb,e⟩:=AT e;refine⟨H0,ρ,b,E,eb,λv H1 j t g=>?_⟩;cases b with
 |z d=>
  cases d with
  |tup p=>
   cases e;simp only[bJ,AW]at g;obtain⟨a,vs,rfl,c,i⟩:=g;exact .inr (.inl ⟨a,rfl,⟨vs,c⟩,q _ _ j (.tup c i)⟩)
  |lst p=>
   cases e;obtain⟨a,vs,rfl,c,i⟩:=g.Ib rfl;exact .inl ⟨a,rfl,⟨vs,c⟩,q _ _ j (.list c i)⟩
  |str x=>
   cases e;simp only[bJ,AW]at g;obtain⟨rfl,_⟩:=g;exact .inr (.inr ⟨x,rfl,q _ _ j (.str x)⟩)
  |_=>cases e
 |l p=>
  cases e;obtain⟨a,vs,rfl,c,i⟩:=g.Ib rfl;exact .inl ⟨a,rfl,⟨vs,c⟩,q _ _ j (.list c i)⟩
 |o p=>
  cases e;obtain⟨a,vs,rfl,c,i⟩:=g.Ib rfl;exact .inl ⟨a,rfl,⟨vs,c⟩,q _ _ j (.list c i)⟩
 |n _=>cases e
 |m _ _=>cases e⟩
def dY(fi:Ev->Y (O Dt))(gt:Dt->Ev->Y Ev)(p:Ev->Y Bool)(fe:Ev->Y Bx)(is:O Nat)(n:Nat):Ev->Y Bx:=λρ=>(fi ρ).bind λds=>
 if ds.length<=100000 then(G4 gt p fe (gB is ρ++ba n X9) ds).bind λout=>Z (.o out)else X9
theorem iB(ts:AZ)(O:uD X scope cl xs is)(S:X.calm=true)(hi:EA X tgt iter fi)(g:∀C c d fp,CC (Am X (xs++ts) scope cl C c d fp) tgt gt)(f:∀C c d fp,vU (Am X (xs++ts) scope cl C c d fp) ifs p)(i:∀C c d fp,QV (Am X (xs++ts) scope cl C c d fp) elt fe)(N:YC is.length (is.length+ts.length) gt)(hs:∀x,foldedSetIterable iter X.env x=pure x:=by intro _;rfl):QV X (.ListComp elt [⟨tgt,iter,ifs,0⟩] scope pos) (dY fi gt p fe is ts.length):=⟨have hi:=hi.run;have g:=λC c d fp=>(g C c d fp).run;have f:=λC c d fp=>(f C c d fp).run;have i:=λC c d fp=>(i C c d fp).run;λAN s σ H Q I h=>by
 obtain⟨H0,ρ,b,E,e,q⟩:=h;obtain⟨ds,U,e⟩:=AT e;split at e
 ·rename_i z;obtain⟨out,F,e⟩:=AT e;cases e;rw[eval_ListComp];refine Kx (use:=X9) X2 hs O.clos O.kind O.names ?_;refine jH (hi AN s σ H (λJ H'=>AV H H'/\B5 X.K J ds H') I ⟨H0,ρ,ds,E,U,λJ H' s' y=>⟨s',y⟩⟩) λv s1 h1=>jH h1 λa3 s2 h2=>?_;obtain⟨it,fp,tn,J,H2,rfl,u,T,st,P,j,Y⟩:=h2;refine CT (B:=G5) (RR:=λt C=>compPost (bi X) X.A X.xe X9 (EP X AN σ Q) t C) (ts:=ts) (xs:=xs) O S g f i N u ((E.grow j).caps is ts.length) (JR T) st P Y z F ?_;intro D C s' H' us W n M ⟨m,hn⟩ s2' hD' r';refine⟨m,hn,λh' l=>⟨.ref D,H',?_,rfl,q _ _ (j.trans s2') (λa ea=>by cases ea;exact j.free W) ⟨D,us,rfl,hD',r'⟩⟩⟩;obtain⟨f0,f1,f2,f3,f4,L⟩:=M;exact n.turned (t':=s'.toks) (λb o G e=>(l.2 b G).trans e) f0 f1 f3 f4 L
 ·cases e⟩
theorem zM(i:Nat){py spos:Pos}(ts:AZ)(O:uD X scope cl xs is)(a7:X.calm=true)(hN:X.N.Nodup)(hi:EA X tgt iter fi)(l:∀C c d fp,CC (Am X (xs++ts) scope cl C c d fp) tgt gt)(j:∀C c d fp,vU (Am X (xs++ts) scope cl C c d fp) ifs p)(t:∀C c d fp,QV (Am X (xs++ts) scope cl C c d fp) elt fe)(a6:YC is.length (is.length+ts.length) gt)(b0:swapsWith (.ListComp elt [⟨tgt,iter,ifs,0⟩] scope pos) (Z (.Name y py)) spos.line X.env=pure true:=by with_unfolding_all rfl)(W:X.N[i]?=Z y:=by rfl)(hx:Cf X.env.scope y:=by first|exact kC rfl|exact QN X2)(hf:X.fn y=true\/X.env.scope.names.lookup y=Z .local:=by first|exact .inl rfl|exact .inr X2)(hs:∀x,foldedSetIterable iter X.env x=pure x:=by intro _;rfl):Ww X (.Assign [.Name y py] (.ListComp elt [⟨tgt,iter,ifs,0⟩] scope pos) spos) (λρ=>(dY fi gt p fe is ts.length ρ).bind λb=>(TX ρ i b).bind λρ'=>Z (.nx ρ')):=⟨have hi:=hi.run;have l:=λC c d fp=>(l C c d fp).run;have j:=λC c d fp=>(j C c d fp).run;have t:=λC c d fp=>(t C c d fp).run;λAN s σ H D I h=>by
 obtain⟨H0,ρ,r,E,e,q⟩:=h;obtain⟨b,eb,e⟩:=AT e;obtain⟨ds,ed,eb⟩:=AT eb;split at eb
 ·rename_i a3;obtain⟨out,eo,eb⟩:=AT eb;cases eb;cases e;rw[exec_Assign_Name_used _ _ _ _ b0];refine zb (kH (zb ?_));show A7 _ X.A (do let _ <-comprehension (.ListComp elt [⟨tgt,iter,ifs,0⟩] scope pos) scope X.env _ (newList []) false (eval iter X.env) (Z (assign (.Name y py) X.env))) _ _ s;refine zb (qa (Kx (use:=Z (assign (.Name y py) X.env)) (Q:=λ_ s'=>SP X AN D .next s') X2 hs O.clos O.kind O.names ?_) (λ_ s' hq=>ze (ze hq)) λ_ _ e=>e);refine jH (hi AN s σ H (λJ H'=>AV H H'/\B5 X.K J ds H') I ⟨H0,ρ,ds,E,ed,λJ H' s' y=>⟨s',y⟩⟩) λv s1 h1=>jH h1 λb6 s2 h2=>?_;obtain⟨it,fp,tn,J,H2,rfl,U,T,st,a5,u,Y⟩:=h2;refine CT (B:=G5) (RR:=λS C=>compPost (bi X) X.A X.xe (Z (assign (.Name y py) X.env)) (λ_ s'=>SP X AN D .next s') S C) (ts:=ts) (xs:=xs) O a7 l j t a6 U ((E.grow u).caps is ts.length) (JR T) st a5 Y a3 eo ?_;intro f C s' H' us hD F fC ⟨m,hn⟩ s2' hD' r';show A7 _ X.A (assign (.Name y py) X.env (.ref f)) _ _ s';obtain⟨f0,f1,f2,f3,f4,f5⟩:=fC;obtain⟨g,b3,ep,a4,G,M⟩:=id hn;have b4:L2.AU X (AN++[(C,g)]) σ H' s':=F.Cv λL hp=>by
   rcases bB.mp hp with z|z
   ·exact F.pin L (ZE _ z)
   ·have:L=(C,g):=by simpa using z
    subst this;exact⟨a4,f0,f1,f2,λv z=>by rw[G]at z;cases z⟩
  refine jH (L2.Ys hN W hx hf (AN++[(C,g)]) s' σ H' (.ref f) (.ref f) (λσ' n=>σ'=σ.set i (Z (.ref f))/\n=H') b4 X2 ⟨rfl,rfl⟩) λ_ s'' ⟨σ',n,J',e1,e2⟩=>?_;subst e1 e2;have b5:=(J'.pin (C,g) (by simp)).1;refine⟨m,⟨g,b3,ep,b5,G,M⟩,λh' P=>?_⟩;refine⟨σ.set i (Z (.ref f)),n,J'.yG.turned (t':=s''.toks) (λb o hb e=>(P.2 b hb).trans e) f0 f1 f3 f4 f5,q _ _ ?_⟩;exact E.set (u.trans s2') (b:=.o out) ⟨f,us,rfl,hD',r'⟩ (.inl X2) λa ea=>by cases ea;exact u.free hD
 ·cases eb⟩
def lend:Bx->Bx
 |.o ds=>.l ds
 |.m ds _=>.n ds
 |b=>b
def isO:Bx->Bool
 |.o _=>true
 |.m _ _=>true
 |_=>false
def WK(K:B6)(n:Nat)(F:O Bx->Y Bx):Sp:=λvs H Q _=>vs.length=n/\∃bs r,uT K H bs vs/\bs.all (λb=>!isO b)=true/\F bs=Z r/\∀v H',AV H H'->Nw H r v->bJ K H' r v->Q v H'
def cL(n:Nat)(g:Ev->Y Ap):O Bx->Y Bx:=λbs=>(g (bs.map Z++ba (n-bs.length) X9)).bind λr=>match r with
 |.rt b=>Z b
 |.nx _=>Z (.z .non)
 |_=>X9
theorem bV.start{K:B6}{H:Hp}{N:AZ}{bs:O Bx}{vs:O V}(r:uT K H bs vs)(l:bs.all (λb=>!isO b)=true):bV K H H (L2.start N vs) (bs.map Z++ba (N.length-bs.length) X9):=by
 have g:bs.length=vs.length:=Paired.length r;have get:∀(i:Nat) b,(bs.map Z++ba (N.length-bs.length) X9)[i]?=Z (Z b)->bs[i]?=Z b:=λi b e=>by
  by_cases hi:i<bs.length
  ·rw[ZH (by simpa using hi),Zp]at e;cases q:bs[i]? with
   |none=>rw[q]at e;cases e
   |some n=>rw[q]at e;simpa using e
  ·rw[qo (by simp;omega),QI]at e;split at e<;>cases e
 have f:∀(i:Nat) c,(bs.map Z++ba (N.length-bs.length) X9)[i]?=Z (Z c)->vR c=true->False:=λi c e d=>by
  have:=List.all_eq_true.mp l _ (Jn (get i _ e));cases c with
  |o ds=>cases this
  |m ds _=>cases this
  |_=>cases d
 refine⟨?_,λi b e=>?_,λi j c a b e d=>(f i c e d).elim,AV.refl H,λi c a e d=>(f i c e d).elim⟩
 ·unfold L2.start;simp[g]
 ·have e':=get i b e;have hi:i<bs.length:=(bc.mp e').1;have:∀{bs:O Bx} {vs:O V} {i:Nat} {b:Bx},AI (bJ K H) bs vs->bs[i]?=Z b->∃v,vs[i]?=Z v/\bJ K H b v:=by
   intro bs vs i b r
   induction r generalizing i with
   |nil=>intro e;simp at e
   |cons p t h=>
    intro e;cases i with
    |zero=>simp at e;subst e;exact⟨_,rfl,p⟩
    |succ i=>obtain⟨v,e1,e2⟩:=h (i:=i) (by simpa using e);exact⟨v,by simpa using e1,e2⟩
  obtain⟨v,e1,e2⟩:=this r e';refine⟨v,?_,e2⟩;unfold L2.start;rw[ZH (by simp;omega),Zp,e1];rfl
end
theorem aoz{f:A1}{k:Nat}{g:Ev->Y Ap}(F:Cc K x qual st f fd)(S:aW N ps (aJ st))(i:∀(c:A0) (A:A5) (outer:O Env) (s:A2) (H:Hp) (E:XK),iQ k (A.deeper (AK qual (aJ st) s.heap.objs.size f c))->CH (HX Fj P w K mg base N qual (aJ st) f c A outer s H E).nox (ji st) g):
  qt P w K mg base Fj (k+1) f fd ps (WK K ps.length (cL N.length g)):=by
 refine F.ok S (λvs H Q E h=>h.1) λc A outer s H vs Q E j h=>?_;obtain⟨o,bs,r,d,n,e,q⟩:=h;refine⟨_,i c A outer s H E j,?_⟩;obtain⟨a,er,e⟩:=AT e;refine⟨H,_,a,bV.start d n,er,?_⟩;cases a with
 |rt b=>cases e;exact λv H' s' l a=>q v H' s' l a
 |nx ρ=>cases e;exact λσ H' m=>q _ H' m.base trivial (by unfold bJ AW;rfl)
 |bk ρ=>cases e
 |ct ρ=>cases e
section
variable{k:Nat}{f:A1}{F:O Bx->Y Bx}{p:Pos}{fs:Ev->Y (O Bx)}
theorem JV{K:B6}{H:Hp}:∀{bs:O Bx} {vs:O V},uT K H bs vs->uT K H (bs.map lend) vs
 |_,_,.nil=>.nil
 |b::bs,_,.cons h t=>by
  refine .cons ?_ (JV t);cases b with
  |z d=>exact h
  |l ds=>exact h
  |o ds=>obtain⟨a,vs,e,q,r⟩:=h;exact⟨a,vs,e,.inl q,r⟩
  |n ds=>exact h
  |m ds _=>obtain⟨a,vs,e,q,r⟩:=h;exact⟨a,vs,e,.inl q,r.1⟩
theorem QS:∀bs:O Bx,(bs.map lend).all (λb=>!isO b)=true
 |[]=>rfl
 |b::bs=>by
  rw[zk,ll,QS bs];cases b<;>rfl
def bN(n:Nat)(F:O Bx->Y Bx)(fs:Ev->Y (O Bx)):Ev->Y Bx:=λρ=>(fs ρ).bind λbs=>if bs.length=n then F (bs.map lend)else X9
theorem XV(G:qt X.prog X.w X.K X.mg X.base Fj k f fd ps (WK X.K n F))(l:iQ k X.A)(j:Gl X x)(m:X.mg x=Z (.ref f))(hk:keepIn X.K (.ref f)=true)(u:BG X.K fd ps [])(a:Yz X (e::es) fs)(i:ad x:=by decide)(he:A9 (e::es) X.env=(false,eval e X.env)::A9 es X.env:=by rfl)(d:(AD pos (A9 es X.env)).any (·.1)=false:=by rfl):QV X (.Call (.Name x p) (e::es) [] pos) (bN n F fs):=⟨have a:=a.run;S8 (Yt G l j m hk u .nil (L4) a i he d) λσ H Q h=>by
 obtain⟨H0,ρ,r,E,e,q⟩:=h;obtain⟨bs,eb,e⟩:=AT e;refine⟨H0,ρ,bs,E,eb,λvs H1 c b=>?_⟩;split at e
 ·rename_i t;rw[qk];exact⟨by rw[<-Paired.length b];exact t,_,r,JV b,QS bs,e,λv H2 s o g=>q v H2 (c.trans s) (o.old c) g⟩
 ·cases e⟩
end
end P1
variable{d:P1.Dt}{q:P1.Ev->Y Bool}{F:O P1.Bx->Y P1.Bx}{G:A1->O (L2.AY×P1.Dt)->O P1.Bx->Y (O (L2.AY×P1.Dt))}{f:P1.Ev->Y P1.Bx}{g:P1.Ev->Y P1.Ap}{AO:O (L2.AY×P1.Dt)}{ds:O P1.Dt}{fa:P1.Ev->Y P1.Bx}{ρ:P1.Ev}{fb fc:P1.Ev->Y P1.Bx}{g1 g2:P1.Ev->Y P1.Ap}{gt:P1.Dt->P1.Ev->Y P1.Ev}{gb:P1.Ev->Y P1.Ap}{fi:P1.Ev->Y (O P1.Dt)}{fe:P1.Ev->Y P1.Bx}{Ac:A1->L2.Hp->O P1.Dt->L2.HO->Prop}{fk:P1.Dt->Y P1.Bx}{fo fv:P1.Ev->Y P1.Bx}{bt:P1.Dt->P1.Dt->Bool}{fr:P1.Ev->Y (O (AJ×P1.Dt))}{f1:P1.Ev->Y P1.Bx}{gx:P1.Ev->Y P1.Dt}{Eu:P1.Dt->Bool}{kf:O P1.Dt->Y (O (O L2.AY))}{dH:P1.Bx}
namespace P1
open L2 SeqAt
open AutoSeq1 (wpAny_loadPart')
def Mz(h:A6)(a:A1):Prop:=∃o ep,h.get? a=Z o/\o.ExactDict/\o.data=.dict #[] ep
section
variable{b:A1}
theorem CV{AO:O (AY×V)}{vs:O (AY×A0)}(q:AO=[])(r:KV AO vs)(d:h.DictOf (cH P w) a vs):Mz h a:=by
 subst q;cases r;obtain⟨o,es,ep,h1,h2,b,_,c,_⟩:=d;have:es=#[]:=by
  have:=c.length;apply Array.eq_empty_of_size_eq_zero;simpa using this
 subst this;exact⟨o,ep,h1,h2,b⟩
theorem Mz.dict(P:A3)(w:A4)(x:Mz h a):h.DictOf (strKind P w) a []:=by
 obtain⟨o,ep,h1,h2,c⟩:=x;exact⟨o,#[],ep,h1,h2,c,λe b=>by simp at b,.nil,List.nodup_nil⟩
theorem N3(c:(a==sysModules)=false)(g:(b==sysModules)=false)(e:Mz s.heap a)(f:Mz s.heap b)(d:A.units<cLine):RcAt A s (.ref a) (.ref b) true:=λprog w E Q h=>
 PySem.W.keq_eq (knd:=strKind prog w) c g (e.dict prog w) (f.dict prog w) d (λ_=>.nil) h
theorem wq(c:(a==sysModules)=false)(g:(b==sysModules)=false)(e:Mz s.heap a)(f:Mz s.heap b)(d:A.units<cLine):RcNeAt A s (.ref a) (.ref b) false:=λprog w E Q h=>
 PySem.W.keq_ne (r:=true) (knd:=strKind prog w) c g (e.dict prog w) (f.dict prog w) d (λ_=>.nil) h
theorem T4(o:AE)(b:AJ)(u:Tok):Meets (Builtin.«dict.__eq__» ⟨[.ref a,.str b u],[]⟩) (λ_ R s=>(s.heap.get? a=Z o/\o.cls=.type "dict")/\R (.ok (.ret .notImplemented)) s):=
 .of_wp λprog w A R s h=>by
  have c:s.TypeIs (.ref a) "dict":=⟨o,h.1.1,h.1.2⟩;show A7 _ _ (Builtin.Dict.dictSlotArgs "__eq__" ⟨[.ref a,.str b u],[]⟩ >>= _) _ _ s;refine zb ?_;unfold Builtin.Dict.dictSlotArgs;refine zb (wpAny_notOrdered_dict c ?_);show A7 _ _ (pure (Value.ref a,Value.str b u)) _ _ s;refine ze ?_;refine zb (KF (T :="str") (typeIs_str s b u) PySem.F.sub_str_dict ?_);simp only[y0,QQ];refine zb (QY ?_);exact ze ⟨_,rfl,h.2⟩
theorem T5(b:AJ)(u:Tok)(es:Array DictEntry)(ep:Nat)(e:Y A1)(sl:Array (Y A0)):Meets (Builtin.«str.__eq__» ⟨[.str b u,.ref a],[]⟩) (λ_ R s=>s.heap.get? a=Z { cls:=.type "dict",dict:=e,data:=.dict es ep,slots:=sl }/\R (.ok (.ret .notImplemented)) s):=
 .of_wp λprog w A R s h=>by obtain⟨hp,g,d,tk,os⟩:=s;obtain⟨c,h⟩:=h;wp_walk using wpAny_loadPart' c,wpAny_load c;exact⟨_,rfl,h⟩
theorem Oq(x:AJ)(t:Tok)(d:Mz s.heap a)(i:A.units<cLine):RcAt A s (.str x t) (.ref a) false:=λprog w E Q h=>by
 obtain⟨⟨l,g,j,sl⟩,ep,c,⟨f,hd,hs⟩,e⟩:=d;simp only at f e;subst f e;exact rc_eq_decline_or (k:=false) (typeIs_str s x t) ⟨_,c,rfl⟩ () PySem.F.sub_dict_str PySem.F.slot_str_eq PySem.F.slot_dict_eq_refl
  (λ_ b=>call_meets PySem.F.slot_str_eq (typeIs_str s x t) PySem.F.entry_str_eq (PySem.F.args_str_eq_2 _ _) (T5 x t #[] ep g sl) ⟨c,b⟩)
  (λ_ b=>call_meets PySem.F.slot_dict_eq_refl ⟨_,c,rfl⟩ PySem.F.entry_dict_eq (PySem.F.args_dict_eq_2 _ _) (T4 _ x t) ⟨⟨c,rfl⟩,b⟩)
  (λ_ b=>Y2 (rfl:isSame (.str x t) (.ref a)=pure false) b) (.inr i) h
theorem T6(o:AE)(b:AJ)(u:Tok):Meets (Builtin.«dict.__ne__» ⟨[.ref a,.str b u],[]⟩) (λ_ R s=>(s.heap.get? a=Z o/\o.cls=.type "dict")/\R (.ok (.ret .notImplemented)) s):=
 .of_wp λprog w A R s h=>by
  have c:s.TypeIs (.ref a) "dict":=⟨o,h.1.1,h.1.2⟩;show A7 _ _ (Builtin.Dict.dictSlotArgs "__ne__" ⟨[.ref a,.str b u],[]⟩ >>= _) _ _ s;refine zb ?_;unfold Builtin.Dict.dictSlotArgs;refine zb (wpAny_notOrdered_dict c ?_);show A7 _ _ (pure (Value.ref a,Value.str b u)) _ _ s;refine ze ?_;refine zb (KF (T :="str") (typeIs_str s b u) PySem.F.sub_str_dict ?_);simp only[y0,QQ];refine zb (QY ?_);exact ze ⟨_,rfl,h.2⟩
theorem T7(b:AJ)(u:Tok)(es:Array DictEntry)(ep:Nat)(e:Y A1)(sl:Array (Y A0)):Meets (Builtin.«str.__ne__» ⟨[.str b u,.ref a],[]⟩) (λ_ R s=>s.heap.get? a=Z { cls:=.type "dict",dict:=e,data:=.dict es ep,slots:=sl }/\R (.ok (.ret .notImplemented)) s):=
 .of_wp λprog w A R s h=>by obtain⟨hp,g,d,tk,os⟩:=s;obtain⟨c,h⟩:=h;wp_walk using wpAny_loadPart' c,wpAny_load c;exact⟨_,rfl,h⟩
theorem pS(x:AJ)(t:Tok)(d:Mz s.heap a)(i:A.units<cLine):RcNeAt A s (.str x t) (.ref a) true:=λprog w E Q h=>by
 obtain⟨⟨l,g,j,sl⟩,ep,c,⟨f,hd,hs⟩,e⟩:=d;simp only at f e;subst f e;exact rc_ne_decline_or (k:=false) (typeIs_str s x t) ⟨_,c,rfl⟩ () PySem.F.sub_dict_str PySem.F.slot_str_ne PySem.F.slot_dict_ne_refl
  (λ_ b=>call_meets PySem.F.slot_str_ne (typeIs_str s x t) PySem.F.entry_str_ne (PySem.F.args_str_ne_2 _ _) (T7 x t #[] ep g sl) ⟨c,b⟩)
  (λ_ b=>call_meets PySem.F.slot_dict_ne_refl ⟨_,c,rfl⟩ PySem.F.entry_dict_ne (PySem.F.args_dict_ne_2 _ _) (T6 _ x t) ⟨⟨c,rfl⟩,b⟩)
  (λ_ b=>Y2 (rfl:isSame (.str x t) (.ref a)=pure false) b) (.inr i) h
theorem sj(x:AJ)(t:Tok)(d:Mz s.heap a)(b:A.units<cLine):EqAt A s (.str x t) (.ref a) false:=λprog w E Q h=>by
 unfold eqBool;refine Z3 ?_;refine wpAny_ite_split (λc=>absurd (eq_of_beq c) nofun) (λ_=>?_);exact zb (Oq x t d b prog w E _ (ky h))
end
mutual
def Cr:Dt->Nat
 |.tup xs=>CW xs+1
 |.lst xs=>CW xs+1
 |_=>1
def CW:O Dt->Nat
 |[]=>0
 |d::ds=>max (Cr d) (CW ds)
end
mutual
def Ot:Dt->Dt->Y Bool
 |.non,.non=>Z true
 |.non,.bl _=>Z false|.non,.int _=>Z false|.non,.str _=>Z false|.non,.tup _=>Z false|.non,.lst _=>Z false
 |.bl a,.bl b=>Z (a==b)
 |.bl a,.int b=>Z ((if a then 1 else 0)==b)
 |.bl _,.non=>Z false|.bl _,.str _=>Z false|.bl _,.tup _=>Z false|.bl _,.lst _=>Z false
 |.int a,.int b=>Z (a==b)
 |.int a,.bl b=>Z (a==(if b then 1 else 0))
 |.int _,.non=>Z false|.int _,.str _=>Z false|.int _,.tup _=>Z false|.int _,.lst _=>Z false
 |.str a,.str b=>Z (a==b)
 |.str _,.non=>Z false|.str _,.bl _=>Z false|.str _,.int _=>Z false|.str _,.tup _=>Z false|.str _,.lst _=>Z false|.str _,.emp=>Z false
 |.tup xs,.tup ys=>nQ xs ys
 |.tup _,.non=>Z false|.tup _,.bl _=>Z false|.tup _,.int _=>Z false|.tup _,.str _=>Z false|.tup _,.lst _=>Z false
 |.lst xs,.lst ys=>nQ xs ys
 |.emp,.emp=>Z true
 |.lst _,.non=>Z false|.lst _,.bl _=>Z false|.lst _,.int _=>Z false|.lst _,.str _=>Z false|.lst _,.tup _=>Z false
 |_,_=>X9
def nQ:O Dt->O Dt->Y Bool
 |[],[]=>Z true
 |[],_::_=>Z false
 |_::_,[]=>Z false
 |x::xs,y::ys=>match Ot x y with
  |some b=>match nQ xs ys with
   |some c=>Z (b&&c)
   |none=>X9
  |none=>X9
end
mutual
theorem T8:∀{d:Dt} {k:Bool},Ot d d=Z k->k=true
 |.non,_,e=>by cases e;rfl
 |.bl b,_,e=>by cases e;simp
 |.int b,_,e=>by cases e;simp
 |.str b,_,e=>by cases e;simp
 |.tup xs,_,e=>Fw (ds:=xs) e
 |.lst xs,_,e=>Fw (ds:=xs) e
 |.emp,_,e=>by cases e;rfl
theorem Fw:∀{ds:O Dt} {k:Bool},nQ ds ds=Z k->k=true
 |[],_,e=>by simp only[nQ]at e;cases e;rfl
 |d::ds,_,e=>by
  simp only[nQ]at e;cases h:Ot d d with
  |none=>rw[h]at e;cases e
  |some b=>
   rw[h]at e;simp only at e;cases h2:nQ ds ds with
   |none=>rw[h2]at e;cases e
   |some c=>
    rw[h2]at e;cases e;rw[T8 h,Fw h2];rfl
end
theorem Jb(xs ys:O Dt):Ot (.tup xs) (.tup ys)=nQ xs ys:=rfl
theorem yJ:∀{xs ys:O Dt} {k:Bool},nQ xs ys=Z k->∃e:Nat->Bool,(∀(j:Nat) x y,xs[j]?=Z x->ys[j]?=Z y->Ot x y=Z (e j))/\k=((dg (min xs.length ys.length)).all e&&xs.length==ys.length)
 |[],[],k,h=>by simp only[nQ]at h;cases h;exact⟨λ_=>true,λj x y e=>by simp at e,by simp⟩
 |[],y::ys,k,h=>by simp only[nQ]at h;cases h;exact⟨λ_=>true,λj x y e=>by simp at e,by simp⟩
 |x::xs,[],k,h=>by simp only[nQ]at h;cases h;exact⟨λ_=>true,λj x y _ e=>by simp at e,by simp⟩
 |x::xs,y::ys,k,h=>by
  simp only[nQ]at h;cases h1:Ot x y with
  |none=>rw[h1]at h;cases h
  |some b=>
   rw[h1]at h;simp only at h;cases h2:nQ xs ys with
   |none=>rw[h2]at h;cases h
   |some c=>
    rw[h2]at h;cases h;obtain⟨e,g,d⟩:=yJ h2;refine⟨λj=>match j with|0=>b|j+1=>e j,λj u v a ev=>?_,?_⟩
    ·cases j with
     |zero=>simp at a ev;subst a ev;exact h1
     |succ j=>exact g j u v (by simpa using a) (by simpa using ev)
    ·have:min (x::xs).length (y::ys).length=min xs.length ys.length+1:=by simp only[ZO];omega
     rw[this,jX,ll,List.all_map,d];have f:((x::xs).length==(y::ys).length)=(xs.length==ys.length):=by
      rw[Bool.eq_iff_iff];simp
     rw[f,Bool.and_assoc];rfl
theorem yK:∀{ds:O Dt} {j:Nat} {d:Dt},ds[j]?=Z d->Cr d<=CW ds
 |[],_,_,e=>by simp at e
 |d::ds,0,_,e=>by simp at e;subst e;simp only[CW];exact Nat.le_max_left _ _
 |d::ds,j+1,_,e=>by
  simp only[CW];exact zt (yK (ds:=ds) (j:=j) (by simpa using e)) (xB _ _)
theorem Jc(I:L2.AU X AN σ H s)(h:yw X.K H a vs):∃b,s.heap.get? a=Z b/\b.cls=.type "tuple":=by
 obtain⟨AQ,_,⟨b,e,c,_⟩,_⟩:=I.tuple h;exact⟨b,e,c⟩
theorem Jd(I:L2.AU X AN σ H s)(h:su X.K H a vs):∃b,s.heap.get? a=Z b/\b.cls=.type "list":=by
 obtain⟨AQ,_,⟨b,n,e,c,_⟩,_⟩:=I.list h;exact⟨b,e,c⟩
theorem Je(I:L2.AU X AN σ H s){o:AE}(h:H a=Z (.jl o (.dK []))):∃b,s.heap.get? a=Z b/\b.cls=.type "dict":=by
 obtain⟨e,_,_,vs,_,b,es,ep,e2,ex,_⟩:=I.hok a _ h;exact⟨b,e2,ex.1⟩
theorem Fy{n m:String}(h:∃b,s.heap.get? a=Z b/\b.cls=.type n)(q:∃b,s.heap.get? a=Z b/\b.cls=.type m)(d:n≠m):False:=by
 obtain⟨o,e,c⟩:=h;obtain⟨o',e',c'⟩:=q;rw[e]at e';cases e';rw[c]at c';exact d (by injection c')
mutual
theorem AW.inj(I:L2.AU X AN σ H s):∀{d e:Dt} {v:V},AW X.K H d v->AW X.K H e v->d=e
 |.non,e,v,h,q=>by
  simp only[AW]at h;subst h;cases e<;>simp only[AW]at q<;>first|rfl|(cases q;done)|(obtain⟨a,b,z,_⟩:=q;cases z;done)|(obtain⟨z,_⟩:=q;cases z;done)
 |.bl _,e,v,h,q=>by
  simp only[AW]at h;subst h;cases e<;>simp only[AW]at q<;>first|(cases q;rfl)|(cases q;done)|(obtain⟨a,b,z,_⟩:=q;cases z;done)|(obtain⟨z,_⟩:=q;cases z;done)
 |.int _,e,v,h,q=>by
  simp only[AW]at h;subst h;cases e<;>simp only[AW]at q<;>first|(cases q;rfl)|(cases q;done)|(obtain⟨a,b,z,_⟩:=q;cases z;done)|(obtain⟨z,_⟩:=q;cases z;done)
 |.str x,e,v,h,q=>by
  simp only[AW]at h;have hv:v=.str x:=h.1;subst hv;cases e with
  |str y=>
   simp only[AW]at q;have z:V.str x=V.str y:=q.1;injection z with z;rw[z]
  |tup es=>simp only[AW]at q;obtain⟨a,b,z,_⟩:=q;cases z
  |lst es=>simp only[AW]at q;obtain⟨a,b,z,_⟩:=q;cases z
  |emp=>simp only[AW]at q;obtain⟨a,b,z,_⟩:=q;cases z
  |_=>simp only[AW]at q;cases q
 |.tup ds,e,v,h,q=>by
  simp only[AW]at h;obtain⟨a,vs,rfl,sq,r⟩:=h;cases e with
  |tup es=>
   simp only[AW]at q;obtain⟨b,us,z,c,f⟩:=q;cases z;have:=I.Ey sq c;subst this;rw[aO.inj I r f]
  |lst es=>
   simp only[AW]at q;obtain⟨b,us,z,c,f⟩:=q;cases z;exact(Fy (Jc I sq) (Jd I c.sq) ()).elim
  |emp=>
   simp only[AW]at q;obtain⟨b,o,z,c⟩:=q;cases z;exact(Fy (Jc I sq) (Je I c) ()).elim
  |str x=>simp only[AW]at q;have z:=q.1;cases z
  |_=>simp only[AW]at q;cases q
 |.lst ds,e,v,h,q=>by
  simp only[AW]at h;obtain⟨a,vs,rfl,sq,r⟩:=h;cases e with
  |lst es=>
   simp only[AW]at q;obtain⟨b,us,z,c,f⟩:=q;cases z;have:=I.Jy sq.sq c.sq;subst this;rw[aO.inj I r f]
  |tup es=>
   simp only[AW]at q;obtain⟨b,us,z,c,f⟩:=q;cases z;exact(Fy (Jd I sq.sq) (Jc I c) ()).elim
  |emp=>
   simp only[AW]at q;obtain⟨b,o,z,c⟩:=q;cases z;exact(Fy (Jd I sq.sq) (Je I c) ()).elim
  |str x=>simp only[AW]at q;have z:=q.1;cases z
  |_=>simp only[AW]at q;cases q
 |.emp,e,v,h,q=>by
  simp only[AW]at h;obtain⟨a,o,rfl,sq⟩:=h;cases e with
  |emp=>rfl
  |tup es=>
   simp only[AW]at q;obtain⟨b,us,z,c,f⟩:=q;cases z;exact(Fy (Je I sq) (Jc I c) ()).elim
  |lst es=>
   simp only[AW]at q;obtain⟨b,us,z,c,f⟩:=q;cases z;exact(Fy (Je I sq) (Jd I c.sq) ()).elim
  |str x=>simp only[AW]at q;have z:=q.1;cases z
  |_=>simp only[AW]at q;cases q
theorem aO.inj(I:L2.AU X AN σ H s):∀{ds es:O Dt} {vs:O V},aO X.K H ds vs->aO X.K H es vs->ds=es
 |[],es,vs,h,q=>by
  simp only[aO]at h;subst h;cases es with
  |nil=>rfl
  |cons e es=>simp only[aO]at q;obtain⟨_,_,z,_⟩:=q;cases z
 |d::ds,es,vs,h,q=>by
  simp only[aO]at h;obtain⟨v,r,rfl,h1,h2⟩:=h;cases es with
  |nil=>simp only[aO]at q;cases q
  |cons e es=>
   simp only[aO]at q;obtain⟨a,b,z,q1,q2⟩:=q;cases z;rw[AW.inj I h1 q1,aO.inj I h2 q2]
end
theorem UR(I:L2.AU X AN σ H s):∀(n:Nat) {A:A5} {d e:Dt} {x y:V} {u v:A0} {k:Bool},min (Cr d) (Cr e)<=n->A.units+n<cLine->AW X.K H d x->AW X.K H e y->Au x u->Au y v->Ot d e=Z k->EqAt A s u v k:=by
 intro n
 induction n with
 |zero=>
  intro A d e x y u v k Q;have h1:1<=Cr d:=by cases d<;>simp only[Cr]<;>omega
  have h2:1<=Cr e:=by cases e<;>simp only[Cr]<;>omega
  omega
 |succ n ih=>
  intro A d e x y u v k Q hA m c w g ek;have h:A.units<cLine:=by omega
  by_cases L:u=v/\∃a,u=.ref a
  ·obtain⟨rfl,a,rfl⟩:=L;have hx:x=.ref a:=by have:=w.abs;simpa[IL]using this.symm
   have hy:y=.ref a:=by have:=g.abs;simpa[IL]using this.symm
   subst hx hy;have:=AW.inj I m c;subst this;rw[T8 ek];exact EqAt.same _
  ·have items:∀{ds es:O Dt} {vs us:O V} {AQ l:O A0} {f:Nat->Bool},min (CW ds) (CW es)<=n->aO X.K H ds vs->aO X.K H es us->AX vs AQ->AX us l->(∀(j:Nat) x y,ds[j]?=Z x->es[j]?=Z y->Ot x y=Z (f j)) →
     ∀j (h1:j<AQ.toArray.size) (h2:j<l.toArray.size),EqAt A.in1 s AQ.toArray[j] l.toArray[j] (f j):=by
    intro ds es vs us AQ l f hm r1 U w1 W E j h1 h2;have l1:=w1.length;have l2:=W.length;have l3:=r1.length;have l4:=U.length;have j1:j<AQ.length:=by simpa using h1
    have j2:j<l.length:=by simpa using h2
    have P:ds[j]?=Z ds[j]:=by simp
    have d2:es[j]?=Z es[j]:=by simp
    obtain⟨a,ea,C⟩:=r1.get P;obtain⟨b,eb,B⟩:=U.get d2;obtain⟨p,ep,rp⟩:=w1.get ea;obtain⟨q,eq,rq⟩:=W.get eb;have e1:AQ.toArray[j]=p:=by simpa[j1]using ep
    have e2:l.toArray[j]=q:=by simpa[j2]using eq
    rw[e1,e2];have m1:=yK P;have m2:=yK d2;exact ih () (by rw[units_in1];omega) C B rp rq (E j _ _ P d2)
   cases d with
   |non=>
    cases m;cases w;cases e with
    |non=>cases c;cases g;cases ek;exact EqAt.same _
    |bl b=>cases c;cases g;cases ek;exact EqAt.none_bool b
    |int b=>cases c;obtain⟨t,rfl⟩:=g;cases ek;exact EqAt.none_int b t
    |str b=>obtain⟨rfl,_⟩:=c;obtain⟨t,rfl⟩:=g;cases ek;exact EqAt.none_str b t
    |tup es=>obtain⟨b,us,rfl,sq,_⟩:=c;cases g;cases ek;obtain⟨_,_,p,_⟩:=I.tuple sq;exact EqAt.none_tuple p h
    |lst es=>obtain⟨b,us,rfl,sq,_⟩:=c;cases g;cases ek;obtain⟨_,_,p,_⟩:=I.list sq.sq;exact EqAt.none_list p.isList h
    |emp=>cases ek
   |bl a=>
    cases m;cases w;cases e with
    |non=>cases c;cases g;cases ek;exact EqAt.bool_none a
    |bl b=>cases c;cases g;cases ek;exact EqAt.bool_bool a b
    |int b=>cases c;obtain⟨t,rfl⟩:=g;cases ek;exact EqAt.bool_int a b t
    |str b=>obtain⟨rfl,_⟩:=c;obtain⟨t,rfl⟩:=g;cases ek;exact EqAt.bool_str a b t
    |tup es=>obtain⟨b,us,rfl,sq,_⟩:=c;cases g;cases ek;obtain⟨_,_,p,_⟩:=I.tuple sq;exact EqAt.bool_tuple a p h
    |lst es=>obtain⟨b,us,rfl,sq,_⟩:=c;cases g;cases ek;obtain⟨_,_,p,_⟩:=I.list sq.sq;exact EqAt.bool_list a p.isList h
    |emp=>cases ek
   |int a=>
    cases m;obtain⟨i,rfl⟩:=w;cases e with
    |non=>cases c;cases g;cases ek;exact EqAt.int_none a i
    |bl b=>cases c;cases g;cases ek;exact EqAt.int_bool a i b
    |int b=>cases c;obtain⟨t,rfl⟩:=g;cases ek;exact EqAt.int_int a i b t
    |str b=>obtain⟨rfl,_⟩:=c;obtain⟨t,rfl⟩:=g;cases ek;exact EqAt.int_str a i b t
    |tup es=>obtain⟨b,us,rfl,sq,_⟩:=c;cases g;cases ek;obtain⟨_,_,p,_⟩:=I.tuple sq;exact EqAt.int_tuple a i p h
    |lst es=>obtain⟨b,us,rfl,sq,_⟩:=c;cases g;cases ek;obtain⟨_,_,p,_⟩:=I.list sq.sq;exact EqAt.int_list a i p.isList h
    |emp=>cases ek
   |str a=>
    obtain⟨rfl,_⟩:=m;obtain⟨i,rfl⟩:=w;cases e with
    |non=>cases c;cases g;cases ek;exact EqAt.str_none a i
    |bl b=>cases c;cases g;cases ek;exact EqAt.str_bool a i b
    |int b=>cases c;obtain⟨t,rfl⟩:=g;cases ek;exact EqAt.str_int a i b t
    |str b=>obtain⟨rfl,_⟩:=c;obtain⟨t,rfl⟩:=g;cases ek;exact EqAt.str_str a i b t
    |tup es=>obtain⟨b,us,rfl,sq,_⟩:=c;cases g;cases ek;obtain⟨_,_,p,_⟩:=I.tuple sq;exact EqAt.str_tuple a i p h
    |lst es=>obtain⟨b,us,rfl,sq,_⟩:=c;cases g;cases ek;obtain⟨_,_,p,_⟩:=I.list sq.sq;exact EqAt.str_list a i p.isList h
    |emp=>
     simp only[AW]at c;obtain⟨p,o,rfl,e⟩:=c;cases g;cases ek;obtain⟨_,_,vs,r,q⟩:=qY I.hok (.inr ⟨o,e⟩);exact sj a i (CV X2 r q) h
   |tup ds=>
    obtain⟨a,vs,rfl,N,C⟩:=m;cases w;obtain⟨AQ,F,p,_⟩:=I.tuple N;cases e with
    |non=>cases c;cases g;cases ek;exact EqAt.tuple_none p h
    |bl b=>cases c;cases g;cases ek;exact EqAt.tuple_bool b p h
    |int b=>cases c;obtain⟨t,rfl⟩:=g;cases ek;exact EqAt.tuple_int b t p h
    |str b=>obtain⟨rfl,_⟩:=c;obtain⟨t,rfl⟩:=g;cases ek;exact EqAt.tuple_str b t p h
    |lst es=>obtain⟨b,us,rfl,sq,_⟩:=c;cases g;cases ek;obtain⟨_,_,p2,_⟩:=I.list sq.sq;exact EqAt.tuple_list p p2.isList h
    |tup es=>
     obtain⟨b,us,rfl,M,B⟩:=c;cases g;obtain⟨l,D,p2,_⟩:=I.tuple M;change nQ _ _=Z _ at ek;obtain⟨f,E,rfl⟩:=yJ ek;have J:a≠b:=λz=>L ⟨by rw[z],a,rfl⟩;have z:=EqAt.of_refs J (RcAt.tuples (A:=A) (e:=f) p p2 h (items (by simp only[Cr]at Q;omega) C B F D E));have q1:AQ.toArray.size=ds.length:=by rw[zr,<-F.length,C.length]
     have q2:l.toArray.size=es.length:=by rw[zr,<-D.length,B.length]
     rw[q1,q2]at z;exact z
    |emp=>cases ek
   |lst ds=>
    obtain⟨a,vs,rfl,N,C⟩:=m;cases w;obtain⟨AQ,F,p,_⟩:=I.list N.sq;cases e with
    |non=>cases c;cases g;cases ek;exact EqAt.list_none p.isList h
    |bl b=>cases c;cases g;cases ek;exact EqAt.list_bool b p.isList h
    |int b=>cases c;obtain⟨t,rfl⟩:=g;cases ek;exact EqAt.list_int b t p.isList h
    |str b=>obtain⟨rfl,_⟩:=c;obtain⟨t,rfl⟩:=g;cases ek;exact EqAt.list_str b t p.isList h
    |tup es=>obtain⟨b,us,rfl,sq,_⟩:=c;cases g;cases ek;obtain⟨_,_,p2,_⟩:=I.tuple sq;exact EqAt.list_tuple p.isList p2 h
    |lst es=>
     obtain⟨b,us,rfl,M,B⟩:=c;cases g;obtain⟨l,D,p2,_⟩:=I.list M.sq;change nQ _ _=Z _ at ek;obtain⟨f,E,rfl⟩:=yJ ek;have J:a≠b:=λz=>L ⟨by rw[z],a,rfl⟩;have q1:AQ.toArray.size=ds.length:=by rw[zr,<-F.length,C.length]
     have q2:l.toArray.size=es.length:=by rw[zr,<-D.length,B.length]
     by_cases S:AQ.toArray.size=l.toArray.size
     ·have z:=EqAt.of_refs J (RcAt.lists (A:=A) (e:=f) p.isList p2.isList S h (items (by simp only[Cr]at Q;omega) C B F D E));have G:ds.length=es.length:=by omega
      rw[q1]at z;rw[G,hU,beq_self_eq_true,Y1,<-G];exact z
     ·have G:(ds.length==es.length)=false:=by rw[beq_eq_false_iff_ne];omega
      rw[G,Bool.and_false];exact EqAt.of_refs J (RcAt.lists_lengths p.isList p2.isList (by simpa using S) h)
    |emp=>cases ek
   |emp=>
    cases e<;>first|(cases ek;done)|skip;simp only[AW]at m c;obtain⟨a,o,rfl,e1⟩:=m;obtain⟨b,o',rfl,e2⟩:=c;cases w;cases g;cases ek;obtain⟨_,m1,vs,r,q⟩:=qY I.hok (.inr ⟨o,e1⟩);obtain⟨_,m2,a3,r',q'⟩:=qY I.hok (.inr ⟨o',e2⟩);exact EqAt.of_refs (λz=>L ⟨by rw[z],a,rfl⟩) (N3 m1 m2 (CV X2 r q) (CV X2 r' q') h)
theorem Ua(I:L2.AU X AN σ H s){es:O Dt}{us:O V}{c:O A0}{f:Nat->Bool}(B:min (CW ds) (CW es)<=n)(D:A.units+n+1<cLine)(i:aO X.K H ds vs)(e:aO X.K H es us)(h:AX vs AQ)(g:AX us c)(v:∀(j:Nat) x y,ds[j]?=Z x->es[j]?=Z y->Ot x y=Z (f j)):∀j (h1:j<AQ.toArray.size) (h2:j<c.toArray.size),EqAt A.in1 s AQ.toArray[j] c.toArray[j] (f j):=by
 intro j h1 h2;have C:=h.length;have E:=g.length;have J:=i.length;have F:=e.length;have u:j<AQ.length:=by simpa using h1
 have z:j<c.length:=by simpa using h2
 have d:ds[j]?=Z (ds[j]'()):=by simp
 have d2:es[j]?=Z (es[j]'()):=by simp
 obtain⟨a,ea,w⟩:=i.get d;obtain⟨b,eb,m⟩:=e.get d2;obtain⟨p,ep,o⟩:=h.get ea;obtain⟨q,l,t⟩:=g.get eb;have e1:AQ.toArray[j]=p:=by simpa[u]using ep
 have e2:c.toArray[j]=q:=by simpa[z]using l
 rw[e1,e2];have G:=yK d;have m2:=yK d2;exact UR I n () (by rw[units_in1];omega) w m o t (v j _ _ d d2)
def FS(K:B6)(H:Hp):Dt->V->Prop
 |.lst ds,v=>∃a vs,v=.ref a/\su K H a vs/\aO K H ds vs
 |d,v=>AW K H d v
def vV:Bx->Bool
 |.n _=>true
 |.m _ _=>true
 |_=>false
def toD:Bx->Dt
 |.z d=>d
 |.l ds=>.lst ds
 |.o ds=>.lst ds
 |.n _=>.non
 |.m _ _=>.non
theorem bJ.toD{b:Bx}(h:bJ K H b v)(a:vV b=false):FS K H (toD b) v:=by
 cases b with
 |z d=>
  cases d with
  |lst ds=>exact h.Ib rfl
  |_=>exact h
 |l ds=>exact h.Ib rfl
 |o ds=>exact h.Ib rfl
 |n _=>cases a
 |m _ _=>cases a
theorem YH(I:L2.AU X AN σ H s){e:Dt}{x y:V}{v:A0}{k:Bool}(M:min (Cr d) (Cr e)<=100)(U:X.A.units+100<cLine)(z:FS X.K H d x)(h:FS X.K H e y)(B:Au x u)(i:Au y v)(ek:Ot d e=Z k):RcAt X.A s u v k/\RcNeAt X.A s u v (!k):=by
 have g:X.A.units<cLine:=by omega
 cases d with
 |non=>
  cases z;cases B;cases e with
  |non=>
   cases h;cases i;cases ek;exact⟨.none_none,.none_none⟩
  |bl c=>
   cases h;cases i;cases ek;exact⟨.none_bool c,.none_bool c⟩
  |int c=>
   cases h;obtain⟨t2,rfl⟩:=i;cases ek;exact⟨.none_int c t2,.none_int c t2⟩
  |str c=>
   obtain⟨rfl,_⟩:=h;obtain⟨t2,rfl⟩:=i;cases ek;exact⟨.none_str c t2,.none_str c t2⟩
  |tup c=>
   obtain⟨a2,w,rfl,j,m⟩:=h;cases i;obtain⟨t,l,p2,_⟩:=I.tuple j;cases ek;exact⟨.none_tuple p2 g,.none_tuple p2 g⟩
  |lst c=>
   obtain⟨a2,w,rfl,j,m⟩:=h;cases i;obtain⟨t,l,p2,_⟩:=I.list j;cases ek;exact⟨.none_list p2.isList g,.none_list p2.isList g⟩
  |emp=>cases ek
 |bl x1=>
  cases z;cases B;cases e with
  |non=>
   cases h;cases i;cases ek;exact⟨.bool_none x1,.bool_none x1⟩
  |bl c=>
   cases h;cases i;cases ek;exact⟨.bool_bool x1 c,.bool_bool x1 c⟩
  |int c=>
   cases h;obtain⟨t2,rfl⟩:=i;cases ek;exact⟨.bool_int x1 c t2,.bool_int x1 c t2⟩
  |str c=>
   obtain⟨rfl,_⟩:=h;obtain⟨t2,rfl⟩:=i;cases ek;exact⟨.bool_str x1 c t2,.bool_str x1 c t2⟩
  |tup c=>
   obtain⟨a2,w,rfl,j,m⟩:=h;cases i;obtain⟨t,l,p2,_⟩:=I.tuple j;cases ek;exact⟨.bool_tuple x1 p2 g,.bool_tuple x1 p2 g⟩
  |lst c=>
   obtain⟨a2,w,rfl,j,m⟩:=h;cases i;obtain⟨t,l,p2,_⟩:=I.list j;cases ek;exact⟨.bool_list x1 p2.isList g,.bool_list x1 p2.isList g⟩
  |emp=>cases ek
 |int x1=>
  cases z;obtain⟨t1,rfl⟩:=B;cases e with
  |non=>
   cases h;cases i;cases ek;exact⟨.int_none x1 t1,.int_none x1 t1⟩
  |bl c=>
   cases h;cases i;cases ek;exact⟨.int_bool x1 t1 c,.int_bool x1 t1 c⟩
  |int c=>
   cases h;obtain⟨t2,rfl⟩:=i;cases ek;exact⟨.int_int x1 t1 c t2,.int_int x1 t1 c t2⟩
  |str c=>
   obtain⟨rfl,_⟩:=h;obtain⟨t2,rfl⟩:=i;cases ek;exact⟨.int_str x1 t1 c t2,.int_str x1 t1 c t2⟩
  |tup c=>
   obtain⟨a2,w,rfl,j,m⟩:=h;cases i;obtain⟨t,l,p2,_⟩:=I.tuple j;cases ek;exact⟨.int_tuple x1 t1 p2 g,.int_tuple x1 t1 p2 g⟩
  |lst c=>
   obtain⟨a2,w,rfl,j,m⟩:=h;cases i;obtain⟨t,l,p2,_⟩:=I.list j;cases ek;exact⟨.int_list x1 t1 p2.isList g,.int_list x1 t1 p2.isList g⟩
  |emp=>cases ek
 |str x1=>
  obtain⟨rfl,_⟩:=z;obtain⟨t1,rfl⟩:=B;cases e with
  |non=>
   cases h;cases i;cases ek;exact⟨.str_none x1 t1,.str_none x1 t1⟩
  |bl c=>
   cases h;cases i;cases ek;exact⟨.str_bool x1 t1 c,.str_bool x1 t1 c⟩
  |int c=>
   cases h;obtain⟨t2,rfl⟩:=i;cases ek;exact⟨.str_int x1 t1 c t2,.str_int x1 t1 c t2⟩
  |str c=>
   obtain⟨rfl,_⟩:=h;obtain⟨t2,rfl⟩:=i;cases ek;exact⟨.str_str x1 t1 c t2,.str_str x1 t1 c t2⟩
  |tup c=>
   obtain⟨a2,w,rfl,j,m⟩:=h;cases i;obtain⟨t,l,p2,_⟩:=I.tuple j;cases ek;exact⟨.str_tuple x1 t1 p2 g,.str_tuple x1 t1 p2 g⟩
  |lst c=>
   obtain⟨a2,w,rfl,j,m⟩:=h;cases i;obtain⟨t,l,p2,_⟩:=I.list j;cases ek;exact⟨.str_list x1 t1 p2.isList g,.str_list x1 t1 p2.isList g⟩
  |emp=>
   simp only[FS,AW]at h;obtain⟨p,o,rfl,e⟩:=h;cases i;cases ek;obtain⟨_,_,vs,r,q⟩:=qY I.hok (.inr ⟨o,e⟩);exact⟨Oq x1 t1 (CV X2 r q) g,pS x1 t1 (CV X2 r q) g⟩
 |tup x1=>
  obtain⟨a1,S,rfl,J,C⟩:=z;cases B;obtain⟨G,D,p1,_⟩:=I.tuple J;cases e with
  |non=>
   cases h;cases i;cases ek;exact⟨.tuple_none p1 g,.tuple_none p1 g⟩
  |bl c=>
   cases h;cases i;cases ek;exact⟨.tuple_bool c p1 g,.tuple_bool c p1 g⟩
  |int c=>
   cases h;obtain⟨t2,rfl⟩:=i;cases ek;exact⟨.tuple_int c t2 p1 g,.tuple_int c t2 p1 g⟩
  |str c=>
   obtain⟨rfl,_⟩:=h;obtain⟨t2,rfl⟩:=i;cases ek;exact⟨.tuple_str c t2 p1 g,.tuple_str c t2 p1 g⟩
  |tup c=>
   obtain⟨a2,w,rfl,j,m⟩:=h;cases i;obtain⟨t,l,p2,_⟩:=I.tuple j;change nQ _ _=Z _ at ek;obtain⟨f,L,rfl⟩:=yJ ek;have q1:G.toArray.size=x1.length:=by rw[zr,<-D.length,C.length]
   have q2:t.toArray.size=c.length:=by rw[zr,<-l.length,m.length]
   have it:=Ua I (n:=99) (A:=X.A) (by simp only[Cr]at M;omega) () C m D l L;rw[<-q1,<-q2];exact⟨.tuples p1 p2 g it,.tuples p1 p2 g it⟩
  |lst c=>
   obtain⟨a2,w,rfl,j,m⟩:=h;cases i;obtain⟨t,l,p2,_⟩:=I.list j;cases ek;exact⟨.tuple_list p1 p2.isList g,.tuple_list p1 p2.isList g⟩
  |emp=>cases ek
 |lst x1=>
  obtain⟨a1,S,rfl,J,C⟩:=z;cases B;obtain⟨G,D,p1,_⟩:=I.list J;cases e with
  |non=>
   cases h;cases i;cases ek;exact⟨.list_none p1.isList g,.list_none p1.isList g⟩
  |bl c=>
   cases h;cases i;cases ek;exact⟨.list_bool c p1.isList g,.list_bool c p1.isList g⟩
  |int c=>
   cases h;obtain⟨t2,rfl⟩:=i;cases ek;exact⟨.list_int c t2 p1.isList g,.list_int c t2 p1.isList g⟩
  |str c=>
   obtain⟨rfl,_⟩:=h;obtain⟨t2,rfl⟩:=i;cases ek;exact⟨.list_str c t2 p1.isList g,.list_str c t2 p1.isList g⟩
  |tup c=>
   obtain⟨a2,w,rfl,j,m⟩:=h;cases i;obtain⟨t,l,p2,_⟩:=I.tuple j;cases ek;exact⟨.list_tuple p1.isList p2 g,.list_tuple p1.isList p2 g⟩
  |lst c=>
   obtain⟨a2,w,rfl,j,m⟩:=h;cases i;obtain⟨t,l,p2,_⟩:=I.list j;change nQ _ _=Z _ at ek;obtain⟨f,L,rfl⟩:=yJ ek;have q1:G.toArray.size=x1.length:=by rw[zr,<-D.length,C.length]
   have q2:t.toArray.size=c.length:=by rw[zr,<-l.length,m.length]
   have it:=Ua I (n:=99) (A:=X.A) (by simp only[Cr]at M;omega) () C m D l L;by_cases E:G.toArray.size=t.toArray.size
   ·have F:x1.length=c.length:=by omega
    rw[F,hU,beq_self_eq_true,Y1,<-F,<-q1];exact⟨.lists p1.isList p2.isList E g it,.lists p1.isList p2.isList E g it⟩
   ·have F:(x1.length==c.length)=false:=by rw[beq_eq_false_iff_ne];omega
    rw[F,Bool.and_false];exact⟨.lists_lengths p1.isList p2.isList (by simpa using E) g,.lists_lengths p1.isList p2.isList (by simpa using E) g⟩
  |emp=>cases ek
 |emp=>
  cases e<;>first|(cases ek;done)|skip;simp only[FS,AW]at z h;obtain⟨a,o,rfl,e1⟩:=z;obtain⟨b,o',rfl,e2⟩:=h;cases B;cases i;cases ek;obtain⟨_,P,vs,r,q⟩:=qY I.hok (.inr ⟨o,e1⟩);obtain⟨_,m2,W,N,Q⟩:=qY I.hok (.inr ⟨o',e2⟩);exact⟨N3 P m2 (CV X2 r q) (CV X2 N Q) g,wq P m2 (CV X2 r q) (CV X2 N Q) g⟩
def BE(a b:Bx):Y Bx:=if vV a=true\/vV b=true then X9 else if min (Cr (toD a)) (Cr (toD b))<=100 then(Ot (toD a) (toD b)).bind λk=>Z (.z (.bl k))else X9
def WM(a b:Bx):Y Bx:=if vV a=true\/vV b=true then X9 else if min (Cr (toD a)) (Cr (toD b))<=100 then(Ot (toD a) (toD b)).bind λk=>Z (.z (.bl (!k)))else X9
theorem of_eq(j:X.A.units+100<cLine):S9 X (AG .Eq) BE:=by
 intro AN s σ H x y v u Q I n l h;obtain⟨a,b,c,g,f,e,q⟩:=h;unfold BE at e;split at e
 ·cases e
 rename_i d;have i:vV a=false:=by cases h:vV a with|false=>rfl|true=>exact absurd (.inl h) d
 have o:vV b=false:=by cases h:vV b with|false=>rfl|true=>exact absurd (.inr h) d
 split at e
 ·rename_i m;obtain⟨k,ek,e⟩:=AT e;cases e;exact(YH I m j (g.toD i) (f.toD o) n l ek).1 X.prog X.w X.xe _ ⟨.bl k,H,I,rfl,q _ H (AV.refl H) trivial (by unfold bJ AW;rfl)⟩
 ·cases e
theorem JW(j:X.A.units+100<cLine):S9 X (AG .NotEq) WM:=by
 intro AN s σ H x y v u Q I n l h;obtain⟨a,b,c,g,f,e,q⟩:=h;unfold WM at e;split at e
 ·cases e
 rename_i d;have i:vV a=false:=by cases h:vV a with|false=>rfl|true=>exact absurd (.inl h) d
 have o:vV b=false:=by cases h:vV b with|false=>rfl|true=>exact absurd (.inr h) d
 split at e
 ·rename_i m;obtain⟨k,ek,e⟩:=AT e;cases e;exact(YH I m j (g.toD i) (f.toD o) n l ek).2 X.prog X.w X.xe _ ⟨.bl (!k),H,I,rfl,q _ H (AV.refl H) trivial (by unfold bJ AW;rfl)⟩
 ·cases e
theorem Ub{i:Int}:bJ K H (.z (.int i)) (.int i):=by unfold bJ AW;rfl
theorem OQ{b:Bool}:bJ K H (.z (.bl b)) (.bl b):=by unfold bJ AW;rfl
theorem HP(h:x.length<=AA):bJ K H (.z (.str x)) (.str x):=by unfold bJ AW;exact⟨rfl,h⟩
theorem WQ{i:Int}(h:bJ K H (.z (.int i)) v):v=.int i:=by simpa only[bJ,AW]using h
theorem CI(h:bJ K H (.z (.str x)) v):v=.str x/\x.length<=AA:=by simpa only[bJ,AW]using h
theorem HV(h:bJ K H (.z (.tup ds)) v):∃a vs,v=.ref a/\yw K H a vs/\aO K H ds vs:=by simpa only[bJ,AW]using h
def i2(g:Int->Int->Y Dt):Bx->Bx->Y Bx
 |.z (.int i),.z (.int j)=>(g i j).bind λd=>Z (.z d)
 |_,_=>X9
theorem Ou{f:A0->A0->Sem A0}{r:R2}{g:Int->Int->Y Dt}(o:EY X f r)(h:∀i j d H Q,g i j=Z d->(∀v,AW X.K H d v->Q v H)->r (.int i) (.int j) H Q):S9 X f (i2 g):=EY.imp o λx y H Q q=>by
 obtain⟨a,b,c,m,l,e,q⟩:=q;unfold i2 at e;split at e
 ·rename_i i j;obtain⟨d,n,e⟩:=AT e;cases e;rw[WQ m,WQ l];exact h i j d H Q n λv p=>q v H (AV.refl H) trivial p
 ·cases e
theorem HA{i:Int}:AW K H (.int i) (.int i):=by unfold AW;rfl
theorem ID{b:Bool}:AW K H (.bl b) (.bl b):=by unfold AW;rfl
abbrev EC:=i2 λi j=>Z (.int (i-j))
abbrev HI:=i2 λi j=>Z (.bl (decide (j<i)))
abbrev FD:=i2 λi j=>Z (.bl (decide (j<=i)))
abbrev nM:=i2 λi j=>if 0<j/\j<1073741824 then Z (.int (i / j))else X9
abbrev jj:=i2 λi j=>if 0<j then Z (.int (i%j))else X9
abbrev MC:=i2 λi j=>if 0<=j/\j<=1000/\i.natAbs<2 ^ 64 then Z (.int (i ^ j.toNat))else X9
theorem ng:S9 X (binaryOp .Sub) EC:=Ou Tu λi j d H Q e q=>by cases e;exact⟨i,j,rfl,rfl,q _ HA⟩
theorem Pe:S9 X (AG .Gt) HI:=Ou io λi j d H Q e q=>by cases e;exact⟨i,j,rfl,rfl,q _ ID⟩
theorem LJ:S9 X (AG .GtE) FD:=Ou cK λi j d H Q e q=>by cases e;exact⟨i,j,rfl,rfl,q _ ID⟩
theorem iD:S9 X (binaryOp .FloorDiv) nM:=Ou mi λi j d H Q e q=>by
 split at e
 ·rename_i h;cases e;exact⟨i,j,rfl,rfl,h,q _ HA⟩
 ·cases e
theorem cY:S9 X (binaryOp .Mod) jj:=Ou eW λi j d H Q e q=>by
 split at e
 ·rename_i h;cases e;exact⟨i,j,rfl,rfl,h,q _ HA⟩
 ·cases e
theorem om:S9 X (binaryOp .Pow) MC:=Ou p5 λi j d H Q e q=>by
 split at e
 ·rename_i h;cases e;exact⟨i,j,rfl,rfl,⟨h.1,by omega,h.2.2⟩,q _ HA⟩
 ·cases e
def QT:Bx->Y Bx
 |.z (.int i)=>Z (.z (.int (-i)))
 |_=>X9
theorem JX:NM X (unaryOp .USub) QT:=DL.imp aI λx H Q q=>by
 obtain⟨a,c,b,e,q⟩:=q;unfold QT at e;split at e
 ·rename_i i;cases e;exact⟨i,WQ b,q _ H (AV.refl H) trivial Ub⟩
 ·cases e
def F6:Nat:=1000000
theorem oe:F6<=AA:=by decide
theorem XE{b:A1}{us:O V}{Q:VK}(I:L2.AU X AN σ H s)(i:su X.K H l vs)(t:su X.K H b us)(j:vs.length+us.length<=AA)(q:∀p,H p=X9->Q (.ref p) (B4 H p (.lst (vs++us)))):
  A7 (bi X) X.A (binaryOp .Add (.ref l) (.ref b)) (EP X AN σ Q) X.xe s:=by
 obtain⟨AQ,g,⟨⟨C,E,B,sl⟩,u,e1,c1,f,h⟩,z1⟩:=I.list i;obtain⟨a,c,⟨⟨cls2,z,v,m⟩,n,e2,c2,d2,d⟩,z2⟩:=I.list t;simp only at c1 f h c2 d2 d;subst c1 f h c2 d2 d;have x:=g.length;have y:=c.length;have e:AQ.toArray++a.toArray=(AQ++a).toArray:=by simp
 refine concat_meets ⟨_,e1,rfl⟩ ⟨_,e2,rfl⟩ noFill_list_add seq_list_add PySem.F.slot_list_add PySem.F.entry_list_add (PySem.F.args_list_add_2 _ _) (list_addW l b AQ.toArray a.toArray u n X9 X9 sl m (by rw[zr,zr];omega)) ⟨e1,e2,?_⟩;rw[e];exact⟨.ref s.heap.objs.size,_,I.laid (t':=s.toks) (o:=.lst (vs++us)) (λb D q=>zd _ q) (zo _) ⟨by rw[Zl];exact j,_,0,g.append c,zC _ rfl⟩,rfl,q _ (I.hok.fresh (zo _))⟩
theorem br{b:A1}{us:O V}{Q:VK}(I:L2.AU X AN σ H s)(a:yw X.K H l vs)(e:yw X.K H b us)(i:vs.length+us.length<=AA)(q0:vs=[]->Q (.ref b) H)(q1:us=[]->Q (.ref l) H)(q2:∀p,H p=X9->Q (.ref p) (B4 H p (.tup (vs++us)))):
  A7 (bi X) X.A (binaryOp .Add (.ref l) (.ref b)) (EP X AN σ Q) X.xe s:=by
 by_cases hv:vs=[]
 ·obtain⟨AQ,j,⟨⟨v,f,t,sl⟩,e1,c1,o,d⟩,z1⟩:=I.tuple a;obtain⟨g,u,⟨⟨cls2,h,q,n⟩,e2,c2,m,c⟩,z2⟩:=I.tuple e;simp only at c1 d c2 c;subst c1 d c2 c;have:AQ=[]:=j.IV.mpr hv;exact concat_meets ⟨_,e1,rfl⟩ ⟨_,e2,rfl⟩ noFill_tuple_add seq_tuple_add PySem.F.slot_tuple_add xF (xy _ _)
   (tuple_addW0 l b AQ.toArray g.toArray o m f h sl n (by simp[this])) ⟨e1,e2,⟨.ref b,H,I,rfl,q0 hv⟩⟩
 ·exact ue AN s σ H (.ref l) (.ref b) (.ref l) (.ref b) Q I X2 X2 ⟨l,b,vs,us,rfl,rfl,a,e,hv,i,q1,λ_=>q2⟩
def iG:Bx->Bx->Y Bx
 |.z (.int i),.z (.int j)=>Z (.z (.int (i+j)))
 |.z (.str i),.z (.str j)=>if i.length+j.length<=F6 then Z (.z (.str (i++j)))else X9
 |.z (.tup xs),.z (.tup ys)=>if xs.length+ys.length<=F6 then Z (.z (.tup (xs++ys)))else X9
 |a,b=>(sE a).bind λxs=>(sE b).bind λys=>if xs.length+ys.length<=F6 then Z (.o (xs++ys))else X9
theorem D9(i j:AJ):(i++j).length=i.length+j.length:=by
 show(i.cps++j.cps).size=_;rw[K0];rfl
theorem dX:S9 X (binaryOp .Add) iG:=by
 intro AN s σ H x y v u Q I w t h;obtain⟨a,b,c,n,g,e,q⟩:=h;have B:=oe;unfold iG at e;split at e
 ·rename_i i j;cases e;exact WU AN s σ H x y v u Q I w t ⟨i,j,WQ n,WQ g,q _ H (AV.refl H) trivial Ub⟩
 ·rename_i i j;split at e
  ·rename_i A;cases e;exact Wo AN s σ H x y v u Q I w t ⟨i,j,(CI n).1,(CI g).1,by omega,q _ H (AV.refl H) trivial (HP (by rw[D9];omega))⟩
  ·cases e
 ·rename_i xs ys;split at e
  ·rename_i A;cases e;obtain⟨l,vs,rfl,sl,f⟩:=HV n;obtain⟨m,us,rfl,o,d⟩:=HV g;cases w;cases t;have h1:=f.length;have h2:=d.length;refine br I sl o () (λz=>q _ H (AV.refl H) trivial ?_) (λz=>q _ H (AV.refl H) trivial ?_) λp hp=>q _ _ (bY hp) trivial ?_
   ·unfold bJ AW;refine⟨m,us,rfl,o,?_⟩;have:xs=[]:=by subst z;exact ku (by simpa using h1.symm)
    rw[this,yz];exact d
   ·unfold bJ AW;refine⟨l,vs,rfl,sl,?_⟩;have:ys=[]:=by subst z;exact ku (by simpa using h2.symm)
    rw[this,qk];exact f
   ·unfold bJ AW;exact⟨p,_,rfl,.inl (.inl aU),(f.append d).kp (.of (bY hp))⟩
  ·cases e
 ·obtain⟨xs,ea,e⟩:=AT e;obtain⟨ys,eb,e⟩:=AT e;split at e
  ·rename_i A;cases e;obtain⟨l,vs,rfl,sl,f⟩:=n.Ib ea;obtain⟨m,us,rfl,o,d⟩:=g.Ib eb;cases w;cases t;have h1:=f.length;have h2:=d.length;refine XE I sl o () λp hp=>q _ _ (bY hp) (λa ea=>by cases ea;exact hp) ⟨p,_,rfl,aU,(f.append d).kp (.of (bY hp))⟩
  ·cases e
def Bv:Bx->Bx->Y Bx
 |.z (.int i),.z (.int j)=>if(-(2 ^ 64)<i/\i<2 ^ 64)\/(-(2 ^ 64)<j/\j<2 ^ 64)then Z (.z (.int (i*j)))else X9
 |.z (.str x),.z (.int n)=>if n<=1000 ∧ -1000<=n/\x.length<=1000 then Z (.z (.str (Txt.mul x n)))else X9
 |_,_=>X9
theorem Av(x:Array Nat):∀(n:Nat) (a:Array Nat),((ba n x).foldl (·++·) a).size=a.size+n*x.size
 |0,a=>by simp
 |n+1,a=>by
  rw[lz,Q4,Av x n,K0,et];omega
theorem QW(x:AJ)(n:Int):(Txt.mul x n).length<=n.toNat*x.length+x.length:=by
 unfold Txt.mul;split
 ·exact Zs _
 ·split
  ·exact Nat.le_add_left _ _
  ·show((ba n.toNat x.cps).foldl (·++·) #[]).size<=_;rw[Av];show(#[]:Array Nat).size+n.toNat*x.cps.size<=n.toNat*x.cps.size+x.cps.size;simp
theorem vW:S9 X (binaryOp .Mult) Bv:=by
 intro AN s σ H x y v u Q I o m h;obtain⟨a,b,c,l,g,e,q⟩:=h;unfold Bv at e;split at e
 ·rename_i i j;split at e
  ·rename_i d;cases e;exact WG AN s σ H x y v u Q I o m ⟨i,j,WQ l,WQ g,d,q _ H (AV.refl H) trivial Ub⟩
  ·cases e
 ·rename_i f n;split at e
  ·rename_i d;cases e;obtain⟨rfl,hx⟩:=CI l;have w:=WQ g;subst w;obtain⟨t,rfl⟩:=o;obtain⟨p,rfl⟩:=m;have hs:AA=16777216:=sizeLine_eq;have A:n.toNat*f.length<=1000*1000:=j0 () d.2.2;refine SB.mul ⟨?_,λh1 h2=>?_,λh1 h2=>?_⟩ λp k=>⟨.str _,H,I.tok _,⟨_,rfl⟩,q _ H (AV.refl H) trivial (HP (zt (QW f n) ()))⟩
   ·have e1:decide (n < -(2 ^ 63:Int))=false:=z4 ();have e2:decide (n>=2 ^ 63)=false:=z4 ();rw[e1,e2];rfl
   ·have z:0<n:=by omega
    have:(1000:Int)<=(2 ^ 63-1) / n:=(Int.le_ediv_iff_mul_le z).mpr ();omega
   ·show decide (f.length*n.toNat>AA)=false;rw[Nat.mul_comm];exact z4 ()
  ·cases e
 ·cases e
def mB(i j:AJ):Bool:=!(Builtin.Str.occurrences j i 0 j.length 1).isEmpty
def MA:Dt->Bool
 |.non=>true
 |.bl _=>true
 |.int _=>true
 |.str _=>true
 |_=>false
def MO(x:Dt)(ys:O Dt):Y Bool:=if MA x=true/\ys.all MA=true then Z (ys.any λy=>match Ot y x with|some true=>true|_=>false)else X9
def vX:Bx->Y (O Dt)
 |.z (.lst ds)=>Z ds
 |.z (.tup ds)=>Z ds
 |.l ds=>Z ds
 |.o ds=>Z ds
 |_=>X9
def ij:Bx->Bx->Y Bool
 |.z (.str i),.z (.str j)=>Z (mB i j)
 |.z d,b=>(vX b).bind λys=>MO d ys
 |_,_=>X9
def inF(a b:Bx):Y Bx:=(ij a b).bind λk=>Z (.z (.bl k))
theorem CZ{b:Bx}(h:bJ K H b v)(e:vX b=Z ds):∃a vs,v=.ref a/\(su K H a vs\/yw K H a vs)/\aO K H ds vs:=by
 cases b with
 |z d=>
  cases d<;>first|(cases e;done)|skip
  ·cases e;obtain⟨a,vs,e,q,r⟩:=HV h;exact⟨a,vs,e,.inr q,r⟩
  ·cases e;obtain⟨a,vs,e,q,r⟩:=h.Ib rfl;exact⟨a,vs,e,.inl q,r⟩
 |l c=>
  cases e;obtain⟨a,vs,e,q,r⟩:=h.Ib rfl;exact⟨a,vs,e,.inl q,r⟩
 |o c=>
  cases e;obtain⟨a,vs,e,q,r⟩:=h.Ib rfl;exact⟨a,vs,e,.inl q,r⟩
 |n _=>cases e
 |m _ _=>cases e
def JZ:Bx->Bool
 |.z .non=>true
 |_=>false
theorem Ov{b:Bx}(h:bJ K H b v):decide (v=.non)=JZ b:=by
 cases b with
 |z d=>
  cases d<;>simp only[bJ,AW]at h
  ·subst h;rfl
  ·subst h;rfl
  ·subst h;rfl
  ·obtain⟨rfl,_⟩:=h;rfl
  ·obtain⟨_,_,rfl,_⟩:=h;rfl
  ·obtain⟨_,_,rfl,_⟩:=h;rfl
  ·obtain⟨_,_,rfl,_⟩:=h;rfl
 |l ds=>obtain⟨_,_,rfl,_⟩:=h;rfl
 |o ds=>obtain⟨_,_,rfl,_⟩:=h;rfl
 |n ds=>obtain⟨_,_,rfl,_⟩:=h;rfl
 |m ds _=>obtain⟨_,_,rfl,_⟩:=h;rfl
def EI(a:Bx):Bx->Y Bx
 |.z .non=>Z (.z (.bl (JZ a)))
 |_=>X9
def Dc(a:Bx):Bx->Y Bx
 |.z .non=>Z (.z (.bl (!JZ a)))
 |_=>X9
theorem Cb:S9 X (AG .Is) EI:=EY.imp iL λx y H Q q=>by
 obtain⟨a,b,c,f,d,e,q⟩:=q;unfold EI at e;split at e
 ·cases e;simp only[bJ,AW]at d;exact⟨d,by rw[Ov f];exact q _ H (AV.refl H) trivial OQ⟩
 ·cases e
theorem Dd:S9 X (AG .IsNot) Dc:=EY.imp UT λx y H Q q=>by
 obtain⟨a,b,c,f,d,e,q⟩:=q;unfold Dc at e;split at e
 ·cases e;simp only[bJ,AW]at d;exact⟨d,by rw[Ov f];exact q _ H (AV.refl H) trivial OQ⟩
 ·cases e
def eY:Bx->Bx->Y Bx
 |.z (.str x),.z (.int i)=>(IW x.cps.toList i).bind λc=>Z (.z (.str ⟨#[c]⟩))
 |b,.z (.int i)=>(vX b).bind λds=>(IW ds i).bind λd=>Z (.z d)
 |_,_=>X9
theorem sk{i:Int}(r:aO K H ds vs)(e:IW ds i=Z d):∃v,IW vs i=Z v/\AW K H d v:=by
 unfold IW at e ⊢;rw[r.length];obtain⟨j,a,e⟩:=AT e;rw[a];exact r.get e
theorem bf{a b:Expr}(j:QV X a fa)(m:QV X b fb)(hs:Yw b:=by intro _ _;with_unfolding_all rfl):QV X (.Subscript a b pos) (b2 eY fa fb):=⟨have j:=j.run;have m:=m.run;S8 (l5 i5 j m hs) λσ H Q h=>by
 obtain⟨H0,ρ,c,E,e,q⟩:=h;obtain⟨a,ea,e⟩:=AT e;obtain⟨b,eb,e⟩:=AT e;refine⟨H0,ρ,a,E,ea,λv H1 f C A=>⟨H0,ρ,b,E.grow f,eb,λu H2 g D s=>?_⟩⟩;have l:=A.same g;unfold eY at e;split at e
 ·rename_i x i;obtain⟨c',B,e⟩:=AT e;cases e;exact .inr (.inr ⟨_,_,c',(CI l).1,WQ s,(CI l).2,B,q _ _ (f.trans g) trivial (HP (by show(1:Nat)<=AA;decide))⟩)
 ·obtain⟨ds,z,e⟩:=AT e;obtain⟨d,y,e⟩:=AT e;cases e;obtain⟨p,vs,rfl,sq,t⟩:=CZ l z;obtain⟨w,o,n⟩:=sk t y;have hi:=WQ s;rcases sq with sq|sq
  ·exact .inl ⟨p,vs,_,w,rfl,hi,sq,o,q _ _ (f.trans g) trivial n⟩
  ·exact .inr (.inl ⟨p,vs,_,w,rfl,hi,sq,o,q _ _ (f.trans g) trivial n⟩)
 ·cases e⟩
theorem mh:AH "int"=Z (.type "int"):=by decide +kernel
theorem lu:AH "tuple"=Z (.type "tuple"):=by decide +kernel
theorem YJ:AH "list"=Z (.type "list"):=by decide +kernel
theorem nR:AH "len"=Z (.builtin "len"):=by decide +kernel
theorem wE:AH "abs"=Z (.builtin "abs"):=by decide +kernel
theorem Fz:AH "min"=Z (.builtin "min"):=by decide +kernel
theorem J0:AH "max"=Z (.builtin "max"):=by decide +kernel
theorem uW:AH "sorted"=Z (.builtin "sorted"):=by decide +kernel
def tFO(K:B6)(f:Ev->Y (Y Int)):TO:=λσ H Q=>∃H0 ρ o,bV K H0 H σ ρ/\f ρ=Z o/\∀H',AV H H'->Q o H'
def aS(X:Cx)(e:Y Expr)(f:Ev->Y (Y Int)):Prop:=PO X e (tFO X.K f)
structure IA (X:Cx) (e:Option Expr) (f:Ev->Option (Option Int)):Prop where
 run:aS X e f
theorem NH{e:Y Expr}{t t':TO}(h:PO X e t)(m:∀ σ H Q,t' σ H Q->t σ H Q):PO X e t':=λAN s σ H Q I q=>h AN s σ H Q I (m σ H Q q)
def vY:Ev->Y (Y Int):=λ_=>Z X9
theorem rA  :IA X X9 vY:=⟨NH b8 λσ H Q h=>by
 obtain⟨H0,ρ,o,E,e,q⟩:=h;cases e;exact q H (AV.refl H)⟩
def L3:Bx->Y (Y Int)
 |.z (.int i)=>Z (Z i)
 |_=>X9
def Aw(f:Ev->Y Bx):Ev->Y (Y Int):=λρ=>(f ρ).bind L3
theorem rB(h:QV X e f):IA X (Z e) (Aw f):=⟨have h:=h.run;NH (wc h) λσ H Q q=>by
 obtain⟨H0,ρ,o,E,e,q⟩:=q;obtain⟨b,eb,e⟩:=AT e;refine⟨H0,ρ,b,E,eb,λv H1 c d a=>?_⟩;unfold L3 at e;split at e
 ·rename_i i;cases e;exact⟨i,WQ a,q H1 c⟩
 ·cases e⟩
def C3(xs:O Dt)(lo hi:Y Int):O Dt:=(xs.drop (HT.jo xs.length 0 lo)).take (HT.jo xs.length xs.length hi-HT.jo xs.length 0 lo)
theorem Uc(r:aO K H ds vs)(lo hi:Y Int):aO K H (C3 ds lo hi) (Tp vs lo hi):=by
 unfold C3 Tp;rw[r.length];exact(r.drop _).take _
theorem acv(ds:O Dt)(h1:HT.jo ds.length 0 lo=0)(h2:HT.jo ds.length ds.length hi=ds.length):C3 ds lo hi=ds:=by
 unfold C3;rw[h1,h2];simp
theorem Dg{t sl:A1}{c b:A0}(a:IsTup s.heap t items)(hs:s.heap.IsSliceOf sl c b .none)(pl:IsPart c lo)(f:IsPart b hi)(h1:HT.jo items.size 0 lo=0)(h2:HT.jo items.size items.size hi=items.size)(h:Q (.ref t) s):A7 (A8 prog w) A (getItem (.ref t) (.ref sl)) Q E s:=by
 obtain⟨os,i,e,j⟩:=id hs;have g:s.TypeIs (.ref sl) "slice":=⟨os,i,e⟩;unfold getItem
 try with_reducible refine Z3 ?_
 first|refine zb (ze ?_)|skip
 refine zb (wpAny_sequenceKey a.typeIs () ?_);refine zb (JA (name:=Str.ofString "__getitem__") a.typeIs PyProof.Rows.slot_tuple_getitem
  (jI PyProof.Rows.slot_tuple_getitem a.typeIs entry_tuple_getitem ?_ (args_tuple_getitem _ _)))
 show A7 _ _ (Builtin.Tuple.tupleItemsOf (.ref t) >>= _) _ _ s;refine zb (tupleItemsOf_ a ?_);refine zb (JE g ?_);rw[zl ()];refine zb (HT.uR hs pl f ?_);have d:(((HT.jo items.size 0 lo:Nat):Int)==0&&(1:Int)==1&&(HT.jo items.size items.size hi-HT.jo items.size 0 lo)==items.size)=true:=by
  rw[h1,h2];simp
 show A7 _ _ (if(((HT.jo items.size 0 lo:Nat):Int)==0&&(1:Int)==1&&(HT.jo items.size items.size hi-HT.jo items.size 0 lo)==items.size)=true then _ else _) _ _ s;rw[zl d]
 first
  |refine zb (zb (JE a.typeIs (ze ?_)))
  |refine zb (JE a.typeIs (zb (ze ?_)))
  |refine zb (JE a.typeIs ?_)
 rw[zl ()]
 first
  |exact zb (QY (ze ⟨_,rfl,ze h⟩))
  |exact zb (QY (zb (ze (ze ⟨_,rfl,ze h⟩))))
def FA(b:Bx)(lo hi:Y Int):Y Bx:=match b with
 |.z (.str x)=>Z (.z (.str (Txt.slice x lo hi)))
 |.z (.tup ds)=>Z (.z (.tup (C3 ds lo hi)))
 |b=>(sE b).bind λds=>Z (.o (C3 ds lo hi))
def TB(K:B6):V->Y Int->Y Int->Hp->VK->Prop:=λx lo hi H Q=>∃b c,bJ K H b x/\FA b lo hi=Z c/\∀w H',AV H H'->Nw H c w->bJ K H' c w->Q w H'
theorem wx:HC X (TB X.K):=by
 intro AN s σ H x v G E lo hi sl Q I z hs pl d h;obtain⟨b,c,n,e,q⟩:=h;unfold FA at e;split at e
 ·rename_i y;cases e;obtain⟨rfl,f⟩:=CI n;obtain⟨t,rfl⟩:=z;refine⟨"str", _,F.slot_str_getitem.lookup,typeIs_str _ _ _,?_⟩;obtain⟨o,e1,e2,e3⟩:=hs;have w:∀B k,EP X AN σ Q (.str (Txt.slice y lo hi) B) { s with toks:=k }:=λB k=>⟨.str _,H,I.tok _,⟨_,rfl⟩,q _ H (AV.refl H) trivial (HP (zt (Txt.slice_le y _ _) f))⟩;cases pl with
  |none=>
   cases d with
   |none=>exact yY (l:=X9) (u:=X9) (st:=X9) ⟨o,e1,e2,e3⟩ X2 (post_val_or_str ⟨zt (Txt.slice_le y _ _) f,w⟩)
   |int j A=>exact yY (l:=X9) (u:=Z (j,A)) (st:=X9) ⟨o,e1,e2,e3⟩ X2 (post_val_or_str ⟨zt (Txt.slice_le y _ _) f,w⟩)
  |int i D=>
   cases d with
   |none=>exact yY (l:=Z (i,D)) (u:=X9) (st:=X9) ⟨o,e1,e2,e3⟩ X2 (post_val_or_str ⟨zt (Txt.slice_le y _ _) f,w⟩)
   |int j A=>exact yY (l:=Z (i,D)) (u:=Z (j,A)) (st:=X9) ⟨o,e1,e2,e3⟩ X2 (post_val_or_str ⟨zt (Txt.slice_le y _ _) f,w⟩)
 ·rename_i ds;cases e;obtain⟨a,vs,rfl,sq,g⟩:=HV n;by_cases m:HT.jo vs.length 0 lo=0/\HT.jo vs.length vs.length hi=vs.length
  ·cases z;obtain⟨AQ,r,C,M⟩:=I.tuple sq;have J:AQ.toArray.size=vs.length:=by rw[zr];exact r.length.symm
   refine⟨"tuple", _,PyProof.Rows.slot_tuple_getitem.lookup,C.typeIs,Dg C hs pl d (by rw[J];exact m.1) (by rw[J];exact m.2) ⟨.ref a,H,I,rfl,q _ H (AV.refl H) trivial ?_⟩⟩;rw[acv ds (by rw[<-g.length];exact m.1) (by rw[<-g.length];exact m.2)];exact n
  ·refine si AN s σ H _ v G E lo hi sl Q I z hs pl d ⟨a,vs,rfl,sq,m,λp hp=>q _ _ (bY hp) trivial ?_⟩;unfold bJ AW;exact⟨p,_,rfl,.inl (.inl aU),(Uc g lo hi).kp (.of (bY hp))⟩
 ·obtain⟨ds,L,e⟩:=AT e;cases e;obtain⟨a,vs,rfl,sq,g⟩:=n.Ib L;exact nB AN s σ H _ v G E lo hi sl Q I z hs pl d ⟨a,vs,rfl,sq,λp hp=>q _ _ (bY hp) (λa ea=>by cases ea;exact hp) ⟨p,_,rfl,aU,(Uc g lo hi).kp (.of (bY hp))⟩⟩
def YK(f:Ev->Y Bx)(fl fh:Ev->Y (Y Int)):Ev->Y Bx:=λρ=>(f ρ).bind λb=>(fl ρ).bind λlo=>(fh ρ).bind λhi=>FA b lo hi
theorem J4{lo hi:Y Expr}{fl fh:Ev->Y (Y Int)}(he:QV X e f)(a:IA X lo fl)(g:IA X hi fh):QV X (.Subscript e (.Slice lo hi X9 p2) pos) (YK f fl fh):=⟨have he:=he.run;have a:=a.run;have g:=g.run;S8 (bP wx he a g) λσ H Q h=>by
 obtain⟨H0,ρ,c,E,e,q⟩:=h;obtain⟨b,eb,e⟩:=AT e;obtain⟨lo,el,e⟩:=AT e;obtain⟨hi,m,e⟩:=AT e;refine⟨H0,ρ,b,E,eb,λv H1 d x s=>⟨H0,ρ,lo,E.grow d,el,λH2 i=>⟨H0,ρ,hi,E.grow (d.trans i),m,λu l=>?_⟩⟩⟩;have j:=(d.trans i).trans l;exact⟨b,c,(s.same i).same l,e,λw p o t n=>q w p (j.trans o) (t.old j) n⟩⟩
def sG:O Bx->Y Bx
 |[.z (.str x)]=>Z (.z (.int x.length))
 |[b]=>(vX b).bind λds=>Z (.z (.int ds.length))
 |_=>X9
theorem BQ{b:Bx}(r:uT K H [b] vs):∃v,vs=[v]/\bJ K H b v:=by
 cases r with
 |cons p t=>cases t;exact⟨_,rfl,p⟩
theorem nT:nJ X (.builtin "len") sG:=jh.imp (Qu.or Qv) λxs H Q q=>by
 obtain⟨bs,c,b,e,q⟩:=q;unfold sG at e;split at e
 ·rename_i x;cases e;obtain⟨v,rfl,a⟩:=BQ b;obtain⟨rfl,hx⟩:=CI a;exact .inr ⟨x,rfl,hx,q _ H (AV.refl H) trivial Ub⟩
 ·obtain⟨ds,f,e⟩:=AT e;cases e;obtain⟨v,rfl,a⟩:=BQ b;obtain⟨p,vs,rfl,sq,d⟩:=CZ a f;exact .inl ⟨p,vs,rfl,sq,by rw[d.length];exact q _ H (AV.refl H) trivial Ub⟩
 ·cases e
def GN:O Bx->Y Bx
 |[.z (.int i)]=>Z (.z (.int (if i<0 then -i else i)))
 |_=>X9
theorem X1:nJ X (.builtin "abs") GN:=jh.imp Xt λxs H Q q=>by
 obtain⟨bs,c,a,e,q⟩:=q;unfold GN at e;split at e
 ·rename_i i;cases e;obtain⟨v,rfl,b⟩:=BQ a;have:=WQ b;subst this;exact⟨i,rfl,q _ H (AV.refl H) trivial Ub⟩
 ·cases e
def Fc:O Bx->Y Bx
 |[.z (.int i)]=>Z (.z (.int i))
 |[.z (.bl k)]=>Z (.z (.int (if k then 1 else 0)))
 |_=>X9
theorem fz:nJ X (.type "int") Fc:=jh.imp VV λxs H Q q=>by
 obtain⟨bs,c,b,e,q⟩:=q;unfold Fc at e;split at e
 ·rename_i i;cases e;obtain⟨v,rfl,a⟩:=BQ b;have:=WQ a;subst this;exact .inl ⟨i,rfl,q _ H (AV.refl H) trivial Ub⟩
 ·rename_i k;cases e;obtain⟨v,rfl,a⟩:=BQ b;simp only[bJ,AW]at a;subst a;exact .inr ⟨k,rfl,q _ H (AV.refl H) trivial Ub⟩
 ·cases e
def Ud:O Bx->Y Bx
 |[b]=>(vX b).bind λds=>Z (.o ds)
 |_=>X9
theorem sT:nJ X (.type "list") Ud:=jh.imp Qw λxs H Q q=>by
 obtain⟨bs,c,d,e,q⟩:=q;unfold Ud at e;split at e
 ·obtain⟨ds,f,e⟩:=AT e;cases e;obtain⟨v,rfl,g⟩:=BQ d;obtain⟨p,vs,rfl,sq,h⟩:=CZ g f;exact⟨p,vs,rfl,sq,λl b=>q _ _ (bY b) (λa ea=>by cases ea;exact b) ⟨l,vs,rfl,aU,h.kp (.of (bY b))⟩⟩
 ·cases e
def mV:O Bx->Y Bx
 |[b]=>(vX b).bind λds=>Z (.z (.tup ds))
 |_=>X9
theorem lA:nJ X (.type "tuple") mV:=jh.imp Mw λxs H Q q=>by
 obtain⟨bs,c,d,e,q⟩:=q;unfold mV at e;split at e
 ·obtain⟨ds,f,e⟩:=AT e;cases e;obtain⟨v,rfl,g⟩:=BQ d;obtain⟨p,vs,rfl,sq,b⟩:=CZ g f;refine⟨p,vs,rfl,?_⟩;rcases sq with sq|sq
  ·refine .inl ⟨sq,λl a=>q _ _ (bY a) trivial ?_⟩;unfold bJ AW;exact⟨l,vs,rfl,.inl (.inl aU),b.kp (.of (bY a))⟩
  ·refine .inr ⟨sq,q _ H (AV.refl H) trivial ?_⟩;unfold bJ AW;exact⟨p,vs,rfl,sq,b⟩
 ·cases e
end P1
namespace P1
open L2
def gv(i:Nat):Ev->Y Bx:=λρ=>Fl ρ i
def p8(g:Bx->Bx->Y Bx)(fa fb:Ev->Y Bx):Ev->Y Bool:=λρ=>(b2 g fa fb ρ).bind Ws
def tV(f:Ev->Y Bx):Ev->Y Bool:=λρ=>(f ρ).bind GI
def aH:Ev->Y (O Bx):=λ_=>Z []
def cZ:Ev->Y Ap:=λρ=>Z (.nx ρ)
def dB(f:Ev->Y Bx):Ev->Y Ap:=λρ=>(f ρ).bind Fk
def B0(i:Nat)(f:Ev->Y Bx):Ev->Y Ap:=λρ=>(f ρ).bind λb=>(TX ρ i b).bind λa=>Z (.nx a)
def GS(gt:Dt->Ev->Y Ev)(f:Ev->Y Bx):Ev->Y Ap:=λρ=>(f ρ).bind λb=>match b with|.z d=>(gt d ρ).bind λa=>Z (.nx a)|_=>X9
def MS(i j:Nat)(fs:Ev->Y (O Bx)):Ev->Y Ap:=λρ=>(fs ρ).bind (HK i j ρ)
def FJ(i:Nat)(f:Ev->Y Bx):Ev->Y Ap:=λρ=>(f ρ).bind (HZ ρ i)
def rC(fi:Ev->Y (O Dt))(gt:Dt->Ev->Y Ev)(gb:Ev->Y Ap):Ev->Y Ap:=λρ=>(fi ρ).bind λds=>yx gt gb ds ρ
def D6(f:Ev->Y Bx):Ev->Y (O Dt):=λρ=>(f ρ).bind Fn
def Ig(f:Ev->Y Bx):Ev->Y (O Dt):=λρ=>(f ρ).bind HR
def Wg(fs:Ev->Y (O Bx)):Ev->Y (O Dt):=λρ=>(fs ρ).bind LD
def kJ(i:Nat):Dt->Ev->Y Ev:=λd ρ=>Z (ρ.set i (Z (.z d)))
def uF:Ev->Y Bool:=λ_=>Z true
theorem dw:vU X [] uF:=⟨.inl ⟨rfl,rfl⟩⟩
theorem dZ{p:Ev->Y Bool}(h:QB X c p):vU X [c] p:=⟨have h:=h.run;.inr ⟨c,rfl,h⟩⟩
theorem w4:Mx X scope cl [] []:=trivial
theorem UO{xs:AZ}(n:X.N[i]?=Z x)(k:X.env.kindOf x=Z .cell\/X.env.kindOf x=Z .free)(a:(relabel scope X.env).names.lookup x=Z .cell\/(relabel scope X.env).names.lookup x=Z .free)(c:∃c,cl.lookup x=Z c)(r:Mx X scope cl xs is):Mx X scope cl (x::xs) (i::is):=⟨⟨n,k,a,c⟩,r⟩
theorem mem_of_lookup{a:O (AJ×NameKind)}{x:AJ}{k:NameKind}:a.lookup x=Z k->(x,k)∈a:=JO
theorem bo{xs:AZ}(clos:closureFor scope X.env=pure cl)(kind:scope.kind=.function)(cell:scope.names.all (λy=>decide (y.2≠.cell)||(cl.lookup y.1).isNone)=true)(names:scope.names.all (λy=>decide (y.2=.local->scope.names.lookup y.1=Z .local))=true)(sub:C1 X.env.cells cl)(has:(relabel scope X.env).names.all (λy=>!(y.2==.cell||y.2==.free)||(cl.lookup y.1).isSome||scope.names.contains (y.1,.cell))=true)(cap:Mx X scope cl xs is):uD X scope cl xs is where
 clos:=clos
 kind:=kind
 cell:=λy a b=>by
  have:=List.all_eq_true.mp cell y a;simp only[b,ne_eq,not_true_eq_false,decide_false,gi,hH]at this;exact this
 names:=λy a=>Q2 (List.all_eq_true.mp names y a)
 sub:=sub
 has:=λx hx=>by
  have h:∃k,(relabel scope X.env).names.lookup x=Z k/\(k==NameKind.cell||k==NameKind.free)=true:=by
   rcases hx with hx|hx
   ·exact⟨_,hx,rfl⟩
   ·exact⟨_,hx,rfl⟩
  obtain⟨k,e,hk⟩:=h;have:=List.all_eq_true.mp has _ (mem_of_lookup e);simp only[hk,YY,gi,Kb]at this;rcases this with h|h
  ·exact .inr (dV.mp h)
  ·exact .inl (eg.mp h)
 cap:=cap
theorem zN{k:Nat}(r:iQ k A):A.units+100<cLine:=by have:=r.un;omega
theorem WH(h:∀b:O Int,b.length<=63->F [.z (.lst (b.map .int))]=Z (.z (.bl true)))(i:∀b:O Int,b.length<=63->F [.l (b.map .int)]=Z (.z (.bl true)))(K:B6)(H:Hp)(a:A1)(b:O Int)(f:b.length<=63)(_:Co H)(c:su K H a (b.map V.int)):
  WK K 1 F [.ref a] H (λv _=>v=.bl true) λ_ _ _=>False:=by
 have g:∀d:O Int,aO K H (d.map Dt.int) (d.map V.int):=λd=>by
  induction d with
  |nil=>exact aO.nil
  |cons m d j=>exact aO.cons (by unfold AW;rfl) j
 have e:∀v (H':Hp),AV H H'->Nw H (.z (.bl true)) v->bJ K H' (.z (.bl true)) v->v=.bl true:=λv H' _ _ r=>by simpa only[bJ,AW]using r
 rcases c with c|c
 ·exact⟨rfl,[.l (b.map .int)],_,.cons ⟨a,_,rfl,c,g b⟩ .nil,rfl,i b f,e⟩
 ·refine⟨rfl,[.z (.lst (b.map .int))],_,.cons ?_ .nil,rfl,h b f,e⟩;unfold bJ AW;exact⟨a,_,rfl,.inr c,g b⟩
theorem aoB{f:A1}{k m:Nat}(F:Cc K x qual st f fd)(S:aW N ps (aJ st))(b:N.length=n)(d:ps.length=m)(c:∀(a:A0) (A:A5) (outer:O Env) (s:A2) (H:Hp) (E:XK),iQ k (A.deeper (AK qual (aJ st) s.heap.objs.size f a))->CH (HX Fj P w K mg base N qual (aJ st) f a A outer s H E).nox (ji st) g):
  qt P w K mg base Fj (k+1) f fd ps (WK K m (cL n g)):=by
 subst b d;exact aoz F S c
section
variable{st:Expr}{fs:Ev->Y Bx}
end
def Eg:Bx->Bx->Y Bx
 |.z (.int i),.z (.int j)=>Z (.z (.bl (decide (i<j))))
 |.z (.str x),.z (.str y)=>Z (.z (.bl (decide (x.cps.toList<y.cps.toList))))
 |_,_=>X9
theorem O3:S9 X (AG .Lt) Eg:=by
 intro AN s σ H x y v u Q I l g h;obtain⟨a,b,c,f,d,e,q⟩:=h;unfold Eg at e;split at e
 ·rename_i i j;cases e;exact eQ AN s σ H x y v u Q I l g ⟨i,j,WQ f,WQ d,q _ H (AV.refl H) trivial (by unfold bJ;exact ID)⟩
 ·rename_i i j;cases e;obtain⟨rfl,_⟩:=CI f;obtain⟨rfl,_⟩:=CI d;obtain⟨t,rfl⟩:=l;obtain⟨m,rfl⟩:=g;exact PySem.P.lt_str ⟨.bl _,H,I,rfl,q _ H (AV.refl H) trivial (by unfold bJ;exact ID)⟩
 ·cases e
def xY:O Dt->Y AZ
 |[]=>Z []
 |.str x::r=>(xY r).bind λys=>Z (x::ys)
 |_=>X9
theorem uX{K:B6}{H:Hp}:∀{ds:O Dt} {vs:O V} {ys:AZ},aO K H ds vs->xY ds=Z ys->vs=ys.map V.str/\∀y∈ys,y.length<=AA
 |[],_,_,h,e=>by cases e;simp only[aO]at h;subst h;exact⟨rfl,λy a=>by cases a⟩
 |.str x::ds,_,_,h,e=>by
  simp only[xY]at e;obtain⟨ys,e1,e2⟩:=AT e;cases e2;simp only[aO]at h;obtain⟨v,r,rfl,hd,b⟩:=h;obtain⟨rfl,hx⟩:v=.str x/\x.length<=AA:=by simpa only[AW]using hd
  obtain⟨rfl,h2⟩:=uX b e1;refine⟨rfl,λy a=>?_⟩;rcases List.mem_cons.mp a with rfl|a
  ·exact hx
  ·exact h2 y a
 |.non::_,_,_,_,e=>by cases e
 |.bl _::_,_,_,_,e=>by cases e
 |.int _::_,_,_,_,e=>by cases e
 |.tup _::_,_,_,_,e=>by cases e
 |.lst _::_,_,_,_,e=>by cases e
 |.emp::_,_,_,_,e=>by cases e
theorem J5{K:B6}{H:Hp}:∀{ys:AZ},(∀y∈ys,y.length<=AA)->aO K H (ys.map Dt.str) (ys.map V.str)
 |[],_=>aO.nil
 |y::ys,h=>aO.cons (by unfold AW;exact⟨rfl,h y (zh ..)⟩) (J5 λz a=>h z (zi _ a))
theorem rD:∀{ys:AZ} {AQ:O A0},AX (ys.map V.str) AQ->StrsAre AQ ys
 |[],_,h=>by cases h;exact .nil
 |y::ys,_,h=>by
  cases h with
  |cons r t=>
   obtain⟨tk,rfl⟩:=r;exact .cons y tk (rD t)
theorem FN:∀{AQ:O A0} {ys:AZ},StrsAre AQ ys->AX (ys.map V.str) AQ
 |_,_,.nil=>.nil
 |_,_,.cons y t h=>.cons ⟨t,rfl⟩ (FN h)
theorem QX:jh X (.builtin "sorted") (λxs H Q=>∃p ys,xs=[.ref p]/\su X.K H p (ys.map V.str)/\ys.length<64/\∀l zs,H l=X9->zs.Perm ys->sortedS zs=true->Q (.ref l) (B4 H l (.lst (zs.map V.str)))):=by
 intro AN s σ H xs us Q I r h;obtain⟨p,ys,rfl,i,m,q⟩:=h;obtain⟨u,rfl,g⟩:=BA r;cases g;obtain⟨AQ,c,pl,d⟩:=I.list i;have j:=c.length;rw[zg]at j d;refine sorted_strs pl.isList (rD c) () λout zs hs hp f=>?_;obtain⟨n,en⟩:=sortedAll_at s.heap AQ out;refine⟨.ref (s.heap.objs.size+1),_,I.laid (t':=s.toks) (a:=s.heap.objs.size+1) (o:=.lst (zs.map V.str)) (λb o e=>sortedAll_old e) (Kj _) ?_,rfl,q _ zs (I.hok.fresh (Kj _)) hp f⟩;refine⟨by rw[zg,hp.length_eq];exact d,out.toList,n,FN hs,?_⟩;rw[en]
def Bw(a b:AJ):Prop:=ltCps b.cps.toList a.cps.toList=false
theorem Dh:∀(p:AJ) (l:AZ),risingS p l=true->(p::l).Pairwise Bw
 |p,[],_=>by simp
 |p,x::r,h=>by
  have h':(!ltCps x.cps.toList p.cps.toList&&risingS x r)=true:=h;rw[qi]at h';have c:=Dh x r h'.2;have hx:Bw p x:=by simpa[Bw]using h'.1
  refine ca.mpr ⟨λy b=>?_,c⟩;rcases List.mem_cons.mp b with rfl|b
  ·exact hx
  ·have a:Bw x y:=kT c b;unfold Bw at hx a ⊢;rw[ltCps_eq]at hx a ⊢;simp only[QE]at hx a ⊢;exact List.le_trans (α:=Nat) hx a
theorem QZ{l:AZ}(h:sortedS l=true):l.Pairwise Bw:=by
 cases l with
 |nil=>exact .nil
 |cons p l=>exact Dh p l h
theorem uY{a b:AJ}(h:Bw a b)(h':Bw b a):a=b:=by
 unfold Bw at h h';rw[ltCps_eq]at h h';simp only[QE]at h h';have:=oC (as:=a.cps.toList) (bs:=b.cps.toList) h h';cases a;cases b;simp only[Str.mk.injEq];exact oF.mp this
theorem Jf:∀{l c:AZ},l.Perm c->l.Pairwise Bw->c.Pairwise Bw->l=c
 |[],c,h,_,_=>by rw[List.nil_perm.mp h]
 |a::l,[],h,_,_=>by cases List.perm_nil.mp h
 |a::l,b::c,h,p,p'=>by
  have e:a=b:=by
   have d:a∈b::c:=h.mem_iff.mp (zh ..);have f:b∈a::l:=h.mem_iff.mpr (zh ..);rcases List.mem_cons.mp d with h1|h1
   ·exact h1
   ·rcases List.mem_cons.mp f with h2|h2
    ·exact h2.symm
    ·exact uY (kT p h2) (kT p' h1)
  subst e;rw[Jf ((j3 a).mp h) (ca.mp p).2 (ca.mp p').2]
def FB(a b:AJ):Bool:=!ltCps b.cps.toList a.cps.toList
def uZ(ys:AZ):AZ:=ys.mergeSort FB
theorem gC(ys:AZ):(uZ ys).Perm ys:=JP ys FB
theorem vZ(ys:AZ):(uZ ys).Pairwise Bw:=by
 have h:=kB (le:=FB) (λa b c h1 h2=>by
  unfold FB at *
  rw[ltCps_eq]at *
  simp only[qV,QE]at *
  exact List.le_trans (α:=Nat) h1 h2) (λa b=>by
  unfold FB;rw[ltCps_eq,ltCps_eq];simp only[Kb,qV,QE];exact List.le_total a.cps.toList b.cps.toList) ys
 exact h.imp λ{a b} hh=>by simpa[FB,Bw]using hh
theorem bg{ys zs:AZ}(hp:zs.Perm ys)(hs:sortedS zs=true):zs=uZ ys:=Jf (hp.trans (gC ys).symm) (QZ hs) (vZ ys)
def Ow:O Bx->Y Bx
 |[b]=>(sE b).bind λds=>(xY ds).bind λys=>if ys.length<64 then Z (.o ((uZ ys).map Dt.str))else X9
 |_=>X9
theorem Ox:nJ X (.builtin "sorted") Ow:=jh.imp QX λxs H Q q=>by
 obtain⟨bs,c,f,e,q⟩:=q;unfold Ow at e;split at e
 ·rename_i b;obtain⟨ds,i,e⟩:=AT e;obtain⟨ys,g,e⟩:=AT e;split at e
  ·rename_i j;cases e;obtain⟨v,rfl,n⟩:=BQ f;obtain⟨p,vs,rfl,sq,o⟩:=n.Ib i;obtain⟨rfl,m⟩:=uX o g;refine⟨p,ys,rfl,sq,j,λl zs d hp hs=>?_⟩;rw[bg hp hs];refine q _ _ (bY d) (λa ea=>by cases ea;exact d) ⟨l,_,rfl,aU,J5 λy h=>m y ((gC ys).mem_iff.mp h)⟩
  ·cases e
 ·cases e
def Ue(x:AJ)(b:Bx):Y Bx:=(sE b).bind λds=>(xY ds).bind λys=>if(ys.map (·.length)).sum+ys.length*x.length<=100000 then Z (.z (.str (Txt.join x ys)))else X9
theorem ox:LO X "str.join" (λx xs H Q=>∃y p ys,x=.str y/\xs=[.ref p]/\su X.K H p (ys.map V.str)/\(ys.map (·.length)).sum+ys.length*y.length<=100000/\Q (.str (Txt.join y ys)) H):=by
 intro AN s σ H x xs v us Q I c d h;obtain⟨y,p,ys,rfl,rfl,sq,g,q⟩:=h;obtain⟨t,rfl⟩:=c;obtain⟨u,rfl,b⟩:=BA d;cases b;obtain⟨AQ,a,pl,f⟩:=I.list sq;exact join_list pl.isList (rD a) () λe k=>⟨.str _,H,I.tok _,⟨_,rfl⟩,q⟩
theorem di{p1:Pos}(h:QV X e f)(hx:x.length<=AA:=by decide)(i:attributeBase (.Constant (.str x) j p1) "join" X.env (eval (.Constant (.str x) j p1) X.env)=eval (.Constant (.str x) j p1) X.env:=by rfl)(o:((AD cpos (A9 [e] X.env)).all (λx=>!x.1)&&(backToKw cpos (keywordEach [] X.env)).all (λx=>x.1.isSome)&&decide ([e].length+([]:O AC).length+(if([]:O AC).isEmpty then 0 else 1)<30))=true:=by rfl)(g:(apos.endLine==cpos.line)=true:=by rfl)(hs:A9 [e] X.env=(false,eval e X.env)::A9 [] X.env:=by rfl):QV X (.Call (.Attribute (.Constant (.str x) j p1) "join" apos) [e] [] cpos) (b1 (Ue x) f):=⟨have h:=h.run;S8 (Yx (T :="str") F.plainAttrs_str F.slot_str_join F.type_str_join ox (NC (hx:=hx)) (TQ h YB hs) i o g hs X2) λσ H Q q=>by
  obtain⟨H0,ρ,c,E,e,q⟩:=q;obtain⟨a,ea,e⟩:=AT e;refine⟨H0,ρ,_,E,rfl,λv H1 b B s=>?_⟩;obtain⟨rfl,z⟩:v=.str x/\x.length<=AA:=by simpa only[bJ,AW]using s
  refine⟨rfl,H0,ρ,[a],E.grow b,by simp only[aq,ea,oG],λvs H2 u l=>?_⟩;obtain⟨w,rfl,n⟩:=BQ l;unfold Ue at e;obtain⟨ds,m,e⟩:=AT e;obtain⟨ys,d,e⟩:=AT e;split at e
  ·rename_i t;cases e;obtain⟨p,ws,rfl,sq,y⟩:=n.Ib m;obtain⟨rfl,A⟩:=uX y d;refine⟨x,p,ys,rfl,rfl,sq,t,q _ _ (b.trans u) trivial ?_⟩;unfold bJ AW;exact⟨rfl,joinOk_length (joinOk_of ())⟩
  ·cases e⟩
theorem n5{a b:Bx}(h:uT K H [a,b] vs):∃v w,vs=[v,w]/\bJ K H a v/\bJ K H b w:=by
 cases h with
 |cons p t=>
  cases t with
  |cons p' c=>cases c;exact⟨_,_,rfl,p,p'⟩
def J6(AO:O (AY×Dt))(x:AY):Y Dt:=(AO.find? λa=>decide (a.1=x)).map (·.2)
def Q0(AO:O (AY×Dt))(x:AY)(d:Dt):O (AY×Dt):=
 if(AO.any λa=>decide (a.1=x))=true then AO.map (λa=>if a.1=x then(a.1,d)else a)else AO++[(x,d)]
theorem fV.nil:fV K H [] []:=⟨rfl,aO.nil,λp hp=>by cases hp⟩
theorem fV.inv{p:AY×Dt}(h:fV K H (p::AO) ks):∃v r,ks=(p.1,v)::r/\AW K H p.2 v/\DM p.1/\fV K H AO r:=by
 obtain⟨h1,h2,a⟩:=h;cases ks with
 |nil=>simp at h1
 |cons q r=>
  simp only[zk,ja]at h1;obtain⟨e,h1⟩:=h1;simp only[zk,aO]at h2;obtain⟨v,c,e2,hv,b⟩:=h2;simp only[ja]at e2;obtain⟨rfl,rfl⟩:=e2;exact⟨q.2,r,by rw[<-e],hv,a p (zh ..),h1,b,λx hx=>a x (zi _ hx)⟩
theorem fV.cons{p:AY×Dt}{AO:O (AY×Dt)}{v:V}{r:O (AY×V)}(hv:AW K H p.2 v)(hp:DM p.1)(h:fV K H AO r):fV K H (p::AO) ((p.1,v)::r):=
 ⟨by simp[h.1],aO.cons hv h.2.1,λx hx=>by
  rcases List.mem_cons.mp hx with rfl|hx
  ·exact hp
  ·exact h.2.2 x hx⟩
theorem fV.append{AO:O (AY×Dt)}{ks:O (AY×V)}{x:AY}{d:Dt}{v:V}(h:fV K H AO ks)(hv:AW K H d v)(hx:DM x):fV K H (AO++[(x,d)]) (ks++[(x,v)]):=
 ⟨by simp[h.1],by rw[qc,qc];exact aO.append h.2.1 (aO.cons hv aO.nil),λp hp=>by
  rcases bB.mp hp with hp|hp
  ·exact h.2.2 p hp
  ·cases bj.mp hp;exact hx⟩
theorem fV.len(h:fV K H AO ks):ks.length=AO.length:=by
 have:=congrArg dv h.1;simpa using this
theorem fV.look:∀{AO:O (AY×Dt)} {ks:O (AY×V)} {x:AY} {d:Dt},fV K H AO ks->J6 AO x=Z d->∃v,Fg ks x=Z v/\AW K H d v
 |[],_,_,_,_,e=>by cases e
 |p::AO,_,x,d,h,e=>by
  obtain⟨v,r,rfl,hv,b,a⟩:=h.inv;unfold J6 at e;by_cases hp:p.1=x
  ·rw[List.find?_cons_of_pos (by simpa using hp)]at e;cases e;exact⟨v,Cz (by rw[hp]),hv⟩
  ·rw[List.find?_cons_of_neg (by simpa using hp)]at e;obtain⟨w,e1,e2⟩:=fV.look a e;exact⟨w,(CG (by simpa using hp)).trans e1,e2⟩
theorem fV.any:∀{AO:O (AY×Dt)} {ks:O (AY×V)} {x:AY},fV K H AO ks->(ks.any λa=>decide (a.1=x))=AO.any λa=>decide (a.1=x)
 |[],ks,_,h=>by
  have:=h.len;cases ks with
  |nil=>rfl
  |cons _ _=>simp at this
 |p::AO,_,x,h=>by
  obtain⟨v,r,rfl,hv,c,b⟩:=h.inv;rw[xx,xx,fV.any b]
theorem fV.acC:∀{AO:O (AY×Dt)} {ks:O (AY×V)} {x:AY} {d:Dt} {v:V},fV K H AO ks->AW K H d v->fV K H (AO.map λa=>if a.1=x then(a.1,d)else a) (ks.map λa=>if a.1=x then(a.1,v)else a)
 |[],ks,_,_,_,h,_=>by
  have:=h.len;cases ks with
  |nil=>exact fV.nil
  |cons _ _=>simp at this
 |p::AO,_,x,d,v,h,hd=>by
  obtain⟨w,r,rfl,f,b,e⟩:=h.inv;rw[zk,zk];have c:=fV.acC (x:=x) e hd;by_cases hp:p.1=x
  ·rw[zl hp,zl (by simp[hp])];exact fV.cons (p:=(p.1,d)) hd b c
  ·rw[zv hp,zv (by simpa using hp)];exact fV.cons f b c
theorem fV.put{x:AY}(h:fV K H AO ks)(hv:AW K H d v)(hx:DM x):fV K H (Q0 AO x d) (BM ks x v):=by
 unfold Q0 BM;rw[h.any];split
 ·exact h.acC hv
 ·exact h.append hv hx
section
variable{ek o:Expr}{fk:Ev->Y Bx}{pos':Pos}
theorem Tx  :QV X (.Dict [] [] pos) (λ_=>Z (.m [] X9)):=⟨S8 WP λσ H Q h=>by
 obtain⟨H0,ρ,b,E,e,q⟩:=h;cases e;intro p hp;exact q _ _ (bY hp) (λa ea=>by cases ea;exact hp) ⟨p,[],rfl,aU,fV.nil,λb h=>by cases h⟩⟩
def D7:Bx->Y AY
 |.z (.str x)=>Z (.inr x)
 |.z (.int i)=>Z (.inl i)
 |_=>X9
theorem Q5{b:Bx}{k:AY}(e:D7 b=Z k)(r:bJ K H b v):v=kV k/\DM k:=by
 unfold D7 at e;split at e
 ·cases e;simp only[bJ,AW]at r;exact r
 ·cases e;simp only[bJ,AW]at r;exact⟨r,trivial⟩
 ·cases e
def mD:Bx->Bx->Y Bx
 |.n AO,b=>(D7 b).bind λk=>(J6 AO k).bind λd=>Z (.z d)
 |_,_=>X9
theorem WR{a b c:Bx}(h:mD a b=Z c):∃AO k d,a=.n AO/\D7 b=Z k/\J6 AO k=Z d/\c=.z d:=by
 unfold mD at h;split at h
 ·obtain⟨k,ek,h⟩:=AT h;obtain⟨d,e,h⟩:=AT h;cases h;exact⟨_,k,d,rfl,ek,e,rfl⟩
 ·cases h
theorem iH(z:X.A.units+100<cLine)(f:QV X o fo)(hk:QV X ek fk)(hs:FI ek:=by intro _ _;rfl):QV X (.Subscript o ek pos) (b2 mD fo fk):=⟨have f:=f.run;have hk:=hk.run;S8 (W' () f hk hs) λσ H Q h=>by
 obtain⟨H0,ρ,c,E,e,q⟩:=h;obtain⟨a,ea,e⟩:=AT e;obtain⟨b,eb,e⟩:=AT e;refine⟨H0,ρ,a,E,ea,λv H1 g C u=>⟨H0,ρ,b,E.grow g,eb,λw H2 i B m=>?_⟩⟩;obtain⟨AO,x,d,rfl,j,n,rfl⟩:=WR e;obtain⟨p,ks,rfl,s,l⟩:=u.same i;obtain⟨y,ev,t⟩:=l.look n;obtain⟨rfl,_⟩:=Q5 j m;exact⟨p,y,rfl,.inl ⟨ks,x,s,rfl,ev.symm⟩,q _ _ (g.trans i) trivial t⟩⟩
def Ug(ρ:Ev)(i:Nat):Bx->Bx->Y Ap
 |.z d,b=>(D7 b).bind λx=>match ρ[i]? with
  |some (Z (.m AO w))=>if AO.length<1000 then Z (.nx (ρ.set i (Z (.m (Q0 AO x d) w))))else X9
  |_=>X9
 |_,_=>X9
def YL(i:Nat)(f fk:Ev->Y Bx):Ev->Y Ap:=λρ=>(f ρ).bind λb=>(fk ρ).bind λk=>Ug ρ i b k
theorem WT{b k:Bx}{r:Ap}(h:Ug ρ i b k=Z r):∃d y AO w,b=.z d/\D7 k=Z y/\ρ[i]?=Z (Z (.m AO w))/\AO.length<1000/\r=.nx (ρ.set i (Z (.m (Q0 AO y d) w))):=by
 unfold Ug at h;split at h
 ·obtain⟨y,c,h⟩:=AT h;split at h
  ·rename_i a;split at h
   ·rename_i e;cases h;exact⟨_,y,_,_,rfl,c,a,e,rfl⟩
   ·cases h
  ·cases h
 ·cases h
theorem YM(i:Nat){p:Pos}(K:X.A.units+100<cLine)(he:QV X e f)(hk:QV X ek fk)(hN:X.N[i]?=Z x:=by rfl)(hv:Wi X.env.scope x:=by first|exact kC rfl|exact QN (kC X2)|exact QN (QN X2))(hd:ad x:=by decide)(C:(x==("__classdict__":AJ))=false:=by decide)(hs:swapsWith e (Z (.Subscript (.Name x p) ek pos')) pos.line X.env=pure false:=by rfl):Ww X (.Assign [.Subscript (.Name x p) ek pos'] e pos) (λρ=>(f ρ).bind λb=>(fk ρ).bind λk=>Ug ρ i b k):=⟨have he:=he.run;have hk:=hk.run;CY (afz () (yD (i:=i) hN hv hd C) hk he hs) λD σ H h=>by
  obtain⟨H0,ρ,r,E,e,q⟩:=h;obtain⟨b,eb,e⟩:=AT e;obtain⟨k,ek,e⟩:=AT e;refine⟨H0,ρ,b,E,eb,λv H1 I L F=>?_⟩;obtain⟨d,y,AO,M,rfl,s,j,n,rfl⟩:=WT e;have g:=E.grow I;obtain⟨w,e1,a,ks,rfl,t,l,B⟩:=g.val i _ j;refine⟨_,e1,H0,ρ,_,g,ek,λu H2 c J o=>?_⟩;obtain⟨rfl,z⟩:=Q5 s o;have G:=g.grow c;have m:=c _ _ t;have kp:Kp H2 (B4 H2 a (.dK (BM ks y v))):=.dk m;refine⟨a,_,rfl,FX.k (k:=y) m (by rw[l.len];exact hO n ()),q _ _ ?_⟩;exact G.aiD j X2 e1 kp ⟨a,_,rfl,aU,((l.kp (.of c)).put (x:=y) (bJ.same c F) z).kp kp,B⟩⟩
end
section
variable{a b:Expr}{fs:Ev->Y (O Bx)}
theorem bQ{j}(hx:x.length<=AA:=by decide):QV X (.Constant (.str x) j pos) (cB (.str x)):=⟨P1.NC (hx:=hx)⟩
end
section
variable{a b:Expr}{fs:Ev->Y (O Bx)}
variable{p:Ev->Y Bool}{AS:O Expr}
theorem aj(h1:QV X e f)(h2:Yz X es fs)(hs:A9 (e::es) X.env=(false,eval e X.env)::A9 es X.env:=by rfl):Yz X (e::es) (aq f fs):=⟨P1.TQ (h1:=h1.run) (h2:=h2.run) (hs:=hs)⟩
theorem aB  :Yz X [] (λ_=>Z []):=⟨P1.YB ⟩
end
theorem gL{f:A1}{k m:Nat}(F:Cc K x qual st f fd)(S:aW N ps (aJ st))(e:N.length=n)(d:ps.length=m)(b:∀(a:A0) (A:A5) (outer:O Env) (s:A2) (H:Hp) (E:XK),iQ k (A.deeper (AK qual (aJ st) s.heap.objs.size f a))->TV (HX Fj P w K mg base N qual (aJ st) f a A outer s H E).nox (ji st) g):
  qt P w K mg base Fj (k+1) f fd ps (WK K m (cL n g)):=aoB F S e d λa A outer s H E c=>(b a A outer s H E c).run
theorem G7:∀(vs:O A0) (ys:AZ),vs.length=ys.length->(∀(j:Nat) v,vs[j]?=Z v->∃y t,ys[j]?=Z y/\v=.str y t)->StrsAre vs ys
 |[],[],_,_=>.nil
 |v::vs,y::ys,hl,h=>by
  obtain⟨a,t,e,rfl⟩:=h 0 v rfl;cases e;exact .cons y t (G7 vs ys (by simpa using hl) λj v hv=>h (j+1) v (by simpa using hv))
theorem WW{AO:O (AY×A0)}{ys:AZ}(hk:AO.map (·.1)=ys.map Sum.inr){a:Array A0}(h:ItemsOf (λi v=>∃k x,AO[i]?=Z (k,x)/\(cH prog w).is k v=true) a AO.length):StrsAre a.toList ys:=by
 have d:AO.length=ys.length:=by have:=congrArg dv hk;simpa using this
 refine G7 _ _ (by rw[ZN,h.1,d]) λj v hv=>?_;obtain⟨k,x,e,hi⟩:=h.2 j v (by simpa using hv);have e1:(AO.map (·.1))[j]?=Z k:=by rw[Zp,e];rfl
 rw[hk,Zp]at e1;cases b:ys[j]? with
 |none=>rw[b]at e1;cases e1
 |some y=>
  rw[b]at e1;cases e1;have c:jk (Sum.inr y) v=true:=hi;rcases bH c with⟨i,t,e2,e3⟩|⟨z,t,e2,e3⟩
  ·cases e2
  ·cases e2;exact⟨_,t,rfl,e3⟩
def EZ:O (AY×Dt)->Y AZ
 |[]=>Z []
 |(.inr x,_)::r=>(EZ r).bind λys=>Z (x::ys)
 |(.inl _,_)::_=>X9
theorem zO:∀{AO:O (AY×Dt)} {ys:AZ},EZ AO=Z ys->AO.map (·.1)=ys.map Sum.inr
 |[],_,e=>by cases e;rfl
 |(.inr x,_)::r,_,e=>by
  obtain⟨ys,e1,e⟩:=AT e;cases e;rw[zk,zk,zO e1]
 |(.inl _,_)::_,_,e=>by cases e
theorem Tl{ys:AZ}(e:EZ AO=Z ys)(h:∀p∈AO,DM p.1)(y:AJ)(a:y∈ys):y.length<=AA:=by
 have:(Sum.inr y:AY)∈AO.map (·.1):=by rw[zO e];exact av.mpr ⟨y,a,rfl⟩
 obtain⟨p,hp,ep⟩:=av.mp this;have:=h p hp;rw[ep]at this;exact this
theorem YQ:∀{ks:O (AY×V)} {vs:O (AY×A0)},KV ks vs->vs.map (·.1)=ks.map (·.1)
 |_,_,.nil=>rfl
 |_,_,.cons h t=>by rw[zk,zk,YQ t,h.1]
theorem bV.al0(E:bV K H0 H σ ρ)(i:Nat):bV K H0 H σ (ρ.set i X9):=by
 have d:∀(j:Nat) (b:Bx),(ρ.set i X9)[j]?=Z (Z b)->ρ[j]?=Z (Z b):=λj b e=>by
  rw[y8]at e;split at e
  ·split at e<;>cases e
  ·exact e
 refine⟨by rw[KL];exact E.len,λj b e=>E.val j b (d j b e),λj k c a b e1 f e2 e3 g h=>E.own j k c a b (d _ _ e1) f e2 (d _ _ e3) g h,E.base,λj c a e1 f e2=>E.new j c a (d _ _ e1) f e2⟩
def kill(is:O Nat)(ρ:Ev):Ev:=is.foldl (λρ i=>ρ.set i X9) ρ
theorem bV.kill{K:B6}{H0 H:Hp}{σ:L2.St}:∀(is:O Nat) {ρ:Ev},bV K H0 H σ ρ->bV K H0 H σ (P1.kill is ρ)
 |[],_,E=>E
 |i::is,_,E=>bV.kill is (E.al0 i)
def c7(is:O Nat):Ev->Y Ap:=λρ=>Z (.nx (kill is ρ))
theorem nh{a:O AB}(is:O Nat)(h:CH X a g):CH X a (aF g (c7 is)):=Hk h λD σ H q=>by
 obtain⟨H0,ρ,r,E,e,q⟩:=q;obtain⟨c,e1,e⟩:=AT e;refine⟨H0,ρ,c,E,e1,?_⟩;cases c with
 |nx f=>cases e;exact λσ' H' d=>q σ' H' (d.kill is)
 |rt b=>cases e;exact q
 |bk b=>cases e;exact q
 |ct b=>cases e;exact q
theorem bF{a:O AB}(is:O Nat)(h:TV X a g):TV X a (aF g (c7 is)):=⟨nh is h.run⟩
end P1
namespace S1
section
variable(rk:A0->Nat)
def at_(xs:Array Keyed)(i:Nat):Nat:=match xs[i]? with
 |some p=>rk p.1
 |none=>0
def Up(xs:Array Keyed)(k:Nat):Prop:=∀i j,i<=j->j<k->at_ rk xs i<=at_ rk xs j
structure Bs (kd:SortKind) (b:Array Keyed) (st:SortSt):Prop where
 pm:(arrOf st).Perm b
 kd:kindOf st=kd
 fl:failedOf st=none
 pd:pendingOf st=#[]
variable{rk}{b:Array Keyed}
theorem Bs.sz{st:SortSt}(h:Bs kd b st):(AM st).size=b.size:=h.pm.size_eq
theorem yL{ys:Array Keyed}(h:xs[i]?=ys[j]?):at_ rk xs i=at_ rk ys j:=by unfold at_;rw[h]
theorem cr{p d:Nat}(hs:p<xs.size)(hd:d<=p)(k:Nat):at_ rk (bubble xs p d) k=if k=p-d then at_ rk xs p else if p-d<k/\k<=p then at_ rk xs (k-1)else at_ rk xs k:=by
 have e:=getElem?_bubble hs d hd k;by_cases q:k=p-d
 ·simp only[zl q]at e ⊢;exact yL e
 ·simp only[zv q]at e ⊢;by_cases q2:p-d<k/\k<=p
  ·simp only[zl q2]at e ⊢;exact yL e
  ·simp only[zv q2]at e ⊢;exact yL e
theorem iA(a:j<=xs.size)(k:Nat):at_ rk (mirror xs i j ((j-i) / 2)) k=if i<=k/\k<j then at_ rk xs (i+j-1-k)else at_ rk xs k:=by
 have e:=getElem?_mirror_all (i:=i) a k;by_cases q:i<=k/\k<j
 ·simp only[zl q]at e ⊢;exact yL e
 ·simp only[zv q]at e ⊢;exact yL e
end
section
variable{b:Array Keyed}
def Et(prog:A3)(w:A4)(A:A5)(s:A2)(kd:SortKind)(rk:A0->Nat)(b:Array Keyed):Prop:=
 ∀(E:BF) (p q:Keyed) (Q:Bool->A2->Prop),p∈b.toList->q∈b.toList->Q (decide (rk p.1<rk q.1)) s->A7 (A8 prog w) A (keyLt' kd p.1 q.1) Q E s
def Rn(prog:A3)(w:A4)(A:A5)(kd:SortKind)(rk:A0->Nat)(b:Array Keyed):Prop:=∀(E:BF) (s:A2) (st:SortSt) (Q:Unit->SortSt->Prop),Et prog w A s kd rk b->Bs kd b st->2<=b.size →
 (∀t,(AM t).Perm b->failedOf t=X9->Up rk (AM t) b.size->Q db t)->wpS (A8 prog w) A E s sortRuns' Q st
def Ha(a:A1)(s s':A2):Prop:=∀c o,c≠a->s.heap.get? c=Z o->s'.heap.get? c=Z o
theorem hX{vs:O A0}{P:Fin->A2->Prop}(f:s.heap.get? a=Z (seqObj "list" vs.toArray n))(y:2<=vs.length->∀s',Ha a s s'->∀Q:SortKind->A2->Prop,Q kd s'->A7 (A8 prog w) A (keyKind' vs.toArray) Q E s')(l:∀s',Ha a s s'->Et prog w A s' kd rk (pairsOf vs))(x:vs.length<=AA)(v:Rn prog w A kd rk (pairsOf vs))(h:∀st:SortSt,(AM st).Perm (pairsOf vs)->Up rk (AM st) (pairsOf vs).size->P (.done (.ret .none)) { s with heap:=sortedHeap s.heap a vs ((AM st).map (·.2)) }):
  A7 (A8 prog w) A (Builtin.«list.sort» ⟨[.ref a],[]⟩) P E s:=by
 rw[list_sort_plain];have p:=zz f;refine zb (listItems_at f X2 (zb (listUpdate_at f X2 ?_)));obtain⟨e1,g1⟩:∃e1,(s.heap.update a (Obj.mapSeq λ_=>#[])).get? a=Z (seqObj "list" #[] e1):=⟨_,get?_update_seq f λ_=>#[]⟩;refine zb (seqEpoch_at g1 X2 (zb (wpAny_newTuple (zb (YU (Z3 ?_))))));have z1:(s.heap.update a (Obj.mapSeq λ_=>#[])).objs.size=s.heap.objs.size:=oH ..;have keep:∀c,c<s.heap.objs.size->(((s.heap.update a (Obj.mapSeq λ_=>#[])).push (seqObj "tuple" vs.toArray 0)).push (seqObj "list" #[] 0)).get? c=(s.heap.update a (Obj.mapSeq λ_=>#[])).get? c:=λc b=>by
  rw[m6 _ _ _ (by rw[size_push',z1];exact zS (xt b)),m6 _ _ _ (by rw[z1];exact zS b)]
 have d:=(keep a p).trans g1;have old:Ha a s { s with heap:=((s.heap.update a (Obj.mapSeq λ_=>#[])).push (seqObj "tuple" vs.toArray 0)).push (seqObj "list" #[] 0) }:=λc o b e=>by
  show(((s.heap.update a (Obj.mapSeq λ_=>#[])).push (seqObj "tuple" vs.toArray 0)).push (seqObj "list" #[] 0)).get? c=Z o;rw[keep c (zz e),KB _ _ _ _ b];exact e
 show A7 _ _ _ _ _ { s with heap:=((s.heap.update a (Obj.mapSeq λ_=>#[])).push (seqObj "tuple" vs.toArray 0)).push (seqObj "list" #[] 0) };have C:vs.toArray.size=vs.length:=by simp
 have g:∀st:SortSt,(AM st).Perm (pairsOf vs)->((AM st).map (·.2)).size<=AA+1:=λst hp=>by
  have q:((AM st).map (·.2)).size=vs.length:=(Array.size_map ..).trans (hp.size_eq.trans (pairsOf_size _));rw[q];exact gR x
 by_cases h2:vs.toArray.size<2
 ·simp only[zl h2];refine zb (ze ?_);rw[StateT.run_pure];refine zb (ze (zb (seqEpoch_at d X2 (zb (listUpdate_at d X2 ?_ (hsz2:=g (SortSt.mk' general' (pairsOf vs) #[] 7 X9) (xf _)))))));simp only[bne_self_eq_false,zI,qh];refine ze (h (SortSt.mk' general' (pairsOf vs) #[] 7 X9) (xf _) λi j B u=>?_);rw[pairsOf_size]at u;rw[show i=j by omega];exact zo _
 ·simp only[zv h2];refine zb (y () _ old _ ?_);refine zb (qa (v _ _ (SortSt.mk' kd (pairsOf vs) #[] 7 X9) (λ_ t=>(AM t).Perm (pairsOf vs)/\failedOf t=X9/\Up rk (AM t) (pairsOf vs).size) (l _ old) ⟨xf _,rfl,rfl,rfl⟩ (by rw[pairsOf_size];omega) λt q1 q2 q3=>⟨q1,q2,q3⟩) ?_ λ_ _ q=>q);rintro⟨⟨⟩,t⟩ s' ⟨rfl,hp,m,z⟩;dsimp only;refine zb (seqEpoch_at d X2 (zb (listUpdate_at d X2 ?_ (hsz2:=g t hp))));rw[m];simp only[bne_self_eq_false,zI,qh];exact ze (h t hp z)
theorem WX{x:A0}{vs:O A0}(i:∀(d:BF) (f:O A0->A2->Prop),(∀h' tk,s.heap.objs.size<=h'.objs.size->(∀c o,s.heap.get? c=Z o->h'.get? c=Z o)->f vs { s with heap:=h',toks:=tk })->A7 (A8 prog w) A.in1 (collect x) f d s)(u:2<=vs.length->∀(d:BF) (a:A5) (s':A2),(∀c o,s.heap.get? c=Z o->s'.heap.get? c=Z o)->∀Q:SortKind->A2->Prop,Q kd s'->A7 (A8 prog w) a (keyKind' vs.toArray) Q d s')(j:∀(a:A5) (s':A2),(∀c o,s.heap.get? c=Z o->s'.heap.get? c=Z o)->Et prog w a s' kd rk (pairsOf vs))(t:vs.length<=AA)(p:∀a:A5,Rn prog w a kd rk (pairsOf vs))(h:∀(l:A1) (h':A6) (tk n:Nat) (st:SortSt),(AM st).Perm (pairsOf vs)->Up rk (AM st) (pairsOf vs).size->s.heap.objs.size<=l->(∀c o,s.heap.get? c=Z o->h'.get? c=Z o)->h'.get? l=Z (seqObj "list" ((AM st).map (·.2)) n)->Q (.ref l) { s with heap:=h',toks:=tk }):
  A7 (A8 prog w) A (call (.builtin "sorted") [x]) Q E s:=by
 refine Calls.call_function_entry kind_sorted plain_sorted entry_sorted (args_sorted1 _) ?_;unfold Builtin.«sorted»;refine zb (m:=checkCount "sorted" 1 1 _) (ze (zb (i _ _ λh1 tk v ext=>zb (YU ?_))));have b:(h1.push (seqObj "list" vs.toArray 0)).get? h1.objs.size=Z (seqObj "list" vs.toArray 0):=zC _ rfl;have old:∀s':A2,Ha h1.objs.size { s with heap:=h1.push (seqObj "list" vs.toArray 0),toks:=tk } s'->∀c o,s.heap.get? c=Z o->s'.heap.get? c=Z o:=λs' q c o e=>
  q c o (zS (zz (ext c o e))) (zd _ (ext c o e))
 refine zb (Z3 (jI slot_list_sort ⟨_,b,rfl⟩ entry_list_sort (hX b (λq s' o=>u q _ _ s' (old s' o)) (λs' o=>j _ s' (old s' o)) t (p _) λst q1 q2=>⟨_,rfl,ze ⟨_,rfl,?_⟩⟩) (args_list_sort _)));obtain⟨n,en⟩:=sortedHeap_at (out:=(AM st).map (·.2)) b;refine h h1.objs.size _ tk n st q1 q2 v (λc o e=>?_) en;have g:=zz (ext c o e);rw[sortedHeap_old (zS g) (by rw[kK];exact xt g)];exact zd _ (ext c o e)
end
end S1
namespace S1
open L2
theorem ft(fb:Bool)(x y:A0):keyLt' (tuples' fb) x y=(do
  let xs <-Builtin.List.listItems x
  let ys <-Builtin.List.listItems y
  for ((p,q),i) in (xs.toList.zip ys.toList).zipIdx do
   if !(<-eqBool p q)then return <-oneLt' (fb&&i==0) p q
  return decide (xs.size<ys.size)):=rfl
def WY:AY->AY->Bool
 |.inl a,.inl b=>decide (a<b)
 |.inr x,.inr y=>decide (x.cps.toList<y.cps.toList)
 |.inl _,.inr _=>true
 |.inr _,.inl _=>false
def Oz:AY->AY->Bool
 |.inl _,.inl _=>true
 |.inr _,.inr _=>true
 |_,_=>false
def eZ:O AY->O AY->Bool
 |[],[]=>false
 |[],_::_=>true
 |_::_,[]=>false
 |x::xs,y::ys=>if x=y then eZ xs ys else WY x y
def Wh:O AY->O AY->Prop
 |x::xs,y::ys=>Oz x y=true/\Wh xs ys
 |_,_=>True
theorem CA{x y:AY}{p q:A0}{Q:Bool->A2->Prop}(hp:jk x p=true)(c:jk y q=true)(h:Q (decide (x=y)) s):A7 (A8 prog w) A (eqBool p q) Q E s:=
 (cH prog w).eqBool (a:=x) (b:=y) hp c h
theorem sM{fb:Bool}{x y:AY}{p q:A0}{Q:Bool->A2->Prop}(hs:Oz x y=true)(hp:jk x p=true)(a:jk y q=true)(h:Q (WY x y) s):A7 (A8 prog w) A (oneLt' fb p q) Q E s:=by
 rcases bH hp with⟨i,t,rfl,rfl⟩|⟨z,t,rfl,rfl⟩
 ·rcases bH a with⟨j,u,rfl,rfl⟩|⟨z,u,rfl,rfl⟩
  ·cases fb with
   |true=>exact oneLt_int h
   |false=>
    rw[oneLt'_eq];simp only[zI,qh];refine zb (show A7 _ _ (AG .Lt (.int i t) (.int j u)) _ _ _ from lt_int ?_);exact ky h
  ·cases hs
 ·rcases bH a with⟨j,u,rfl,rfl⟩|⟨b,u,rfl,rfl⟩
  ·cases hs
  ·cases fb with
   |true=>exact oneLt_str h
   |false=>
    rw[oneLt'_eq];simp only[zI,qh];refine zb (show A7 _ _ (AG .Lt (.str z t) (.str b u)) _ _ _ from PySem.P.lt_str ?_);exact ky h
def Ks(ks:O AY)(AQ:O A0):Prop:=AI (λk v=>jk k v=true) ks AQ
def DS:O AY->O AY->Y Bool
 |x::xs,y::ys=>if x=y then DS xs ys else Z (WY x y)
 |_,_=>X9
theorem So:∀ks a:O AY,eZ ks a=match DS ks a with|some r=>r|none=>decide (ks.length<a.length)
 |[],[]=>rfl
 |[],_::_=>by simp[eZ,DS]
 |_::_,[]=>rfl
 |x::xs,y::ys=>by
  simp only[eZ,DS];by_cases e:x=y
  ·rw[zl e,zl e,So xs ys];simp only[ZO,Nat.add_lt_add_iff_right]
  ·rw[zv e,zv e]
def turn(fb:Bool):(A0×A0)×Nat->Y Bool×Unit->Sem (ForInStep (Y Bool×Unit)):=λx _=>match x with
 |((p,q),i)=>do
  let e <-eqBool p q
  if(!e)=true then do
    let r <-oneLt' (fb&&i==0) p q
    pure (ForInStep.done (Z r,db))
   else pure (ForInStep.yield (X9,db))
theorem MH(fb:Bool):∀(ks b:O AY) (AQ a:O A0) (i:Nat) (R:Y Bool×Unit->A2->Prop),Ks ks AQ->Ks b a->Wh ks b->R (DS ks b,db) s->A7 (A8 prog w) A (forIn ((AQ.zip a).zipIdx i) ((X9,db):Y Bool×Unit) (turn fb)) R E s:=by
 intro ks
 induction ks with
 |nil=>intro b AQ a i R h _ _ h1;cases h;exact ze h1
 |cons x xs f=>
  intro b AQ a i R h h' hs h1;cases h with
  |@cons _ p _ AQ hp hk=>
   cases h' with
   |nil=>exact ze h1
   |@cons y q ys a c d=>
    rw[ke,oM,List.forIn_cons];refine zb ?_;show A7 _ _ (eqBool p q >>= _) _ _ _;refine zb (CA hp c ?_);by_cases e:x=y
    ·simp only[e,decide_true,YY,zI,qh];refine ze (f ys AQ a (i+1) R hk d hs.2 ?_);simp only[DS,zl e]at h1;exact h1
    ·simp only[e,decide_false,y0,QQ];refine zb (sM hs.1 hp c (ze (ze ?_)));simp only[DS,zv e]at h1;exact h1
theorem iX{fb:Bool}{c:A1}{oa g:AE}{d:O A0}{m:Nat}{ks b:O AY}{Q:Bool->A2->Prop}(j:s.heap.get? a=Z oa)(l:oa.data=.seq AQ.toArray n)(o:s.heap.get? c=Z g)(i:g.data=.seq d.toArray m)(hk:Ks ks AQ)(f:Ks b d)(hs:Wh ks b)(h:Q (eZ ks b) s):A7 (A8 prog w) A (keyLt' (tuples' fb) (.ref a) (.ref c)) Q E s:=by
 rw[ft];refine zb (listItems_at j l (zb (listItems_at o i ?_)));have q:AQ.length=ks.length:=(Paired.length hk).symm;have p:d.length=b.length:=(Paired.length f).symm;refine zb (MH fb ks b AQ d 0 _ hk f hs ?_);rw[So]at h;cases e:DS ks b with
 |some r=>rw[e]at h;exact ze h
 |none=>
  rw[e]at h;refine ze ?_;simpa[q,p]using h
theorem WC(x:AY):WY x x=false:=by
 cases x with
 |inl a=>simp[WY]
 |inr a=>simp[WY]
theorem p6{x y z:AY}(h:WY x y=true)(h':WY y z=true):WY x z=true:=by
 cases x<;>cases y<;>cases z<;>simp only[WY,Q3,zI,reduceCtorEq]at h h' ⊢
 ·omega
 ·exact List.lt_trans h h'
theorem li{x y:AY}(h:WY x y=false)(h':WY y x=false):x=y:=by
 cases x<;>cases y<;>simp only[WY,QE,Bool.true_eq_false,reduceCtorEq]at h h'
 ·congr 1;omega
 ·rename_i a b;have:=oC (as:=a.cps.toList) (bs:=b.cps.toList) h' h;cases a;cases b;simp only at this;rw[oF.mp this]
theorem pN:∀xs:O AY,eZ xs xs=false
 |[]=>rfl
 |x::xs=>by simp only[eZ,QQ];exact pN xs
theorem nU:∀{xs ys zs:O AY},eZ xs ys=true->eZ ys zs=true->eZ xs zs=true
 |[],[],_,h,_=>by cases h
 |[],_::_,[],_,h'=>by cases h'
 |[],_::_,_::_,_,_=>rfl
 |_::_,[],_,h,_=>by cases h
 |_::_,_::_,[],_,h'=>by cases h'
 |x::xs,y::ys,z::zs,h,h'=>by
  simp only[eZ]at h h' ⊢;by_cases e1:x=y
  ·subst e1;rw[zl rfl]at h;by_cases e2:x=z
   ·subst e2;rw[zl rfl]at h' ⊢;exact nU h h'
   ·rw[zv e2]at h' ⊢;exact h'
  ·rw[zv e1]at h;by_cases e2:y=z
   ·subst e2;rw[zv e1];exact h
   ·rw[zv e2]at h';have:=p6 h h';rw[zv (λe=>by subst e;rw[WC]at this;cases this)];exact this
theorem yM:∀{xs ys:O AY},eZ xs ys=false->eZ ys xs=false->xs=ys
 |[],[],_,_=>rfl
 |[],_::_,h,_=>by cases h
 |_::_,[],_,h'=>by cases h'
 |x::xs,y::ys,h,h'=>by
  simp only[eZ]at h h';by_cases e:x=y
  ·subst e;rw[zl rfl]at h h';rw[yM h h']
  ·rw[zv e]at h;rw[zv (Ki e)]at h';exact absurd (li h h') e
def qu(xs ys:O AY):Bool:=!eZ ys xs
theorem iI(a b c:O AY)(h:qu a b=true)(h':qu b c=true):qu a c=true:=by
 unfold qu at *
 simp only[qV]at *
 cases f:eZ c a with
 |false=>rfl
 |true=>
  cases d:eZ a b with
  |true=>rw[nU f d]at h';cases h'
  |false=>
   have e:=yM d h;subst e;rw[f]at h';cases h'
theorem rE(a b:O AY):(qu a b||qu b a)=true:=by
 unfold qu;cases h:eZ b a with
 |false=>rfl
 |true=>
  cases h':eZ a b with
  |false=>rfl
  |true=>have:=nU h h';rw[pN]at this;cases this
theorem zP{a b:O AY}(h:qu a b=true)(h':qu b a=true):a=b:=by
 unfold qu at *
 simp only[qV]at *
 exact yM h' h
theorem G8{α:Type}{le:α->α->Prop}(d:∀a b,le a b->le b a->a=b):∀{l c:O α},l.Perm c->l.Pairwise le->c.Pairwise le->l=c
 |[],c,h,_,_=>by rw[List.nil_perm.mp h]
 |a::l,[],h,_,_=>by cases List.perm_nil.mp h
 |a::l,b::c,h,p,p'=>by
  have e:a=b:=by
   have f:a∈b::c:=h.mem_iff.mp (zh ..);have g:b∈a::l:=h.mem_iff.mpr (zh ..);rcases List.mem_cons.mp f with h1|h1
   ·exact h1
   ·rcases List.mem_cons.mp g with h2|h2
    ·exact h2.symm
    ·exact d a b (kT p h2) (kT p' h1)
  subst e;rw[G8 d ((j3 a).mp h) (ca.mp p).2 (ca.mp p').2]
def BJ(cI:O (O AY)):O (O AY):=cI.mergeSort qu
theorem G9(cI:O (O AY)):(BJ cI).Perm cI:=JP ..
theorem Uh(cI:O (O AY)):(BJ cI).Pairwise (λa b=>qu a b=true):=kB iI rE cI
theorem OD{out:O (O AY)}(hp:out.Perm cI)(hs:out.Pairwise (λa b=>qu a b=true)):out=BJ cI:=G8 (λ_ _=>zP) (hp.trans (G9 cI).symm) hs (Uh cI)
def C2(cI:O (O AY))(k:O AY):Nat:=cI.countP λu=>eZ u k
theorem OJ{α:Type}{p q:α->Bool}:∀{l:O α},(∀x∈l,p x=true->q x=true)->(∃x∈l,p x=false/\q x=true)->l.countP p<l.countP q
 |[],_,⟨x,hx,_⟩=>by cases hx
 |a::l,h,⟨x,hx,h1,h2⟩=>by
  have le:l.countP p<=l.countP q:=j9 λy b=>h y (zi _ b);rw[hY,hY];rcases List.mem_cons.mp hx with rfl|hx
  ·rw[h1,h2];simp;omega
  ·have:=OJ (λy b=>h y (zi _ b)) ⟨x,hx,h1,h2⟩;have c:=h a (zh ..);cases hp:p a with
   |true=>rw[c hp];simp;omega
   |false=>simp;omega
theorem Jg{a b:O AY}(e:a∈cI):decide (C2 cI a<C2 cI b)=eZ a b:=by
 cases h:eZ a b with
 |true=>
  refine z5 (OJ (λu _ c=>nU c h) ⟨a,e,pN a,h⟩)
 |false=>
  refine z4 (ej.mpr (j9 λu _ c=>?_));cases d:eZ b a with
  |true=>exact nU c d
  |false=>rw[yM h d];exact c
def sH(h:A6)(ks:O AY)(v:A0):Prop:=∃(a:A1) (o:AE) (AQ:O A0) (n:Nat),v=.ref a/\h.get? a=Z o/\o.cls=.type "tuple" ∧ o.data=.seq AQ.toArray n/\Ks ks AQ
theorem sH.keep{h':A6}{ks:O AY}{v:A0}(q:sH h ks v)(k:∀c o,h.get? c=Z o->h'.get? c=Z o):sH h' ks v:=by
 obtain⟨a,o,AQ,n,e,g,c,d,p⟩:=q;exact⟨a,o,AQ,n,e,k _ _ g,c,d,p⟩
theorem dL{k l:AY}{v:A0}(h:jk k v=true)(h':jk l v=true):k=l:=by
 rcases bH h with⟨i,t,rfl,rfl⟩|⟨x,t,rfl,rfl⟩
 ·rcases bH h' with⟨j,u,rfl,e⟩|⟨y,u,rfl,e⟩
  ·cases e;rfl
  ·cases e
 ·rcases bH h' with⟨j,u,rfl,e⟩|⟨y,u,rfl,e⟩
  ·cases e
  ·cases e;rfl
theorem Ks.inj:∀{ks a:O AY} {AQ:O A0},Ks ks AQ->Ks a AQ->ks=a
 |_,_,[],h,h'=>by cases h;cases h';rfl
 |_,_,v::AQ,h,h'=>by
  cases h with
  |cons p t=>cases h' with
   |cons p' t'=>rw[dL p p',Ks.inj t t']
theorem sH.inj{h:A6}{ks i:O AY}{v:A0}(q:sH h ks v)(j:sH h i v):ks=i:=by
 obtain⟨a,o,AQ,n,rfl,g,c,d,p⟩:=q;obtain⟨s,o',l,m,e,f,c',b,p'⟩:=j;cases e;rw[g]at f;cases f;rw[d]at b;injection b with e1 e2;have e3:AQ=l:=by simpa using congrArg lS e1
 subst e3;exact p.inj p'
theorem YS{f:α->Sem β}:∀(xs:O α) (ys:O β) (Q:O β->A2->Prop),AI (λx y=>∀(b:BF) (a:β->A2->Prop),a y s->A7 (A8 prog w) A (f x) a b s) xs ys->Q ys s->A7 (A8 prog w) A (xs.mapM f) Q E s:=by
 intro xs
 induction xs with
 |nil=>intro ys Q p h;cases p;rw[List.mapM_nil];exact ze h
 |cons x xs c=>
  intro ys Q p q;cases p with
  |cons h t=>
   rw[List.mapM_cons];exact zb (h _ _ (zb (c _ _ t (ze q))))
theorem ro(v:A0):firstOfTuple' v=(do
  if(<-typeOf v) != .type "tuple" then return X9
  return (<-Builtin.List.listItems v)[0]?):=rfl
theorem UQ{k:AY}{ks:O AY}{v:A0}(q:sH s.heap (k::ks) v):∃u,jk k u=true/\∀(e:BF) (b:Y A0->A2->Prop),b (Z u) s->A7 (A8 prog w) A (firstOfTuple' v) b e s:=by
 obtain⟨a,o,AQ,n,rfl,g,c,d,p⟩:=q;cases p with
 |@cons _ u _ AQ hp t=>
  refine⟨u,hp,λe b h=>?_⟩;rw[ro];refine zb (JE (T :="tuple") ⟨o,g,c⟩ ?_);rw[zv ()];exact zb (listItems_at g d (ze h))
theorem VU{k:AY}(h:jk k u=true)(b:BF)(a:BF)(q:a (.type (if k.isLeft then "int" else "str")) s):A7 (A8 prog w) A (typeOf u) a b s:=by
 rcases bH h with⟨i,t,rfl,rfl⟩|⟨x,t,rfl,rfl⟩
 ·exact JE (typeIs_int s i t) q
 ·exact JE (typeIs_str s x t) q
theorem O1{vs:O A0}{Q:SortKind->A2->Prop}(hv:AI (sH s.heap) cI vs)(g:∀k∈cI,k≠[])(j:∀k∈cI,∀l∈cI,Wh k l)(h2:1<=vs.length)(h:Q (tuples' true) s):A7 (A8 prog w) A (keyKind' vs.toArray) Q E s:=by
 have step:∀(cI:O (O AY)) (vs:O A0),AI (sH s.heap) cI vs->(∀k∈cI,k≠[])->∃us:O A0,AI (λv u=>∀(c:BF) (a:Y A0->A2->Prop),a (Z u) s->A7 (A8 prog w) A (firstOfTuple' v) a c s) vs us/\AI (λ(k:O AY) u=>∃x r,k=x::r/\jk x u=true) cI us:=by
  intro cI vs hv
  induction hv with
  |nil=>intro _;exact⟨[],.nil,.nil⟩
  |@cons k v cI vs q t d=>
   intro g;obtain⟨us,p1,p2⟩:=d λk hk=>g k (zi _ hk);cases k with
   |nil=>exact absurd X2 (g _ (zh ..))
   |cons x r=>
    obtain⟨u,f,o⟩:=UQ (prog:=prog) (w:=w) (A:=A) q;exact⟨u::us,.cons o p1,.cons ⟨x,r,rfl,f⟩ p2⟩
 obtain⟨us,p1,p2⟩:=step cI vs hv g;have m:us.length=vs.length:=(Paired.length p1).symm;have n:∀{l:O A0} {ws:O A0},AI (λv u=>∀(c:BF) (a:Y A0->A2->Prop),a (Z u) s->A7 (A8 prog w) A (firstOfTuple' v) a c s) l ws->AI (λv u=>∀(c:BF) (a:Y A0->A2->Prop),a u s->A7 (A8 prog w) A (firstOfTuple' v) a c s) l (ws.map Z):=λh=>by
  induction h with
  |nil=>exact .nil
  |cons q t d=>exact .cons q d
 rw[keyKind'_eq,m8,map_eq_pure_bind];refine zb (zb (YS vs (us.map Z) _ (n p1) (ze ?_)));have B:(us.map Z).toArray.all (·.isSome)=true:=by simp
 rw[zl B];refine zb (QY ?_);have z:(us.map Z).toArray.filterMap id=us.toArray:=by simp
 rw[z,oneTypeOnly'_eq,m8,map_eq_pure_bind];have ty:∀(cI:O (O AY)) (us:O A0),AI (λ(k:O AY) u=>∃x r,k=x::r/\jk x u=true) cI us->∃ts:O A0,AI (λu t=>∀(c:BF) (a:BF),a t s->A7 (A8 prog w) A (typeOf u) a c s) us ts/\AI (λ(k:O AY) t=>∃x r,k=x::r/\t=.type (if x.isLeft then "int" else "str")) cI ts:=by
  intro cI us hp
  induction hp with
  |nil=>exact⟨[],.nil,.nil⟩
  |@cons k u cI us q t d=>
   obtain⟨ts,q1,q2⟩:=d;obtain⟨x,r,rfl,hx⟩:=q;exact⟨_::ts,.cons (λc a h=>VU hx c a h) q1,.cons ⟨x,r,rfl,rfl⟩ q2⟩
 obtain⟨ts,q1,q2⟩:=ty cI us p2;refine zb (zb (zb (YS us ts _ q1 (ze ?_))));have lt:ts.length=vs.length:=by rw[<-Paired.length q1,m]
 cases q2 with
 |nil=>simp at lt;omega
 |@cons C D G i h0 p=>
  obtain⟨b,r,rfl,rfl⟩:=h0;have same:∀t∈i,t=Value.type (if b.isLeft then "int" else "str"):=by
   have y:∀(cI:O (O AY)) (ts:O A0),AI (λ(k:O AY) t=>∃x r,k=x::r/\t=Value.type (if x.isLeft then "int" else "str")) cI ts->(∀k∈cI,Wh (b::r) k)->∀t∈ts,t=Value.type (if b.isLeft then "int" else "str"):=by
    intro cI ts hp
    induction hp with
    |nil=>intro _ t e;cases e
    |@cons k t cI ts q _ d=>
     intro hs u f;rcases List.mem_cons.mp f with rfl|f
     ·obtain⟨x,F,rfl,rfl⟩:=q;have:=(hs _ (zh ..)).1;cases b<;>cases x<;>first|rfl|cases this
     ·exact d (λk hk=>hs k (zi _ hk)) u f
   exact y _ _ p λk hk=>j _ (zh ..) k (zi _ hk)
  have e0:(Value.type (if b.isLeft then "int" else "str")::i).toArray[0]?=Z (Value.type (if b.isLeft then "int" else "str")):=by simp
  have e1:((Value.type (if b.isLeft then "int" else "str")::i).toArray.all λx=>x==Value.type (if b.isLeft then "int" else "str"))=true:=by
   simp only[List.all_toArray,QR];intro t e;rcases List.mem_cons.mp e with rfl|e
   ·simp
   ·rw[same t e];simp
  rw[e0];simp only[e1,QQ];refine ze (ze ?_);have e2:((Z (Value.type (if b.isLeft then "int" else "str"))).any λx=>x !=Value.type "tuple")=true:=by
   cases b with
   |inl _=>exact(by decide:((Z (Value.type "int")).any λx=>x !=Value.type "tuple")=true)
   |inr _=>exact(by decide:((Z (Value.type "str")).any λx=>x !=Value.type "tuple")=true)
  rw[e2];exact h
def BS(cI:O (O AY))(vs:O A0)(v:A0):O AY:=match (vs.zip cI).find? (λp=>p.1==v)with
 |some p=>p.2
 |none=>[]
theorem nW{h:A6}:∀{cI:O (O AY)} {vs:O A0},AI (sH h) cI vs->∀v∈vs,BS cI vs v∈cI/\sH h (BS cI vs v) v
 |_,_,.nil,v,hv=>by cases hv
 |k::cI,u::vs,.cons q t,v,hv=>by
  unfold BS;rw[ke,JY];by_cases e:u=v
  ·subst e;simp only[beq_self_eq_true];exact⟨zh ..,q⟩
  ·have e':(u==v)=false:=by simpa using e
   simp only[e'];have b:v∈vs:=by
    rcases List.mem_cons.mp hv with h|h
    ·exact absurd h.symm e
    ·exact h
   have a:=nW t v b;exact⟨zi _ a.1,a.2⟩
theorem yN{h:A6}:∀{cI:O (O AY)} {vs:O A0},AI (sH h) cI vs->∀(K:A0->O AY),(∀v∈vs,sH h (K v) v)->vs.map K=cI
 |_,_,.nil,_,_=>rfl
 |k::cI,v::vs,.cons q t,K,hK=>by
  rw[zk,(hK v (zh ..)).inj q,yN t K λu a=>hK u (zi _ a)]
theorem J7{h:A6}:∀{vs:O A0} {K:A0->O AY},(∀v∈vs,sH h (K v) v)->AI (sH h) (vs.map K) vs
 |[],_,_=>.nil
 |v::vs,K,hK=>.cons (hK v (zh ..)) (J7 λu a=>hK u (zi _ a))
theorem Ui{vs:O A0}(hv:AI (sH s.heap) cI vs)(j:∀k∈cI,∀l∈cI,Wh k l):Et prog w A s (tuples' true) (λv=>C2 cI (BS cI vs v)) (pairsOf vs):=by
 intro E p q Q hp b h;rw[pairsOf_toList]at hp b;obtain⟨f,t1⟩:=nW hv p.1 (mem_zip_self hp).2;obtain⟨m2,t2⟩:=nW hv q.1 (mem_zip_self b).2;rw[Jg f]at h;have u:=j _ f _ m2;obtain⟨a,o,AQ,n,e,g,c,d,k⟩:=t1;obtain⟨z,o',x,y,e',t,c',m,i⟩:=t2;rw[e,e'];exact iX g d t m k i u h
theorem ly{vs:O A0}(hv:AI (sH h) cI vs)(hp:xs.Perm (pairsOf vs))(m:Up (λv=>C2 cI (BS cI vs v)) xs (pairsOf vs).size):AI (sH h) (BJ cI) (xs.map (·.2)).toList:=by
 have a:xs.toList.Perm (vs.zip vs):=by rw[<-pairsOf_toList];exact dc.mp hp
 have c:∀p∈xs.toList,p.1=p.2/\p.1∈vs:=λp q=>mem_zip_self (a.mem_iff.mp q);have e:(xs.map (·.2)).toList=xs.toList.map (·.1):=by
  rw[h6];exact Q1 λp q=>(c p q).1.symm
 have pv:(xs.toList.map (·.1)).Perm vs:=by
  have:=a.map Prod.fst;rwa [pJ (zo _)]at this
 have d:BJ cI=(xs.toList.map (·.1)).map (BS cI vs):=by
  refine(OD ?_ ?_).symm
  ·have:=pv.map (BS cI vs);rwa [yN hv _ λv q=>(nW hv v q).2]at this
  ·rw[dq];intro i j hi f l;have g:i<xs.size:=by simpa using hi
   have b:j<xs.size:=by simpa using f
   have u:=m i j (ZI l) (by rw[<-hp.size_eq];exact b);unfold at_ at u;rw[getElem?_pos xs i g,getElem?_pos xs j b]at u;have m2:=(nW hv xs[j].1 (c xs[j] (by simp)).2).1;simp only[YO,ye];unfold qu;rw[<-Jg m2,z4 (ej.mpr u)];rfl
 rw[d,e];refine J7 λv q=>(nW hv v ?_).2;exact pv.mem_iff.mp q
end S1
namespace P1
open L2 S1
theorem J8{o:AE}{T:String}{vs:O A0}{Q:O A0->A2->Prop}(f:s.heap.get? l=Z o)(b:o.cls=.type T)(d:T ="list" ∨ T ="tuple")(hd:o.data=.seq vs.toArray n)(g:vs.length<=AA)(h:∀h' tk,s.heap.objs.size<=h'.objs.size->(∀c o,s.heap.get? c=Z o->h'.get? c=Z o)->Q vs { s with heap:=h',toks:=tk }):A7 (A8 prog w) A (collect (.ref l)) Q E s:=by
 unfold collect;refine zb (wpAny_runValue (k8 entry_proto_collect' ?_));show A7 _ _ (newList [] >>= λq=>again (.builtin "list.__iadd__" ⟨[q,.ref l],[]⟩)) _ _ s;refine zb (YU (ze ⟨Code.quiet_builtin _ (by decide +kernel),k8 entry_list_iadd' ?_⟩));show A7 _ _ (Builtin.List.listExtendWith (.ref s.heap.objs.size) (.ref l) (.ref s.heap.objs.size)) _ _ _;unfold Builtin.List.listExtendWith;have g1:(s.heap.push (seqObj "list" #[] 0)).get? l=Z o:=zd _ f;refine zb (JE (T:=T) ⟨o,g1,b⟩ ?_);have a:(Value.type T==Value.type "list" || Value.type T==Value.type "tuple")=true:=by rcases d with rfl|rfl<;>decide
 rw[zl (by rw[Bool.or_assoc,a];simp)];refine zb (listItems_at g1 hd (zb (listItems_at (xs:=#[]) (n:=0) (zC _ X2) X2 ?_)));rw[zv (by simp)];have g2:(s.heap.push (seqObj "list" #[] 0)).get? s.heap.objs.size=Z (seqObj "list" #[] 0):=zC _ rfl;refine zb (listUpdate_at (xs:=#[]) (n:=0) g2 X2 (ze ?_) (Zs _) (by show(#[]++vs.toArray).size<=AA+1;simp only[K0,zr,List.length_nil];omega));show A7 (A8 prog w) A (load s.heap.objs.size >>= _) Q E _;refine zb (wpAny_load (get?_update_seq g2 _) ?_);show A7 _ _ (pure ((#[]:Array A0)++vs.toArray).toList) Q E _;rw[show((#[]:Array A0)++vs.toArray).toList=vs by simp];refine ze (h _ s.toks ?_ λc i e=>?_)
 ·rw[oH,size_push'];exact Kj _
 ·rw[KB _ _ _ _ (zS (zz e))];exact zd _ e
def IN:Dt->Y AY
 |.int i=>Z (.inl i)
 |.str x=>Z (.inr x)
 |_=>X9
def O2:O Dt->Y (O AY)
 |[]=>Z []
 |d::ds=>(IN d).bind λk=>(O2 ds).bind λks=>Z (k::ks)
def Ax:Dt->Y (O AY)
 |.tup ds=>O2 ds
 |_=>X9
def yO:O Dt->Y (O (O AY))
 |[]=>Z []
 |d::ds=>(Ax d).bind λk=>(yO ds).bind λks=>Z (k::ks)
def dK:AY->Dt
 |.inl i=>.int i
 |.inr x=>.str x
def BO(ks:O AY):Dt:=.tup (ks.map dK)
theorem af3{k:AY}(h:IN d=Z k):d=dK k:=by
 cases d<;>cases h<;>rfl
theorem Uj:∀{ds:O Dt} {ks:O AY},O2 ds=Z ks->ds=ks.map dK
 |[],_,h=>by cases h;rfl
 |d::ds,_,h=>by
  obtain⟨k,e1,h⟩:=AT h;obtain⟨ks,e2,h⟩:=AT h;cases h;rw[zk,af3 e1,Uj e2]
theorem u0{ks:O AY}(h:Ax d=Z ks):d=BO ks:=by
 cases d with
 |tup ds=>exact congrArg Dt.tup (Uj h)
 |_=>cases h
theorem u5:∀{ds:O Dt} {cI:O (O AY)},yO ds=Z cI->ds=cI.map BO
 |[],_,h=>by cases h;rfl
 |d::ds,_,h=>by
  obtain⟨k,e1,h⟩:=AT h;obtain⟨ks,e2,h⟩:=AT h;cases h;rw[zk,u0 e1,u5 e2]
theorem tI{k:AY}(h:AW K H (dK k) v):v=kV k:=by
 cases k with
 |inl i=>exact(show v=.int i by simpa only[dK,AW]using h)
 |inr x=>exact(show v=.str x/\x.length<=AA by simpa only[dK,AW]using h).1
theorem u6{K:B6}{H:Hp}:∀{ks:O AY} {vs:O V},aO K H (ks.map dK) vs->vs=ks.map kV
 |[],_,h=>by simp only[kF,aO]at h;exact h
 |k::ks,_,h=>by
  simp only[zk,aO]at h;obtain⟨v,r,rfl,h1,h2⟩:=h;rw[tI h1,u6 h2,zk]
theorem YT(X:Cx){ks:O AY}:∀{us:O A0},AX (ks.map kV) us->Ks ks us:=by
 induction ks with
 |nil=>intro us h;cases h;exact .nil
 |cons k ks a=>
  intro us h;cases h with
  |cons r t=>exact .cons (Oi (P:=X.prog) (w:=X.w) r) (a t)
theorem Jh{AN:O (A1×AE)}{σ:L2.St}{H:Hp}{s:A2}(I:AU X AN σ H s):∀{cI:O (O AY)} {vs:O V} {AQ:O A0},aO X.K H (cI.map BO) vs->AX vs AQ->AI (sH s.heap) cI AQ
 |[],_,_,h,r=>by
  simp only[kF,aO]at h;subst h;cases r;exact .nil
 |k::cI,_,_,h,r=>by
  simp only[zk,aO]at h;obtain⟨v,vs,rfl,h1,h2⟩:=h;cases r with
  |cons f i=>
   refine .cons ?_ (Jh I h2 i);simp only[BO,AW]at h1;obtain⟨a,ws,rfl,sq,e⟩:=h1;obtain⟨AQ,b,⟨o,g,c,n,d⟩,_⟩:=I.tuple sq;cases f;rw[u6 e]at b;exact⟨a,o,AQ,n,rfl,g,c,d,YT X b⟩
theorem O4{AN:O (A1×AE)}{σ:L2.St}{H:Hp}{s:A2}(I:AU X AN σ H s){cI:O (O AY)}{vs:O V}{AQ:O A0}(h:aO X.K H (cI.map BO) vs)(r:AX vs AQ):∀{c:O (O AY)} {out:O A0},AI (sH s.heap) c out->(∀u∈out,u∈AQ)->∃zs,AX zs out/\aO X.K H (c.map BO) zs
 |_,_,.nil,_=>⟨[],.nil,aO.nil⟩
 |l::c,u::out,.cons q t,hm=>by
  obtain⟨zs,z1,z2⟩:=O4 I h r t λx hx=>hm x (zi _ hx);have d:∀(cI:O (O AY)) (vs:O V) (AQ:O A0),aO X.K H (cI.map BO) vs->AX vs AQ->u∈AQ->∃v,Au v u/\AW X.K H (BO l) v:=by
   intro cI
   induction cI with
   |nil=>
    intro vs AQ h r a;simp only[kF,aO]at h;subst h;cases r;cases a
   |cons k cI i=>
    intro vs AQ h r a;simp only[zk,aO]at h;obtain⟨v,vs,rfl,h1,h2⟩:=h;cases r with
    |@cons _ j _ _ b g=>
     rcases List.mem_cons.mp a with rfl|a
     ·have e:k=l:=by
       have:=Jh I (cI:=[k]) (vs:=[v]) (AQ:=[u]) (by simp only[zk,kF];exact aO.cons h1 aO.nil) (.cons b .nil);cases this with
       |cons f _=>exact f.inj q
      subst e;exact⟨v,b,h1⟩
     ·exact i vs _ h2 g a
  obtain⟨v,b,h1⟩:=d cI vs AQ h r (hm u (zh ..));exact⟨v::zs,.cons b z1,by rw[zk];exact aO.cons h1 z2⟩
def MF(k l:O AY):Bool:=((k.zip l).all λp=>Oz p.1 p.2)
theorem FP:∀{k l:O AY},MF k l=true->Wh k l
 |[],_,_=>by simp[Wh]
 |_::_,[],_=>by simp[Wh]
 |x::k,y::l,h=>by
  unfold MF at h;rw[ke,ll,qi]at h;exact⟨h.1,FP h.2⟩
theorem Q6{b:Bx}(h:bJ K H b v)(e:vX b=Z ds):∃a vs,v=.ref a/\(su K H a vs\/yw K H a vs)/\aO K H ds vs:=by
 cases b with
 |z d=>
  cases d<;>first|(cases e;done)|skip
  ·cases e;simp only[bJ,AW]at h;obtain⟨a,vs,e,q,r⟩:=h;exact⟨a,vs,e,.inr q,r⟩
  ·cases e;simp only[bJ,AW]at h;obtain⟨a,vs,e,q,r⟩:=h;exact⟨a,vs,e,.inl q.sq,r⟩
 |l c=>cases e;obtain⟨a,vs,e,q,r⟩:=h;exact⟨a,vs,e,.inl (.inl q),r⟩
 |o c=>cases e;obtain⟨a,vs,e,q,r⟩:=h;exact⟨a,vs,e,.inl (.inl (.inl q)),r⟩
 |n _=>cases e
 |m _ _=>cases e
end P1
namespace S6
def V'(xs:Array Nat):Prop:=∀i j,i<j->j<xs.size->xs.getD i 0<xs.getD j 0
def It(h:A6)(it a:A1)(first:A0)(i n ep:Nat):Prop:=∃o,h.get? it=Z o/\o.cls=.type "set_iterator" ∧ o.data=.fields #[first,.int (i:Int) 0,.ref a,.int (n:Int) 0,.int (ep:Int) 0]
section
variable{es:Array (Int×A0)}{t:SetTable}
end
end S6
namespace S6
open P1
section
variable{es:Array (Int×A0)}{t:SetTable}
end
section
variable{R:Result->A2->Prop}{I:A1}{wr:O A1}{P:Nat->A0->Prop}{St:Nat->A2->Prop}{C:A6->O κ->Prop}{val:Nat->κ}
end
end S6
namespace S6
open PySem
structure Tb (t:SetTable):Prop where
 mask:t.mask=7\/t.mask=31\/t.mask=127
 dum:t.dummies=#[]
 rise:V' t.place
 bd:∀j:Nat,j∈t.place->j<=t.mask
 full:t.place.size<=t.mask
def n0(a:Nat)(p:SetTable.Probe):SetTable.Probe:=
 if p.more>0 then { p with j:=p.j+1,more:=p.more-1 }else
 { p with j:=(dP a p.i p.perturb).1,more:=q4 a (dP a p.i p.perturb).1-(dP a p.i p.perturb).1,i:=(dP a p.i p.perturb).1,perturb:=(dP a p.i p.perturb).2 }
def w8(a i perturb:Nat):SetTable.Probe:={ j:=i,more:=q4 a i-i,i,perturb,dummy:=X9 }
def L8(a:Nat)(h:Int):Nat->SetTable.Probe
 |0=>w8 a (gj h%(a+1)) (gj h)
 |n+1=>n0 a (L8 a h n)
def nx(M i:Nat):Nat:=(i*5+1)%M
def lp(a:Nat)(h:Int):Nat->Nat×Nat
 |0=>(gj h%(a+1),gj h)
 |l+1=>dP a (lp a h l).1 (lp a h l).2
structure Tok (t:SetTable) (es:Array (Int×Value)):Prop extends Tb t where
 size:t.place.size=es.size
 reach:∀(i j:Nat) e,t.place[i]?=some j->es[i]?=some e->∃n,n<10*SetTable.turns t.mask/\(L8 t.mask e.1 n).j=j/\∀m,m<n->(L8 t.mask e.1 m).j∈t.place
end S6
namespace S6
open P1 L2
abbrev uC(prog:A3)(w:A4)(ks:O AY):Int:=tupleKeyHash (cH prog w) ks
def TE(prog:A3)(w:A4)(h:A6)(z:O AY×A1)(e:Int×A0):Prop:=e=(uC prog w z.1,.ref z.2)/\IsTupleKey (cH prog w) h z.1 z.2
end S6
namespace S1
open L2
end S1
namespace S6
end S6
namespace S1
def DJ:Bool->Keyed->Array Keyed->Nat->Nat->Nat->StateT SortSt Sem (Y Nat):=sortPriv% PySem.Builtin.gallop
def TU:Array Keyed->Array Keyed->StateT SortSt Sem (Array Keyed):=sortPriv% PySem.Builtin.mergeLo
def zn:Array Keyed->Array Keyed->StateT SortSt Sem (Array Keyed):=sortPriv% PySem.Builtin.mergeHi
def B0:Nat->StateT SortSt Sem Unit:=sortPriv% PySem.Builtin.setMinGallop
section
variable{b:Array Keyed}
theorem Uk{p q:Keyed}{st:SortSt}{Q:Y Bool->SortSt->Prop}(c:Et prog w A s kd rk b)(hk:kindOf st=kd)(a:p∈b.toList)(d:q∈b.toList)(h:Q (Z (decide (rk p.1<rk q.1))) st):wpS (A8 prog w) A E s (lt' p q) Q st:=by
 rw[lt'_eq];refine AL (wpS_get ?_);rw[hk];exact AL (wpS_lift (wpAny_attempt (c _ p q _ a d ⟨rfl,wpS_pure h⟩)))
theorem jq{st:SortSt}{Q:Keyed->SortSt->Prop}{p:Keyed}(e:xs[i]?=Z p)(h:Q p st):wpS (A8 prog w) A E s (elem' xs i) Q st:=by
 rw[elem'_eq,e];exact wpS_pure h
theorem W0{lo hi x:Nat}(h:lo<hi)(a:hi-lo<=n-x):lo+(hi-lo) / 2<hi/\hi-(lo+(hi-lo) / 2+1)<=n-(x+1)/\lo+(hi-lo) / 2-lo<=n-(x+1):=by omega
theorem EB{lo hi:Nat}(a:hi-lo<=n-max 0 n)(h:lo<=hi):hi=lo:=by omega
theorem YW{lo hi:Nat}{P:Nat->Prop}[DecidablePred P]{st:SortSt}{f:Nat->Y β×Nat×Nat->StateT SortSt Sem (ForInStep (Y β×Nat×Nat))}{Q:Y β×Nat×Nat->SortSt->Prop}(mono:∀i j,i<=j->j<n->P j->P i)(m:∀x lo hi,lo<=hi->hi<=n->∀d:ForInStep (Y β×Nat×Nat)->SortSt->Prop,(lo>=hi->d (.done (X9,lo,hi)) st)->(lo<hi->P (lo+(hi-lo) / 2)->d (.yield (X9,lo+(hi-lo) / 2+1,hi)) st)->(lo<hi->¬ P (lo+(hi-lo) / 2)->d (.yield (X9,lo,lo+(hi-lo) / 2)) st)->wpS (A8 prog w) A E s (f x (X9,lo,hi)) d st)(h1:lo<=hi)(h2:hi<=n)(q:∀i,i<lo->P i)(u:∀i,hi<=i->i<n->¬ P i)(h:∀k,k<=n->(∀i,i<k->P i)->(∀i,k<=i->i<n->¬ P i)->Q (X9,k,k) st):wpS (A8 prog w) A E s (forIn [0:n] (X9,lo,hi) f) Q st:=by
 refine wpS_forRange (I:=λx c t=>t=st/\∃lo hi,c=(X9,lo,hi)/\lo<=hi/\hi<=n/\hi-lo<=n-x/\(∀i,i<lo->P i)/\∀i,hi<=i->i<n->¬ P i) ?_ ?_ ⟨rfl,lo,hi,rfl,h1,h2,zt (YI hi lo) h2,q,u⟩
 ·rintro x c t _ hx ⟨rfl,lo,hi,rfl,a1,a2,b,l,a⟩;refine m x lo hi a1 a2 _ (λv=>?_) (λlt p=>?_) λlt p=>?_
  ·have e:hi=lo:=Nat.le_antisymm v a1;subst e;exact h hi a2 l a
  ·have g:=W0 lt b;exact⟨rfl,_,_,rfl,g.1,a2,g.2.1,λi o=>mono i _ (kA o) (zD g.1 a2) p,a⟩
  ·have g:=W0 lt b;exact⟨rfl,_,_,rfl,yk _ _,zt (ZI g.1) a2,g.2.2,l,λi q1 q2 z=>p (mono _ i q1 q2 z)⟩
 ·rintro c t ⟨rfl,lo,hi,rfl,a1,a2,b,l,a⟩;have e:hi=lo:=EB b a1;subst e;exact h hi a2 l a
theorem Hn{x o:Nat}(h:x+1<=o):x+1+1<=2*o+1/\o<2*o+1:=by omega
def N1(left:Bool)(a:Keyed)(xs:Array Keyed)(base lo hi:Nat):StateT SortSt Sem (ForInStep (Y (Y Nat)×Nat×Nat)):=if lo>=hi then pure (.done (X9,lo,hi))else(elem' xs (base+(lo+(hi-lo) / 2)) >>= λx=>if left=true then lt' x a else lt' a x >>= λz=>pure (z.map (!·))) >>= λz=>match z with
 |some b=>if b=true then pure (.yield (X9,lo+(hi-lo) / 2+1,hi))else pure (.yield (X9,lo,lo+(hi-lo) / 2))
 |_=>pure (.done (Z X9,lo,hi))
theorem OC{left:Bool}{d:Keyed}{base a:Nat}{st:SortSt}{Q:Y Nat->SortSt->Prop}(K:Et prog w A s kd rk b)(hk:kindOf st=kd)(mk:d∈b.toList)(M:∀i,i<n->∃p,xs[base+i]?=Z p/\p∈b.toList)(F:a<n)(U:∀i j,i<=j->j<n->at_ rk xs (base+i)<=at_ rk xs (base+j))(h:∀k,k<=n->(∀i,i<k->if left=true then at_ rk xs (base+i)<rk d.1 else at_ rk xs (base+i)<=rk d.1)->(∀i,k<=i->i<n->if left=true then rk d.1<=at_ rk xs (base+i)else rk d.1<at_ rk xs (base+i))->Q (Z k) st):wpS (A8 prog w) A E s (DJ left d xs base n a) Q st:=by
 let P:Nat->Prop:=λi=>if left=true then at_ rk xs (base+i)<rk d.1 else at_ rk xs (base+i)<=rk d.1
 have W:∀i,Decidable (P i):=λi=>by
  show Decidable (if left=true then _ else _);cases left
  ·exact Nat.decLe _ _
  ·exact Nat.decLt _ _
 have mono:∀i j,i<=j->j<n->P j->P i:=λi j S N p=>by
  have:=U i j S N;cases left
  ·have p:at_ rk xs (base+j)<=rk d.1:=p;show at_ rk xs (base+i)<=rk d.1;omega
  ·have p:at_ rk xs (base+j)<rk d.1:=p;show at_ rk xs (base+i)<rk d.1;omega
 have G:∀{i:Nat} {Q:Y Bool->SortSt->Prop},i<n->Q (Z (decide (P i))) st->wpS (A8 prog w) A E s (do let x <-elem' xs (base+i);if left=true then lt' x d else do let z <-lt' d x;pure (z.map (!·))) Q st:=λ{i Q} hi hq=>by
  obtain⟨p,e,m⟩:=M i hi;have ea:at_ rk xs (base+i)=rk p.1:=by unfold at_;rw[e]
  refine AL (jq e ?_);cases left
  ·rw[zv ()];refine AL (Uk K hk mk m (wpS_pure ?_));have:(Option.map (λx=>!x) (Z (decide (rk d.1<rk p.1))))=Z (decide (P i)):=by
    show Z (!decide _)=_;refine congrArg Z ?_;rw[<-decide_not];exact decide_eq_decide.mpr (by show _↔at_ rk xs (base+i)<=rk d.1;omega)
   rw[this];exact hq
  ·rw[zl rfl];refine Uk K hk m mk ?_;have:decide (rk p.1<rk d.1)=decide (P i):=decide_eq_decide.mpr (by show _↔at_ rk xs (base+i)<rk d.1;rw[ea]);rw[this];exact hq
 have L:∀k,k<=n->(∀i,i<k->P i)->(∀i,k<=i->i<n->¬ P i)->Q (Z k) st:=λk B C y=>h k B C λi q1 q2=>by
  have:=y i q1 q2;cases left
  ·have this:¬ at_ rk xs (base+i)<=rk d.1:=this;show rk d.1<at_ rk xs (base+i);omega
  ·have this:¬ at_ rk xs (base+i)<rk d.1:=this;show rk d.1<=at_ rk xs (base+i);omega
 have H:∀lo hi,hi<=n->∀{u:ForInStep (Y (Y Nat)×Nat×Nat)->SortSt->Prop},(lo>=hi->u (.done (X9,lo,hi)) st)->(lo<hi->P (lo+(hi-lo) / 2)->u (.yield (X9,lo+(hi-lo) / 2+1,hi)) st)->(lo<hi->¬ P (lo+(hi-lo) / 2)->u (.yield (X9,lo,lo+(hi-lo) / 2)) st)->wpS (A8 prog w) A E s (N1 left d xs base lo hi) u st:=λlo hi b2 {u} g1 g2 g3=>by
  unfold N1;by_cases f:lo>=hi
  ·rw[zl f];exact wpS_pure (g1 f)
  ·rw[zv f];have lt:=YN f;refine AL (G (zD (W0 (n:=hi) (x:=0) lt (YI _ _)).1 b2) ?_);dsimp only;by_cases p:P (lo+(hi-lo) / 2)
   ·rw[z5 p,zl rfl];exact wpS_pure (g2 lt p)
   ·rw[z4 p,zv ()];exact wpS_pure (g3 lt p)
 clear h;unfold DJ;refine AL (G F ?_);dsimp only;by_cases p0:P a
 ·rw[z5 p0,zl rfl];have D:∀{l o:Nat},o>=n-a->a+l<n->P (a+l)->a+l+1<=a+min o (n-a)/\a+min o (n-a)<=n/\(∀i,i<a+l+1->P i)/\∀i,a+min o (n-a)<=i->i<n->¬ P i:=λf q g=>by
   rw[Nat.min_eq_right f,hE (ZI F)];exact⟨q,zo _,λi hi=>mono i _ (kA hi) q g,λi q1 q2=>absurd q2 (ej.mpr q1)⟩
  refine AL (wpS_mono (wpS_forRange (I:=λx c t=>t=st/\∃l o,c=(X9,l,o)/\x+1<=o/\l<o/\a+l<n/\P (a+l)) (Q:=λc t=>t=st/\∃l o,c=(X9,l,o)/\a+l+1<=a+min o (n-a)/\a+min o (n-a)<=n/\(∀i,i<a+l+1->P i)/\∀i,a+min o (n-a)<=i->i<n->¬ P i) ?_ ?_ ⟨rfl,0,1,rfl,by omega,by omega,by omega,p0⟩) ?_)
  ·rintro x c t _ hx ⟨rfl,l,o,rfl,a1,a2,q,g⟩;dsimp only;by_cases f:o>=n-a
   ·rw[zl f];exact wpS_pure ⟨rfl,l,o,rfl,D f q g⟩
   ·rw[zv f];have v:a+o<n:=kz (YN f);refine AL (G v ?_);dsimp only;by_cases p:P (a+o)
    ·rw[z5 p,zv ()];exact wpS_pure ⟨rfl,o,2*o+1,rfl,(Hn a1).1,(Hn a1).2,v,p⟩
    ·rw[z4 p,zl ()];refine wpS_pure ⟨rfl,l,o,rfl,?_⟩;rw[KI (Nat.le_of_not_le f)];exact⟨yo a2 a,ZI v,λi hi=>mono i _ (kA hi) q g,λi q1 q2 z=>p (mono _ i q1 q2 z)⟩
  ·rintro c t ⟨rfl,l,o,rfl,a1,a2,q,g⟩;exact⟨rfl,l,o,rfl,D (zt (YI n a) (zt (xB 0 n) (y4 a1))) q g⟩
  rintro c t ⟨rfl,l,o,rfl,a1,a2,q,g⟩;dsimp only;exact AL (YW mono (λx lo hi b1 b2 u g1 g2 g3=>H lo hi b2 g1 g2 g3) a1 a2 q g λk B C y=>wpS_pure (L k B C y))
 ·rw[z4 p0,zv ()];have sl:∀l,a-l<=n:=λl=>zt (YI a l) (ZI F);have D:∀{l o:Nat},o>=a+1->¬ P (a-l)->a+1-min o (a+1)<=a-l/\a-l<=n/\(∀i,i<a+1-min o (a+1)->P i)/\∀i,a-l<=i->i<n->¬ P i:=λf g=>by
   rw[Nat.min_eq_right f,Nat.sub_self];exact⟨Zs _,sl _,λi hi=>absurd hi (Nat.not_lt_zero i),λi q1 q2 z=>g (mono _ i q1 q2 z)⟩
  refine AL (wpS_mono (wpS_forRange (I:=λx c t=>t=st/\∃l o,c=(X9,l,o)/\x+1<=o/\l<o/\l<=a/\¬ P (a-l)) (Q:=λc t=>t=st/\∃l o,c=(X9,l,o)/\a+1-min o (a+1)<=a-l/\a-l<=n/\(∀i,i<a+1-min o (a+1)->P i)/\∀i,a-l<=i->i<n->¬ P i) ?_ ?_ ⟨rfl,0,1,rfl,by omega,by omega,by omega,p0⟩) ?_)
  ·rintro x c t _ hx ⟨rfl,l,o,rfl,a1,a2,q,g⟩;dsimp only;by_cases f:o>=a+1
   ·rw[zl f];exact wpS_pure ⟨rfl,l,o,rfl,D f g⟩
   ·rw[zv f];have v:o<=a:=kA (YN f);have J:a-o<n:=kc (YI a o) F;refine AL (G J ?_);dsimp only;by_cases p:P (a-o)
    ·rw[z5 p,zl rfl];refine wpS_pure ⟨rfl,l,o,rfl,?_⟩;rw[KI (Nat.le_of_not_le f),Nat.succ_sub v];exact⟨Nat.sub_lt_sub_left (zD a2 v) a2,sl l,λi hi=>mono i _ (kA hi) J p,λi q1 q2 z=>g (mono _ i q1 q2 z)⟩
    ·rw[z4 p,zv ()];exact wpS_pure ⟨rfl,o,2*o+1,rfl,(Hn a1).1,(Hn a1).2,v,p⟩
  ·rintro c t ⟨rfl,l,o,rfl,a1,a2,q,g⟩;exact⟨rfl,l,o,rfl,D (zt F (zt (xB 0 n) (y4 a1))) g⟩
  rintro c t ⟨rfl,l,o,rfl,a1,a2,q,g⟩;dsimp only;exact AL (YW mono (λx lo hi b1 b2 u g1 g2 g3=>H lo hi b2 g1 g2 g3) a1 a2 q g λk B C y=>wpS_pure (L k B C y))
end
section
variable(le:Keyed->Keyed->Prop)
structure Mg (W out xs ys:List Keyed):Prop where
 pm:(out++xs++ys).Perm W
 so:out.Pairwise le
 lo:∀x∈out,∀y∈xs++ys,le x y
 sx:xs.Pairwise le
 sy:ys.Pairwise le
variable{le}{out xs ys:O Keyed}
theorem Mg.acJ{x:Keyed}(h:Mg le W out (x::xs) ys)(l:∀y∈ys,le x y):Mg le W (out++[x]) xs ys:=by
 have e:=ca.mp h.sx;refine⟨by have:=h.pm;simpa using this,cf.mpr ⟨h.so,i4 ..,λa d c b=>?_⟩,λa d c b=>?_,e.2,h.sy⟩
 ·rw[bj.mp b];exact h.lo a d x (by simp)
 ·rcases bB.mp d with q|q
  ·exact h.lo a q c (by simp at b ⊢;rcases b with z|z<;>simp[z])
  ·rw[bj.mp q];rcases bB.mp b with z|z
   ·exact e.1 c z
   ·exact l c z
theorem Mg.acK{y:Keyed}(h:Mg le W out xs (y::ys))(l:∀x∈xs,le y x):Mg le W (out++[y]) xs ys:=by
 have e:=ca.mp h.sy;refine⟨List.Perm.trans ?_ h.pm,cf.mpr ⟨h.so,i4 ..,λa d c b=>?_⟩,λa d c b=>?_,h.sx,e.2⟩
 ·rw[ZZ,ZZ,ZZ];refine List.Perm.append_left _ ?_;show(y::(xs++ys)).Perm (xs++y::ys);exact List.perm_middle.symm
 ·rw[bj.mp b];exact h.lo a d y (by simp)
 ·rcases bB.mp d with q|q
  ·exact h.lo a q c (by simp at b ⊢;rcases b with z|z<;>simp[z])
  ·rw[bj.mp q];rcases bB.mp b with z|z
   ·exact l c z
   ·exact e.1 c z
theorem Mg.Q7:∀{zs out:O Keyed},Mg le W out (zs++xs) ys->(∀z∈zs,∀y∈ys,le z y)->Mg le W (out++zs) xs ys
 |[],out,h,_=>by rw[qk];exact h
 |z::zs,out,h,l=>by
  have:=Mg.Q7 (h.acJ (xs:=zs++xs) (l z (by simp))) λa b=>l a (by simp[b]);rwa [ZZ]at this
theorem Mg.Q8:∀{zs out:O Keyed},Mg le W out xs (zs++ys)->(∀z∈zs,∀x∈xs,le z x)->Mg le W (out++zs) xs ys
 |[],out,h,_=>by rw[qk];exact h
 |z::zs,out,h,l=>by
  have:=Mg.Q8 (h.acK (ys:=zs++ys) (l z (by simp))) λa b=>l a (by simp[b]);rwa [ZZ]at this
theorem Mg.ai9(h:Mg le W out xs []):(out++xs).Perm W/\(out++xs).Pairwise le:=
 ⟨by have:=h.pm;simpa using this,cf.mpr ⟨h.so,h.sx,λa d c b=>h.lo a d c (by simpa using b)⟩⟩
theorem Mg.aja(h:Mg le W out [] ys):(out++ys).Perm W/\(out++ys).Pairwise le:=
 ⟨by have:=h.pm;simpa using this,cf.mpr ⟨h.so,h.sy,λa d c b=>h.lo a d c (by simpa using b)⟩⟩
theorem Mg.al4(h:Mg le W out xs ys)(l:∀y∈ys,∀x∈xs,le y x):(out++ys++xs).Perm W/\(out++ys++xs).Pairwise le:=by
 have h2:Mg le W (out++ys) xs []:=Mg.Q8 (zs:=ys) (ys:=[]) (by rw[qk];exact h) l;exact h2.ai9
end
abbrev Sm(st t:SortSt):Prop:=kindOf t=kindOf st/\failedOf t=failedOf st/\AM t=AM st/\pendingOf t=pendingOf st
theorem u9{x:Array Keyed}{z:Keyed}(h:z∈x.toList.drop i):∃j,i<=j/\∃h:j<x.size,x[j]=z:=by
 obtain⟨n,a,e⟩:=JU h;rw[Kt]at e;rw[jS]at a;exact⟨i+n,by omega,by simp at a;omega,e⟩
theorem J9(x:Array Keyed)(i k:Nat):(x.extract i (i+k)).toList=(x.toList.drop i).take k:=by
 rw[yb,kU,i6]
theorem zQ(x:Array Keyed)(i:Nat):(x.extract i).toList=x.toList.drop i:=by
 rw[yb,kU,Qb (by simp)]
theorem YX{x:Array Keyed}{k:Nat}{z:Keyed}(h:z∈(x.extract i (i+k)).toList):∃j,i<=j/\j<i+k/\∃h:j<x.size,x[j]=z:=by
 rw[J9]at h;obtain⟨n,a,e⟩:=JU h;rw[Kn,Kt]at e;rw[qB,jS]at a;exact⟨i+n,by omega,by omega,by simp at a;omega,e⟩
theorem Bn{x:Array Keyed}(h:i<x.size):x.toList.drop i=x[i]::x.toList.drop (i+1):=yn (by simpa using h)
theorem Ul(x:Array Keyed)(i k:Nat):x.toList.drop i=(x.extract i (i+k)).toList++x.toList.drop (i+k):=by
 rw[J9,<-List.drop_drop,qr]
theorem Hf{x:Array Keyed}(h:i<x.size):at_ rk x i=rk x[i].1:=by unfold at_;rw[getElem?_pos x i h]
section
variable{b:Array Keyed}
abbrev Le(rk:A0->Nat):Keyed->Keyed->Prop:=λp q=>rk p.1<=rk q.1
abbrev Rt(rk:A0->Nat)(W:O Keyed)(r:Array Keyed):Prop:=r.toList.Perm W/\r.toList.Pairwise (Le rk)
theorem Ay{x:Array Keyed}(h:x.toList.Pairwise (Le rk))(b:i<=j)(a:j<x.size):rk x[i].1<=rk x[j].1:=by
 by_cases e:i=j
 ·subst e;exact zo _
 ·have:=dq.mp h i j (by simp;omega) (by simpa using a) ();simpa using this
section
variable{x y:Array Keyed}
abbrev Mo(rk:A0->Nat)(W:O Keyed)(x y out:Array Keyed)(i j:Nat):Prop:=Mg (Le rk) W out.toList (x.toList.drop i) (y.toList.drop j)
theorem Mo.pX(h:Mo rk W x y out i j)(hi:i<x.size)(l:∀k (q:k<y.size),j<=k->rk x[i].1<=rk y[k].1):Mo rk W x y (out.push x[i]) (i+1) j:=by
 unfold Mo at *
 rw[Bn hi]at h;rw[Yf];exact h.acJ λz c=>by
  obtain⟨k,a,b,rfl⟩:=u9 c;exact l k b a
theorem Mo.pY(h:Mo rk W x y out i j)(c:j<y.size)(l:∀k (q:k<x.size),i<=k->rk y[j].1<=rk x[k].1):Mo rk W x y (out.push y[j]) i (j+1):=by
 unfold Mo at *
 rw[Bn c]at h;rw[Yf];exact h.acK λz d=>by
  obtain⟨k,a,b,rfl⟩:=u9 d;exact l k b a
theorem Mo.pXs(h:Mo rk W x y out i j)(l:∀a (p:a<x.size),i<=a->a<i+n->∀k (q:k<y.size),j<=k->rk x[a].1<=rk y[k].1):Mo rk W x y (out++x.extract i (i+n)) (i+n) j:=by
 unfold Mo at *
 rw[Ul x i n]at h;rw[ZA];exact h.Q7 λz d c b=>by
  obtain⟨a,a1,a2,e,rfl⟩:=YX d;obtain⟨k,f,g,rfl⟩:=u9 b;exact l a e a1 a2 k g f
theorem Mo.pYs(h:Mo rk W x y out i j)(l:∀a (p:a<y.size),j<=a->a<j+n->∀k (q:k<x.size),i<=k->rk y[a].1<=rk x[k].1):Mo rk W x y (out++y.extract j (j+n)) i (j+n):=by
 unfold Mo at *
 rw[Ul y j n]at h;rw[ZA];exact h.Q8 λz d c b=>by
  obtain⟨a,a1,a2,e,rfl⟩:=YX d;obtain⟨k,f,g,rfl⟩:=u9 b;exact l a e a1 a2 k g f
theorem Mo.Di(h:Mo rk W x y out i j)(e:(j==y.size)=true):Rt rk W (out++x.extract i++y.extract j):=by
 have e:j=y.size:=by simpa using e
 have a:y.toList.drop j=[]:=YA (by simp;omega);unfold Mo at h;rw[a]at h;unfold Rt;rw[ZA,ZA,zQ,zQ,a,qk];exact h.ai9
theorem Mo.acL(h:Mo rk W x y out i j)(e:(i==x.size)=true):Rt rk W (out++x.extract i++y.extract j):=by
 have e:i=x.size:=by simpa using e
 have a:x.toList.drop i=[]:=YA (by simp;omega);unfold Mo at h;rw[a]at h;unfold Rt;rw[ZA,ZA,zQ,zQ,a,qk];exact h.aja
theorem Mo.last(h:Mo rk W x y out i j)(e:(i+1==x.size)=true)(l:∀k (q:k<y.size) (z:x.size-1<x.size),rk y[k].1<=rk x[x.size-1].1):Rt rk W (out++y.extract j++x.extract i):=by
 have e:i+1=x.size:=by simpa using e
 unfold Rt;rw[ZA,ZA,zQ,zQ];refine Mg.al4 h λc b z f=>?_;obtain⟨k,g,d,rfl⟩:=u9 b;obtain⟨a,a1,a2,rfl⟩:=u9 f;have:a=x.size-1:=by omega
 subst this;exact l k d a2
theorem Ji{g:Nat}{Q:Unit->SortSt->Prop}(h:∀t',Sm t t'->Q ⟨⟩ t'):wpS (A8 prog w) A E s (B0 g) Q t:=by
 unfold B0;exact wpS_modify (h _ ⟨rfl,rfl,rfl,rfl⟩)
theorem Sm.tr{u v:SortSt}(h:Sm t u)(h':Sm u v):Sm t v:=⟨h'.1.trans h.1,h'.2.1.trans h.2.1,h'.2.2.1.trans h.2.2.1,h'.2.2.2.trans h.2.2.2⟩
theorem Jj{left:Bool}{d:Keyed}{z:Array Keyed}{e:Nat}{Q:Y Nat->SortSt->Prop}(g:Et prog w A s kd rk b)(hk:kindOf t=kd)(mk:d∈b.toList)(o:∀p∈z.toList,p∈b.toList)(sz:z.toList.Pairwise (Le rk))(x:i+n<=z.size)(j:e<n)(h:∀k,k<=n->(∀a (q:a<z.size),i<=a->a<i+k->if left=true then rk z[a].1<rk d.1 else rk z[a].1<=rk d.1)->(∀a (q:a<z.size),i+k<=a->a<i+n->if left=true then rk d.1<=rk z[a].1 else rk d.1<rk z[a].1)->Q (Z k) t):wpS (A8 prog w) A E s (DJ left d z i n e) Q t:=by
 refine OC (rk:=rk) g hk mk (λa u=>⟨z[i+a]'(),getElem?_pos z _ (),o _ (by simp)⟩) j (λa c y v=>?_) λk l m f=>h k l (λa q q1 q2=>?_) λa q q1 q2=>?_
 ·rw[Hf (show i+a<z.size by omega),Hf (show i+c<z.size by omega)];exact Ay sz () _
 ·have:=m (a-i) ();rw[show i+(a-i)=a by omega,Hf q]at this;exact this
 ·have:=f (a-i) () ();rw[show i+(a-i)=a by omega,Hf q]at this;exact this
abbrev Um:=Y (Array Keyed)×Array Keyed×Nat×Nat×Nat×Nat×Nat
def Q9(x y o:Array Keyed)(i j g k u:Nat):StateT SortSt Sem (ForInStep Um):=elem' x i >>= λd=>if(i+1+1==x.size)=true then pure (.done (Z (o.push d++y.extract j++x.extract (i+1)),o.push d,i+1,j,g,k,u))else if(decide (k<7)&&decide (u<7))=true then pure (.done (X9,o.push d,i+1,j,g,k,u))else pure (.yield (X9,o.push d,i+1,j,g,k,u))
def Ra(x y o:Array Keyed)(i j g k q:Nat):StateT SortSt Sem (ForInStep Um):=elem' y j >>= λd=>if(j+1==y.size)=true then pure (.done (Z (o.push d++x.extract i++y.extract (j+1)),o.push d,i,j+1,g,k,q))else elem' x i >>= λe=>DJ true e y (j+1) (y.size-(j+1)) 0 >>= λz=>match z with
 |some u=>if u>0 then if(j+1+u==y.size)=true then pure (.done (Z (o.push d++y.extract (j+1) (j+1+u)++x.extract i++y.extract (j+1+u)),o.push d++y.extract (j+1) (j+1+u),i,j+1+u,g,k,u))else Q9 x y (o.push d++y.extract (j+1) (j+1+u)) i (j+1+u) g k u else Q9 x y (o.push d) i (j+1) g k u
 |_=>pure (.done (Z (o.push d++x.extract i++y.extract (j+1)),o.push d,i,j+1,g,k,q))
def Ka(x y o:Array Keyed)(i j g p q:Nat):StateT SortSt Sem (ForInStep Um):=B0 g >>= λ_=>elem' y j >>= λe=>DJ false e x i (x.size-i) 0 >>= λz=>match z with
 |some k=>if k>0 then if(i+k+1==x.size)=true then pure (.done (Z (o++x.extract i (i+k)++y.extract j++x.extract (i+k)),o++x.extract i (i+k),i+k,j,g,k,q))else if(i+k==x.size)=true then pure (.done (Z (o++x.extract i (i+k)++x.extract (i+k)++y.extract j),o++x.extract i (i+k),i+k,j,g,k,q))else Ra x y (o++x.extract i (i+k)) (i+k) j g k q else Ra x y o i j g k q
 |_=>pure (.done (Z (o++x.extract i++y.extract j),o,i,j,g,p,q))
section
variable{P:ForInStep Um->SortSt->Prop}
theorem Dj{a b:Nat}(h:¬ (a==b)=true)(l:a<=b):a<b:=fP l λe=>h (beq_iff_eq.mpr e)
abbrev MD(rk:A0->Nat)(W:O Keyed)(P:ForInStep Um->SortSt->Prop)(t:SortSt):Prop:=∀r c,Rt rk W r->P (.done (Z r,c)) t
abbrev Mc(rk:A0->Nat)(W:O Keyed)(x y:Array Keyed)(n:Nat)(P:ForInStep Um->SortSt->Prop)(t:SortSt):Prop:=∀o i j c,Mo rk W x y o i j->i+1<x.size->j<y.size->n<i+j->P (.done (X9,o,i,j,c)) t/\P (.yield (X9,o,i,j,c)) t
theorem O5{g k u:Nat}(M:Mo rk W x y o i j)(hi:i+1<x.size)(c:j<y.size)(l:∀a (q:a<y.size),j<=a->rk x[i].1<=rk y[a].1)(last:∀k (q:k<y.size) (z:x.size-1<x.size),rk y[k].1<=rk x[x.size-1].1)(h:n<=i+j)(hd:MD rk W P t)(f:Mc rk W x y n P t):wpS (A8 prog w) A E s (Q9 x y o i j g k u) P t:=by
 unfold Q9;have hx:=Kk hi;refine AL (jq (getElem?_pos x _ hx) ?_);have b:=M.pX hx λa z e=>l a z e;by_cases d:(i+1+1==x.size)=true
 ·rw[zl d];exact wpS_pure (hd _ _ (b.last d last))
 rw[zv d];have z:=f _ _ _ (g,k,u) b (Dj d hi) c (kc h (Nat.add_lt_add_right (yi i) j));split
 ·exact wpS_pure z.1
 ·exact wpS_pure z.2
theorem O6{g k q:Nat}(C:Et prog w A s kd rk b)(hk:kindOf t=kd)(K:∀p∈x.toList,p∈b.toList)(J:∀p∈y.toList,p∈b.toList)(F:x.toList.Pairwise (Le rk))(G:y.toList.Pairwise (Le rk))(M:Mo rk W x y o i j)(hi:i+1<x.size)(e:j<y.size)(l:∀a (q:a<x.size),i<=a->rk y[j].1<rk x[a].1)(last:∀k (q:k<y.size) (z:x.size-1<x.size),rk y[k].1<=rk x[x.size-1].1)(N:n<=i+j)(hd:MD rk W P t)(B:Mc rk W x y n P t):wpS (A8 prog w) A E s (Ra x y o i j g k q) P t:=by
 unfold Ra;have hx:=Kk hi;refine AL (jq (getElem?_pos y _ e) ?_);have M2:=M.pY e λa z D=>ZI (l a z D);by_cases d:(j+1==y.size)=true
 ·rw[zl d];exact wpS_pure (hd _ _ (M2.Di d))
 rw[zv d];have I:=Dj d e;refine AL (jq (getElem?_pos x _ hx) (AL (Jj (rk:=rk) C hk (K _ (by simp)) J G () () λu L m f=>?_)));simp only[QQ]at m f;dsimp only;by_cases v:u>0
 ·rw[zl v];have h:=M2.pYs (n:=u) λa p q1 q2 c z H=>zt (ZI (m a p q1 q2)) (Ay F H z);by_cases d:(j+1+u==y.size)=true
  ·rw[zl d];exact wpS_pure (hd _ _ (h.Di d))
  rw[zv d];exact O5 h hi (Dj d ()) (λa q q1=>f a q q1 ()) last () hd B
 ·rw[zv v];exact O5 M2 hi I (λa q q1=>f a q () ()) last () hd B
theorem VM{g p q:Nat}(m:Et prog w A s kd rk b)(hk:kindOf t=kd)(D:∀p∈x.toList,p∈b.toList)(C:∀p∈y.toList,p∈b.toList)(v:x.toList.Pairwise (Le rk))(B:y.toList.Pairwise (Le rk))(M:Mo rk W x y o i j)(hi:i+1<x.size)(u:j<y.size)(last:∀k (q:k<y.size) (z:x.size-1<x.size),rk y[k].1<=rk x[x.size-1].1)(I:n<=i+j)(hd:∀t',Sm t t'->MD rk W P t')(f:∀t',Sm t t'->Mc rk W x y n P t'):wpS (A8 prog w) A E s (Ka x y o i j g p q) P t:=by
 unfold Ka;refine AL (Ji λt' l=>?_);have hd:=hd t' l;have f:=f t' l;have hk:=l.1.trans hk;refine AL (jq (getElem?_pos y _ u) (AL (Jj (rk:=rk) m hk (C _ (by simp)) D v () () λk J F h=>?_)));simp only[zI,qh]at F h;dsimp only;by_cases G:k>0
 ·rw[zl G];have M1:=M.pXs (n:=k) λa p q1 q2 c z H=>zt (F a p q1 q2) (Ay B H z);by_cases d:(i+k+1==x.size)=true
  ·rw[zl d];exact wpS_pure (hd _ _ (M1.last d last))
  rw[zv d];by_cases e:(i+k==x.size)=true
  ·rw[zl e];exact wpS_pure (hd _ _ (M1.acL e))
  rw[zv e];exact O6 m hk D C v B M1 (Dj d (Dj e ())) u (λa q q1=>h a q q1 ()) last () hd f
 ·rw[zv G];exact O6 m hk D C v B M hi u (λa q q1=>h a q () ()) last I hd f
end
abbrev YZ:=Y (Array Keyed)×Array Keyed×Nat×Nat×Nat×Nat
def LM(g:Nat)(x y o:Array Keyed)(i j p q:Nat):StateT SortSt Sem (ForInStep YZ):=elem' y j >>= λe=>elem' x i >>= λd=>lt' e d >>= λz=>match z with
 |some c=>if c=true then elem' y j >>= λd=>if(j+1==y.size)=true then pure (.done (Z (o.push d++x.extract i++y.extract (j+1)),o.push d,i,j+1,0,q+1))else if q+1>=g then pure (.done (X9,o.push d,i,j+1,0,q+1))else pure (.yield (X9,o.push d,i,j+1,0,q+1))
  else elem' x i >>= λd=>if(i+1+1==x.size)=true then pure (.done (Z (o.push d++y.extract j++x.extract (i+1)),o.push d,i+1,j,p+1,0))else if p+1>=g then pure (.done (X9,o.push d,i+1,j,p+1,0))else pure (.yield (X9,o.push d,i+1,j,p+1,0))
 |_=>pure (.done (Z (o++x.extract i++y.extract j),o,i,j,p,q))
theorem Y0{c:Prop}[Decidable c]{f:Nat->StateT SortSt Sem α}{a b:Nat}{Q:α->SortSt->Prop}(h:∀g,wpS (A8 prog w) A E s (f g) Q t):wpS (A8 prog w) A E s (if c then f a else f b) Q t:=by
 by_cases q:c
 ·rw[zl q];exact h a
 ·rw[zv q];exact h b
theorem Jk{c:Prop}[Decidable c]{u v:α}{Q:α->SortSt->Prop}(h:Q u t/\Q v t):wpS (A8 prog w) A E s (if c then pure u else pure v) Q t:=by
 by_cases q:c
 ·rw[zl q];exact wpS_pure h.1
 ·rw[zv q];exact wpS_pure h.2
theorem hJ{Q:ForInStep YZ->SortSt->Prop}{g p q:Nat}(m:Et prog w A s kd rk b)(hk:kindOf t=kd)(B:∀p∈x.toList,p∈b.toList)(v:∀p∈y.toList,p∈b.toList)(n:x.toList.Pairwise (Le rk))(u:y.toList.Pairwise (Le rk))(M:Mo rk W x y o i j)(hi:i+1<x.size)(a:j<y.size)(last:∀k (q:k<y.size) (z:x.size-1<x.size),rk y[k].1<=rk x[x.size-1].1)(hd:∀r c,Rt rk W r->Q (.done (Z r,c)) t)(l:∀o' i' e c,Mo rk W x y o' i' e->i'+1<x.size->e<y.size->i'+e=i+j+1->Q (.done (X9,o',i',e,c)) t/\Q (.yield (X9,o',i',e,c)) t):wpS (A8 prog w) A E s (LM g x y o i j p q) Q t:=by
 have h:=Kk hi;unfold LM;refine AL (jq (getElem?_pos y _ a) (AL (jq (getElem?_pos x _ h) (AL (Uk m hk (v _ (by simp)) (B _ (by simp)) ?_)))));dsimp only;by_cases c:rk y[j].1<rk x[i].1
 ·rw[z5 c,zl rfl];refine AL (jq (getElem?_pos y _ a) ?_);have f:=M.pY a λk z hk=>zt (ZI c) (Ay n hk z);by_cases d:(j+1==y.size)=true
  ·rw[zl d];exact wpS_pure (hd _ _ (f.Di d))
  ·rw[zv d];exact Jk (l _ _ _ _ f hi (Dj d a) X2)
 ·rw[z4 c,zv ()];refine AL (jq (getElem?_pos x _ h) ?_);have f:=M.pX h λk z hk=>zt (xA c) (Ay u hk z);by_cases d:(i+1+1==x.size)=true
  ·rw[zl d];exact wpS_pure (hd _ _ (f.last d last))
  ·rw[zv d];exact Jk (l _ _ _ _ f (Dj d hi) a (fZ i 1 j))
abbrev brk(o:Y α)(f:α->StateT SortSt Sem β)(g:Unit->StateT SortSt Sem β):StateT SortSt Sem β:=Break.runK.match_1 (motive:=λ_=>StateT SortSt Sem β) o f g
section
variable{a b c:Type}
abbrev FG(a b c:Type):=Y (Array Keyed)×a×b×c×Nat
abbrev Ix(a b c:Type):=Y (Array Keyed)×a×b×c×Nat×Nat
abbrev GG(a b c:Type):=Y (Array Keyed)×a×b×c×Nat×Nat×Nat
def sP(r:GG a b c):StateT SortSt Sem (ForInStep (FG a b c)):=brk r.1 (λv=>pure (.done (Z v,r.2.1,r.2.2.1,r.2.2.2.1,r.2.2.2.2.1))) λ_=>B0 (r.2.2.2.2.1+1) >>= λ_=>pure (.yield (X9,r.2.1,r.2.2.1,r.2.2.2.1,r.2.2.2.2.1+1))
def Lv(n:Nat)(F:Nat->GG a b c->StateT SortSt Sem (ForInStep (GG a b c)))(g:Nat)(r:Ix a b c):StateT SortSt Sem (ForInStep (FG a b c)):=brk r.1 (λv=>pure (.done (Z v,r.2.1,r.2.2.1,r.2.2.2.1,g))) λ_=>(liftM (rule "list.sort.gallop"):StateT SortSt Sem PUnit) >>= λ_=>forIn [0:n] (X9,r.2.1,r.2.2.1,r.2.2.2.1,g+1,r.2.2.2.2.1,r.2.2.2.2.2) F >>=sP
def DA(n:Nat)(G:Nat->Nat->Ix a b c->StateT SortSt Sem (ForInStep (Ix a b c)))(F:Nat->GG a b c->StateT SortSt Sem (ForInStep (GG a b c)))(_:Nat)(r:FG a b c):StateT SortSt Sem (ForInStep (FG a b c)):=forIn [0:n] (X9,r.2.1,r.2.2.1,r.2.2.2.1,0,0) (G r.2.2.2.2) >>=Lv n F r.2.2.2.2
def Pc(r:FG a b c):StateT SortSt Sem (Array Keyed):=brk r.1 (λr=>pure r) λ_=>liftM (unsupported (α:=Array Keyed) "internal:list.sort.merge-bound")
end
def sv(x y:Array Keyed)(g _:Nat)(r:YZ):StateT SortSt Sem (ForInStep YZ):=LM g x y r.2.1 r.2.2.1 r.2.2.2.1 r.2.2.2.2.1 r.2.2.2.2.2
def XI(x y:Array Keyed)(_:Nat)(r:Um):StateT SortSt Sem (ForInStep Um):=if r.2.2.2.2.1>1 then Ka x y r.2.1 r.2.2.1 r.2.2.2.1 (r.2.2.2.2.1-1) r.2.2.2.2.2.1 r.2.2.2.2.2.2 else Ka x y r.2.1 r.2.2.1 r.2.2.2.1 r.2.2.2.2.1 r.2.2.2.2.2.1 r.2.2.2.2.2.2
def Na(x y:Array Keyed):StateT SortSt Sem (Array Keyed):=(liftM (rule "list.sort.merge-lo"):StateT SortSt Sem PUnit) >>= λ_=>elem' y 0 >>= λe=>if(1==y.size)=true then pure (#[e]++x.extract 0++y.extract 1)else if(0+1==x.size)=true then pure (#[e]++y.extract 1++x.extract 0)else get >>= λst=>forIn [0:x.size+y.size] (X9,#[e],0,1,gallopOf st) (DA (x.size+y.size) (sv x y) (XI x y)) >>=Pc
theorem oT{st:SortSt}{Q:Array Keyed->SortSt->Prop}(G:Et prog w A s kd rk b)(hk:kindOf st=kd)(K:∀p∈x.toList,p∈b.toList)(J:∀p∈y.toList,p∈b.toList)(D:x.toList.Pairwise (Le rk))(C:y.toList.Pairwise (Le rk))(hx:0<x.size)(F:0<y.size)
  (first:∀k (q:k<x.size),rk y[0].1<=rk x[k].1) (last:∀k (q:k<y.size) (z:x.size-1<x.size),rk y[k].1<=rk x[x.size-1].1)
  (h:∀r t,Sm st t->Rt rk (x.toList++y.toList) r->Q r t):wpS (A8 prog w) A E s (TU x y) Q st:=by
 show wpS (A8 prog w) A E s (Na x y) Q st;unfold Na;refine AL (wpS_lift (QY ⟨rfl,?_⟩));refine AL (jq (getElem?_pos y _ F) ?_);have M0:Mo rk (x.toList++y.toList) x y #[] 0 0:=⟨by simp,by simp,λa L=>(by cases L),D,C⟩;have M1:=M0.pY F λk q _=>first k q;rw[show(#[]:Array Keyed).push y[0]=#[y[0]] from rfl]at M1;by_cases c1:(1==y.size)=true
 ·rw[zl c1];exact wpS_pure (h _ _ ⟨rfl,rfl,rfl,rfl⟩ (M1.Di c1))
 rw[zv c1];by_cases c2:(0+1==x.size)=true
 ·rw[zl c2];exact wpS_pure (h _ _ ⟨rfl,rfl,rfl,rfl⟩ (M1.last c2 last))
 rw[zv c2];have U:1<y.size:=Dj c1 F;have P:0+1<x.size:=Dj c2 hx;refine AL (wpS_get ?_);refine AL (wpS_mono (wpS_forRange (I:=λn c t=>Sm st t/\∃out i j g,c=(X9,out,i,j,g)/\Mo rk (x.toList++y.toList) x y out i j/\i+1<x.size/\j<y.size/\n+1<=i+j) (Q:=λc t=>Sm st t/\∃r c',c=(Z r,c')/\Rt rk (x.toList++y.toList) r) ?_ ?_ ⟨⟨rfl,rfl,rfl,rfl⟩,_,0,1,_,rfl,M1,P,U,by omega⟩) ?_)
 ·rintro n c t _ hn ⟨S,out,i,j,g,rfl,M,hi,u,m⟩;unfold DA;refine AL (wpS_mono (wpS_forRange (I:=λn c t=>Sm st t/\∃out i' d p q,c=(X9,out,i',d,p,q)/\Mo rk (x.toList++y.toList) x y out i' d/\i'+1<x.size/\d<y.size/\i+j+n<=i'+d)
   (Q:=λc t=>Sm st t/\((∃r c',c=(Z r,c')/\Rt rk (x.toList++y.toList) r)\/∃out i' d p q,c=(X9,out,i',d,p,q)/\Mo rk (x.toList++y.toList) x y out i' d/\i'+1<x.size/\d<y.size/\i+j+1<=i'+d)) ?_ ?_ ⟨S,_,i,j,0,0,rfl,M,hi,u,by omega⟩) ?_)
  ·rintro N c t _ W ⟨S,out,i',d,p,q,rfl,M,hi,u,v⟩;exact hJ (g:=g) (o:=out) (i:=i') (j:=d) (p:=p) (q:=q) G (S.1.trans hk) K J D C M hi u last (λr c R=>⟨S,.inl ⟨r,c,rfl,R⟩⟩) λo i2 X c M hi u e=>⟨⟨S,.inr ⟨_,_,_,_,_,rfl,M,hi,u,e▸ka (zt (yk _ _) v)⟩⟩,S,_,_,_,_,_,rfl,M,hi,u,e▸ka v⟩
  ·rintro c t ⟨S,out,i',d,p,q,rfl,M,hi,u,v⟩;exact⟨S,.inr ⟨_,_,_,_,_,rfl,M,hi,u,by omega⟩⟩
  rintro c t ⟨S,⟨r,c',rfl,R⟩|⟨out,i',d,p,q,rfl,M,hi,u,v⟩⟩
  ·exact wpS_pure ⟨S,r,_,rfl,R⟩
  dsimp only[Lv,brk];refine AL (wpS_lift (QY ⟨rfl,?_⟩));refine AL (wpS_mono (wpS_forRange (I:=λn c t=>Sm st t/\∃out i' d g p q,c=(X9,out,i',d,g,p,q)/\Mo rk (x.toList++y.toList) x y out i' d/\i'+1<x.size/\d<y.size/\i+j+1<=i'+d)
   (Q:=λc t=>Sm st t/\((∃r c',c=(Z r,c')/\Rt rk (x.toList++y.toList) r)\/∃out i' d g p q,c=(X9,out,i',d,g,p,q)/\Mo rk (x.toList++y.toList) x y out i' d/\i'+1<x.size/\d<y.size/\i+j+1<=i'+d)) ?_ ?_ ⟨S,_,i',d,_,p,q,rfl,M,hi,u,v⟩) ?_)
  ·rintro N c t _ W ⟨S,out,i',d,g,p,q,rfl,M,hi,u,v⟩;exact Y0 (f:=λg=>Ka x y out i' d g p q) λg=>VM (o:=out) (i:=i') (j:=d) (p:=p) (q:=q) (n:=i+j) G (S.1.trans hk) K J D C M hi u last (y4 v) (λH B r c R=>⟨Sm.tr S B,.inl ⟨r,c,rfl,R⟩⟩) (λH B o i j c M hi u l=>⟨⟨Sm.tr S B,.inr ⟨_,_,_,_,_,_,rfl,M,hi,u,l⟩⟩,Sm.tr S B,_,_,_,_,_,_,rfl,M,hi,u,l⟩)
  ·rintro c t z;exact⟨z.1,.inr z.2⟩
  rintro c t ⟨S,⟨r,c',rfl,R⟩|⟨out,i',d,g,p,q,rfl,M,hi,u,v⟩⟩
  ·exact wpS_pure ⟨S,r,_,rfl,R⟩
  exact AL (Ji λH B=>wpS_pure ⟨Sm.tr S B,_,_,_,_,rfl,M,hi,u,zt (ka m) v⟩)
 ·rintro c t ⟨S,out,i,j,g,rfl,M,hi,u,m⟩;omega
 ·rintro c t ⟨S,r,c',rfl,R⟩;exact wpS_pure (h r t S R)
end
end
theorem Mg.al7{le:Keyed->Keyed->Prop}{out xs ys:O Keyed}(h:Mg le W out xs ys)(l:∀x∈xs,∀y∈ys,le x y):(out++xs++ys).Perm W/\(out++xs++ys).Pairwise le:=by
 have h2:Mg le W (out++xs) [] ys:=Mg.Q7 (zs:=xs) (xs:=[]) (by rw[qk];exact h) l;exact h2.aja
theorem vA{x:Array Keyed}{z:Keyed}(h:z∈(x.toList.take i).reverse):∃j,j<i/\∃h:j<x.size,x[j]=z:=by
 obtain⟨n,a,e⟩:=JU (h9.mp h);rw[Kn]at e;rw[qB]at a;exact⟨n,by omega,by simp at a;omega,e⟩
theorem vB(x:Array Keyed)(i:Nat):(x.extract 0 i).toList=x.toList.take i:=by
 rw[yb,kU,Nat.sub_zero,List.drop_zero]
theorem Rb(x:Array Keyed){a:Nat}(h:a<=i):(x.extract a i).toList=(x.toList.take i).drop a:=by
 rw[yb,kU,List.drop_take]
theorem CB{x:Array Keyed}{a:Nat}{z:Keyed}(h:z∈(x.extract a i).toList):∃j,a<=j/\j<i/\∃h:j<x.size,x[j]=z:=by
 by_cases c:a<=i
 ·rw[Rb x c]at h;obtain⟨n,b,e⟩:=JU h;rw[Kt,Kn]at e;rw[jS,qB]at b;exact⟨a+n,by omega,by omega,by simp at b;omega,e⟩
 ·rw[yb,kU,show i-a=0 by omega]at h;cases h
section
variable{b:Array Keyed}
abbrev Ge(rk:A0->Nat):Keyed->Keyed->Prop:=λp q=>rk q.1<=rk p.1
variable{x y:Array Keyed}
abbrev Mp(rk:A0->Nat)(W:O Keyed)(x y out:Array Keyed)(i j:Nat):Prop:=Mg (Ge rk) W out.toList (x.toList.take i).reverse (y.toList.take j).reverse
theorem Bz(h0:0<i)(h:i-1<x.size):(x.toList.take i).reverse=x[i-1]::(x.toList.take (i-1)).reverse:=by
 have:=JJ (l:=x.toList) (i:=i-1) (by simpa using h);rw[show i-1+1=i by omega]at this;rw[this,KA];rfl
theorem Mp.pX(h:Mp rk W x y out i j)(h0:0<i)(hi:i-1<x.size)(l:∀k (q:k<y.size),k<j->rk y[k].1<=rk x[i-1].1):Mp rk W x y (out.push x[i-1]) (i-1) j:=by
 unfold Mp at *
 rw[Bz h0 hi]at h;rw[Yf];exact h.acJ λz c=>by
  obtain⟨k,a,b,rfl⟩:=vA c;exact l k b a
theorem Mp.pY(h:Mp rk W x y out i j)(h0:0<j)(c:j-1<y.size)(l:∀k (q:k<x.size),k<i->rk x[k].1<=rk y[j-1].1):Mp rk W x y (out.push y[j-1]) i (j-1):=by
 unfold Mp at *
 rw[Bz h0 c]at h;rw[Yf];exact h.acK λz d=>by
  obtain⟨k,a,b,rfl⟩:=vA d;exact l k b a
theorem Uo(x:Array Keyed){a:Nat}(h:a<=i):(x.toList.take i).reverse=(x.extract a i).toList.reverse++(x.toList.take a).reverse:=by
 rw[Rb x h,<-KA]
 conv=>lhs;rw[<-qr a (x.toList.take i)]
 rw[List.take_take,KI h]
theorem Mp.pXs{a:Nat}(h:Mp rk W x y out i j)(b:a<=i)(l:∀c (p:c<x.size),a<=c->c<i->∀k (q:k<y.size),k<j->rk y[k].1<=rk x[c].1):Mp rk W x y (out++(x.extract a i).reverse) a j:=by
 unfold Mp at *
 rw[Uo x b]at h;rw[ZA,ya];exact h.Q7 λz f c e=>by
  obtain⟨d,a1,a2,g,rfl⟩:=CB (h9.mp f);obtain⟨k,m,n,rfl⟩:=vA e;exact l d g a1 a2 k n m
theorem Mp.pYs{a:Nat}(h:Mp rk W x y out i j)(b:a<=j)(l:∀c (p:c<y.size),a<=c->c<j->∀k (q:k<x.size),k<i->rk x[k].1<=rk y[c].1):Mp rk W x y (out++(y.extract a j).reverse) i a:=by
 unfold Mp at *
 rw[Uo y b]at h;rw[ZA,ya];exact h.Q8 λz f c e=>by
  obtain⟨d,a1,a2,g,rfl⟩:=CB (h9.mp f);obtain⟨k,m,n,rfl⟩:=vA e;exact l d g a1 a2 k n m
theorem Rc{l r:O Keyed}(e:r=l.reverse)(h:l.Perm W/\l.Pairwise (Ge rk)):r.Perm W/\r.Pairwise (Le rk):=by
 subst e;exact⟨(hG _).trans h.1,eh.mpr h.2⟩
theorem Mp.Di(h:Mp rk W x y out i j)(e:(i==0)=true):Rt rk W (x.extract 0 i++y.extract 0 j++out.reverse):=by
 have e:i=0:=by simpa using e
 subst e;refine Rc ?_ (Mg.aja h);rw[ZA,ZA,ya,vB,vB,KA,Y3];rfl
theorem Mp.acL(h:Mp rk W x y out i j)(e:(j==0)=true):Rt rk W (x.extract 0 i++y.extract 0 j++out.reverse):=by
 have e:j=0:=by simpa using e
 subst e;refine Rc ?_ (Mg.ai9 h);rw[ZA,ZA,ya,vB,vB,KA,Y3,k0,qk]
theorem Mp.first(h:Mp rk W x y out i j)(e:(j==1)=true)(l:∀k (q:k<x.size) (z:0<y.size),rk y[0].1<=rk x[k].1):Rt rk W (y.extract 0 j++x.extract 0 i++out.reverse):=by
 have e:j=1:=by simpa using e
 subst e;refine Rc ?_ (Mg.al7 h λc b z f=>?_)
 ·rw[ZA,ZA,ya,vB,vB,KA,KA,Y3,Y3,ZZ]
 ·obtain⟨k,g,d,rfl⟩:=vA b;obtain⟨a,a1,a2,rfl⟩:=vA f;have:a=0:=by omega
  subst this;exact l k d a2
abbrev Uq:=Y (Array Keyed)×Nat×Nat×Array Keyed×Nat×Nat×Nat
def Rf(x y o:Array Keyed)(i j g k u:Nat):StateT SortSt Sem (ForInStep Uq):=elem' x (i-1) >>= λd=>if(i-1==0)=true then pure (.done (Z (x.extract 0 (i-1)++y.extract 0 j++(o.push d).reverse),i-1,j,o.push d,g,k,u))else if(decide (k<7)&&decide (u<7))=true then pure (.done (X9,i-1,j,o.push d,g,k,u))else pure (.yield (X9,i-1,j,o.push d,g,k,u))
def Rh(x y o:Array Keyed)(i j g k q:Nat):StateT SortSt Sem (ForInStep Uq):=elem' y (j-1) >>= λd=>if(j-1==1)=true then pure (.done (Z (y.extract 0 (j-1)++x.extract 0 i++(o.push d).reverse),i,j-1,o.push d,g,k,q))else elem' x (i-1) >>= λe=>DJ true e y 0 (j-1) (j-1-1) >>= λz=>match z with
 |some a=>if j-1-a>0 then if(a==1)=true then pure (.done (Z (y.extract 0 a++x.extract 0 i++(o.push d++(y.extract a (j-1)).reverse).reverse),i,a,o.push d++(y.extract a (j-1)).reverse,g,k,j-1-a))else if(a==0)=true then pure (.done (Z (x.extract 0 i++y.extract 0 a++(o.push d++(y.extract a (j-1)).reverse).reverse),i,a,o.push d++(y.extract a (j-1)).reverse,g,k,j-1-a))else Rf x y (o.push d++(y.extract a (j-1)).reverse) i a g k (j-1-a)else Rf x y (o.push d) i (j-1) g k (j-1-a)
 |_=>pure (.done (Z (x.extract 0 i++y.extract 0 (j-1)++(o.push d).reverse),i,j-1,o.push d,g,k,q))
def Kc(x y o:Array Keyed)(i j g p q:Nat):StateT SortSt Sem (ForInStep Uq):=B0 g >>= λ_=>elem' y (j-1) >>= λe=>DJ false e x 0 i (i-1) >>= λz=>match z with
 |some a=>if i-a>0 then if(a==0)=true then pure (.done (Z (x.extract 0 a++y.extract 0 j++(o++(x.extract a i).reverse).reverse),a,j,o++(x.extract a i).reverse,g,i-a,q))else Rh x y (o++(x.extract a i).reverse) a j g (i-a) q else Rh x y o i j g (i-a) q
 |_=>pure (.done (Z (x.extract 0 i++y.extract 0 j++o.reverse),i,j,o,g,p,q))
section
variable{P:ForInStep Uq->SortSt->Prop}
theorem Dk{a b:Nat}(h:¬ (a==b)=true)(l:b<=a):b<a:=fP l λe=>h (beq_iff_eq.mpr e.symm)
abbrev LW(rk:A0->Nat)(W:O Keyed)(P:ForInStep Uq->SortSt->Prop)(t:SortSt):Prop:=∀r c,Rt rk W r->P (.done (Z r,c)) t
abbrev Ll(rk:A0->Nat)(W:O Keyed)(x y:Array Keyed)(n:Nat)(P:ForInStep Uq->SortSt->Prop)(t:SortSt):Prop:=∀o i j c,Mp rk W x y o i j->0<i->i<=x.size->1<j->j<=y.size->i+j<n->P (.done (X9,i,j,o,c)) t/\P (.yield (X9,i,j,o,c)) t
theorem O7{g k u:Nat}(M:Mp rk W x y o i j)(hi:0<i)(p:i<=x.size)(e:1<j)(h:j<=y.size)(l:∀a (q:a<y.size),a<j->rk y[a].1<=rk x[i-1]!.1)(v:i+j<=n)(hd:LW rk W P t)(m:Ll rk W x y n P t):wpS (A8 prog w) A E s (Rf x y o i j g k u) P t:=by
 unfold Rf;have b:i-1<x.size:=by omega
 refine AL (jq (getElem?_pos x _ b) ?_);have c:=M.pX hi b λa z f=>by have:=l a z f;rwa [getElem!_pos x _ b]at this
 by_cases d:(i-1==0)=true
 ·rw[zl d];exact wpS_pure (hd _ _ (c.Di d))
 rw[zv d];have z:=m _ _ _ (g,k,u) c (Dk d (Zs _)) (ZI b) e h ();split
 ·exact wpS_pure z.1
 ·exact wpS_pure z.2
theorem O8{g k q:Nat}(U:Et prog w A s kd rk b)(hk:kindOf t=kd)(J:∀p∈x.toList,p∈b.toList)(S:∀p∈y.toList,p∈b.toList)(K:x.toList.Pairwise (Le rk))(L:y.toList.Pairwise (Le rk))(M:Mp rk W x y o i j)(hi:0<i)(G:i<=x.size)(I:1<j)(X:j<=y.size)(h:j-1<y.size)(l:∀a (q:a<x.size),a<i->rk x[a].1<=rk y[j-1].1)(first:∀k (q:k<x.size) (z:0<y.size),rk y[0].1<=rk x[k].1)(hn:i+j<=n)(hd:LW rk W P t)(B:Ll rk W x y n P t):wpS (A8 prog w) A E s (Rh x y o i j g k q) P t:=by
 unfold Rh;refine AL (jq (getElem?_pos y _ h) ?_);have M2:=M.pY (Kk I) h λa z Q=>l a z Q;by_cases d:(j-1==1)=true
 ·rw[zl d];exact wpS_pure (hd _ _ (M2.first d first))
 rw[zv d];have N:1<j-1:=Dk d ();have f:i-1<x.size:=by omega
 refine AL (jq (getElem?_pos x _ f) (AL (Jj (rk:=rk) U hk (J _ (by simp)) S L () () λu F v C=>?_)));simp only[QQ,kD]at v C;dsimp only;have D:i+(j-1)<=n:=by omega
 by_cases H:j-1-u>0
 ·rw[zl H];have m:=M2.pYs (a:=u) F λc p q1 q2 e z he=>zt (Ay K (show e<=i-1 by omega) f) (C c p q1 q2);by_cases d:(u==1)=true
  ·rw[zl d];exact wpS_pure (hd _ _ (m.first d first))
  rw[zv d];by_cases e:(u==0)=true
  ·rw[zl e];exact wpS_pure (hd _ _ (m.acL e))
  rw[zv e];exact O7 m hi G (Dk d (Dk e (Zs _))) () (λa q q1=>by rw[getElem!_pos x _ f];exact ZI (v a q (Zs _) q1)) (zt (xh F i) D) hd B
 ·rw[zv H];exact O7 M2 hi G N (ZI h) (λa q q1=>by rw[getElem!_pos x _ f];exact ZI (v a q (Zs _) ())) D hd B
theorem U1{g p q:Nat}(m:Et prog w A s kd rk b)(hk:kindOf t=kd)(F:∀p∈x.toList,p∈b.toList)(B:∀p∈y.toList,p∈b.toList)(u:x.toList.Pairwise (Le rk))(v:y.toList.Pairwise (Le rk))(M:Mp rk W x y o i j)(hi:0<i)(J:i<=x.size)(H:1<j)(I:j<=y.size)(first:∀k (q:k<x.size) (z:0<y.size),rk y[0].1<=rk x[k].1)(K:i+j<=n)(hd:∀t',Sm t t'->LW rk W P t')(h:∀t',Sm t t'->Ll rk W x y n P t'):wpS (A8 prog w) A E s (Kc x y o i j g p q) P t:=by
 unfold Kc;refine AL (Ji λt' l=>?_);have hd:=hd t' l;have h:=h t' l;have hk:=l.1.trans hk;have f:j-1<y.size:=by omega
 refine AL (jq (getElem?_pos y _ f) (AL (Jj (rk:=rk) m hk (B _ (by simp)) F u () () λk C D G=>?_)));simp only[zI,qh,kD]at D G;dsimp only;by_cases L:i-k>0
 ·rw[zl L];have M1:=M.pXs (a:=k) C λc p q1 q2 e z N=>zt (Ay v (show e<=j-1 by omega) f) (ZI (G c p q1 q2));by_cases d:(k==0)=true
  ·rw[zl d];exact wpS_pure (hd _ _ (M1.Di d))
  rw[zv d];exact O8 m hk F B u v M1 (Dk d (Zs _)) (zt C J) H I f (λa q q1=>D a q (Zs _) q1) first (zt (la C j) K) hd h
 ·rw[zv L];exact O8 m hk F B u v M hi J H I f (λa q q1=>D a q (Zs _) ()) first K hd h
end
abbrev Y4:=Y (Array Keyed)×Nat×Nat×Array Keyed×Nat×Nat
def Md(g:Nat)(x y o:Array Keyed)(i j p q:Nat):StateT SortSt Sem (ForInStep Y4):=elem' y (j-1) >>= λe=>elem' x (i-1) >>= λd=>lt' e d >>= λz=>match z with
 |some c=>if c=true then elem' x (i-1) >>= λd=>if(i-1==0)=true then pure (.done (Z (x.extract 0 (i-1)++y.extract 0 j++(o.push d).reverse),i-1,j,o.push d,p+1,0))else if p+1>=g then pure (.done (X9,i-1,j,o.push d,p+1,0))else pure (.yield (X9,i-1,j,o.push d,p+1,0))
  else elem' y (j-1) >>= λd=>if(j-1==1)=true then pure (.done (Z (y.extract 0 (j-1)++x.extract 0 i++(o.push d).reverse),i,j-1,o.push d,0,q+1))else if q+1>=g then pure (.done (X9,i,j-1,o.push d,0,q+1))else pure (.yield (X9,i,j-1,o.push d,0,q+1))
 |_=>pure (.done (Z (x.extract 0 i++y.extract 0 j++o.reverse),i,j,o,p,q))
theorem cm(h:0<i):i-1+j+1=i+j:=by omega
theorem acV{Q:ForInStep Y4->SortSt->Prop}{g p q:Nat}(B:Et prog w A s kd rk b)(hk:kindOf t=kd)(G:∀p∈x.toList,p∈b.toList)(F:∀p∈y.toList,p∈b.toList)(C:x.toList.Pairwise (Le rk))(D:y.toList.Pairwise (Le rk))(M:Mp rk W x y o i j)(hi:0<i)(u:i<=x.size)(l:1<j)(n:j<=y.size)(first:∀k (q:k<x.size) (z:0<y.size),rk y[0].1<=rk x[k].1)(hd:∀r c,Rt rk W r->Q (.done (Z r,c)) t)(v:∀o' i' a c,Mp rk W x y o' i' a->0<i'->i'<=x.size->1<a->a<=y.size->i'+a+1=i+j->Q (.done (X9,i',a,o',c)) t/\Q (.yield (X9,i',a,o',c)) t):wpS (A8 prog w) A E s (Md g x y o i j p q) Q t:=by
 have m:0<j:=Kk l;have h:i-1<x.size:=zD (eu hi xo) u;have e:j-1<y.size:=zD (eu m xo) n;unfold Md;refine AL (jq (getElem?_pos y _ e) (AL (jq (getElem?_pos x _ h) (AL (Uk B hk (F _ (by simp)) (G _ (by simp)) ?_)))));dsimp only;by_cases c:rk y[j-1].1<rk x[i-1].1
 ·rw[z5 c,zl rfl];refine AL (jq (getElem?_pos x _ h) ?_);have f:=M.pX hi h λk z hk=>zt (Ay D (K2 hk) e) (ZI c);by_cases d:(i-1==0)=true
  ·rw[zl d];exact wpS_pure (hd _ _ (f.Di d))
  ·rw[zv d];exact Jk (v _ _ _ _ f (Dk d (Zs _)) (ZI h) l n (cm hi))
 ·rw[z4 c,zv ()];refine AL (jq (getElem?_pos y _ e) ?_);have f:=M.pY m e λk z hk=>zt (Ay C (K2 hk) h) (xA c);by_cases d:(j-1==1)=true
  ·rw[zl d];exact wpS_pure (hd _ _ (f.first d first))
  ·rw[zv d];exact Jk (v _ _ _ _ f hi u (Dk d (K2 l)) (ZI e) (by rw[gk,ma m]))
def nN(x y:Array Keyed)(g _:Nat)(r:Y4):StateT SortSt Sem (ForInStep Y4):=Md g x y r.2.2.2.1 r.2.1 r.2.2.1 r.2.2.2.2.1 r.2.2.2.2.2
def tJ(x y:Array Keyed)(_:Nat)(r:Uq):StateT SortSt Sem (ForInStep Uq):=if r.2.2.2.2.1>1 then Kc x y r.2.2.2.1 r.2.1 r.2.2.1 (r.2.2.2.2.1-1) r.2.2.2.2.2.1 r.2.2.2.2.2.2 else Kc x y r.2.2.2.1 r.2.1 r.2.2.1 r.2.2.2.2.1 r.2.2.2.2.2.1 r.2.2.2.2.2.2
def OR(x y:Array Keyed):StateT SortSt Sem (Array Keyed):=(liftM (rule "list.sort.merge-hi"):StateT SortSt Sem PUnit) >>= λ_=>elem' x (x.size-1) >>= λe=>if(x.size-1==0)=true then pure (x.extract 0 (x.size-1)++y.extract 0 y.size++(#[e]:Array Keyed).reverse)else if(y.size==1)=true then pure (y.extract 0 y.size++x.extract 0 (x.size-1)++(#[e]:Array Keyed).reverse)else get >>= λst=>forIn [0:x.size+y.size] (X9,x.size-1,y.size,#[e],gallopOf st) (DA (x.size+y.size) (nN x y) (tJ x y)) >>=Pc
theorem vE{st:SortSt}{Q:Array Keyed->SortSt->Prop}(N:Et prog w A s kd rk b)(hk:kindOf st=kd)(J:∀p∈x.toList,p∈b.toList)(L:∀p∈y.toList,p∈b.toList)(F:x.toList.Pairwise (Le rk))(G:y.toList.Pairwise (Le rk))(hx:0<x.size)(U:0<y.size)
  (first:∀k (q:k<x.size) (z:0<y.size),rk y[0].1<=rk x[k].1) (last:∀k (q:k<y.size) (z:x.size-1<x.size),rk y[k].1<=rk x[x.size-1].1)
  (h:∀r t,Sm st t->Rt rk (x.toList++y.toList) r->Q r t):wpS (A8 prog w) A E s (zn x y) Q st:=by
 show wpS (A8 prog w) A E s (OR x y) Q st;unfold OR;refine AL (wpS_lift (QY ⟨rfl,?_⟩));have H:x.size-1<x.size:=eu hx xo;refine AL (jq (getElem?_pos x _ H) ?_);have M0:Mp rk (x.toList++y.toList) x y #[] x.size y.size:=⟨by
  rw[Qb (by simp),Qb (by simp)];exact(hG _).append (hG _),by simp,λa ha=>(by cases ha),by rw[Qb (by simp)];exact eh.mpr F,by rw[Qb (by simp)];exact eh.mpr G⟩
 have M1:=M0.pX hx H λk q _=>last k q H;rw[show(#[]:Array Keyed).push x[x.size-1]=#[x[x.size-1]] from rfl]at M1;by_cases c1:(x.size-1==0)=true
 ·rw[zl c1];exact wpS_pure (h _ _ ⟨rfl,rfl,rfl,rfl⟩ (M1.Di c1))
 rw[zv c1];by_cases c2:(y.size==1)=true
 ·rw[zl c2];exact wpS_pure (h _ _ ⟨rfl,rfl,rfl,rfl⟩ (M1.first c2 first))
 rw[zv c2];have n1:0<x.size-1:=Dk c1 (Zs _);have X:1<y.size:=Dk c2 U;refine AL (wpS_get ?_);refine AL (wpS_mono (wpS_forRange (I:=λn c t=>Sm st t/\∃out i j g,c=(X9,i,j,out,g)/\Mp rk (x.toList++y.toList) x y out i j/\0<i/\i<=x.size/\1<j/\j<=y.size/\i+j+n+1<=x.size+y.size) (Q:=λc t=>Sm st t/\∃r c',c=(Z r,c')/\Rt rk (x.toList++y.toList) r) ?_ ?_ ?_) ?_)
 ·rintro n c t _ hn ⟨S,out,i,j,g,rfl,M,hi,B,u,v,m⟩;unfold DA;refine AL (wpS_mono (wpS_forRange (I:=λn c t=>Sm st t/\∃out i' d p q,c=(X9,i',d,out,p,q)/\Mp rk (x.toList++y.toList) x y out i' d/\0<i'/\i'<=x.size/\1<d/\d<=y.size/\i'+d+n<=i+j)
   (Q:=λc t=>Sm st t/\((∃r c',c=(Z r,c')/\Rt rk (x.toList++y.toList) r)\/∃out i' d p q,c=(X9,i',d,out,p,q)/\Mp rk (x.toList++y.toList) x y out i' d/\0<i'/\i'<=x.size/\1<d/\d<=y.size/\i'+d+1<=i+j)) ?_ ?_ ⟨S,_,i,j,0,0,rfl,M,hi,B,u,v,by omega⟩) ?_)
  ·rintro P c t _ W ⟨S,out,i',d,p,q,rfl,M,hi,B,u,v,C⟩;exact acV (g:=g) (o:=out) (i:=i') (j:=d) (p:=p) (q:=q) N (S.1.trans hk) J L F G M hi B u v first (λr c R=>⟨S,.inl ⟨r,c,rfl,R⟩⟩) λo i2 j2 c M hi B u v e=>⟨⟨S,.inr ⟨_,_,_,_,_,rfl,M,hi,B,u,v,e▸zt (yk _ _) C⟩⟩,S,_,_,_,_,_,rfl,M,hi,B,u,v,zt (xi (fZ _ P 1)) (e▸C)⟩
  ·rintro c t ⟨S,out,i',d,p,q,rfl,M,hi,B,u,v,C⟩;exact⟨S,.inr ⟨_,_,_,_,_,rfl,M,hi,B,u,v,by omega⟩⟩
  rintro c t ⟨S,⟨r,c',rfl,R⟩|⟨out,i',d,p,q,rfl,M,hi,B,u,v,C⟩⟩
  ·exact wpS_pure ⟨S,r,_,rfl,R⟩
  dsimp only[Lv,brk];refine AL (wpS_lift (QY ⟨rfl,?_⟩));refine AL (wpS_mono (wpS_forRange (I:=λn c t=>Sm st t/\∃out i' d g p q,c=(X9,i',d,out,g,p,q)/\Mp rk (x.toList++y.toList) x y out i' d/\0<i'/\i'<=x.size/\1<d/\d<=y.size/\i'+d+1<=i+j)
   (Q:=λc t=>Sm st t/\((∃r c',c=(Z r,c')/\Rt rk (x.toList++y.toList) r)\/∃out i' d g p q,c=(X9,i',d,out,g,p,q)/\Mp rk (x.toList++y.toList) x y out i' d/\0<i'/\i'<=x.size/\1<d/\d<=y.size/\i'+d+1<=i+j)) ?_ ?_ ⟨S,_,i',d,_,p,q,rfl,M,hi,B,u,v,C⟩) ?_)
  ·rintro P c t _ W ⟨S,out,i',d,g,p,q,rfl,M,hi,B,u,v,C⟩;exact Y0 (f:=λg=>Kc x y out i' d g p q) λg=>U1 (o:=out) (i:=i') (j:=d) (p:=p) (q:=q) (n:=i+j) N (S.1.trans hk) J L F G M hi B u v first (y4 C) (λK D r c R=>⟨Sm.tr S D,.inl ⟨r,c,rfl,R⟩⟩) (λK D o a4 a3 c M hi B u v l=>⟨⟨Sm.tr S D,.inr ⟨_,_,_,_,_,_,rfl,M,hi,B,u,v,l⟩⟩,Sm.tr S D,_,_,_,_,_,_,rfl,M,hi,B,u,v,l⟩)
  ·rintro c t z;exact⟨z.1,.inr z.2⟩
  rintro c t ⟨S,⟨r,c',rfl,R⟩|⟨out,i',d,g,p,q,rfl,M,hi,B,u,v,C⟩⟩
  ·exact wpS_pure ⟨S,r,_,rfl,R⟩
  exact AL (Ji λK D=>wpS_pure ⟨Sm.tr S D,_,_,_,_,rfl,M,hi,B,u,v,zt (ka (zt (xi (fZ _ n 1)) (la C n))) m⟩)
 ·rintro c t ⟨S,out,i,j,g,rfl,M,hi,B,u,v,m⟩;omega
 ·exact⟨⟨rfl,rfl,rfl,rfl⟩,_,x.size-1,y.size,_,rfl,M1,n1,by omega,X,zo _,by omega⟩
 ·rintro c t ⟨S,r,c',rfl,R⟩;exact wpS_pure (h r t S R)
end
def K':Nat->StateT SortSt Sem Bool:=sortPriv% PySem.Builtin.mergeAt
theorem Ur{f:Array Keyed->Keyed×Nat->Array Keyed}{d:Nat}(g:∀a p j,f a (p,j)=a.setIfInBounds (d+j) p):∀(M:O Keyed) (a:Array Keyed) (b:Nat) (U c V:O Keyed),a.toList=U++c++V->U.length=d+b->c.length=M.length->((M.zipIdx b).foldl f a).toList=U++M++V
 |[],a,b,U,c,V,e,_,h=>by
  have:c=[]:=ku h;subst this;exact e
 |p::M,a,b,U,[],V,_,_,h=>by cases h
 |p::M,a,b,U,z::c,V,e,hu,h=>by
  rw[oM,Q4,g];have:=Ur g M (a.setIfInBounds (d+b) p) (b+1) (U++[p]) c V (by
   rw[Array.toList_setIfInBounds,e,<-hu,ZZ,List.set_append_right _ _ (zo _),Nat.sub_self];simp) (by rw[Zl,hu];rfl) (by simpa using h)
  rw[this];simp
section
variable{b:Array Keyed}
theorem Ri{g:O Keyed}{V:O Keyed}{a:Array Keyed}(e:a.toList=U++g++V)(hi:i<g.length):a[U.length+i]?=Z g[i]:=by
 rw[<-kR,e,ZZ,qo (),i6,ZH hi,ZY hi]
theorem Rj{g:O Keyed}{V:O Keyed}{a:Array Keyed}(e:a.toList=U++g++V)(hi:i<g.length):at_ rk a (U.length+i)=rk g[i].1:=by unfold at_;rw[Ri e hi]
theorem LI{g:O Keyed}(h:g.Pairwise (Le rk))(b:i<=j)(a:j<g.length):rk g[i].1<=rk g[j].1:=by
 by_cases e:i=j
 ·subst e;exact zo _
 ·exact dq.mp h i j () a ()
theorem Y5{left:Bool}{c:Keyed}{a:Array Keyed}{g V:O Keyed}{base f:Nat}{Q:Y Nat->SortSt->Prop}(m:Et prog w A s kd rk b)(hk:kindOf t=kd)(mk:c∈b.toList)(o:∀p∈g,p∈b.toList)(e:a.toList=U++g++V)(B:base=U.length)(z:n=g.length)(y:g.Pairwise (Le rk))(u:f<n)(h:∀k,k<=g.length->(∀p∈g.take k,if left=true then rk p.1<rk c.1 else rk p.1<=rk c.1)->(∀p∈g.drop k,if left=true then rk c.1<=rk p.1 else rk c.1<rk p.1)->Q (Z k) t):wpS (A8 prog w) A E s (DJ left c a base n f) Q t:=by
 subst B z;refine OC (rk:=rk) m hk mk (λi hi=>⟨g[i],Ri e hi,o _ (by simp)⟩) u (λi j q d=>?_) λk v x l=>h k v (λp hp=>?_) λp hp=>?_
 ·rw[Rj e (show i<g.length by omega),Rj e d];exact LI y q d
 ·obtain⟨i,hi,rfl⟩:=JU hp;rw[qB]at hi;rw[Kn];have:=x i ();rw[Rj e (show i<g.length by omega)]at this;exact this
 ·obtain⟨i,hi,rfl⟩:=JU hp;rw[jS]at hi;rw[Kt];have:=l (k+i) () ();rw[Rj e (show k+i<g.length by omega)]at this;exact this
theorem fE{σ:Type}{t t':σ}{Q:PUnit->σ->Prop}(h:Q ⟨⟩ t'):wpS M A E s (set t':StateT σ Sem PUnit) Q t:=by
 unfold wpS;rw[StateT.run_set];exact ze ⟨rfl,h⟩
theorem b9{st:SortSt}{o B p l M q:Nat}{Q:Bool->SortSt->Prop}{g g' V:O Keyed}(L:Et prog w A s kd rk b)(hk:kindOf st=kd)(K:failedOf st=X9)(hm:∀z∈(AM st).toList,z∈b.toList)(e:(AM st).toList=U++(g++g')++V)(p1:(pendingOf st)[i]?=Z (o,B,p))(p2:(pendingOf st)[i+1]?=Z (l,M,q))(ea:o=U.length)(en:B=g.length)(eb:l=o+B)(em:M=g'.length)(hg:g≠[])(a6:g'≠[])(F:g.Pairwise (Le rk))(G:g'.Pairwise (Le rk))(h:∀t m,kindOf t=kd->failedOf t=X9->pendingOf t=((pendingOf st).setIfInBounds i (o,B+M,p)).eraseIdxIfInBounds (i+1)->m.Perm (g++g')->m.Pairwise (Le rk)->(AM t).toList=U++m++V->Q true t):wpS (A8 prog w) A E s (K' i) Q st:=by
 have hx:0<g.length:=cJ.mpr hg;have v:0<g'.length:=cJ.mpr a6;have e1:(AM st).toList=U++g++(g'++V):=by rw[e];simp
 have e2:(AM st).toList=(U++g)++g'++V:=by rw[e];simp
 have eU:l=(U++g).length:=by rw[Zl,eb,ea,en]
 have mg:∀z∈g,z∈b.toList:=λz C=>hm z (by rw[e];simp[C]);have X:∀z∈g',z∈b.toList:=λz C=>hm z (by rw[e];simp[C]);have g0:∀z∈g',rk g'[0].1<=rk z.1:=λz C=>by
  obtain⟨j,N,rfl⟩:=JU C;exact LI G (Zs _) N
 have gl:∀z∈g,rk z.1<=rk (g[g.length-1]'(eu hx xo)).1:=λz C=>by
  obtain⟨j,N,rfl⟩:=JU C;exact LI F (K2 N) _
 unfold K';refine AL (wpS_get ?_);rw[p1,p2];dsimp only;refine AL (fE ?_);refine AL (jq (p:=g'[0]) (by rw[eU];exact Ri e2 v) ?_);refine AL (Y5 (rk:=rk) L hk (X _ (by simp)) mg e1 ea en F () λk k1 J k3=>?_);simp only[zI,qh]at J k3;dsimp only;by_cases c:(B-k==0)=true
 ·rw[zl c];have c:B-k=0:=by simpa using c
  rw[Qb ()]at J;exact wpS_pure (h _ (g++g') hk K X2 (List.Perm.refl _) (cf.mpr ⟨F,G,λx hx y v=>zt (J x hx) (g0 y v)⟩) e)
 rw[zv c];have c:¬ B-k=0:=by simpa using c
 have pk:0<g.length-k:=by rw[<-en];exact mm c
 have ix:o+k+(B-k)-1=U.length+(g.length-1):=by rw[ea,en,gk,hE k1,xv hx]
 rw[ix];refine AL (jq (Ri e1 (eu hx xo)) ?_);refine AL (Y5 (rk:=rk) L hk (mg _ (by simp)) X e2 eU em G () λn n1 n2 P=>?_);simp only[QQ]at n2 P;dsimp only;by_cases d:(n==0)=true
 ·rw[zl d];have d:n=0:=by simpa using d
  subst d;exact wpS_pure (h _ (g++g') hk K X2 (List.Perm.refl _) (cf.mpr ⟨F,G,λx hx y v=>zt (gl x hx) (P y v)⟩) e)
 rw[zv d];have d:¬ n=0:=by simpa using d
 have ex:((AM st).extract (o+k) l).toList=g.drop k:=by
  rw[Rb _ (),e2,ZZ,ey (),Qb (),ea,<-List.drop_drop,List.drop_left]
 have D:((AM st).extract l (l+n)).toList=g'.take n:=by
  rw[J9,e2,eU,ZZ,List.drop_left,ey n1]
 have W:((AM st).extract (o+k) l).size=g.length-k:=by rw[<-ZN,ex,jS]
 have zy:((AM st).extract l (l+n)).size=n:=by rw[<-ZN,D,qB];exact KI n1
 have gx:∀{j:Nat} (q:j<((AM st).extract (o+k) l).size),((AM st).extract (o+k) l)[j]=g[k+j]'(by rw[W]at q;exact kz q):=λ{j} q=>by
  rw[<-ye];simp only[ex,Kt]
 have gy:∀{j:Nat} (q:j<((AM st).extract l (l+n)).size),((AM st).extract l (l+n))[j]=g'[j]'(by rw[zy]at q;exact zD q n1):=λ{j} q=>by
  rw[<-ye];simp only[D,Kn]
 have first:∀j (q:j<((AM st).extract (o+k) l).size) (z:0<((AM st).extract l (l+n)).size),rk ((AM st).extract l (l+n))[0].1<=rk ((AM st).extract (o+k) l)[j].1:=λj q z=>by
  have m:((AM st).extract (o+k) l)[j]∈g.drop k:=by rw[<-ex];exact lb.mpr (nc _)
  rw[gy];exact ZI (k3 _ m)
 have last:∀j (q:j<((AM st).extract l (l+n)).size) (z:((AM st).extract (o+k) l).size-1<((AM st).extract (o+k) l).size),rk ((AM st).extract l (l+n))[j].1<=rk (((AM st).extract (o+k) l)[((AM st).extract (o+k) l).size-1]).1:=λj q z=>by
  have m:((AM st).extract l (l+n))[j]∈g'.take n:=by rw[<-D];exact lb.mpr (nc _)
  rw[gx];have:k+(((AM st).extract (o+k) l).size-1)=g.length-1:=by rw[W,<-xv pk,hE k1]
  simp only[this];exact ZI (n2 _ m)
 have mx:∀p∈((AM st).extract (o+k) l).toList,p∈b.toList:=λp hp=>mg p (by rw[ex]at hp;exact ew hp);have my:∀p∈((AM st).extract l (l+n)).toList,p∈b.toList:=λp hp=>X p (by rw[D]at hp;exact lg hp);have sx:((AM st).extract (o+k) l).toList.Pairwise (Le rk):=by rw[ex];exact F.sublist (nf _ _)
 have sy:((AM st).extract l (l+n)).toList.Pairwise (Le rk):=by rw[D];exact G.sublist (xw _ _)
 have a4:∀(t:SortSt) (r:Array Keyed) (u:SortSt),Sm t u->kindOf t=kd->failedOf t=X9->AM t=AM st->pendingOf t=((pendingOf st).setIfInBounds i (o,B+M,p)).eraseIdxIfInBounds (i+1)->Rt rk (((AM st).extract (o+k) l).toList++((AM st).extract l (l+n)).toList) r →
   ∀(f:Array Keyed->Keyed×Nat->Array Keyed),(∀a p j,f a (p,j)=a.setIfInBounds (o+k+j) p)->Q (failedOf u).isNone (SortSt.mk' (kindOf u) (r.toList.zipIdx.foldl f (AM u)) (pendingOf u) (gallopOf u) (failedOf u)):=λt r u S tk tf ta tp R f a7=>by
  rw[S.2.1,tf];rw[ex,D]at R;have hr:r.toList.length=(g.drop k++g'.take n).length:=R.1.length_eq;have fs:=Ur a7 r.toList (AM u) 0 (U++g.take k) (g.drop k++g'.take n) (g'.drop n++V) (by
   rw[S.2.2.1,ta,e]
   conv=>lhs;rw[<-qr k g,<-qr n g']
   simp only[ZZ]) (by rw[Zl,qB];omega) hr.symm
  refine h _ (g.take k++r.toList++g'.drop n) (S.1.trans tk) X2 (S.2.2.2.trans tp) ?_ ?_ ?_
  ·refine(((R.1.append_left _).append_right _).trans (List.Perm.of_eq ?_))
   conv=>rhs;rw[<-qr k g,<-qr n g']
   simp only[ZZ]
  ·have I:=F;have H:=G;rw[<-qr k g]at I;rw[<-qr n g']at H;have I:=cf.mp I;have H:=cf.mp H;have a3:∀x∈g.take k,∀y∈g',Le rk x y:=λx hx y v=>zt (J x hx) (g0 y v);have a5:∀x∈g,∀y∈g'.drop n,Le rk x y:=λx hx y v=>zt (gl x hx) (P y v);refine cf.mpr ⟨cf.mpr ⟨I.1,R.2,λx hx y v=>?_⟩,H.2.1,λx hx y v=>?_⟩
   ·rcases bB.mp (R.1.mem_iff.mp v)with q|q
    ·exact I.2.2 x hx y q
    ·exact a3 x hx y (lg q)
   ·rcases bB.mp hx with q|q
    ·exact a3 x q y (ew v)
    ·rcases bB.mp (R.1.mem_iff.mp q)with q|q
     ·exact a5 x (ew q) y v
     ·exact H.2.2 x q y v
  ·show(r.toList.zipIdx.foldl f (AM u)).toList=_;rw[fs];simp
 have px:0<((AM st).extract (o+k) l).size:=by rw[W];exact pk
 have py:0<((AM st).extract l (l+n)).size:=by rw[zy];exact mm d
 split
 ·exact AL (oT (rk:=rk) L hk mx my sx sy px py (λj q=>first j q py) last λr u S R=>AL (wpS_modify (AL (wpS_get (wpS_pure (a4 _ r u S hk K X2 X2 R _ λ_ _ _=>X2))))))
 ·exact AL (vE (rk:=rk) L hk mx my sx sy px py first last λr u S R=>AL (wpS_modify (AL (wpS_get (wpS_pure (a4 _ r u S hk K X2 X2 R _ λ_ _ _=>X2))))))
end
section
variable(rk:A0->Nat)(lo:Nat)
abbrev al(xs:Array Keyed)(i:Nat):Nat:=at_ rk xs (lo+i)
def Y6(xs:Array Keyed)(k:Nat):Prop:=∀i j,i<=j->j<k->al rk lo xs i<=al rk lo xs j
def ER(xs:Array Keyed)(k:Nat):Prop:=∀i j,i<=j->j<k->al rk lo xs j<=al rk lo xs i
structure Bo (b:Array Keyed) (u st:SortSt):Prop where
 pm:(arrOf st).Perm b
 kd:kindOf st=kindOf u
 fl:failedOf st=failedOf u
 pd:pendingOf st=pendingOf u
 ot:∀k,k<lo->(arrOf st)[k]?=(arrOf u)[k]?
end
section
variable{b:Array Keyed}{lo:Nat}{u:SortSt}
theorem Bo.sz(h:Bo lo b u t):(AM t).size=b.size:=h.pm.size_eq
theorem Bo.mir(h:Bo lo b u t)(hi:lo<=i)(a:j<=b.size):Bo lo b u (PyProof.Rows.setArr t (mirror (AM t) i j ((j-i) / 2))):=⟨(mirror_perm _ _ _ _).trans h.pm,h.kd,h.fl,h.pd,λk hk=>by
 show(mirror (AM t) i j ((j-i) / 2))[k]?=_;rw[getElem?_mirror_all (by rw[h.sz];exact a),zv ()];exact h.ot k hk⟩
theorem Y7{Q:Y Bool->SortSt->Prop}(d:Et prog w A s (kindOf u) rk b)(B:Bo lo b u t)(hi:i<b.size)(c:j<b.size)(h:Q (Z (decide (at_ rk (AM t) i<at_ rk (AM t) j))) t):wpS (A8 prog w) A E s (ltAt' i j) Q t:=by
 have get:∀k,k<b.size->∃p,(AM t)[k]?=Z p/\p∈b.toList:=λk hk=>by
  have e:k<(AM t).size:=by rw[B.sz];exact hk
  exact⟨(AM t)[k],getElem?_pos _ k e,(dc.mp B.pm).mem_iff.mp (by simp)⟩
 obtain⟨p,e1,a⟩:=get i hi;obtain⟨q,e2,m2⟩:=get j c;have h:Q (Z (decide (rk p.1<rk q.1))) t:=by unfold at_ at h;rw[e1,e2]at h;exact h
 rw[ltAt'_eq];exact AL (wpS_get (AL (jq e1 (AL (jq e2 (Uk d B.kd a m2 h))))))
theorem SY{f:Nat->Y β×Nat->StateT SortSt Sem (ForInStep (Y β×Nat))}{a:Nat}{Q:Y β×Nat->SortSt->Prop}(o:∀x m,∀g:ForInStep (Y β×Nat)->SortSt->Prop,1<=m->m<n->(al rk lo (AM t) m<al rk lo (AM t) (m-1)->g (.done (X9,m)) t)->(¬ al rk lo (AM t) m<al rk lo (AM t) (m-1)->g (.yield (X9,m+1)) t)->wpS (A8 prog w) A E s (f x (X9,m)) g t)(z:1<=a)(l:a<=n)(b:Y6 rk lo (AM t) a)(h:∀m,a<=m->m<=n->Y6 rk lo (AM t) m->(m=n\/al rk lo (AM t) m<al rk lo (AM t) (m-1))->Q (X9,m) t):wpS (A8 prog w) A E s (forIn [a:n] (X9,a) f) Q t:=by
 refine wpS_forRange (I:=λx c d=>d=t/\c=(X9,x)/\Y6 rk lo (AM t) x) ?_ ?_ ⟨rfl,rfl,b⟩
 ·rintro x c d p u ⟨rfl,rfl,b⟩;refine o x x _ () u (λq=>h x p () b (.inr q)) λq=>⟨rfl,rfl,λi j v y=>?_⟩;by_cases hx:j<x
  ·exact b i j v hx
  ·have e:j=x:=by omega
   subst e;by_cases hi:i=j
   ·rw[hi];exact zo _
   ·have:=b i (j-1) () ();omega
 ·rintro c d ⟨rfl,rfl,b⟩;rw[show max a n=n by omega]at b ⊢;exact h n l (zo _) b (.inl X2)
theorem Os(a:lo+j<=xs.size)(k:Nat):al rk lo (mirror xs (lo+i) (lo+j) ((lo+j-(lo+i)) / 2)) k=if i<=k/\k<j then al rk lo xs (i+j-1-k)else al rk lo xs k:=by
 unfold al;rw[iA a];by_cases q:i<=k/\k<j
 ·rw[zl q,zl ⟨by omega,by omega⟩];congr 1;omega
 ·rw[zv q,zv ()]
theorem Rk(a:lo+j<=xs.size)(he:∀k,i<=k->k<j->al rk lo xs k=al rk lo xs (j-1))(k:Nat):al rk lo (mirror xs (lo+i) (lo+j) ((lo+j-(lo+i)) / 2)) k=al rk lo xs k:=by
 rw[Os a];by_cases q:i<=k/\k<j
 ·rw[zl q,he (i+j-1-k) () (),he k q.1 q.2]
 ·rw[zv q]
theorem grow{ys:Array Keyed}{x:Nat}(dn:ER rk lo xs x)(hk:∀k,al rk lo ys k=al rk lo xs k)(a:1<=x->al rk lo xs x<=al rk lo xs (x-1)):ER rk lo ys (x+1):=λi j b d=>by
 rw[hk,hk];by_cases hx:j<x
 ·exact dn i j b hx
 ·have c:j=x:=by omega
  subst c;by_cases hi:i=j
  ·rw[hi];exact zo _
  ·have:=dn i (j-1) () ();have:=a ();omega
def W2(lo a n:Nat):StateT SortSt Sem (Y Nat):=do
 let mut n:=n
 reverseSlice' lo (lo+n)
 for _ in [n:a] do
  let Z smaller <-ltAt' (lo+n) (lo+n-1)|return X9
  if smaller then break
  n:=n+1
 return Z n
def Nd(lo a n:Nat):StateT SortSt Sem (Y Nat):=do
 let mut n:=n
 rule "list.sort.descending-run"
 n:=n+1
 let mut neq:=0
 for _ in [n:a] do
  let Z smaller <-ltAt' (lo+n) (lo+n-1)|return X9
  if smaller then
   if neq>0 then reverseSlice' (lo+n-(neq+1)) (lo+n)
   neq:=0
  else
   let Z larger <-ltAt' (lo+n-1) (lo+n)|return X9
   if larger then break
   neq:=neq+1
  n:=n+1
 if neq>0 then reverseSlice' (lo+n-(neq+1)) (lo+n)
 W2 lo a n
abbrev SK(rk:A0->Nat)(lo:Nat)(b:Array Keyed)(u:SortSt)(n:Nat)(Q:Y Nat->SortSt->Prop):Prop:=∀k t,Bo lo b u t->1<=k->k<=n->Y6 rk lo (AM t) k->Q (Z k) t
theorem LN(f:Et prog w A s (kindOf u) rk b)(a:lo+n<=b.size)(B:Bo lo b u t)(m:Nat)(c:Y Bool->SortSt->Prop)(q1:1<=m)(q2:m<n)(d:c (Z (decide (al rk lo (AM t) m<al rk lo (AM t) (m-1)))) t):wpS (A8 prog w) A E s (ltAt' (lo+m) (lo+m-1)) c t:=by
 have e:lo+m-1=lo+(m-1):=xv q1 lo;refine Y7 f B (zD (yo q2 lo) a) ?_ ?_
 ·rw[e];exact zD (yo (kc (YI m 1) q2) lo) a
 ·rw[e];exact d
theorem O9{t2:SortSt}{k:Nat}{Q:Y Nat->SortSt->Prop}(t:Et prog w A s (kindOf u) rk b)(o:lo+n<=b.size)(g:1<=k)(m:k<=n)(q:Bo lo b u t2)(B:ER rk lo (AM t2) k)(h:SK rk lo b u n Q):wpS (A8 prog w) A E s (W2 lo n k) Q t2:=by
 unfold W2;refine AL (wpS_reverse ?_);have p:lo+k<=b.size:=zt (xh m lo) o;have v:lo+k<=(AM t2).size:=by rw[q.sz];exact p
 have d:=q.mir (zo lo) p;have l:Y6 rk lo (AM (PyProof.Rows.setArr t2 (mirror (AM t2) lo (lo+k) ((lo+k-lo) / 2)))) k:=λi j y f=>by
  have e:=Os (rk:=rk) (i:=0) v;rw[mq]at e;show al rk lo (mirror (AM t2) _ _ _) i<=al rk lo (mirror (AM t2) _ _ _) j;rw[e,e,zl ⟨Zs _,kc y f⟩,zl ⟨Zs _,f⟩];exact B _ _ () ()
 generalize PyProof.Rows.setArr t2 (mirror (AM t2) lo (lo+k) ((lo+k-lo) / 2))=t3 at d l ⊢;refine AL (SY (rk:=rk) (lo:=lo) (λx a C q1 q2 g1 g2=>?_) g m l λa p1 p2 z _=>wpS_pure (h a t3 d (zt g p1) p2 z));refine AL (LN t o d a _ q1 q2 ?_);dsimp only;by_cases c:al rk lo (AM t3) a<al rk lo (AM t3) (a-1)
 ·rw[z5 c,zl rfl];exact wpS_pure (g1 c)
 ·rw[z4 c,zv ()];exact wpS_pure (g2 c)
theorem Pa{t1:SortSt}{m:Nat}{Q:Y Nat->SortSt->Prop}(o:Et prog w A s (kindOf u) rk b)(p:lo+n<=b.size)(m2:m<n)(F:Bo lo b u t1)(K:ER rk lo (AM t1) (m+1))(h:SK rk lo b u n Q):wpS (A8 prog w) A E s (Nd lo n m) Q t1:=by
 unfold Nd;refine AL (wpS_lift (QY ⟨rfl,?_⟩));refine AL (wpS_mono (wpS_forRange (I:=λx c t=>∃e,c=(X9,x,e)/\Bo lo b u t/\ER rk lo (AM t) x/\e+1<=x/\∀i,x-(e+1)<=i->i<x->al rk lo (AM t) i=al rk lo (AM t) (x-1))
  (Q:=λc t=>∃k e,c=(X9,k,e)/\m+1<=k/\k<=n/\Bo lo b u t/\ER rk lo (AM t) k/\e+1<=k/\∀i,k-(e+1)<=i->i<k->al rk lo (AM t) i=al rk lo (AM t) (k-1)) ?_ ?_ ⟨0,rfl,F,K,by omega,λi q1 q2=>by rw[show i=m+1-1 by omega]⟩) ?_)
 ·rintro x c d J G ⟨e,rfl,a,dn,g,f⟩;have B:lo+x<=(AM d).size:=by rw[a.sz];omega
  dsimp only;refine AL (LN o p a x _ () G ?_);dsimp only;by_cases q:al rk lo (AM d) x<al rk lo (AM d) (x-1)
  ·rw[z5 q,zl rfl];by_cases h0:e>0
   ·rw[zl h0];refine AL (wpS_reverse (wpS_pure ?_));have l:=Rk (rk:=rk) B f;rw[show lo+x-(e+1)=lo+(x-(e+1)) by omega];exact⟨0,rfl,a.mir () (),grow dn l λ_=>by omega,by omega,λi q1 q2=>by rw[show i=x+1-1 by omega]⟩
   ·rw[zv h0];exact wpS_pure ⟨0,rfl,a,grow dn (λ_=>X2) λ_=>by omega,by omega,λi q1 q2=>by rw[show i=x+1-1 by omega]⟩
  ·rw[z4 q,zv ()];refine AL (Y7 o a () () ?_);dsimp only;rw[show lo+x-1=lo+(x-1) by omega];by_cases q2:al rk lo (AM d) (x-1)<al rk lo (AM d) x
   ·rw[z5 q2,zl rfl];exact wpS_pure ⟨x,e,rfl,J,by omega,a,dn,g,f⟩
   ·rw[z4 q2,zv ()];refine wpS_pure ⟨e+1,rfl,a,grow dn (λ_=>X2) λ_=>by omega,by omega,λi q3 M=>?_⟩;rw[show x+1-1=x by omega];by_cases hi:i=x
    ·rw[hi]
    ·rw[f i () ()];omega
 ·rintro c d ⟨e,rfl,a,dn,g,f⟩;rw[show max (m+1) n=n by omega]at dn g f ⊢;exact⟨n,e,rfl,by omega,zo _,a,dn,g,f⟩
 rintro c d ⟨k,e,rfl,D,v,a,dn,g,f⟩;have C:lo+k<=(AM d).size:=by rw[a.sz];omega
 dsimp only;have y:1<=k:=zt (Nat.succ_pos m) D;by_cases h0:e>0
 ·rw[zl h0];refine AL (wpS_reverse ?_);have l:=Rk (rk:=rk) C f;rw[show lo+k-(e+1)=lo+(k-(e+1)) by omega];have L:=a.mir (yk lo (k-(e+1))) (zt (xh v lo) p);refine O9 o p y v L (λi j H z=>?_) h;show al rk lo (mirror (AM d) _ _ _) j<=al rk lo (mirror (AM d) _ _ _) i;rw[l,l];exact dn i j H z
 ·rw[zv h0];exact O9 o p y v a dn h
theorem Tk{Q:Y Nat->SortSt->Prop}(a:Et prog w A s (kindOf u) rk b)(g:lo+n<=b.size)(h1:1<=n)(B:Bo lo b u t)(h:∀k t,Bo lo b u t->1<=k->k<=n->Y6 rk lo (AM t) k->Q (Z k) t):wpS (A8 prog w) A E s (countRun' lo n) Q t:=by
 rw[countRun'_eq];refine AL (SY (rk:=rk) (lo:=lo) (λx m y q1 q2 g1 g2=>?_) (zo 1) h1 (λi j o d=>by rw[show i=j by omega];exact zo _) λm p m2 l or=>?_)
 ·refine AL (LN a g B m _ q1 q2 ?_);dsimp only;by_cases c:al rk lo (AM t) m<al rk lo (AM t) (m-1)
  ·rw[z5 c,zl rfl];exact wpS_pure (g1 c)
  ·rw[z4 c,zv ()];exact wpS_pure (g2 c)
 dsimp only;by_cases f:m=n
 ·rw[zl (show(m==n)=true by simpa using f)];exact wpS_pure (h m t B p m2 l)
 rw[zv (show ¬ (m==n)=true by simpa using f)];have lt:=or.resolve_left f;have v:lo+m<=(AM t).size:=by rw[B.sz];omega
 have mn:m<n:=fP m2 f;by_cases g1:m>1
 ·rw[zl g1];refine AL (Y7 a B () () ?_);dsimp only;by_cases q:at_ rk (AM t) lo<at_ rk (AM t) (lo+m-1)
  ·rw[z5 q,zl rfl];exact wpS_pure (h m t B p m2 l)
  rw[z4 q,zv ()];have all:∀k,0<=k->k<m->al rk lo (AM t) k=al rk lo (AM t) (m-1):=λk _ hk=>by
   have a1:=l 0 k (Zs _) hk;have a2:=l k (m-1) () ();have q:¬ al rk lo (AM t) 0<al rk lo (AM t) (m-1):=by
    show ¬ at_ rk (AM t) (lo+0)<at_ rk (AM t) (lo+(m-1));rw[mq,<-xv p lo];exact q
   omega
  have e:=Rk (rk:=rk) (i:=0) v all;rw[mq]at e;refine AL (wpS_reverse ?_);exact Pa a g mn (B.mir (zo lo) (zt (xh m2 lo) g)) (grow (xs:=AM t) (λi j o d=>by rw[all i (Zs _) (kc o d),all j (Zs _) d];exact zo _) e λ_=>ZI lt) h
 ·rw[zv g1];exact Pa a g mn B (grow (xs:=AM t) (λi j o d=>by rw[show i=j by omega];exact zo _) (λ_=>X2) λ_=>ZI lt) h
theorem uS{p d:Nat}(hs:lo+p<xs.size)(hd:d<=p)(k:Nat):al rk lo (bubble xs (lo+p) d) k=if k=p-d then al rk lo xs p else if p-d<k/\k<=p then al rk lo xs (k-1)else al rk lo xs k:=by
 unfold al;rw[cr hs ()];by_cases q:k=p-d
 ·rw[zl q,zl ()]
 ·rw[zv q,zv ()];by_cases q2:p-d<k/\k<=p
  ·rw[zl q2,zl ⟨by omega,by omega⟩];congr 1;omega
  ·rw[zv q2,zv ()]
theorem Iy{l r k x:Nat}(h:l<r)(a:r-l<=k-x):l<=(l+r) / 2/\(l+r) / 2<r/\(l+r) / 2-l<=k-(x+1)/\r-((l+r) / 2+1)<=k-(x+1):=by omega
theorem i8{k l:Nat}(s:lo+k<xs.size)(n:l<=k)(f:Y6 rk lo xs k)(o:∀i,i<l->al rk lo xs i<=al rk lo xs k)(hi:∀i,l<=i->i<k->al rk lo xs k<al rk lo xs i):Y6 rk lo (bubble xs (lo+k) (k-l)) (k+1):=by
 have e:=uS (rk:=rk) s (YI k l);rw[Nat.sub_sub_self n]at e;generalize bubble xs (lo+k) (k-l)=ys at e ⊢;have c:∀i,i<l->al rk lo ys i=al rk lo xs i:=λi h=>by rw[e,zv (zS h),zv λz=>Nat.lt_asymm h z.1]
 have d:al rk lo ys l=al rk lo xs k:=by rw[e,zl rfl]
 have m:∀i,l<i->i<=k->al rk lo ys i=al rk lo xs (i-1):=λi h h'=>by rw[e,zv (kg h),zl ⟨h,h'⟩]
 intro i j a b;have b:=kA b;rcases nk j l with q|q|q
 ·rw[c i (kc a q),c j q];exact f i j a (zD q n)
 ·rw[q,d];rw[q]at a;rcases Nat.lt_or_eq_of_le a with z|z
  ·rw[c i z];exact o i z
  ·rw[z,d];exact zo _
 ·have g:l<=j-1:=K2 q;have p:j-1<k:=zD (eu (Nat.zero_lt_of_lt q) xo) b;rw[m j q b];rcases nk i l with z|z|z
  ·rw[c i z];exact f i (j-1) (zt (ZI z) g) p
  ·rw[z,d];exact ZI (hi _ g p)
  ·rw[m i z (zt a b)];exact f (i-1) (j-1) (Nat.sub_le_sub_right a 1) p
theorem TR{o:Nat}{Q:Bool->SortSt->Prop}(M:Et prog w A s (kindOf u) rk b)(P:lo+n<=b.size)(U:o<=n)(B:Bo lo b u t)(hs:Y6 rk lo (AM t) o)(h:∀t,Bo lo b u t->Y6 rk lo (AM t) n->Q true t):wpS (A8 prog w) A E s (binarySort' lo n o) Q t:=by
 rw[binarySort'_eq];refine AL (wpS_mono (wpS_forRange (I:=λk c t=>c=(X9,db)/\Bo lo b u t/\Y6 rk lo (AM t) (min k n)) (Q:=λc t=>c=(X9,db)/\Bo lo b u t/\Y6 rk lo (AM t) n) ?_ ?_ ?_) ?_)
 ·rintro k c t S C ⟨rfl,a,f⟩;rw[KI (ZI C)]at f;have D:lo+k<b.size:=zD (yo C lo) P;refine AL (wpS_mono (wpS_forRange (I:=λx c d=>d=t/\∃l r,c=(X9,l,r)/\l<=r/\r<=k/\r-l<=k-x/\(∀i,i<l->al rk lo (AM t) i<=al rk lo (AM t) k)/\(∀i,r<=i->i<k->al rk lo (AM t) k<al rk lo (AM t) i))
   (Q:=λc d=>d=t/\∃l r,c=(X9,l,r)/\l<=k/\(∀i,i<l->al rk lo (AM t) i<=al rk lo (AM t) k)/\(∀i,l<=i->i<k->al rk lo (AM t) k<al rk lo (AM t) i)) ?_ ?_ ?_) ?_)
  ·rintro x c d _ hx ⟨rfl,l,r,rfl,G,p,H,m,hi⟩;dsimp only;by_cases v:l>=r
   ·rw[zl v];have e:l=r:=Nat.le_antisymm G v;subst e;exact wpS_pure ⟨rfl,l,l,rfl,p,m,hi⟩
   ·rw[zv v];have g:=Iy (YN v) H;have y:=zD g.2.1 p;refine AL (Y7 M a D (hO (yo y lo) D) ?_);dsimp only;by_cases q:al rk lo (AM d) k<al rk lo (AM d) ((l+r) / 2)
    ·rw[z5 q,zl rfl];exact wpS_pure ⟨rfl,l,(l+r) / 2,rfl,g.1,ZI y,g.2.2.1,m,λi q1 q2=>zD q (f ((l+r) / 2) i q1 q2)⟩
    ·rw[z4 q,zv ()];exact wpS_pure ⟨rfl,(l+r) / 2+1,r,rfl,g.2.1,p,g.2.2.2,λi q1=>zt (f i ((l+r) / 2) (kA q1) y) (xA q),hi⟩
  ·rintro c d ⟨rfl,l,r,rfl,G,p,H,m,hi⟩;have e:l=r:=by omega
   subst e;exact⟨rfl,l,l,rfl,p,m,hi⟩
  ·exact⟨rfl,0,k,rfl,Zs _,zo _,zo _,λi hi=>absurd hi (Nat.not_lt_zero i),λi q1 q2=>absurd q2 (ej.mpr q1)⟩
  ·rintro c d ⟨rfl,l,r,rfl,K,m,hi⟩;show wpS _ _ _ _ (moveDown' (lo+k) (lo+l) >>= λ_=>pure (ForInStep.yield (X9,db))) _ _;rw[moveDown'_eq];have J:lo+k<(AM d).size:=by rw[a.sz];exact D
   refine AL (wpS_modify (wpS_pure ⟨rfl,⟨(bubble_perm _ _ _).trans a.pm,a.kd,a.fl,a.pd,λj F=>?_⟩,?_⟩))
   ·show(bubble (AM d) (lo+k) (lo+k-(lo+l)))[j]?=_;rw[getElem?_bubble J _ (YI _ _),zv (),zv ()];exact a.ot j F
   rw[KI C];show Y6 rk lo (bubble (AM d) (lo+k) (lo+k-(lo+l))) (k+1);rw[Nat.add_sub_add_left];exact i8 J K f m hi
 ·rintro c t ⟨N,a,f⟩;refine⟨N,a,?_⟩;rwa [show min (max (max o 1) n) n=n by omega]at f
 ·refine⟨rfl,B,λi j L F=>?_⟩;by_cases z:o=0
  ·rw[show i=j by omega];exact zo _
  ·exact hs i j L ()
 ·rintro c t ⟨rfl,a,f⟩;exact wpS_pure (h t a f)
end
section
variable(rk:A0->Nat)
def Ds:Nat->O (O Keyed)->O (Nat×Nat×Nat)->Prop
 |_,[],[]=>True
 |lo,g::gs,(a,n,_)::ps=>a=lo/\n=g.length/\g≠[]/\g.Pairwise (Le rk)/\Ds (lo+g.length) gs ps
 |_,_,_=>False
variable{rk}
theorem Ds.len:∀{gs:O (O Keyed)} {ps:O (Nat×Nat×Nat)} {lo:Nat},Ds rk lo gs ps->gs.length=ps.length
 |[],[],_,_=>rfl
 |g::gs,(a,n,q)::ps,lo,h=>congrArg (·+1) (Ds.len h.2.2.2.2)
 |[],_::_,_,h=>h.elim
 |_::_,[],_,h=>h.elim
theorem Ds.snoc:∀{gs:O (O Keyed)} {ps:O (Nat×Nat×Nat)} {lo:Nat} {g:O Keyed} {q:Nat},Ds rk lo gs ps->g≠[]->g.Pairwise (Le rk)->Ds rk lo (gs++[g]) (ps++[(lo+gs.flatten.length,g.length,q)])
 |[],[],_,g,q,_,h1,h2=>⟨rfl,rfl,h1,h2,trivial⟩
 |f::gs,(a,n,r)::ps,lo,g,q,h,h1,h2=>by
  have b:=Ds.snoc (q:=q) h.2.2.2.2 h1 h2;rw[gk,<-Zl,<-y9]at b;exact⟨h.1,h.2.1,h.2.2.1,h.2.2.2.1,b⟩
 |[],_::_,_,_,_,h,_,_=>h.elim
 |_::_,[],_,_,_,h,_,_=>h.elim
theorem Ds.pw{f:Nat×Nat×Nat->Nat×Nat×Nat}(b:∀a n q,∃r,f (a,n,q)=(a,n,r)):∀{gs:O (O Keyed)} {ps:O (Nat×Nat×Nat)} {lo i:Nat},Ds rk lo gs ps->Ds rk lo gs (ps.modify i f)
 |[],[],_,i,_=>by cases i<;>trivial
 |g::gs,(a,n,q)::ps,lo,0,h=>by
  obtain⟨r,e⟩:=b a n q;show Ds rk lo (g::gs) (f (a,n,q)::ps);rw[e];exact h
 |g::gs,(a,n,q)::ps,lo,i+1,h=>⟨h.1,h.2.1,h.2.2.1,h.2.2.2.1,Ds.pw b h.2.2.2.2⟩
 |[],_::_,_,_,h=>h.elim
 |_::_,[],_,_,h=>h.elim
theorem Ds.two:∀{i:Nat} {gs:O (O Keyed)} {ps:O (Nat×Nat×Nat)} {lo:Nat},Ds rk lo gs ps->i+1<ps.length->∃G g g' b p q,gs=G++g::g'::b/\ps[i]?=Z (lo+G.flatten.length,g.length,p)/\ps[i+1]?=Z (lo+G.flatten.length+g.length,g'.length,q)/\g≠[]/\g'≠[]/\g.Pairwise (Le rk)/\g'.Pairwise (Le rk) ∧
   ∀m:O Keyed,m.length=g.length+g'.length->m.Pairwise (Le rk)->Ds rk lo (G++m::b) ((ps.set i (lo+G.flatten.length,g.length+g'.length,p)).eraseIdx (i+1))
 |0,g::g'::b,(a,n,p)::(a',n',q)::ps,lo,h,_=>by
  obtain⟨rfl,rfl,h1,h2,rfl,rfl,j,l,d⟩:=h;refine⟨[],g,g',b,p,q,rfl,rfl,rfl,h1,j,h2,l,λm c f=>⟨rfl,c.symm,?_,f,?_⟩⟩
  ·intro e;rw[e]at c;have:=cJ.mpr h1;simp at c;omega
  ·rw[c,<-gk];exact d
 |i+1,g::gs,(a,n,p)::ps,lo,h,hi=>by
  obtain⟨G,k,s,b,p',o,e,e1,e2,h1,h2,j,l,d⟩:=Ds.two (i:=i) h.2.2.2.2 (by simpa using hi);have ex:lo+g.length+G.flatten.length=lo+(g::G).flatten.length:=by rw[y9,Zl];omega
  rw[ex]at e1 e2 d;exact⟨g::G,k,s,b,p',o,by rw[e];rfl,e1,e2,h1,h2,j,l,λm c f=>⟨h.1,h.2.1,h.2.2.1,h.2.2.2.1,d m c f⟩⟩
 |_,[],[],_,_,hi=>by cases hi
 |0,_,[_],_,_,hi=>by simp at hi
 |_,[],_::_,_,h,_=>h.elim
 |_,_::_,[],_,h,_=>h.elim
 |0,[_],_::_::_,_,h,_=>h.2.2.2.2.elim
end
section
variable{b:Array Keyed}
structure St (rk:Value->Nat) (kd:SortKind) (b:Array Keyed) (R:List Keyed) (gs:List (List Keyed)) (t:SortSt):Prop where
 kd:kindOf t=kd
 fl:failedOf t=none
 pm:(arrOf t).Perm b
 ar:(arrOf t).toList=gs.flatten++R
 ds:Ds rk 0 gs (pendingOf t).toList
theorem N9{R:O Keyed}{gs:O (O Keyed)}{Q:Bool->SortSt->Prop}(v:Et prog w A s kd rk b)(S:St rk kd b R gs t)(hi:i+1<(pendingOf t).size)(h:∀a t',St rk kd b R a t'->a.flatten.length=gs.flatten.length->a.length+1=gs.length->Q true t'):wpS (A8 prog w) A E s (K' i) Q t:=by
 obtain⟨G,g,l,j,p,q,e,e1,e2,h1,h2,D,H,n⟩:=Ds.two S.ds (i:=i) (by simpa using hi);rw[kD]at e1 e2 n;rw[kR]at e1 e2;have f:(AM t).toList=G.flatten++(g++l)++(j.flatten++R):=by rw[S.ar,e];simp
 have F:∀z∈(AM t).toList,z∈b.toList:=λz y=>(dc.mp S.pm).mem_iff.mp y;refine b9 (rk:=rk) v S.kd S.fl F f e1 e2 X2 X2 X2 X2 h1 h2 D H λt' m B C u d x o=>?_;have c:m.length=g.length+l.length:=by rw[d.length_eq,Zl]
 refine h (G++m::j) t' ⟨B,C,?_,by rw[o];simp,?_⟩ (by rw[e];simp[c];omega) (by rw[e];simp only[Zl,ZO];omega)
 ·refine Array.Perm.trans ?_ S.pm;rw[dc,o,f];exact(d.append_left _).append_right _
 ·rw[u];have:=n m c x;simpa using this
theorem Us{st:SortSt}{Q:Unit->SortSt->Prop}(J:Et prog w A s kd rk b)(B:Bs kd b st)(h2:2<=b.size)
  (h:∀t,(AM t).Perm b->failedOf t=X9->Up rk (AM t) b.size->Q db t):wpS (A8 prog w) A E s sortRuns' Q st:=by
 rw[sortRuns'_eq];refine AL (wpS_get ?_);rw[B.sz];generalize minRun' b.size b.size 0=mr;dsimp only;refine AL (wpS_mono (wpS_forRange (I:=λx c t=>∃gs R,c=(X9,gs.flatten.length)/\St rk kd b R gs t/\x<=gs.flatten.length) (Q:=λc t=>c.1=X9/\∃gs,St rk kd b [] gs t) ?_ ?_ ⟨[],(AM st).toList,rfl,⟨B.kd,B.fl,B.pm,rfl,by rw[B.pd];trivial⟩,Zs _⟩) ?_)
 ·rintro x c t _ hx ⟨gs,R,rfl,S,D⟩;have sz:gs.flatten.length+R.length=b.size:=by
   rw[<-Zl,<-S.ar,ZN];exact S.pm.size_eq
  dsimp only;by_cases ge:gs.flatten.length>=b.size
  ·rw[zl ge];have:R=[]:=ku ();subst this;exact wpS_pure ⟨rfl,gs,S⟩
  rw[zv ge];refine AL (Tk (rk:=rk) (u:=t) (lo:=gs.flatten.length) (by rw[S.kd];exact J) () () ⟨S.pm,rfl,rfl,rfl,λ_ _=>X2⟩ λn t' W n1 n2 L=>?_);have body:∀(t1:SortSt) (m:Nat),Bo gs.flatten.length b t t1->1<=m->m<=b.size-gs.flatten.length->Y6 rk gs.flatten.length (AM t1) m->∃g v,g.length=m/\g≠[]/\g.Pairwise (Le rk)/\St rk kd b (g++v) gs t1:=λt1 m l G m2 L=>by
   have z1:(AM t1).toList.length=b.size:=by rw[ZN];exact l.sz
   have e:(AM t1).toList.take gs.flatten.length=gs.flatten:=by
    apply nu;intro k;by_cases hk:k<gs.flatten.length
    ·rw[hL hk,kR,l.ot k hk,<-kR,S.ar,ZH hk]
    ·rw[KO (by rw[qB];omega),KO ()]
   have o:(((AM t1).toList.drop gs.flatten.length).take m).length=m:=by rw[qB,jS,z1];omega
   refine⟨((AM t1).toList.drop gs.flatten.length).take m,((AM t1).toList.drop gs.flatten.length).drop m,o,λz=>by rw[z]at o;simp at o;omega,dq.mpr λi j hi N a3=>?_,⟨l.kd.trans S.kd,l.fl.trans S.fl,l.pm,?_,by rw[l.pd];exact S.ds⟩⟩
   ·rw[o]at hi N;have:=L i j () N;unfold al at this;rw[Hf (show gs.flatten.length+i<(AM t1).size by rw[l.sz];omega),Hf (show gs.flatten.length+j<(AM t1).size by rw[l.sz];omega)]at this;rw[Kn,Kn,Kt,Kt];exact this
   ·rw[qr]
    conv=>rhs;lhs;rw[<-e]
    exact(qr _ _).symm
  have C:Et prog w A s (kindOf t) rk b:=by rw[S.kd];exact J
  dsimp only;have e0:minRun' b.size b.size 0=minRun' b.size b.size 0:=rfl;generalize a6:minRun' b.size b.size 0=mr;by_cases c:n<mr
  case' pos=>
   rw[zl c];refine AL (wpS_lift (QY ⟨rfl,AL (TR (rk:=rk) (u:=t) C () () W L λt1 l K=>?_)⟩));rw[zv ()];have G:1<=min (b.size-gs.flatten.length) mr:=by omega
   have m2:min (b.size-gs.flatten.length) mr<=b.size-gs.flatten.length:=by omega
   generalize min (b.size-gs.flatten.length) mr=m at *
  case' neg=>
   rw[zv c];have l:=W;have K:=L;have G:=n1;have m2:=n2;generalize t'=t1 at l K ⊢;generalize n=m at G m2 K ⊢
  all_goals
   obtain⟨g,v,o,hg,H,S1⟩:=body t1 m l G m2 K;have a4:∀d t2,St rk kd b (g++v) d t2->d.flatten.length=gs.flatten.length->∃P a5,((X9:Y Unit),gs.flatten.length+m)=(X9,P.flatten.length)/\St rk kd b a5 P (setPending t2 ((pendingOf t2).push (gs.flatten.length,m,0)))/\x+1<=P.flatten.length:=λd t2 f e2=>by
    have X:(d++[g]).flatten.length=gs.flatten.length+m:=by simp[<-e2,o]
    refine⟨d++[g],v,by rw[X],⟨f.kd,f.fl,f.pm,?_,?_⟩,by rw[X];omega⟩
    ·show(AM t2).toList=_;rw[f.ar];simp
    ·have:=f.ds.snoc (q:=0) hg H;rw[kD,e2,o]at this;show Ds rk 0 _ ((pendingOf t2).push _).toList;rw[Yf];exact this
   refine AL (wpS_get ?_);split
   ·refine AL (wpS_mono (wpS_forRange (I:=λx c t=>c=(X9,db)/\∃d,St rk kd b (g++v) d t/\d.flatten.length=gs.flatten.length) (Q:=λc t=>c=(X9,db)/\∃d,St rk kd b (g++v) d t/\d.flatten.length=gs.flatten.length) ?_ (λ_ _ q=>q) ⟨rfl,gs,S1,rfl⟩) ?_)
    ·rintro y c t2 _ _ ⟨rfl,d,f,e2⟩;refine AL (wpS_get ?_);by_cases z:(pendingOf t2).size>1
     ·rw[zl z];split
      ·split
       ·exact wpS_pure ⟨rfl,d,f,e2⟩
       ·refine AL (N9 J f () λU t3 M e3 _=>?_);rw[zv ()];exact wpS_pure ⟨rfl,U,M,e3.trans e2⟩
      ·exact wpS_pure ⟨rfl,d,f,e2⟩
     ·rw[zv z];exact wpS_pure ⟨rfl,d,f,e2⟩
    ·rintro c t2 ⟨rfl,d,f,e2⟩;dsimp only;refine AL (wpS_modify (AL (wpS_modify (wpS_pure ?_))));refine a4 d _ ⟨f.kd,f.fl,f.pm,f.ar,?_⟩ e2;show Ds rk 0 _ ((pendingOf t2).modify _ _).toList;rw[Array.toList_modify];exact f.ds.pw λa n q=>⟨_,rfl⟩
   ·exact AL (wpS_modify (wpS_pure (a4 gs t1 S1 X2)))
 ·rintro c t ⟨gs,R,rfl,S,D⟩;have sz:gs.flatten.length+R.length=b.size:=by
   rw[<-Zl,<-S.ar,ZN];exact S.pm.size_eq
  have:R=[]:=ku ();subst this;exact⟨rfl,gs,S⟩
 rintro⟨c,lo⟩ t ⟨hc,gs,S⟩;simp only at hc;subst hc;dsimp only;refine AL (wpS_mono (wpS_forRange (I:=λx c t=>c=(X9,db)/\∃gs,St rk kd b [] gs t/\(gs.length+x<=b.size\/gs.length<=1)) (Q:=λc t=>c=(X9,db)/\∃gs,St rk kd b [] gs t/\gs.length<=1) ?_ ?_ ⟨rfl,gs,S,.inl ?_⟩) ?_)
 ·rintro x c t _ hx ⟨rfl,gs,S,D⟩;have lp:gs.length=(pendingOf t).size:=by rw[S.ds.len,ZN]
  refine AL (wpS_get ?_);by_cases z:(pendingOf t).size<=1
  ·rw[zl z];exact wpS_pure ⟨rfl,gs,S,by omega⟩
  rw[zv z];have le:∀(p:Prop) [Decidable p] (a:Nat),(if p then a-1 else a)<=a:=λp _ a=>by split<;>omega
  refine AL (N9 J S (kc (ka (le _ _)) ()) λU t3 M e3 l3=>?_);rw[zv ()];exact wpS_pure ⟨rfl,U,M,by omega⟩
 ·rintro c t ⟨rfl,gs,S,D⟩;exact⟨rfl,gs,S,by omega⟩
 ·have:∀{gs:O (O Keyed)} {ps:O (Nat×Nat×Nat)} {lo:Nat},Ds rk lo gs ps->gs.length<=gs.flatten.length:=by
   intro gs
   induction gs with
   |nil=>intro ps lo _;exact zo _
   |cons g gs ih=>
    intro ps lo h;cases ps with
    |nil=>exact h.elim
    |cons p ps=>
     obtain⟨a,n,q⟩:=p;have:=ih h.2.2.2.2;have:=cJ.mpr h.2.2.1;rw[y9,Zl,ZO];omega
  have:=this S.ds;have sz:gs.flatten.length=b.size:=by
   have:=congrArg dv S.ar;rw[qk,ZN]at this;exact this.symm.trans S.pm.size_eq
  omega
 ·rintro c t ⟨rfl,gs,S,D⟩;refine wpS_pure (h t S.pm S.fl ?_);have F:=S.ar;have ds:=S.ds;have sz:=S.pm.size_eq
  match gs,D,F,ds with
  |[],_,F,ds=>
   have:(AM t).size=0:=by rw[<-ZN,F];rfl
   omega
  |[g],_,F,ds=>
   generalize (pendingOf t).toList=ps at ds
   match ps,ds with
   |(a,n,q)::_,ds=>
    have H:=ds.2.2.2.1;have e:(AM t).toList=g:=by rw[F];simp
    rw[<-e]at H;intro i j a3 N;rw[Hf (show i<(AM t).size by omega),Hf (show j<(AM t).size by omega)];exact Ay H a3 ()
end
theorem gc{b:Array Keyed}:Rn prog w A kd rk b:=λ_ _ _ _ a B h2 q=>Us a B h2 q
end S1
namespace P1
open L2 S6
theorem Hg:∀{vs:O A0} {ys:AZ},StrsAre vs ys->∀(i:Nat) (v:A0),vs[i]?=Z v->∃y t,ys[i]?=Z y/\v=.str y t
 |_,_,.nil,i,v,h=>by simp at h
 |_,_,.cons y t r,0,v,h=>by simp at h;exact⟨y,t,rfl,h.symm⟩
 |_,_,.cons y t r,i+1,v,h=>by
  obtain⟨z,t',e,a⟩:=Hg r i v (by simpa using h);exact⟨z,t',by simpa using e,a⟩
section
variable{fs:Ev->Y AZ}{p:Pos}
end
section
variable{xs:AZ}{p:Ev->Y Bool}
end
section
variable{xs:AZ}{p:Ev->Y Bool}
variable{fs:Ev->Y AZ}{p':Pos}
end
end P1
namespace P1
open L2 S1 S6
section
variable [DecidableEq α]
end
section
def IE(ks:O AY):Bool:=ks.any λk=>k.isRight
variable{fs:Ev->Y (O (O AY))}{p:Pos}
end
end P1
namespace P1
open L2
def Kd:Bx->Bx->Y Bx
 |.z (.str k),.z d=>Z (.z (.tup [.str k,d]))
 |_,_=>X9
theorem W3{a b:Bx}{y:Dt}(h:Kd a b=Z (.z y)):∃k d,a=.z (.str k)/\b=.z d/\y=.tup [.str k,d]:=by
 unfold Kd at h;split at h
 ·cases h;exact⟨_,_,rfl,rfl,rfl⟩
 ·cases h
def LY(AO:O (AY×Dt)):Dt->O (AY×Dt)
 |.tup [.str k,d]=>Q0 AO (.inr k) d
 |_=>AO
def dictOf(out:O Dt):O (AY×Dt):=out.foldl LY []
theorem Ut(out:O Dt)(k:AJ)(d:Dt):dictOf (out++[.tup [.str k,d]])=Q0 (dictOf out) (.inr k) d:=by
 unfold dictOf;rw[nw];rfl
theorem lT{AO:O (AY×V)}{k:AY}{r:A0}{Q:Unit->A2->Prop}(I:L2.AU X AN σ H s)(e:H a=Z (.dK AO))(l:AO.length<AA)(j:Au (kV k) u)(m:Au v r)(h:∀s',L2.AU X AN σ (B4 H a (.dK (BM AO k v))) s'->Q db s'):
  A7 (bi X) A (dictSet a u r) Q E s:=by
 obtain⟨z,hd,vs,b,d⟩:=Oy I.hok e;have i:vs.length<=AA:=by rw[<-b.length];exact z
 have g:(BM AO k v).length<=AA:=by have:=sO AO k v;omega
 refine wpAny_dictSet_pairs (hsz:=i) (Oi j) d λh' c hs=>h _ ?_;have f:∃q,h'.get? a=Z q:=let ⟨q,_,_,hq,_⟩:=c;⟨q,hq⟩;exact Qz I (by rw[e];exact True.intro) hs f (Sr g hd (b.put k m) c)
section
variable{kx vx:Expr}{xs:AZ}{p:Ev->Y Bool}{fk:Ev->Y Bx}
def F5(K:B6)(_:A1)(H:Hp)(a:O Dt)(o:HO):Prop:=∃us,o=.dK us/\fV K H (dictOf a) us/\us.length<=a.length
theorem F5.kp{K:B6}{D:A1}{H H':Hp}{a:O Dt}{o:HO}(k:Kp H H'):F5 K D H a o->F5 K D H' a o:=λ⟨us,e,r,z⟩=>⟨us,e,r.kp k,z⟩
theorem af7(hk:PV X kx fk)(hv:PV X vx fv):WD X (λD env=>do let f <-eval kx env;let vv <-holding [f] (eval vx env);standAt { kx.pos with endLine:=vx.pos.endLine,endCol:=vx.pos.endCol };holding [f,vv] (dictSet D f vv)) (FR (b2 Kd fk fv)) (F5 X.K) 999 n:=by
 refine Sn λAN s σ H H0 ρ D o o1 ys I En eb hD ⟨us,e,r4,hl⟩ hi=>?_;subst e;obtain⟨b,e0,e1⟩:=AT eb;obtain⟨y,rfl,rfl⟩:=Ft e1;obtain⟨bk,E,eb⟩:=AT e0;obtain⟨P,B,eb⟩:=AT eb;obtain⟨c,F,rfl,rfl,rfl⟩:=W3 eb;refine zb (qa (hk AN s σ H (λv a=>AV H a/\bJ X.K a (.z (.str c)) v) I ⟨H0,ρ,_,En,E,λv a g _ d=>⟨g,d⟩⟩) (λf A j=>?_) λ_ _ z=>z);obtain⟨J,p,q,rk,l,u⟩:=j;refine zb (Z3 (qa (hv AN A σ p (λv a=>AV p a/\AW X.K a F v) q ⟨H0,ρ,_,En.grow l,B,λv a g _ d=>⟨g,d⟩⟩) (λv g j=>?_) λ_ _ z=>z));obtain⟨h,a,C,G,t,d⟩:=j;have i:=l.trans t;have m:a D=Z (.dK us):=i _ _ hD;obtain⟨rfl,w⟩:J=.str c/\c.length<=AA:=by simpa only[bJ,AW]using u
 have kp:Kp a (B4 a D (.dK (BM us (Sum.inr c) h))):=.dk m;refine zb (kH (Z3 ?_));simp only[ef]at hi;refine lT C m (by have:(1000:Nat)<AA:=();omega) (k:=Sum.inr c) rk G λN L=>?_;have M:=((r4.kp (.of i)).put (x:=Sum.inr c) d w).kp kp;exact⟨a,_,L,i,kp,BM us (Sum.inr c) h,rfl,by rw[Ut];exact M,by have:=sO us (Sum.inr c) h;simp;omega⟩
def Y8(fi:Ev->Y (O Dt))(gt:Dt->Ev->Y Ev)(p:Ev->Y Bool)(fk fv:Ev->Y Bx)(is:O Nat)(n:Nat):Ev->Y Bx:=λρ=>(fi ρ).bind λds=>
 if ds.length<1000 then(G4 gt p (b2 Kd fk fv) (gB is ρ++ba n X9) ds).bind λout=>Z (.m (dictOf out) X9)else X9
theorem im(hu:X.A.units+100<cLine)(ts:AZ)(O:uD X scope cl xs is)(a4:X.calm=true)(hi:EA X tgt iter fi)
  (L:∀C c d fp,CC (Am X (xs++ts) scope cl C c d fp) tgt gt) (G:∀C c d fp,vU (Am X (xs++ts) scope cl C c d fp) ifs p) (U:∀C c d fp,QV (Am X (xs++ts) scope cl C c d fp) kx fk) (W:∀C c d fp,QV (Am X (xs++ts) scope cl C c d fp) vx fv) (a3:YC is.length (is.length+ts.length) gt)
  (hs:∀x,foldedSetIterable iter X.env x=pure x:=by intro _;rfl):QV X (.DictComp kx vx [⟨tgt,iter,ifs,0⟩] scope pos) (Y8 fi gt p fk fv is ts.length):=⟨λAN s σ H Q I h=>by
 obtain⟨H0,ρ,b,E,e,q⟩:=h;obtain⟨ds,ed,e⟩:=AT e;split at e
 ·rename_i z;obtain⟨out,j,e⟩:=AT e;cases e;rw[arm_eval_DictComp];refine Kx (use:=X9) X2 hs O.clos O.kind O.names ?_;refine jH (hi.run AN s σ H (λJ H'=>AV H H'/\B5 X.K J ds H') I ⟨H0,ρ,ds,E,ed,λJ H' s' y=>⟨s',y⟩⟩) λv s1 h1=>jH h1 λa6 s2 h2=>?_;obtain⟨it,fp,tn,J,H2,rfl,i,T,st,hf,g,Y⟩:=h2;refine Fv (B:=G5) (Ac:=F5 X.K) (O0:=.dK []) (N:=999) (RR:=λt C=>compPost (bi X) X.A X.xe X9 (EP X AN σ Q) t C) (ts:=ts) (xs:=xs) O a4 (λC c d fp=>(L C c d fp).run) (λC c d fp=>(G C c d fp).run) (λC c d fp=>af7 (U C c d fp).run (W C c d fp).run) a3 (yk ..) i ((E.grow g).caps is ts.length) (JR T) st hf Y j (zt (zL j) (kA z)) ?_
   QA (λ_=>Tv s2.heap i.big) (λ_=>⟨[],rfl,fV.nil,zo _⟩) F5.kp (λ_ _ _=>X2) codeAny_compStart_dict λh=>h
  rintro D C s' H' o hD n S ⟨m,M⟩ a5 u ⟨us,rfl,F,_⟩;refine⟨m,M,λh' l=>⟨.ref D,H',?_,rfl,q (.ref D) H' (g.trans a5) (λa ea=>by cases ea;exact g.free hD) ⟨D,us,rfl,u,F,λb f=>by cases f⟩⟩⟩;obtain⟨f0,f1,f2,f3,f4,P⟩:=S;exact n.turned (t':=s'.toks) (λb o f e=>(l.2 b f).trans e) f0 f1 f3 f4 P
 ·cases e⟩
end
section
variable{o:AE}
theorem Uu(i:∀f u,X.H₀ a≠Z (.jl f u))(I:L2.AU X AN σ H s)(e:H a=Z (.jl o (.dK ks))):L2.AU X AN σ (B4 H a (.dK ks)) s:=by
 have ne:∀{b:A1} {u:HO},H b=Z u->u≠.jl o (.dK ks)->b≠a:=λq n z=>by subst z;rw[e]at q;cases q;exact n rfl
 have g:∀{b:A1},H b=X9->b≠a:=λq z=>by subst z;rw[e]at q;cases q
 refine⟨I.ok,I.os,I.bare,⟨I.base.keep,I.base.slot,λb f q n hx=>?_,I.base.there,λb xs q=>?_,λb f u q=>?_,λb ps q=>?_⟩,I.loc,I.cell,?_,λx c q=>?_,λp hp=>?_,λb f q=>?_,I.len⟩
 ·have:=I.base.free b f q n hx;rw[aK (g this)];exact this
 ·have:=I.base.tups b xs q;rw[aK (ne this λz=>by cases z)];exact this
 ·have:=I.base.Cu b f u q;rw[aK (λz=>by subst z;exact i _ _ q)];exact this
 ·obtain⟨m,this⟩:=I.base.Al b ps q;exact⟨m,by rw[aK (ne this λz=>by cases z)];exact this⟩
 ·have:=I.free;rw[aK (g this)];exact this
 ·have:=I.qX x c q;rw[aK (g this)];exact this
 ·obtain⟨p1,p2,p3⟩:=I.pin p hp;exact⟨p1,by rw[aK (g p2)];exact p2,p3⟩
 ·have st:∀{c:A1} {w:HO},fQ X.prog X.w H s.heap c w->fQ X.prog X.w (B4 H a (.dK ks)) s.heap c w:=λx=>
   x.stay (λ_ _ _ r=>r) (λd r=>by rw[aK (ne r λz=>by cases z)];exact r) (λd xs r=>by rw[aK (ne r λz=>by cases z)];exact r) λd o' j r=>by rw[aK (ne r λz=>by cases z)];exact r
  by_cases h:b=a
  ·subst h;rw[aU]at q;cases q;exact st (I.hok _ _ e).2
  ·rw[aK h]at q;exact st (I.hok _ _ q)
theorem lL(I:L2.AU X AN σ H s)(e:H a=Z (.dK ks))(b:s.heap.get? a=Z o):L2.AU X AN σ (B4 H a (.jl o (.dK ks))) s:=by
 have:=I.write (t':=s.toks) (h':=s.heap) (x:=a) (e:=a) (o:=.jl o (.dK ks)) (by rw[e];exact True.intro) (.inl X2) (λ_ _ _ z=>z) ⟨o,b⟩ ⟨b,(I.hok _ _ e).stay (λ_ _ _ r=>r) (λd r=>by rw[aK (nH r e (by intro z;cases z))];exact r) (λd xs r=>by rw[aK (nH r e (by intro z;cases z))];exact r) λd o' c r=>by rw[aK (nH r e (by intro z;cases z))];exact r⟩;exact this
theorem dQ(I:L2.AU X AN σ H s)(e:H a=Z (.dK ks)):∀b u,X.H₀ a≠Z (.jl b u):=λb u q=>by
 have:=I.base.Cu a b u q;rw[e]at this;cases this
mutual
theorem AW.Uu{K:B6}(e:H a=Z (.jl o (.dK ks)))(hk:ks≠[]):∀{d:Dt} {v:V},AW K H d v->AW K (B4 H a (.dK ks)) d v
 |.non,_,h=>by simpa only[AW]using h
 |.bl _,_,h=>by simpa only[AW]using h
 |.int _,_,h=>by simpa only[AW]using h
 |.str _,_,h=>by simpa only[AW]using h
 |.tup ds,_,h=>by
  simp only[AW]at h ⊢;obtain⟨b,vs,e1,q,r⟩:=h;refine⟨b,vs,e1,?_,aO.Uu e hk r⟩;rcases q with (q|⟨c,q⟩)|q
  ·exact .inl (.inl (by rw[aK (λz=>by subst z;rw[e]at q;cases q)];exact q))
  ·exact .inl (.inr ⟨c,by rw[aK (λz=>by subst z;rw[e]at q;cases q)];exact q⟩)
  ·exact .inr q
 |.lst ds,_,h=>by
  simp only[AW]at h ⊢;obtain⟨b,vs,e1,q,r⟩:=h;refine⟨b,vs,e1,?_,aO.Uu e hk r⟩;rcases q with⟨c,q⟩|q
  ·exact .inl ⟨c,by rw[aK (λz=>by subst z;rw[e]at q;cases q)];exact q⟩
  ·exact .inr q
 |.emp,_,h=>by
  simp only[AW]at h ⊢;obtain⟨b,c,e1,q⟩:=h;exact⟨b,c,e1,by rw[aK (λz=>by subst z;rw[e]at q;cases q;exact hk X2)];exact q⟩
theorem aO.Uu{K:B6}(e:H a=Z (.jl o (.dK ks)))(hk:ks≠[]):∀{ds:O Dt} {vs:O V},aO K H ds vs->aO K (B4 H a (.dK ks)) ds vs
 |[],_,h=>by simpa only[aO]using h
 |d::ds,_,h=>by
  simp only[aO]at h ⊢;obtain⟨v,r,e1,q,t⟩:=h;exact⟨v,r,e1,AW.Uu e hk q,aO.Uu e hk t⟩
end
def SG(a:A1)(o:AE)(ks:O (AY×V)):It:=
 ⟨λi H=>H a=Z (.jl o (.dK ks))/\i<ks.length,λi H x H'=>H'=H/\(ks.map λk=>kV k.1)[i]?=Z x,λi H=>H a=Z (.jl o (.dK ks))/\ks.length<=i⟩
theorem Y9(x:fQ P w H h a (.jl o (.dK ks))){es:Array DictEntry}(hd:o.data=.dict es ep):∃vs,KV ks vs/\h.DictAt (cH P w) a vs ep:=by
 obtain⟨e,_,_,vs,b,f,i,g,e2,c,d,r⟩:=x;rw[e]at e2;cases e2;rw[hd]at d;cases d;exact⟨vs,b,o,es,e,c,hd,r⟩
theorem OL:∀{ks:O (AY×V)} {vs:O (AY×A0)},KV ks vs->∀{i:Nat} {p},ks[i]?=Z p->∃x,vs[i]?=Z (p.1,x)
 |_,_,.nil,i,p,q=>by simp at q
 |_,_,.cons h _,0,p,q=>by simp at q;subst q;exact⟨_,by rw[List.getElem?_cons_zero,h.1]⟩
 |_,_,.cons _ t,i+1,p,q=>by
  rw[KG]at q;obtain⟨x,hx⟩:=OL t q;exact⟨x,by rw[KG];exact hx⟩
theorem Pb(it:A1){es:Array DictEntry}(hd:o.data=.dict es ep)(S:a≠it):C4 P w K tg (SG a o ks) [it] it (λi h=>h.IsKeyIter it a i ks.length ep) where
 mem:=by simp
 obj:=λi h st b f=>by
  have e:b=it:=by simpa using f
  subst e;obtain⟨g,e,c,d⟩:=st;exact⟨g,e,λv z=>by rw[d]at z;cases z⟩
 keep:=λi h h' st k=>st.at λg e=>k it (by simp) g e
 item:=by
  intro X F q A J i AN s σ H E I m st B;subst F q A;obtain⟨y,hi⟩:=B;obtain⟨vs,n,C⟩:=Y9 (I.hok _ _ y) hd;have l:ks.length=vs.length:=n.length;obtain⟨x,hx⟩:=OL n (show ks[i]?=Z ks[i] by simp[hi]);obtain⟨f0,f1,f2,f3,D,u⟩:=m it (by simp);rw[l]at st;refine wpAny_pyNext_dict_item st C hx λG h' M p L=>?_;rw[<-l]at p;have N:L2.AU X AN σ H { s with heap:=h' }:=I.turned (t':=s.toks) (λb g f e=>(L.2 b f).trans e) f0 f1 f3 D u;obtain⟨g,e,c,d⟩:=id p;refine⟨G,rfl,N8 (s:={ s with heap:=h' }) e c d () ⟨kV (ks[i]).1,H,N,?_,⟨rfl,by rw[Zp,ZY hi];rfl⟩,p,λb f=>(m b f).1⟩⟩;have Q:jk (ks[i]).1 G=true:=M;rcases bH Q with⟨j,t,e2,e3⟩|⟨z,t,e2,e3⟩
  ·rw[e2,e3];exact⟨t,rfl⟩
  ·rw[e2,e3];exact⟨t,rfl⟩
 done:=by
  intro X F q A J i AN s σ H E I m st B;subst F q A;obtain⟨y,hi⟩:=B;obtain⟨vs,n,C⟩:=Y9 (I.hok _ _ y) hd;have l:ks.length=vs.length:=n.length;obtain⟨f0,f1,f2,f3,D,u⟩:=m it (by simp);rw[l]at st;exact wpAny_pyNext_dict_end (I.ok.hd J) st C (KO ()) λh' eb=>⟨rfl,I.turned (t':=s.toks) (λb g f e=>eb b g f e) f0 f1 f3 D u⟩
 self:=λ_ _ _ _ _ st h=>wpAny_pyIter_keyiter st h
def W4:AY->Dt
 |.inl i=>.int i
 |.inr x=>.str x
theorem t8{k:AY}(h:DM k):AW K H (W4 k) (kV k):=by
 cases k with
 |inl i=>unfold W4 AW;rfl
 |inr x=>unfold W4 AW;exact⟨rfl,h⟩
def DC:Bx->Y (O Dt)
 |.n AO=>Z (AO.map λp=>W4 p.1)
 |_=>X9
theorem oB{b:Bx}(h:DC b=Z ds):∃AO,b=.n AO/\ds=AO.map λp=>W4 p.1:=by
 unfold DC at h;split at h
 ·cases h;exact⟨_,rfl,rfl⟩
 ·cases h
theorem Hh(c:Hs a=Z (.jl o (.dK ks)))(b:fV K Hs AO ks):B5 K (SG a o ks) (AO.map λp=>W4 p.1) Hs:=.of λi H s=>by
 have f:=b.len;refine⟨λd e=>?_,λe=>⟨s _ _ c,by rw[zg]at e;omega⟩⟩;rw[Zp]at e;cases hp:AO[i]? with
 |none=>rw[hp]at e;cases e
 |some p=>
  rw[hp]at e;cases e;have hi:i<AO.length:=(bc.mp hp).1;refine⟨⟨s _ _ c,by omega⟩,λx H' y=>?_⟩;obtain⟨y1,y2⟩:=y;refine⟨y1,?_⟩;have h1:(ks.map (·.1))[i]?=Z p.1:=by rw[b.1,Zp,hp];rfl
  rw[Zp]at h1 y2;cases hk:ks[i]? with
  |none=>rw[hk]at h1;cases h1
  |some q=>
   rw[hk]at h1 y2;cases y2;have:q.1=p.1:=by simpa using h1
   show AW K H (W4 p.1) (kV q.1);rw[this];exact t8 (b.2.2 p (Jn hp))
theorem W5{H1:Hp}(e:H1 a=Z (.dK ks))(E:bV K H1 H1 (uE is σ++ba n X9) (gB is ρ++ba n X9)):bV K (B4 H1 a (.jl o (.dK ks))) (B4 H1 a (.jl o (.dK ks))) (uE is σ++ba n X9) (gB is ρ++ba n X9):=by
 have kp:Kp H1 (B4 H1 a (.jl o (.dK ks))):=.dk e;have g:∀(j:Nat) c,(gB is ρ++ba n X9)[j]?=Z (Z c)->vR c=false:=λj c e=>by
  by_cases s:j<is.length
  ·rw[ZH (by simp[gB];omega)]at e;unfold gB at e;rw[Zp]at e;cases q:is[j]? with
   |none=>rw[q]at e;cases e
   |some i=>
    rw[q]at e;have:Fl ρ i=Z c:=by simpa using e
    exact CJ this
  ·rw[qo (by simp[gB];omega),QI]at e;split at e<;>cases e
 refine⟨E.len,λj b eb=>?_,λj k c a b e h=>absurd h (by rw[g j c e];exact ZT),AV.refl _,λj c a e h=>absurd h (by rw[g j c e];exact ZT)⟩;obtain⟨v,ev,r⟩:=E.val j b eb;refine⟨v,ev,?_⟩;cases b with
 |z d=>exact AW.kp kp r
 |o ds=>have:=g j _ eb;cases this
 |m ds _=>have:=g j _ eb;cases this
 |l ds=>
  obtain⟨b,vs,e1,q,r⟩:=r;refine⟨b,vs,e1,?_,r.kp kp⟩;rcases q with q|⟨f,q⟩
  ·exact .inl (by rw[aK (nH q e (by intro z;cases z))];exact q)
  ·exact .inr ⟨f,by rw[aK (nH q e (by intro z;cases z))];exact q⟩
 |n ds=>
  obtain⟨b,vs,e1,q,r⟩:=r;refine⟨b,vs,e1,?_,r.kp kp⟩;by_cases p:b=a
  ·subst p;rcases q with q|⟨f,q⟩
   ·rw[e]at q;cases q;exact .inr ⟨o,aU⟩
   ·rw[e]at q;cases q
  ·rcases q with q|⟨f,q⟩
   ·exact .inl (by rw[aK p];exact q)
   ·exact .inr ⟨f,by rw[aK p];exact q⟩
end
section
variable{fd:Ev->Y Bx}{xs:AZ}{p:Ev->Y Bool}
def Pg(fd:Ev->Y Bx):Ev->Y (O Dt):=λρ=>(fd ρ).bind DC
theorem c8(ρ:Ev):G4 gt p fe ρ []=Z []:=rfl
theorem Ke(ts:AZ)(O:uD X scope cl xs is)(c0:X.calm=true)(hi:QV X iter fd)
  (Om:∀C c d fp,CC (Am X (xs++ts) scope cl C c d fp) tgt gt) (a7:∀C c d fp,vU (Am X (xs++ts) scope cl C c d fp) ifs p) (b6:∀C c d fp,QV (Am X (xs++ts) scope cl C c d fp) elt fe) (b4:YC is.length (is.length+ts.length) gt)
  (hs:∀x,foldedSetIterable iter X.env x=pure x:=by intro _;rfl):QV X (.ListComp elt [⟨tgt,iter,ifs,0⟩] scope pos) (dY (Pg fd) gt p fe is ts.length):=⟨λAN s σ H Q I h=>by
 obtain⟨H0,ρ,b,E,e,q⟩:=h;obtain⟨ds,U,e⟩:=AT e;split at e
 ·rename_i a5;obtain⟨out,t,e⟩:=AT e;cases e;obtain⟨bd,d1,U⟩:=AT U;obtain⟨AO,rfl,rfl⟩:=oB U;rw[eval_ListComp];refine Kx (use:=X9) X2 hs O.clos O.kind O.names ?_;refine jH (hi.run AN s σ H (λv H1=>AV H H1/\bJ X.K H1 (.n AO) v) I ⟨H0,ρ,_,E,d1,λv H1 f _ W=>⟨f,W⟩⟩) λv f ⟨v',H1,I1,rv,s01,W⟩=>?_;obtain⟨a,ks,rfl,g,L⟩:=W;cases rv;obtain⟨_,d0,vs,kv,y,es,ep,P⟩:=qY I1.hok g;have a3:=P.1;have b3:=P.2.2.1;refine wpAny_pyIter_dict d0 (⟨y,es,P⟩:f.heap.DictAt (cH X.prog X.w) a vs ep) ?_;have a6:a<f.heap.objs.size:=zz a3;have hl:ks.length=vs.length:=kv.length;have a4:∀{H':Hp},L2.AU X AN σ H' f->∀b∈[f.heap.objs.size],ux X AN H' b:=λj b i=>by
   have e:b=f.heap.objs.size:=by simpa using i
   subst e;exact j.Tj (zo _) (j.hok.fresh (zo _))
  have b5:Heap.IsKeyIter (f.heap.push { cls:=.type "dict_keyiterator",data:=.fields #[.ref a,.int 0 0,.int vs.length 0,.int ep 0] }) f.heap.objs.size a 0 ks.length ep:=⟨_,zC _ rfl,rfl,by rw[hl];rfl⟩;rcases g with g|⟨o',g⟩
  ·
   have I2:=lL I1 g a3;have S:L2.AU X AN σ (B4 H1 a (.jl y (.dK ks))) { f with heap:=f.heap.push { cls:=.type "dict_keyiterator",data:=.fields #[.ref a,.int 0 0,.int vs.length 0,.int ep 0] } }:=I2.kept (t':=f.toks) λb o e=>zd _ e;have e0:fV X.K (B4 H1 a (.jl y (.dK ks))) AO ks:=L.kp (.dk g);refine CT (B:=G5) (RR:=λJ C=>compPost (bi X) X.A X.xe X9 (EP X AN σ Q) J C) (ts:=ts) (xs:=xs) O c0 (λC c d fp=>(Om C c d fp).run) (λC c d fp=>(a7 C c d fp).run) (λC c d fp=>(b6 C c d fp).run) b4 S (W5 g ((E.grow s01).caps is ts.length)) (JR (Pb f.heap.objs.size b3 (zS a6))) b5 (a4 I2) (Hh aU e0) a5 t ?_;intro D C s' H' us l j N ⟨m,hn⟩ s2' hD' r';have G:H' a=Z (.jl y (.dK ks)):=s2' _ _ aU;have b0:D≠a:=λz=>by subst z;rw[aU]at l;cases l
   have c4:H1 D=X9:=by rw[aK b0]at l;exact l
   have sm:AV H1 (B4 H' a (.dK ks)):=λb u e=>by
    by_cases i:b=a
    ·subst i;rw[g]at e;cases e;exact aU
    ·rw[aK i];exact s2' b u (by rw[aK i];exact e)
   have rr:aO X.K (B4 H' a (.dK ks)) out us:=by
    by_cases hk:ks=[]
    ·have:AO=[]:=by have:=L.len;rw[hk]at this;exact List.length_eq_zero_iff.mp (by simpa using this.symm)
     subst this;simp only[kF]at t;rw[c8]at t;cases t;simpa only[aO]using r'
    ·exact aO.Uu G hk r'
   refine⟨m,hn,λh' F=>⟨.ref D,B4 H' a (.dK ks),?_,rfl,q _ _ (s01.trans sm) (λa ea=>by cases ea;exact s01.free c4) ⟨D,us,rfl,by rw[aK b0];exact hD',rr⟩⟩⟩;obtain⟨f0,f1,f2,f3,f4,M⟩:=N;have d2:C≠a:=λz=>by subst z;rw[G]at f0;cases f0
   exact(Uu (dQ I1 g) j G).turned (t':=s'.toks) (λb o i e=>(F.2 b i).trans e) (by rw[aK d2];exact f0) f1 f3 f4 M
  ·have e1:o'=y:=by
    have:=(I1.hok _ _ g).1;rw[a3]at this;cases this;rfl
   subst e1;have S:L2.AU X AN σ H1 { f with heap:=f.heap.push { cls:=.type "dict_keyiterator",data:=.fields #[.ref a,.int 0 0,.int vs.length 0,.int ep 0] } }:=I1.kept (t':=f.toks) λb o e=>zd _ e;refine CT (B:=G5) (RR:=λJ C=>compPost (bi X) X.A X.xe X9 (EP X AN σ Q) J C) (ts:=ts) (xs:=xs) O c0 (λC c d fp=>(Om C c d fp).run) (λC c d fp=>(a7 C c d fp).run) (λC c d fp=>(b6 C c d fp).run) b4 S ((E.grow s01).caps is ts.length) (JR (Pb f.heap.objs.size b3 (zS a6))) b5 (a4 I1) (Hh g L) a5 t ?_;intro D C s' H' us l j N ⟨m,hn⟩ s2' hD' r';refine⟨m,hn,λh' F=>⟨.ref D,H',?_,rfl,q _ _ (s01.trans s2') (λa ea=>by cases ea;exact s01.free l) ⟨D,us,rfl,hD',r'⟩⟩⟩;obtain⟨f0,f1,f2,f3,f4,M⟩:=N;exact j.turned (t':=s'.toks) (λb o i e=>(F.2 b i).trans e) f0 f1 f3 f4 M
 ·cases e⟩
end
theorem Uv{R:Result->A2->Prop}{d:A1}{AO:O (AY×A0)}(W:A.handled=X9)(hd:(d==sysModules)=false)(g:s.heap.DictAt (cH prog w) d AO ep)(I:AO.length<=AA)(S:A1)(m:d≠S)(l:A0)(q:Nat)(u:s.heap.get? S=Z { cls:=.type "list",data:=.seq #[] q })(B:∀h' tk j c',(∀b o,b≠S->s.heap.get? b=Z o->h'.get? b=Z o)->h'.get? S=Z { cls:=.type "list",dict:=X9,data:=.seq j c',slots:=#[] } →
   ItemsOf (λi v=>∃k x,AO[i]?=Z (k,x)/\(cH prog w).is k v=true) j AO.length->R (.ok (.ret l)) { s with heap:=h',toks:=tk }):
  A7 (A8 prog w) A.in1 (Builtin.List.listExtendWith (.ref S) (.ref d) l)
   (λQ s'=>match Q with|.done f=>R (.ok f) s'|.again c'=>c'.quiet=true/\AF (A8 prog w) A c' R s') (λe s'=>R (.error e) s') s:=by
 have C:d<s.heap.objs.size:=by obtain⟨o,_,H,_⟩:=g;exact zz H
 have J:S<s.heap.objs.size:=zz u;unfold Builtin.List.listExtendWith;refine zb (JE (T :="dict") g.dictOf.typeIs ?_);have h1:Builtin.List.listSameRef (.ref S) (.ref d)=false:=by simp[Builtin.List.listSameRef];exact λe=>m e.symm
 simp only[h1,show(Value.type "dict"==Value.type "list")=false by decide,show(Value.type "dict"==Value.type "tuple")=false by decide,lj,zI,qh];refine zb (wpAny_pyIter_dict hd g ?_);refine zb (Z3 ?_);have a:=g.at' (h':=s.heap.push { cls:=.type "dict_keyiterator",data:=.fields #[.ref d,.int 0 0,.int AO.length 0,.int ep 0] }) λo e=>zd _ e;unfold Builtin.List.listLengthHint;refine zb (wpAny_specialOf (T :="dict") a.dictOf.typeIs F.slot_dict_len.lookup ?_)
 wp_delta
 refine zb (KF (T :="dict") (b:=true) a.dictOf.typeIs (by rw[isSubtype_type];kernel_rfl) ?_);show A7 _ A.in1 (typeOf (Value.ref d) >>= _) _ _ _;refine zb (JE (T :="dict") a.dictOf.typeIs (ze ?_));rw[zl ()];show A7 _ A.in1 (Builtin.List.listTouch (Value.ref S) >>= λ_=>again (Code.builtin "list.extend.loop" ⟨[Value.ref S,Value.ref s.heap.objs.size,l],[]⟩)) _ _ _;generalize n:s.heap.push { cls:=.type "dict_keyiterator",data:=.fields #[.ref d,.int 0 0,.int AO.length 0,.int ep 0] }=G at a ⊢;have p:G.get? S=Z { cls:=.type "list",data:=.seq #[] q }:=by
  rw[<-n];exact zd _ u
 have E:G.get? s.heap.objs.size=Z { cls:=.type "dict_keyiterator",data:=.fields #[.ref d,.int 0 0,.int AO.length 0,.int ep 0] }:=by
  rw[<-n];exact zC _ rfl
 unfold Builtin.List.listTouch;refine zb (zb (listUpdate_at p X2 (listUpdate_at (get?_update_seq p _) X2 ?_ (by show _<=_;decide) (by show _<=_;decide)) (by show _<=_;decide) (by show _<=_;decide)));have z:s.heap.objs.size≠S:=kg J;have y:=get?_update_seq (get?_update_seq p (λx=>x.push Value.none)) (λx=>x.pop);generalize N:(G.update S (Obj.mapSeq λx=>x.push Value.none)).update S (Obj.mapSeq λx=>x.pop)=U at y;have keep:∀b,b≠S->U.get? b=G.get? b:=λb c=>by rw[<-N,KB _ _ _ _ c,KB _ _ _ _ c]
 have L:U.IsKeyIter s.heap.objs.size d 0 AO.length ep/\U.DictAt (cH prog w) d AO ep:=⟨⟨_,(keep _ z).trans E,rfl,rfl⟩,a.at' λo e=>(keep d m).trans e⟩;show A7 _ A.in1 (again _) _ _ { s with heap:=U };have X:S∉[s.heap.objs.size,d]:=λh=>by
  simp only[QP,qA,or_false]at h;rcases h with h|h
  ·exact z h.symm
  ·exact m h.symm
 refine ze ⟨plainId_quiet F.plain_extend_loop _,codeAny_extend_loopS (Walks.dictKeys (A:=A.in1) W s.heap.objs.size d (zS C) AO ep).toS I S X _ AO.length 0 { s with heap:=U } #[] _ X2 (Zs _) L y (ItemsOf.nil _) λs' j c' t K P=>?_⟩;rw[Moved.eq_with t];refine B s'.heap s'.toks j c' (λb M c e=>?_) K P;have D:=zz e;refine t.heap b M (λh=>?_) ((keep b c).trans ?_)
 ·simp only[QP,qA,or_false]at h;rcases h with h|h
  ·exact c h
  ·exact zS D h
 ·rw[<-n];exact zd _ e
theorem Kf{d:A1}{AO:O (AY×A0)}(t:A.handled=X9)(hd:(d==sysModules)=false)(l:s.heap.DictAt (cH prog w) d AO ep)(C:AO.length<=AA)(n:∀h' tk c c',(∀b o,s.heap.get? b=Z o->h'.get? b=Z o) →
   h'.get? s.heap.objs.size=Z { cls:=.type "list",dict:=X9,data:=.seq c c',slots:=#[] }->ItemsOf (λi v=>∃k x,AO[i]?=Z (k,x)/\(cH prog w).is k v=true) c AO.length->Q (.ref s.heap.objs.size) { s with heap:=h',toks:=tk }):
  A7 (A8 prog w) A (call (.type "list") [.ref d]) Q E s:=by
 have m:d<s.heap.objs.size:=by obtain⟨o,_,u,_⟩:=l;exact zz u
 refine callType_codes (Q₁:=λh f=>h=.ref s.heap.objs.size/\f={ s with heap:=s.heap.push { cls:=.type "list",data:=.seq #[] } }) F.called_list (F.typeCall_list_1 _) F.entry_list_init
  (code_list_new _ ⟨rfl,rfl⟩) λh f p=>?_
 obtain⟨rfl,rfl⟩:=p;have a:(s.heap.push { cls:=.type "list",data:=.seq #[] }).get? s.heap.objs.size=Z { cls:=.type "list",data:=.seq #[] }:=zC _ rfl;have j:=l.at' (h':=s.heap.push { cls:=.type "list",data:=.seq #[] }) λo e=>zd _ e;refine⟨⟨_,a,rfl⟩,F.args_list_init_2 _ _,?_⟩;generalize z:s.heap.push { cls:=.type "list",data:=.seq #[] }=H at a j ⊢;show A7 _ _ (do let old <-Builtin.List.listItems (.ref s.heap.objs.size);Builtin.List.listUpdate (.ref s.heap.objs.size) (λ_=>#[]);letGo old.toList.reverse;Builtin.List.listExtendWith (.ref s.heap.objs.size) (.ref d) .none) _ _ { s with heap:=H };refine zb ?_;unfold Builtin.List.listItems;refine zb (kq a X2 (ze ?_));show A7 _ _ (updateSeq s.heap.objs.size (λ_=>#[]) >>= λ_=>letGo (#[]:Array A0).toList.reverse >>= λ_=>Builtin.List.listExtendWith (.ref s.heap.objs.size) (.ref d) .none) _ _ _;refine zb (kX a X2 ?_);have B:=KP (Obj.mapSeq (λ_=>(#[]:Array A0))) a rfl;have g:∀b o,b≠s.heap.objs.size->H.get? b=Z o->(H.update s.heap.objs.size (Obj.mapSeq (λ_=>(#[]:Array A0)))).get? b=Z o:=
  λb o D e=>(QU _ _ (Ki D)).trans e
 refine zb (kG ?_);refine Uv (A:=A.in1) t hd (j.at' λo e=>g d o (zS m) e) C s.heap.objs.size (zS m) .none _ B λh' tk c c' hk y q=>?_;exact⟨rfl,n h' tk c c' (λb o e=>hk b o (zS (zz e)) (g b o (zS (zz e)) (by rw[<-z];exact zd _ e))) y q⟩
theorem wy{P:Nat->A0->Prop}(val:Nat->AJ)(a:∀i v,P i v->∃t,v=.str (val i) t):CmpOf prog w A .Lt P (λi j=>decide ((val i).cps.toList<(val j).cps.toList)):=λi j c d s Q E hi b h=>by
 obtain⟨t,rfl⟩:=a i c hi;obtain⟨u,rfl⟩:=a j d b;exact richCompare_gives (op:=.Lt) (typeIs_str s _ t) (typeIs_str s _ u) F.slot_str_lt F.entry_str_lt (F.args_str_lt_2 _ _) (gives_str_lt _ _ t u) (λx=>nomatch x) h
def two(a b:AJ)(i:Nat):AJ:=if i=0 then a else b
theorem ib{a b:AJ}{t u:Tok}(i:Nat)(v:A0)(h:(#[Value.str a t,Value.str b u])[i]?=Z v):∃t',v=.str (two a b i) t':=by
 match i,h with
 |0,h=>cases h;exact⟨t,rfl⟩
 |1,h=>cases h;exact⟨u,rfl⟩
 |_+2,h=>simp at h
theorem rX{a b:AJ}{t u:Tok}{bt:Nat->Nat->Bool}(x:A.handled=X9)(d:CmpOf prog w A.in1 op (λi v=>(#[Value.str a t,Value.str b u])[i]?=Z v) bt)(h:∀h' tk,(∀c o,s.heap.get? c=Z o->h'.get? c=Z o)->Q (if bt 1 0=true then .str b u else .str a t) { s with heap:=h',toks:=tk }):
  A7 (A8 prog w) A.in1 (pyIter (.ref s.heap.objs.size)) (λit j=>∃I fp wr n P St bt,it=.ref I/\Walks prog w A.in1 I fp wr n P St/\St 0 j.heap/\(∀b∈fp,b<j.heap.objs.size)/\0<n/\CmpOf prog w A.in1 op P bt ∧
   ∀v h' tk,P (argBest bt (n-1)) v->(∀b o,b∉wr->j.heap.get? b=Z o->h'.get? b=Z o)->Q v { j with heap:=h',toks:=tk }) E
   { s with heap:=s.heap.push { cls:=.type "tuple",data:=.seq #[.str a t,.str b u] } }:=by
 have m:(s.heap.push { cls:=.type "tuple",data:=.seq #[.str a t,.str b u] }).IsTuple s.heap.objs.size #[.str a t,.str b u]:=⟨_,zC _ rfl,rfl,0,rfl⟩;refine yB m ?_;have g:(s.heap.push { cls:=.type "tuple",data:=.seq #[.str a t,.str b u] }).objs.size=s.heap.objs.size+1:=kK ..;refine⟨_,[_,s.heap.objs.size],[_],_,_,_,bt,rfl,Walks.tuple (A:=A.in1) x _ s.heap.objs.size (by rw[g];exact zS (yi _)) #[.str a t,.str b u],
  ⟨⟨_,zC _ rfl,rfl,rfl⟩,m.push _⟩,λc d=>?_,by simp,d,λv h' tk q hk=>?_⟩
 ·show c<((s.heap.push _).push _).objs.size;rw[kK,g];rcases List.mem_cons.mp d with rfl|d
  ·rw[g];exact yi _
  ·rcases List.mem_cons.mp d with rfl|d
   ·exact xt (yi _)
   ·cases d
 ·have hold:∀c o,s.heap.get? c=Z o->h'.get? c=Z o:=λc o e=>by
   refine hk c o (λl=>?_) (zd _ (zd _ e));rcases List.mem_cons.mp l with e1|l
   ·have:=zz e;rw[e1,g]at this;exact ki _ (Kk this)
   ·cases l
  have:=h h' tk hold;have hv:v=if bt 1 0=true then Value.str b u else Value.str a t:=by
   have f:(#[Value.str a t,Value.str b u])[argBest bt 1]?=Z v:=q;unfold argBest argBest at f;by_cases p:bt 1 0=true
   ·rw[zl p]at f ⊢;exact(by simpa using f.symm)
   ·rw[zv p]at f ⊢;exact(by simpa using f.symm)
  rw[hv];exact this
def Kg:O Bx->Y Bx
 |[.z (.str a),.z (.str b)]=>Z (.z (.str (if ajr b a=true then b else a)))
 |_=>X9
where ajr (x y:AJ):Bool:=decide (x.cps.toList<y.cps.toList)
theorem w9(j:X.calm=true):nJ X (.builtin "min") Kg:=by
 intro AN s σ H xs us Q I r h;obtain⟨bs,c,i,e,q⟩:=h;unfold Kg at e;split at e
 ·rename_i a b;cases e;obtain⟨v,w,rfl,f,d⟩:=n5 i;obtain⟨rfl,h1⟩:=CI f;obtain⟨rfl,h2⟩:=CI d;obtain⟨u,o,rfl,l,m⟩:=AX.two r;obtain⟨t,rfl⟩:=l;obtain⟨n,rfl⟩:=m;refine call_min_two (rX (I.ok.hd j) (wy (two a b) ib) λh' tk kp=>?_);show EP X AN σ Q (if Kg.ajr b a=true then _ else _) _;by_cases g:Kg.ajr b a=true
  ·rw[zl g]at q ⊢;exact⟨.str b,H,I.kept kp,⟨_,rfl⟩,q _ H (AV.refl H) trivial d⟩
  ·rw[zv g]at q ⊢;exact⟨.str a,H,I.kept kp,⟨_,rfl⟩,q _ H (AV.refl H) trivial f⟩
 ·cases e
def Kh:O Bx->Y Bx
 |[.n AO]=>(EZ AO).bind λys=>Z (.o (ys.map Dt.str))
 |_=>X9
theorem bp(m:X.calm=true):nJ X (.type "list") Kh:=by
 intro AN s σ H xs us Q I r h;obtain⟨bs,c,i,e,q⟩:=h;unfold Kh at e;split at e
 ·rename_i AO;obtain⟨ys,b,e⟩:=AT e;cases e;have A:AO.length=ys.length:=by have:=congrArg dv (zO b);simpa using this
  obtain⟨v,rfl,z⟩:=BQ i;obtain⟨a,ks,rfl,n,d⟩:=z;obtain⟨u,rfl,l⟩:=BA r;cases l;obtain⟨p,t,vs,g,o,es,ep,j⟩:=qY I.hok n;have hk:vs.map (·.1)=ys.map Sum.inr:=by rw[YQ g,d.1];exact zO b
  have C:ks.length=vs.length:=g.length;refine Kf (I.ok.hd m) t ⟨o,es,j⟩ () λh' tk w c' ext en B=>?_;have z1:=WW hk B;have x:∀y∈ys,y.length<=AA:=Tl b d.2.2;have f:=I.hok.fresh (zo s.heap.objs.size);refine⟨.ref s.heap.objs.size,_,I.laid (t':=tk) (a:=s.heap.objs.size) (o:=.lst (ys.map V.str)) ext (zo _) ?_,rfl,q _ _ (bY f) (λa ea=>by cases ea;exact f) ⟨_,_,rfl,aU,J5 x⟩⟩;refine⟨by rw[zg,<-A,<-d.len];exact p,w.toList,c',FN z1,?_⟩;rw[en]
 ·cases e
def CD(H:Hp)(a:A1):Hp:=λb=>if b=a then X9 else H b
theorem Za{b:A1}(h:b≠a):CD H a b=H b:=zv h
theorem Zb:CD H a a=X9:=zl rfl
def DI:Bx->Bool
 |.z _=>true
 |_=>false
def GM(K:B6)(n:Nat)(G:A1->O (AY×Dt)->O Bx->Y (O (AY×Dt))):Sp:=λvs H Q _=>vs.length=n+1/\∃a ks AO AS bs b,vs=.ref a::AS/\H a=Z (.dK ks)/\fV K H AO ks/\uT K H bs AS/\bs.all DI=true/\G a AO bs=Z b/\∀H' c,AV (CD H a) H'->H' a=Z (.dK c)->fV K H' b c->Q .non H'
def Uw(n:Nat)(g:Ev->Y Ap):A1->O (AY×Dt)->O Bx->Y (O (AY×Dt)):=λa AO bs=>(g ((Bx.m AO (Z a)::bs).map Z++ba (n-(bs.length+1)) X9)).bind λr=>match r with
 |.nx ρ=>match ρ[0]? with
  |some (Z (Bx.m kvs' (Z b)))=>if b=a then Z kvs' else X9
  |_=>X9
 |_=>X9
theorem W6{c:O (AY×Dt)}{bs:O Bx}(h:Uw n g a AO bs=Z c):∃ ρ,g ((Bx.m AO (Z a)::bs).map Z++ba (n-(bs.length+1)) X9)=Z (.nx ρ)/\ρ[0]?=Z (Z (.m c (Z a))):=by
 obtain⟨r,er,h⟩:=AT h;cases r with
 |nx ρ=>
  dsimp only at h;split at h
  ·rename_i k b e;split at h
   ·rename_i d;cases h;subst d;exact⟨ρ,er,e⟩
   ·cases h
  ·cases h
 |rt _=>cases h
 |bk _=>cases h
 |ct _=>cases h
theorem Kl{R:α->β->Prop}:∀{xs:O α} {ys:O β},AI R xs ys->∀{i:Nat} {x:α},xs[i]?=Z x->∃y,ys[i]?=Z y/\R x y:=by
 intro xs ys h
 induction h with
 |nil=>intro i x q;simp at q
 |cons r _ a=>
  intro i x q;cases i with
  |zero=>simp at q;subst q;exact⟨_,rfl,r⟩
  |succ i=>
   rw[KG]at q;obtain⟨y,y1,y2⟩:=a q;exact⟨y,by rw[KG];exact y1,y2⟩
theorem bV.startM{bs:O Bx}{AS:O V}(p:H a=Z (.dK ks))(u:fV K H AO ks)(r:uT K H bs AS)(w:bs.all DI=true):bV K (CD H a) H (L2.start N (.ref a::AS)) ((Bx.m AO (Z a)::bs).map Z++ba (N.length-(bs.length+1)) X9):=by
 have t:bs.length=AS.length:=Paired.length r;have s:uT K H (.m AO (Z a)::bs) (.ref a::AS):=.cons ⟨a,ks,rfl,p,u,λb h=>by cases h;rfl⟩ r;have get:∀(i:Nat) b,((Bx.m AO (Z a)::bs).map Z++ba (N.length-(bs.length+1)) X9)[i]?=Z (Z b)->(Bx.m AO (Z a)::bs)[i]?=Z b:=λi b e=>by
  by_cases hi:i<(Bx.m AO (Z a)::bs).length
  ·rw[ZH (by simpa using hi),Zp]at e;cases q:(Bx.m AO (Z a)::bs)[i]? with
   |none=>rw[q]at e;cases e
   |some z=>rw[q]at e;simpa using e
  ·rw[qo (by simp at hi ⊢;omega),QI]at e;split at e<;>cases e
 have n:∀(i:Nat) b,((Bx.m AO (Z a)::bs).map Z++ba (N.length-(bs.length+1)) X9)[i]?=Z (Z b)->i≠0->loose b=false:=λi b e hi=>by
  have e2:=get i b e;cases i with
  |zero=>exact absurd X2 hi
  |succ j=>
   rw[KG]at e2;have:=List.all_eq_true.mp w b (Jn e2);cases b<;>first|rfl|cases this
 have l:∀c,vR c=true->loose c=true:=λc d=>by cases c<;>first|rfl|cases d
 have zero:∀(i:Nat) c,((Bx.m AO (Z a)::bs).map Z++ba (N.length-(bs.length+1)) X9)[i]?=Z (Z c)->loose c=true->i=0:=λi c e d=>by
  by_cases hi:i=0
  ·exact hi
  ·rw[n i c e hi]at d;cases d
 have st:∀i v,(Value.ref a=Value.ref a)->(V.ref a::AS)[i]?=Z v->(L2.start N (.ref a::AS))[i]?=Z (Z v):=λi v _ e=>by
  have hi:i<(V.ref a::AS).length:=(bc.mp e).1;unfold L2.start;rw[ZH (by simpa using hi),Zp,e];rfl
 refine⟨by unfold L2.start;simp[t],λi b e=>?_,λi j c x b e1 g _ e3 f _=>?_,λb o e=>?_,λi c x e g e2=>?_⟩
 ·obtain⟨v,e1,y⟩:=Kl s (get i b e);exact⟨v,st i v X2 e1,y⟩
 ·rw[zero i c e1 (l c g),zero j b e3 f]
 ·by_cases f:b=a
  ·subst f;rw[Zb]at e;cases e
  ·rw[Za f]at e;exact e
 ·have hi:=zero i c e (l c g);subst hi;rw[st 0 (.ref a) X2 rfl]at e2;cases e2;exact Zb
theorem nS{f:A1}{k m:Nat}(F:Cc K x qual st f fd)(S:aW N ps (aJ st))(C:N.length=n)(y:ps.length=m+1)(l:∀(c:A0) (A:A5) (outer:O Env) (s:A2) (H:Hp) (E:XK),iQ k (A.deeper (AK qual (aJ st) s.heap.objs.size f c))->TV (HX Fj P w K mg base N qual (aJ st) f c A outer s H E).nox (ji st) g):
  qt P w K mg base Fj (k+1) f fd ps (GM K m (Uw n g)):=by
 subst C;refine F.ok S (λvs H Q E h=>by rw[y];exact h.1) λc A outer s H vs Q E u h=>?_;obtain⟨G,a,ks,AO,AS,bs,I,rfl,p,o,i,t,e,q⟩:=h;refine⟨_,(l c A outer s H E u).run,?_⟩;obtain⟨ρ,er,e0⟩:=W6 e;refine⟨CD H a,_,_,bV.startM p o i t,er,?_⟩;intro σ' H' d;obtain⟨v,ev,b,B,rfl,D,j,z⟩:=d.val 0 _ e0;have:=z a rfl;subst this;exact q H' B d.base D j
open Classical in
noncomputable def Hi(i n:Nat)(G:A1->O (AY×Dt)->O Bx->Y (O (AY×Dt)))(fs:Ev->Y (O Bx)):Ev->Y Ap:=λρ=>match ρ[i]? with
 |some (Z (.m AO w))=>(fs ρ).bind λbs=>if h:bs.length=n/\bs.all DI=true/\∃b,∀a,G a AO bs=Z b then Z (.nx (ρ.set i (Z (.m (Classical.choose h.2.2) w))))else X9
 |_=>X9
theorem W7{fs:Ev->Y (O Bx)}{r:Ap}(h:Hi i n G fs ρ=Z r):∃AO w bs c,ρ[i]?=Z (Z (.m AO w))/\fs ρ=Z bs/\bs.length=n/\bs.all DI=true/\(∀a,G a AO bs=Z c)/\r=.nx (ρ.set i (Z (.m c w))):=by
 unfold Hi at h;split at h
 ·rename_i AO w e;obtain⟨bs,eb,h⟩:=AT h;split at h
  ·rename_i b;cases h;exact⟨AO,w,bs,_,e,eb,b.1,b.2.1,Classical.choose_spec b.2.2,rfl⟩
  ·cases h
 ·cases h
theorem mf{fs:Ev->Y (O Bx)}{b:O (AY×Dt)}{w:Y A1}{bs:O Bx}(e:ρ[i]?=Z (Z (.m AO w)))(eb:fs ρ=Z bs)(g:bs.length=n)(h:bs.all DI=true)(d:∀a,G a AO bs=Z b):Hi i n G fs ρ=Z (.nx (ρ.set i (Z (.m b w)))):=by
 unfold Hi;rw[e];simp only[eb,aoS];have c:bs.length=n/\bs.all DI=true/\∃b,∀a,G a AO bs=Z b:=⟨g,h,b,d⟩;rw[dif_pos c];have:=Classical.choose_spec c.2.2 0;rw[d 0]at this;injection this with this;rw[<-this]
where aoS {α β:Type} (a:α) (f:α->Y β):(Z a).bind f=f a:=rfl
theorem bV.ami{H':Hp}{C:O (AY×Dt)}{w:Y A1}{F:O (AY×V)}(E:bV K H0 H σ ρ)(h:ρ[i]?=Z (Z (.m AO w)))(hs:σ[i]?=Z (Z (.ref a)))(I:H a=Z (.dK ks))(U:AV (CD H a) H')(M:H' a=Z (.dK F))(N:fV K H' C F)(W:∀b,w=Z b->b=a):
  bV K H0 H' σ (ρ.set i (Z (.m C w))):=by
 have hi:i<ρ.length:=(bc.mp h).1;have Q:H0 a=X9:=E.new i _ a h X2 hs;have g:∀b u,b≠a->H b=Z u->H' b=Z u:=λb u D e=>U b u (by rw[Za D];exact e);have kp:Kp H H':=⟨λb xs e=>g b _ (nH e I (by intro z;cases z)) e,λb ob u e=>g b _ (nH e I (by intro z;cases z)) e⟩;refine⟨by rw[KL];exact E.len,λj A e=>?_,λj X c f A e1 G e2 e3 S P=>?_,λc o e=>?_,λj c f e1 G e2=>?_⟩
 ·rcases BD e with⟨rfl,e',_⟩|⟨D,e'⟩
  ·cases e';exact⟨_,hs,a,F,rfl,M,N,W⟩
  ·obtain⟨v,e1,t⟩:=E.val j A e';refine⟨v,e1,?_⟩;have y:∀f,v=.ref f->loose A=true->f≠a:=λf ev L z=>by
    subst z;exact D (E.own i j _ _ _ h X2 hs e' L (by rw[e1,ev])).symm
   cases A with
   |z d=>exact AW.kp kp t
   |l B=>
    obtain⟨f,s,rfl,q,p⟩:=t;have x:=y f X2 rfl;exact⟨f,s,rfl,q.imp (g _ _ x) λ⟨o,q⟩=>⟨o,g _ _ x q⟩,p.kp kp⟩
   |o B=>
    obtain⟨f,s,rfl,q,p⟩:=t;exact⟨f,s,rfl,g _ _ (y f X2 X2) q,p.kp kp⟩
   |n B=>
    obtain⟨f,s,rfl,q,p⟩:=t;have x:=y f X2 rfl;exact⟨f,s,rfl,q.imp (g _ _ x) λ⟨o,q⟩=>⟨o,g _ _ x q⟩,p.kp kp⟩
   |m B _=>
    obtain⟨f,s,rfl,q,p,tt⟩:=t;exact⟨f,s,rfl,g _ _ (y f X2 X2) q,p.kp kp,tt⟩
 ·have J:∀{j:Nat} {c:Bx},(ρ.set i (Z (.m C w)))[j]?=Z (Z c)->∃c',ρ[j]?=Z (Z c')/\(vR c=true->vR c'=true)/\(loose c=true->loose c'=true):=λ{j c} e=>by
   rcases BD e with⟨rfl,e',_⟩|⟨_,e'⟩
   ·exact⟨_,h,λ_=>X2,λ_=>X2⟩
   ·exact⟨c,e',id,id⟩
  obtain⟨c',p1,p2,_⟩:=J e1;obtain⟨b2,q1,_,q3⟩:=J e3;exact E.own j X c' f b2 p1 (p2 G) e2 q1 (q3 S) P
 ·have e2:=E.base c o e;exact g c o (λz=>by subst z;rw[Q]at e;cases e) e2
 ·rcases BD e1 with⟨rfl,e',_⟩|⟨_,e'⟩
  ·exact E.new _ _ f h X2 e2
  ·exact E.new j c f e' G e2
section
variable{fs:Ev->Y (O Bx)}{p px spos:Pos}{k:Nat}{f:A1}
theorem Zc(i:Nat)(F:qt X.prog X.w X.K X.mg X.base Fj k f fd ps (GM X.K n G))(m:iQ k X.A)(P:Gl X x)(o:X.mg x=Z (.ref f))(hk:keepIn X.K (.ref f)=true)(u:BG X.K fd ps [])
  (C:Yz X es fs) (hN:X.N[i]?=Z y:=by rfl) (hv:Wi X.env.scope y:=by first|exact kC rfl|exact QN (kC X2)|exact QN (QN X2)) (hd:ad y:=by decide)
  (S:(y==("__classdict__":AJ))=false:=by decide) (Q:ad x:=by decide) (he:A9 (.Name y px::es) X.env=(false,eval (.Name y px) X.env)::A9 es X.env:=by rfl) (t:(AD pos (A9 es X.env)).any (·.1)=false:=by rfl) (hs:swapsWith (.Call (.Name x p) (.Name y px::es) [] pos) X9 spos.line X.env=pure false:=by rfl):
  Ww X (.Expr (.Call (.Name x p) (.Name y px::es) [] pos) spos) (Hi i n G fs):=⟨CY (Yr (Yt F m P o hk u .nil L4 (qp (yD (i:=i) hN hv hd S) C.run he) Q he t) hs) λD σ H h=>by
 obtain⟨H0,ρ,r,E,e,q⟩:=h;obtain⟨AO,w,bs,J,c,eb,j,l,L,rfl⟩:=W7 e;obtain⟨v,e1,a,ks,rfl,z,s,M⟩:=E.val i _ c;refine⟨_,e1,H0,ρ,bs,E,eb,λvs H1 b g=>?_⟩;have d:=b _ _ z;refine⟨by simp only[qk,ZO];rw[<-Paired.length g,j],a,ks,AO,vs,bs,J,by simp,d,s.kp (.of b),g,l,L a,λH' W I U B=>?_⟩;exact q σ H' ((E.grow b).ami c e1 d I U B M)⟩
end
section
variable{st:O AB}
def LS(i:Nat)(ρ:Ev):Y Ev:=match ρ[i]? with
 |some (Z (.o ds))=>Z (ρ.set i (Z (.z (.lst ds))))
 |_=>X9
def EW(i:Nat)(g:Ev->Y Ap):Ev->Y Ap:=λρ=>(LS i ρ).bind g
theorem Wp(h:CH X st g):CH X st (EW i g):=by
 intro AN s σ H D I q;obtain⟨H0,ρ,r,E,e,f⟩:=q;obtain⟨l,e1,e2⟩:=AT e;unfold LS at e1;split at e1
 ·rename_i ds c;cases e1;obtain⟨v,hv,a,vs,rfl,b,j⟩:=E.val i _ c;obtain⟨o,d⟩:=JG I b;have kp:Kp H (B4 H a (.jl o (.lst vs))):=.lst b;refine h AN s σ _ D d ⟨H0,_,r,E.aiD c X2 hv kp ?_,e2,f⟩;simp only[bJ,AW];exact⟨a,vs,rfl,.inl ⟨o,aU⟩,j.kp kp⟩
 ·cases e1
theorem Mn(h:TV X st g):TV X st (EW i g):=⟨Wp h.run⟩
end
open AutoSeq1 (wpAny_loadPart')
open SeqAt
theorem Iq(I:L2.AU X AN σ H s){xs:O V}(h:yw X.K H a xs):∃AQ:O A0,AX xs AQ/\iz s.heap a AQ.toArray:=by
 rcases h with h|⟨o,AQ,n,hk,b,hs,c,r⟩
 ·obtain⟨z,AQ,r,p⟩:=h.ok I.hok;exact⟨AQ,r,p⟩
 ·exact⟨AQ.toList,r,o,I.kIn a o hk,b.1,⟨n,by simpa using hs⟩,b.2⟩
section
variable{o:Expr}{fx:Ev->Y Bx}
end
section
variable{t:Ev->Y Bool}
end
section
variable{h':A6}
theorem Zd{t':Nat}{e:A1}{xs:O V}(I:L2.AU X AN σ H s)(k:∀b o,b≠e->b≠it->s.heap.get? b=Z o->h'.get? b=Z o)(fe:ux X AN H e)(fi:ux X AN H it)(he:∃o,h'.get? e=Z o)(hi:∃o,h'.get? it=Z o)(new:fQ X.prog X.w (B4 H s.heap.objs.size (.tup xs)) h' s.heap.objs.size (.tup xs)):L2.AU X AN σ (B4 H s.heap.objs.size (.tup xs)) { s with heap:=h',toks:=t' }:=by
 have g:H s.heap.objs.size=X9:=I.hok.fresh (zo _);have nd:∀b u,H b=Z u->b≠s.heap.objs.size:=λb u q z=>by rw[z,g]at q;cases q
 have ne:∀b u,H b=Z u->b≠e/\b≠it:=λb u q=>⟨λz=>(by rw[z,fe.1]at q;cases q),λz=>(by rw[z,fi.1]at q;cases q)⟩;have f:∀b,b∉[e,it]->b≠e/\b≠it:=λb d=>⟨λz=>d (by simp[z]),λz=>d (by simp[z])⟩;refine I.step (g':=s.gens) (d':=s.drawn) (ch:=[e,it]) (λb d=>?_) (λb o _ _ a q _=>k b o (f b a).1 (f b a).2 q) (λb o _ _ a q _=>⟨o.slots,k b o (f b a).1 (f b a).2 q⟩) (λb o _ q n=>?_)
  (λb o a q=>⟨o,k b o (f b a).1 (f b a).2 q⟩) (λb ys q=>?_) (λb o u q=>?_) (λb ps q=>⟨#[],?_⟩) (λm i=>?_) (λb u q=>?_) I.bare
 ·rcases List.mem_cons.mp d with rfl|d
  ·exact⟨fe.2.2.2.1,fe.2.1,fe.2.2.2.2.1,fe.2.2.2.2.2⟩
  ·cases bj.mp d;exact⟨fi.2.2.2.1,fi.2.1,fi.2.2.2.2.1,fi.2.2.2.2.2⟩
 ·rw[aK (zS (zz q))];exact n
 ·rw[aK (nd b _ q)];exact q
 ·rw[aK (nd b _ q)];exact q
 ·rw[aK (nd b _ q),q];simp
 ·obtain⟨o,es,ep,h,r⟩:=i;exact⟨o,es,ep,k _ o (Ki fe.2.1) (Ki fi.2.1) h,r⟩
 ·by_cases d:b=s.heap.objs.size
  ·subst d;rw[aU]at q;cases q;exact new
  ·rw[aK d]at q;refine(I.hok b u q).stay (λc v a w=>k c v ?_ ?_ w) (λc w=>?_) (λc ys w=>?_) λc o' j w=>?_
   ·rcases a with rfl|z
    ·exact(ne _ _ q).1
    ·exact(ne _ _ z).1
   ·rcases a with rfl|z
    ·exact(ne _ _ q).2
    ·exact(ne _ _ z).2
   ·rw[aK (nd c _ w)];exact w
   ·rw[aK (nd c _ w)];exact w
   ·rw[aK (nd c _ w)];exact w
end
def IU(K:B6)(l:A1):It:=
 ⟨λi H=>∃xs x,su K H l xs/\xs[i]?=Z x,λi H v H'=>∃p x,H p=X9/\(∀xs,su K H l xs->xs[i]?=Z x)/\v=.ref p/\H'=B4 H p (.tup [.int i,x]),λi H=>∃xs,su K H l xs/\xs.length<=i⟩
theorem rg(l e it:A1)(B:e≠it):
  C4 P w K (.Tuple elts x1 tpos) (IU K l) [e,it] e (λi h=>(∃old,IsEnum h e it i old)/\h.IsListIter it l i) where
 mem:=by simp
 obj:=λi h st b a=>by
  obtain⟨⟨old,h1⟩,o,h2,_,h3⟩:=st;rcases List.mem_cons.mp a with rfl|a
  ·exact⟨_,h1,λv z=>by cases z⟩
  ·cases bj.mp a;exact⟨o,h2,λv z=>by rw[h3]at z;cases z⟩
 keep:=λi h h' st k=>by
  obtain⟨⟨old,h1⟩,h2⟩:=st;exact⟨⟨old,k e (by simp) _ h1⟩,h2.at λo q=>k it (by simp) o q⟩
 item:=by
  intro X t f g C i AN s σ H E I d st m;subst t f g;obtain⟨⟨old,h1⟩,h2⟩:=st;obtain⟨xs,x,c,hx⟩:=m;obtain⟨AQ,j,p,G⟩:=I.list c;obtain⟨u,hu,ru⟩:=j.get hx;have fe:=d e (by simp);have fi:=d it (by simp);refine wpAny_pyNext_enum_item h1 h2 p.isList (x:=u) (by simpa using hu) B λa4 Q W M a3 hk=>⟨_,rfl,?_⟩;refine wpAny_letOwnedTupleGo_enum Q λA y n=>?_;have elt:e<s.heap.objs.size:=zz h1;have L:it<s.heap.objs.size:=by obtain⟨_,q,_⟩:=h2;exact zz q
  have U:A.get? s.heap.objs.size=Z { cls:=.type "tuple",data:=.seq #[.int i s.toks,u] }:=(n.2 _ (kg elt)).trans M;have D:A.IsListIter it l (i+1):=W.at λo q=>(n.2 it (Ki B)).trans q;refine⟨.ref s.heap.objs.size,B4 H s.heap.objs.size (.tup [.int i,x]),Zd (t':=s.toks+1) I (λb o F N q=>(n.2 b F).trans (hk b o F N q)) fe fi ⟨_,y⟩ (by obtain⟨o,q,_⟩:=D;exact⟨o,q⟩) ?_,rfl,⟨_,x,I.hok.fresh (zo _),λys J=>by rw[I.Jy J c];exact hx,rfl,rfl⟩,⟨⟨_,by simpa using y⟩,D⟩,λb a=>?_⟩
  ·exact⟨by show 2<=AA;decide,[.int i s.toks,u],.cons ⟨_,rfl⟩ (.cons ru .nil),_,U,rfl,⟨_,rfl⟩,rfl⟩
  ·rcases List.mem_cons.mp a with rfl|a
   ·rw[aK (zS elt)];exact fe.1
   ·cases bj.mp a;rw[aK (zS L)];exact fi.1
 done:=by
  intro X t f g C i AN s σ H E I d st m;subst t f g;obtain⟨⟨old,h1⟩,h2⟩:=st;obtain⟨xs,c,hx⟩:=m;obtain⟨AQ,j,p,G⟩:=I.list c;obtain⟨f0,f1,f2,f3,f4,S⟩:=d it (by simp);have hl:=j.length;exact wpAny_pyNext_enum_end (I.ok.hd C) h1 h2 p.isList (by simp;omega) λh' eb=>⟨rfl,I.turned (t':=s.toks) (λb o a e=>eb b o a e) f0 f1 f3 f4 S⟩
 self:=λ_ _ _ _ _ st h=>by
  obtain⟨⟨old,h1⟩,_⟩:=st;exact xp h1 h
def Hj(ds:O Dt):O Dt:=(dg ds.length).zipWith (λk d=>.tup [.int (k:Nat),d]) ds
theorem Ph(ds:O Dt):(Hj ds).length=ds.length:=by simp[Hj]
theorem o3(h:(Hj ds)[i]?=Z d):∃c,ds[i]?=Z c/\d=.tup [.int (i:Nat),c]:=by
 have hi:i<ds.length:=by
  have:=(bc.mp h).1;rwa [Ph]at this
 refine⟨ds[i],by simp[hi],?_⟩;unfold Hj at h;rw[k4]at h;simp[hi]at h;exact h.symm
theorem B5.enum(h:su K Hs l vs)(r:aO K Hs ds vs):B5 K (IU K l) (Hj ds) Hs:=λi H s=>by
 have h':=s.seq h;have f:=r.kp (.of s);refine⟨λd e=>?_,λe=>⟨vs,h',by rw[Ph]at e;rw[r.length];exact e⟩⟩;obtain⟨c,m,rfl⟩:=o3 e;obtain⟨v,ev,j⟩:=f.get m;refine⟨⟨vs,v,h',ev⟩,λx H' y=>?_⟩;obtain⟨p,n,hp,g,rfl,rfl⟩:=y;have:=g vs h';rw[ev]at this;cases this;have a:AV H (B4 H p (.tup [.int (i:Nat),v])):=λb o q=>by rw[aK (cM q hp)];exact q
 refine⟨a,?_⟩;simp only[AW];exact⟨p,_,rfl,.inl (.inl aU),aO.cons (by simp only[AW]) (aO.cons (AW.kp (.of a) j) aO.nil)⟩
section
variable{p:Pos}{fs:Ev->Y (O Bx)}
def iEn(K:B6)(ta:TA):TI:=λσ H R=>ta σ H λvs H1=>∃l,vs=[.ref l]/\(∃xs,su K H1 l xs)/\R (IU K l) H1
theorem mw{ta:TA}(j:Gl X "enumerate")(g:X.mg "enumerate"=X9)(d:PA X [e] ta)(hs:A9 [e] X.env=[(false,eval e X.env)]:=by rfl):PI X (.Tuple elts x1 tpos) (.Call (.Name "enumerate" p) [e] [] pos) (iEn X.K ta):=by
 intro AN s σ H R I h;refine Call_ (yE I j g boot_enumerate (PyProof.Rows.callWith_type1 (jH (d pos AN s σ H _ I h) λus s1 ⟨vs,H1,I1,r1,q1⟩=>?_) hs X2));obtain⟨l,rfl,⟨xs,i⟩,q⟩:=q1;obtain⟨u,rfl,f⟩:=BA r1;cases f;obtain⟨AQ,t,p,o⟩:=I1.list i;refine call_enumerate_list p.isList λh' c m n hk=>?_;refine xp c ?_;refine⟨s1.heap.objs.size+1,[s1.heap.objs.size+1,s1.heap.objs.size],_,_,H1,rfl,I1.kept (t':=s1.toks) hk,rg l _ _ (kg (yi _)),⟨⟨_,c⟩,m⟩,λb a=>?_,q⟩;rcases List.mem_cons.mp a with rfl|a
 ·exact I1.Tj (Kj _) (I1.hok.fresh (Kj _))
 ·cases bj.mp a;exact I1.Tj (zo _) (I1.hok.fresh (zo _))
def Ux:O Bx->Y (O Dt)
 |[b]=>(sE b).bind λds=>Z (Hj ds)
 |_=>X9
theorem ub(j:Gl X "enumerate")(h:X.mg "enumerate"=X9)(d:F2 X [e] fs)(hs:A9 [e] X.env=[(false,eval e X.env)]:=by rfl):OY X (.Tuple elts x1 tpos) (.Call (.Name "enumerate" p) [e] [] pos) (λρ=>(fs ρ).bind Ux):=λAN s σ H R I q=>by
 refine mw j h d hs AN s σ H R I ?_;obtain⟨H0,ρ,ds,E,e,q⟩:=q;obtain⟨bs,eb,e⟩:=AT e;refine⟨H0,ρ,bs,E,eb,λvs H1 i g=>?_⟩;unfold Ux at e;split at e
 ·rename_i b;obtain⟨m,f,e⟩:=AT e;cases e;obtain⟨v,rfl,c⟩:=BQ g;obtain⟨a,ws,rfl,sq,l⟩:=c.Ib f;exact⟨a,rfl,⟨ws,sq⟩,q _ _ i (.enum sq l)⟩
 ·cases e
theorem d3(a:Gl X "enumerate")(c:X.mg "enumerate"=X9)(b:Yz X [e] fs)(hs:A9 [e] X.env=[(false,eval e X.env)]:=by rfl):EA X (.Tuple elts x1 tpos) (.Call (.Name "enumerate" p) [e] [] pos) (λρ=>(fs ρ).bind Ux):=⟨ub a c b.run hs⟩
end
def Fm(j i:Nat)(f:Ev->Y Bx):Ev->Y Ap:=λρ=>(f ρ).bind λb=>match b with
 |.z (.int k)=>match ρ[i]? with
  |some (Z (.o ds))=>if -(2 ^ 62)<=k/\k<2 ^ 62 then(seqIndex? k ds.length).bind λm=>(ds[m]?).bind λd=>(TX (ρ.set i (Z (.o (ds.eraseIdx m)))) j (.z d)).bind λa=>Z (.nx a)else X9
  |_=>X9
 |_=>X9
theorem Km{K:B6}{H:Hp}:∀(m:Nat) {ds:O Dt} {vs:O V},aO K H ds vs->aO K H (ds.eraseIdx m) (vs.eraseIdx m)
 |m,[],vs,h=>by
  cases vs with
  |nil=>exact h
  |cons v vs=>have:=h.length;simp at this
 |m,d::ds,vs,h=>by
  cases vs with
  |nil=>have:=h.length;simp at this
  |cons v vs=>
   obtain⟨a,r,e,q,t⟩:∃a r,v::vs=a::r/\AW K H d a/\aO K H ds r:=by
    simpa only[aO]using h
   cases e;cases m with
   |zero=>exact t
   |succ m=>exact aO.cons q (Km m t)
theorem f8(j i:Nat){p:Pos}(nd:X.N.Nodup)(he:PV X e f)(hN:X.N[i]?=Z x:=by rfl)(hv:Wi X.env.scope x:=by first|exact kC rfl|exact QN (kC X2)|exact QN (QN X2))(hd:ad x:=by decide)(U:(x==("__classdict__":AJ))=false:=by decide)(t:A9 [e] X.env=[(false,eval e X.env)]:=by rfl)(B:attributeBase (.Name x p) "pop" X.env (eval (.Name x p) X.env)=eval (.Name x p) X.env:=by rfl)(P:((AD cpos (A9 [e] X.env)).all (λx=>!x.1)&&(backToKw cpos (keywordEach [] X.env)).all (λx=>x.1.isSome)
   && decide ([e].length+([]:O AC).length+(if([]:O AC).isEmpty then 0 else 1)<30))=true:=by rfl)(K:(apos.endLine==cpos.line)=true:=by rfl)(C:X.N[j]?=Z y:=by rfl)(J:Cf X.env.scope y:=by first|exact kC rfl|exact QN X2)(hs:swapsWith (.Call (.Attribute (.Name x p) "pop" apos) [e] [] cpos) (Z (.Name y p2)) pos.line X.env=pure false:=by rfl)(Q:X.fn y=true\/X.env.scope.names.lookup y=Z .local:=by first|exact .inl rfl|exact .inr X2):
  RE X (.Assign [.Name y p2] (.Call (.Attribute (.Name x p) "pop" apos) [e] [] cpos) pos) (Fm j i f):=
 CY (Qq nd C J (Yx PySem.F.plainAttrs_list PySem.F.slot_list_pop PySem.F.type_list_pop vS (yD (i:=i) hN hv hd U) (qp he yH (by rw[t]<;>rfl)) B P K (by rw[t]<;>rfl) X2) hs Q) λD σ H h=>by
  obtain⟨H0,ρ,r,E,e,q⟩:=h;obtain⟨b,eb,e⟩:=AT e;split at e
  ·rename_i k;split at e
   ·rename_i ds n;split at e
    ·rename_i hb;obtain⟨m,G,e⟩:=AT e;obtain⟨d,S,e⟩:=AT e;obtain⟨a3,M,e⟩:=AT e;cases e;obtain⟨v,e1,a,vs,rfl,o,l⟩:=E.val i _ n;refine⟨_,e1,.inl ⟨rfl,vs,.inl (.inl o)⟩,H0,ρ,_,E,eb,λu H1 g n1 r1=>?_⟩;have W:=E.grow g;have s:=l.kp (.of g);obtain⟨w,A,I⟩:=s.get S;have L:u=.int k:=by simpa only[bJ,AW]using r1
     subst L;have c:=g _ _ o;refine⟨a,vs,k,m,w,rfl,rfl,c,by omega,by omega,by rw[l.length];exact G,A,?_⟩;have E2:=W.abU n e1 c (Km m s);have kp:Kp H1 (B4 H1 a (.lst (vs.eraseIdx m))):=.lst c;exact q _ _ (QK E2 (AV.refl _) (b:=.z d) (by simp only[bJ];exact AW.kp kp I) trivial M)
    ·cases e
   ·cases e
  ·cases e
theorem mS(j i:Nat){p:Pos}(nd:X.N.Nodup)(he:QV X e f)(hN:X.N[i]?=Z x:=by rfl)(hv:Wi X.env.scope x:=by first|exact kC rfl|exact QN (kC X2)|exact QN (QN X2))(hd:ad x:=by decide)(l:(x==("__classdict__":AJ))=false:=by decide)(c:A9 [e] X.env=[(false,eval e X.env)]:=by rfl)(d:attributeBase (.Name x p) "pop" X.env (eval (.Name x p) X.env)=eval (.Name x p) X.env:=by rfl)(h:((AD cpos (A9 [e] X.env)).all (λx=>!x.1)&&(backToKw cpos (keywordEach [] X.env)).all (λx=>x.1.isSome)
   && decide ([e].length+([]:O AC).length+(if([]:O AC).isEmpty then 0 else 1)<30))=true:=by rfl)(a:(apos.endLine==cpos.line)=true:=by rfl)(g:X.N[j]?=Z y:=by rfl)(m:Cf X.env.scope y:=by first|exact kC rfl|exact QN X2)(hs:swapsWith (.Call (.Attribute (.Name x p) "pop" apos) [e] [] cpos) (Z (.Name y p2)) pos.line X.env=pure false:=by rfl)(b:X.fn y=true\/X.env.scope.names.lookup y=Z .local:=by first|exact .inl rfl|exact .inr X2):
  Ww X (.Assign [.Name y p2] (.Call (.Attribute (.Name x p) "pop" apos) [e] [] cpos) pos) (Fm j i f):=
 ⟨f8 j i nd he.run hN hv hd l c d h a g m hs b⟩
def Pj:O Dt->Y BB
 |[]=>Z []
 |.int k::r=>(Pj r).bind λks=>Z (k::ks)
 |_=>X9
theorem Ko{K:B6}{H:Hp}:∀{ds:O Dt} {ks:O Int} {vs:O V} {AQ:O A0},Pj ds=Z ks->aO K H ds vs->AX vs AQ->AQ.length=ks.length/\∀i v,AQ[i]?=Z v->∃t,v=Value.int (ks.getD i 0) t
 |[],ks,vs,AQ,e,r,w=>by
  cases e;simp only[aO]at r;subst r;cases w;exact⟨rfl,λi v h=>by simp at h⟩
 |d::ds,ks,vs,AQ,e,r,w=>by
  cases d with
  |int k=>
   simp only[Pj]at e;obtain⟨m,e1,e2⟩:=AT e;cases e2;obtain⟨a,b,rfl,q,t⟩:∃a b,vs=a::b/\AW K H (.int k) a/\aO K H ds b:=by
    simpa only[aO]using r
   have hv:a=.int k:=by simpa only[AW]using q
   subst hv;cases w with
   |cons l f=>
    obtain⟨j,rfl⟩:=l;obtain⟨g,c⟩:=Ko e1 t f;refine⟨by simp[g],λi v h=>?_⟩;cases i with
    |zero=>simp at h;exact⟨j,h.symm⟩
    |succ i=>simpa using c i v (by simpa using h)
  |_=>cases e
section
variable{ek ev:Expr}{fk:Ev->Y Bx}
def Ic:Ev->Y Ap:=λ_=>X9
theorem VI:Ww X st Ic:=⟨λD AN s σ H I q=>by
 obtain⟨H0,ρ,r,E,e,q⟩:=q;cases e⟩
def G2(AO:O (AY×α))(x:AY):Bool:=AO.any λa=>decide (a.1=x)
def Ee(a:Bx):Bx->Y Bx
 |.n AO=>(D7 a).bind λx=>Z (.z (.bl (G2 AO x)))
 |_=>X9
theorem fV.aoV{p:A1}(b:Rd H p (.dK ks))(a:fV K H AO ks)(x:AY):∃o,GB H p (kV x) o/\o.isSome=G2 AO x:=by
 refine⟨Fg ks x,.inl ⟨ks,x,b,rfl,rfl⟩,?_⟩;unfold G2 Fg;rw[<-a.any,gO,Bool.eq_iff_iff,List.find?_isSome,xE]
theorem NA(w:X.A.units+100<cLine):S9 X (AG .In) Ee:=by
 intro AN s σ H x y v u Q I n m h;obtain⟨a,b,c,f,d,e,q⟩:=h;unfold Ee at e;split at e
 ·rename_i AO;obtain⟨k,ek,e⟩:=AT e;cases e;obtain⟨p,ks,rfl,l,i⟩:=d;obtain⟨rfl,_⟩:=Q5 ek f;cases m;obtain⟨o,g,t⟩:=i.aoV l k;exact aon () I g n λs' j=>⟨.bl o.isSome,H,j,rfl,q _ H (AV.refl H) trivial (by simp only[bJ,AW];rw[t])⟩
 ·cases e
end
section
variable{st:Expr}{fs:Ev->Y Bx}
end
theorem VS{t:A1}{xs:Array A0}{x:A0}(hi:s.heap.IsTupleIter it t i)(c:s.heap.IsTuple t xs)(hx:xs[i]?=Z x)(b:∀h',h'.IsTupleIter it t (i+1)->Heap.SameBut it s.heap h'->Q x { s with heap:=h' }):A7 (A8 prog w) A (Builtin.SmallTypes.nextOf (.ref it)) Q E s:=by
 obtain⟨o,a,d,hd⟩:=id hi;obtain⟨p,hp,_,n,e⟩:=c;unfold Builtin.SmallTypes.nextOf;refine zb (JA (name:=Str.ofString "__next__") hi.typeIs yf (jI yf hi.typeIs F.entry_tuple_iterator_next ?_ (F.args_tuple_iterator_next_1 _)));show A7 _ _ (field (.ref it) 0 >>= _) _ _ s;refine zb (km a hd (x:=.ref t) X2 ?_);show A7 _ _ (if(Value.ref t==Value.none)=true then _ else _) _ _ s;rw[zv (show ¬ ((Value.ref t==Value.none)=true) from ZT)];show A7 _ _ (field (.ref it) 1 >>= _) _ _ s;refine zb (km a hd (x:=.int i 0) X2 ?_);show A7 _ _ (seqItems? (.ref t) >>= _) _ _ s;refine zb (kq hp e ?_);simp only[KW,hx];refine zb (wpAny_setField a hd (by simp) (ze ⟨x,rfl,ze (b _ ?_ (Qr ..))⟩));exact⟨_,KP _ a (Obj.isFreed_of_fields (Obj.data_mapFields hd _)),(Obj.cls_mapFields ..).trans d,by rw[Obj.data_mapFields hd];simp[rawInt]⟩
theorem W8{t:A1}{xs:Array A0}(c:A.handled=X9)(hi:s.heap.IsTupleIter it t i)(d:s.heap.IsTuple t xs)(hx:xs[i]?=X9)(f:∀h' e,Heap.ExtBut it s.heap h'->(∃o,h'.get? e=Z o/\o.cls=.type "StopIteration")->E (.ref e) { s with heap:=h' }):A7 (A8 prog w) A (Builtin.SmallTypes.nextOf (.ref it)) Q E s:=by
 obtain⟨o,b,h,hd⟩:=id hi;obtain⟨p,hp,_,n,g⟩:=d;unfold Builtin.SmallTypes.nextOf;refine zb (JA (name:=Str.ofString "__next__") hi.typeIs yf (jI yf hi.typeIs F.entry_tuple_iterator_next ?_ (F.args_tuple_iterator_next_1 _)));show A7 _ _ (field (.ref it) 0 >>= _) _ _ s;refine zb (km b hd (x:=.ref t) X2 ?_);show A7 _ _ (if(Value.ref t==Value.none)=true then _ else _) _ _ s;rw[zv (show ¬ ((Value.ref t==Value.none)=true) from ZT)];show A7 _ _ (field (.ref it) 1 >>= _) _ _ s;refine zb (km b hd (x:=.int i 0) X2 ?_);show A7 _ _ (seqItems? (.ref t) >>= _) _ _ s;refine zb (kq hp g ?_);simp only[KW,hx];refine zb (QY (zb (wpAny_setField b hd (by simp) ?_)));show A7 _ _ (newExc (.type "StopIteration") [] >>= _) _ _ _;refine zb ?_;simp only[newExc,newTuple];refine zb (QA ?_ (by size_fits));refine zb (m:=firstArgMember _ _) (Y2 (a:=Value.none) (by first|rfl|(simp only[firstArgMember];rfl)) ?_);refine QA ?_ (by size_fits);simp only[raiseNew];refine zb (wpAny_handled ?_)
 first|rw[show A.in1.handled=X9 from c]|rw[c]
 refine zb (ze (wpAny_throw ?_));exact f _ _ (((Qr ..).extBut.push _).push _) ⟨_,zC _ rfl,rfl⟩
section
variable{K:Type} [DecidableEq K] {knd:KeyKind prog w K}
end
section
variable{ea eb:Expr}{p1 pos1 pos2:Pos}
end
def MJ:O Int->Int
 |[]=>0
 |k::ks=>ks.foldl (λm x=>if m<x then x else m) k
theorem ab(ks:O Int)(n:Nat)(b:n<ks.length):ks.getD (argBest (λi j=>decide (ks.getD i 0>ks.getD j 0)) n) 0=MJ (ks.take (n+1)):=by
 induction n with
 |zero=>
  cases ks with
  |nil=>cases b
  |cons k ks=>rfl
 |succ n a=>
  have a:=a ();cases ks with
  |nil=>cases b
  |cons k ks=>
   have d:n<ks.length:=by simpa using b
   rw[List.take_succ_cons]at a ⊢;rw[JJ d];have e:MJ (k::(ks.take n++[ks[n]]))=(if MJ (k::ks.take n)<ks[n]then ks[n]else MJ (k::ks.take n)):=by
    show(ks.take n++[ks[n]]).foldl _ k=_;rw[nw];rfl
   rw[e,<-a];have c:(k::ks).getD (n+1) 0=ks[n]:=by simp[d]
   show(k::ks).getD (if decide ((k::ks).getD (n+1) 0>(k::ks).getD (argBest _ n) 0)=true then n+1 else argBest _ n) 0=_;rw[c];by_cases q:ks[n]>(k::ks).getD (argBest (λi j=>decide ((k::ks).getD i 0>(k::ks).getD j 0)) n) 0
   ·rw[zl (z5 q),zl q,c]
   ·rw[zv (by simpa using q),zv q]
def Uy:O Bx->Y Bx
 |[b]=>(sE b).bind λds=>(Pj ds).bind λks=>if 0<ks.length then Z (.z (.int (MJ ks)))else X9
 |_=>X9
theorem Kq:∀{AQ:O A0} {ks:O Int},AQ.length=ks.length->(∀(i:Nat) (v:A0),AQ[i]?=Z v->∃t,v=Value.int (ks.getD i 0) t)->∃xs:O (Int×Tok),AQ=xs.map (λp=>Value.int p.1 p.2)/\xs.map (·.1)=ks
 |[],[],_,_=>⟨[],rfl,rfl⟩
 |[],_::_,h,_=>by cases h
 |_::_,[],h,_=>by cases h
 |v::AQ,k::ks,h,g=>by
  obtain⟨t,a⟩:=g 0 v rfl;obtain⟨xs,e1,e2⟩:=Kq (AQ:=AQ) (ks:=ks) (by simpa using h) λi v hv=>by simpa using g (i+1) v (by simpa using hv)
  exact⟨(k,t)::xs,by rw[zk,<-e1,a];rfl,by rw[zk,e2]⟩
theorem UU(p:X.calm=true):nJ X (.builtin "max") Uy:=by
 intro AN s σ H xs us Q I r h;obtain⟨bs,c,l,e,q⟩:=h;unfold Uy at e;split at e
 ·obtain⟨ds,n,e⟩:=AT e;obtain⟨ks,ek,e⟩:=AT e;split at e
  ·rename_i d;cases e;obtain⟨v,rfl,x⟩:=BQ l;obtain⟨a,vs,rfl,sq,z⟩:=x.Ib n;obtain⟨u,rfl,o⟩:=BA r;cases o;obtain⟨AQ,w,pl,A⟩:=I.list sq;obtain⟨m,hv⟩:=Ko ek z w;obtain⟨ps,e1,e2⟩:=Kq m hv;have f:ps.length=ks.length:=by rw[<-e2,zg]
   have j:numAt ps.toArray=λi=>ks.getD i 0:=funext λi=>by
    unfold numAt;rw[<-e2,kM,Zp];simp
   have y:s.heap.IsList a (intItems ps.toArray):=by
    have:=pl.isList;rw[e1]at this;simpa[intItems]using this
   refine max_intList (I.ok.hd p) y (by simpa[f]using d) λv h' tk b kp=>?_;obtain⟨t,rfl⟩:=intItems_at b;rw[j]at b ⊢;have g:=ab ks (ks.length-1) ();rw[ma d,xC]at g;have e3:ps.toArray.size-1=ks.length-1:=by simp[f]
   refine⟨.int (MJ ks),H,I.kept (t':=tk) kp,⟨t,?_⟩,q _ H (AV.refl H) trivial (by simp only[bJ,AW])⟩;rw[e3,<-g]
  ·cases e
 ·cases e
theorem pO(xs:AZ)(is:O Nat)(b:closureFor scope X.env=pure cl:=by with_unfolding_all rfl)(a:scope.kind=.function:=by rfl)(c:scope.names.all (λy=>decide (y.2≠.cell)||(cl.lookup y.1).isNone)=true:=by rfl)(d:scope.names.all (λy=>decide (y.2=.local->scope.names.lookup y.1=Z .local))=true:=by decide +kernel)(sub:C1 X.env.cells cl:=by repeat (first|exact trivial|refine⟨rfl,?_⟩))(has:(relabel scope X.env).names.all (λy=>!(y.2==.cell||y.2==.free)||(cl.lookup y.1).isSome||scope.names.contains (y.1,.cell))=true:=by rfl)(e:Mx X scope cl xs is:=by repeat (first|exact w4|refine UO X2 (by first|exact .inl rfl|exact .inr X2) (by first|exact .inl rfl|exact .inr X2) ⟨_,rfl⟩ ?_)):uD X scope cl xs is:=bo b a c d sub has e
theorem gD{a:Scope}(h1:a.kind=.function:=by rfl)(h2:a.isCoroutine=false:=by rfl)(d:a.isGenerator=false:=by rfl)(e:N.Nodup:=by decide +kernel)(f:N.take ps.length=ps:=by rfl)(b:∀x∈ps,a.names.lookup x=Z .local\/a.names.lookup x=Z .cell:=by decide +kernel)(c:∀y∈a.names,y.2≠.free:=by decide +kernel):aW N ps a:=⟨h1,h2,d,e,f,b,c⟩
instance:Inhabited Dt:=⟨.non⟩
theorem At(a:α)(f:α->Y β):(Z a).bind f=f a:=(oG a f).trans (Eq.refl _)
def hold:Y Prop->Prop
 |none=>True
 |some p=>p
def bA:Y Prop->Y Prop->Y Prop
 |none,q=>q
 |some p,X9=>Z p
 |some p,Z q=>Z (p/\q)
def Ih(c:Prop):Y Prop->Y Prop
 |none=>X9
 |some p=>Z (c->p)
theorem aC{p q:Y Prop}(h:hold (bA p q)):hold p/\hold q:=by
 cases p with
 |none=>exact⟨trivial,h⟩
 |some p=>cases q with
  |none=>exact⟨h,trivial⟩
  |some q=>exact h
theorem mX{c:Prop}{p:Y Prop}(h:hold (Ih c p))(a:c):hold p:=by
 cases p with
 |none=>trivial
 |some p=>exact h a
structure R {α β:Type} (f:Ev->Option β) (ρ:Ev) (c:α->β) where
 v:α
 D:Option Prop
 ok:hold D->f ρ=some (c v)
abbrev zE(e:α->Dt):α->Bx:=λa=>.z (e a)
abbrev oE(e:α->Dt):O α->Bx:=λxs=>.o (xs.map e)
abbrev lE(e:α->Dt):O α->Bx:=λxs=>.l (xs.map e)
abbrev tE:Bool->Bool:=λb=>b
abbrev iE(e:α->Dt):O α->O Dt:=λxs=>xs.map e
abbrev eI:Int->Dt:=Dt.int
abbrev eB:Bool->Dt:=Dt.bl
abbrev eS:AJ->Dt:=Dt.str
abbrev eD:Dt->Dt:=λd=>d
abbrev eL(e:α->Dt):O α->Dt:=λxs=>.lst (xs.map e)
abbrev eT(e:α->Dt):O α->Dt:=λxs=>.tup (xs.map e)
abbrev eO(e:α->Dt):Y α->Dt:=λo=>match o with|none=>.non|some a=>e a
abbrev IX(a:α->Dt):α->Dt:=λx=>.tup [a x]
abbrev sI(a:α->Dt)(b:β->Dt):α×β->Dt:=λx=>.tup [a x.1,b x.2]
abbrev D3(a:α->Dt)(b:β->Dt)(c:γ->Dt):α×β×γ->Dt:=λx=>.tup [a x.1,b x.2.1,c x.2.2]
abbrev F3(a:α->Dt)(b:β->Dt)(c:γ->Dt)(d:δ->Dt):α×β×γ×δ->Dt:=λx=>.tup [a x.1,b x.2.1,c x.2.2.1,d x.2.2.2]
structure RL {α:Type} (f:Ev->Option Bx) (ρ:Ev) (e:α->Dt) where
 v:List α
 D:Option Prop
 b:Bx
 lk:sE b=some (v.map e)
 ok:hold D->f ρ=some b
section
variable{fs:Ev->Y (O Bx)}{e:α->Dt}{e':β->Dt}
def kZ(a:R f ρ (oE e)):RL f ρ e:=⟨a.v,a.D,_,rfl,a.ok⟩
def jg(a:R f ρ (lE e)):RL f ρ e:=⟨a.v,a.D,_,rfl,a.ok⟩
def Ii(a:R f ρ (zE (eL e))):RL f ρ e:=⟨a.v,a.D,_,rfl,a.ok⟩
def Lp(b:Bx)(ds:O Dt):Prop:=b=.z (.lst ds)\/b=.l ds
theorem Lp.Ib{b:Bx}(h:Lp b ds):sE b=Z ds:=by rcases h with rfl|rfl<;>rfl
theorem Lp.get{b:Bx}{ds:O Dt}{i:Nat}(h:Lp b ds)(hi:ρ[i]?=Z (Z b)):Fl ρ i=Z b:=by
 rcases h with rfl|rfl<;>(unfold Fl;rw[hi])
theorem kO{b:Bx}(h:sE b=Z ds):Lp (P1.lend b) ds:=by
 cases b with
 |z d=>cases d<;>cases h;exact .inl rfl
 |l d=>cases h;exact .inr rfl
 |o d=>cases h;exact .inr rfl
 |n d=>cases h
 |m d _=>cases h
def au(i:Nat)(c:α->Bx)(a:α)(h:Fl ρ i=Z (c a)):R (gv i) ρ c:=⟨a,X9,λ_=>h⟩
def cT(i:Nat)(e:α->Dt)(a:O α){b:Bx}(h:Lp b (a.map e))(hi:ρ[i]?=Z (Z b)):RL (gv i) ρ e:=⟨a,X9,b,h.Ib,λ_=>h.get hi⟩
def yP(d:Dt)(e:α->Dt)(a:α)(h:d=e a):R (cB d) ρ (zE e):=⟨a,X9,λ_=>by rw[h];rfl⟩
def Dl(a:R f ρ (zE e)):R f ρ (zE eD):=⟨e a.v,a.D,a.ok⟩
def Kr(a:R f ρ (zE e)):R f ρ (zE (eO e)):=⟨Z a.v,a.D,a.ok⟩
def Pl:R (cB .non) ρ (zE (eO e)):=⟨X9,X9,λ_=>X2⟩
def Pk[Inhabited α](a:R f ρ (zE (eO e))):R f ρ (zE e):=⟨a.v.getD default,bA a.D (Z (a.v.isSome=true)),λh=>by
 obtain⟨h1,h2⟩:=aC h;rw[a.ok h1];have h2:a.v.isSome=true:=h2;cases hv:a.v with
 |none=>rw[hv]at h2;cases h2
 |some x=>rfl⟩
def Rm(a:R f ρ (oE e)):R (b1 Bt f) ρ (zE (eL e)):=⟨a.v,a.D,λh=>by simp only[b1,a.ok h,At,Bt]⟩
def pP(a:R f ρ (zE e)):R (b1 Bt f) ρ (zE e):=⟨a.v,a.D,λh=>by simp only[b1,a.ok h,At,Bt]⟩
def Uz(a:R f ρ (zE eI)):R (b1 QT f) ρ (zE eI):=⟨-a.v,a.D,λh=>by simp only[b1,a.ok h,At,QT]⟩
def kW(a:R fa ρ (zE eI))(b:R fb ρ (zE eI)):R (b2 iG fa fb) ρ (zE eI):=⟨a.v+b.v,bA a.D b.D,λh=>by
 obtain⟨h1,h2⟩:=aC h;simp only[b2,a.ok h1,b.ok h2,At,iG]⟩
def mT(a:R fa ρ (zE eI))(b:R fb ρ (zE eI)):R (b2 EC fa fb) ρ (zE eI):=⟨a.v-b.v,bA a.D b.D,λh=>by
 obtain⟨h1,h2⟩:=aC h;simp only[b2,a.ok h1,b.ok h2,At,i2]⟩
def Gc(a b:Int):Prop:=(-18446744073709551616<a/\a<18446744073709551616)\/(-18446744073709551616<b/\b<18446744073709551616)
def Nc(a:R fa ρ (zE eI))(b:R fb ρ (zE eI)):R (b2 Bv fa fb) ρ (zE eI):=⟨a.v*b.v,bA (bA a.D b.D) (Z (Gc a.v b.v)),λh=>by
 obtain⟨h,c⟩:=aC h;obtain⟨h1,h2⟩:=aC h;simp only[b2,a.ok h1,b.ok h2,At];exact zl c⟩
def Ro(n:Int)(a : -18446744073709551616<n/\n<18446744073709551616)(b:R fb ρ (zE eI)):R (b2 Bv (cB (.int n)) fb) ρ (zE eI):=⟨n*b.v,b.D,λh=>by
 simp only[b2,b.ok h,At,cB];exact zl (.inl a)⟩
def Ze(a:R fa ρ (zE eI))(n:Int)(b : -18446744073709551616<n/\n<18446744073709551616):R (b2 Bv fa (cB (.int n))) ρ (zE eI):=⟨a.v*n,a.D,λh=>by
 simp only[b2,a.ok h,At,cB];exact zl (.inr b)⟩
def RY(a:R fa ρ (zE eI))(b:R fb ρ (zE eI)):R (b2 nM fa fb) ρ (zE eI):=⟨a.v / b.v,bA (bA a.D b.D) (Z (0<b.v/\b.v<1073741824)),λh=>by
 obtain⟨h,c⟩:=aC h;obtain⟨h1,h2⟩:=aC h;have c:0<b.v/\b.v<1073741824:=c;simp only[b2,a.ok h1,b.ok h2,At,i2,zl c]⟩
def jL(a:R fa ρ (zE eI))(n:Int)(b:0<n/\n<1073741824):R (b2 nM fa (cB (.int n))) ρ (zE eI):=⟨a.v / n,a.D,λh=>by
 simp only[b2,a.ok h,At,i2,cB,zl b]⟩
def NL(a:R fa ρ (zE eI))(b:R fb ρ (zE eI)):R (b2 jj fa fb) ρ (zE eI):=⟨a.v%b.v,bA (bA a.D b.D) (Z (0<b.v)),λh=>by
 obtain⟨h,c⟩:=aC h;obtain⟨h1,h2⟩:=aC h;have c:0<b.v:=c;simp only[b2,a.ok h1,b.ok h2,At,i2,zl c]⟩
def dG(a:R fa ρ (zE eI))(n:Int)(b:0<n):R (b2 jj fa (cB (.int n))) ρ (zE eI):=⟨a.v%n,a.D,λh=>by
 simp only[b2,a.ok h,At,i2,cB,zl b]⟩
def bz(a b:Int)(n:Nat)(h:0<=b/\b<=1000/\a.natAbs<18446744073709551616)(c:b.toNat=n):R (b2 MC (cB (.int a)) (cB (.int b))) ρ (zE eI):=⟨a ^ n,X9,λ_=>by
 simp only[b2,At,cB];show((if 0<=b/\b<=1000/\a.natAbs<2 ^ 64 then Z (Dt.int (a ^ b.toNat))else X9).bind λd=>Z (Bx.z d))=_;rw[zl h,c];rfl⟩
def PZ(a:R fa ρ (zE eI))(b:R fb ρ (zE eI)):R (b2 HI fa fb) ρ (zE eB):=⟨decide (b.v<a.v),bA a.D b.D,λh=>by
 obtain⟨h1,h2⟩:=aC h;simp only[b2,a.ok h1,b.ok h2,At,i2]⟩
def Do(a:R fa ρ (zE eI))(b:R fb ρ (zE eI)):R (b2 FD fa fb) ρ (zE eB):=⟨decide (b.v<=a.v),bA a.D b.D,λh=>by
 obtain⟨h1,h2⟩:=aC h;simp only[b2,a.ok h1,b.ok h2,At,i2]⟩
def SC(a:R fa ρ (zE eI))(b:R fb ρ (zE eI)):R (b2 Eg fa fb) ρ (zE eB):=⟨decide (a.v<b.v),bA a.D b.D,λh=>by
 obtain⟨h1,h2⟩:=aC h;simp only[b2,a.ok h1,b.ok h2,At,Eg]⟩
def xZ(x y:AJ):Bool:=decide (x.cps.toList<y.cps.toList)
end
class BC {α:Type} [DecidableEq α] (e:α->Dt) (n:outParam Nat):Prop where
 eq:∀a b,Ot (e a) (e b)=some (decide (a=b))
 dp:∀a,Cr (e a)<=n
class CO {α:Type} (e:α->Dt):Prop where
 l:∀a,Ot .non (e a)=some false
 r:∀a,Ot (e a) .non=some false
instance:BC eI 1:=⟨λa b=>rfl,λa=>by simp[Cr]⟩
instance:BC eB 1:=⟨λa b=>rfl,λa=>by simp[Cr]⟩
instance:BC eS 1:=⟨λa b=>rfl,λa=>by simp[Cr]⟩
instance:CO eI:=⟨λa=>rfl,λa=>rfl⟩
instance:CO eB:=⟨λa=>rfl,λa=>rfl⟩
instance:CO eS:=⟨λa=>rfl,λa=>rfl⟩
section
variable [DecidableEq α] [DecidableEq β] [DecidableEq γ] [DecidableEq δ] {e:α->Dt}{e':β->Dt}{e'':γ->Dt}{e3:δ->Dt}{m k l:Nat}
theorem Ku[BC e n]:∀xs ys:O α,nQ (xs.map e) (ys.map e)=Z (decide (xs=ys))
 |[],[]=>by simp[nQ]
 |[],y::ys=>by simp[nQ]
 |x::xs,[]=>by simp[nQ]
 |x::xs,y::ys=>by
  simp only[zk,nQ,BC.eq,Ku xs ys];congr 1;by_cases h:x=y<;>by_cases h':xs=ys<;>simp[h,h']
theorem Kv[BC e n]:∀xs:O α,CW (xs.map e)<=n
 |[]=>by simp[CW]
 |x::xs=>by
  have:=BC.dp (e:=e) x;have:=Kv xs;simp only[zk,CW];omega
instance [BC e n]:BC (eL e) (n+1):=⟨λa b=>Ku a b,λa=>by simp only[Cr];have:=Kv (e:=e) a;omega⟩
instance [BC e n]:BC (eT e) (n+1):=⟨λa b=>Ku a b,λa=>by simp only[Cr];have:=Kv (e:=e) a;omega⟩
instance:CO (eL e):=⟨λa=>rfl,λa=>rfl⟩
instance:CO (eT e):=⟨λa=>rfl,λa=>rfl⟩
instance:CO (IX e):=⟨λa=>rfl,λa=>rfl⟩
instance:CO (sI e e'):=⟨λa=>rfl,λa=>rfl⟩
instance:CO (D3 e e' e''):=⟨λa=>rfl,λa=>rfl⟩
instance:CO (F3 e e' e'' e3):=⟨λa=>rfl,λa=>rfl⟩
instance [BC e n]:BC (IX e) (n+1):=⟨λa b=>by
 simp only[Jb,nQ,BC.eq,Y1],λa=>by
 have:=BC.dp (e:=e) a;simp only[Cr,CW];omega⟩
theorem F8{a b:Nat}(h:a<=n)(h':b<=m):max a b<=max n m:=Nat.max_le.mpr ⟨zt h (Nat.le_max_left ..),zt h' (xB ..)⟩
theorem ML{a:Nat}(h:a<=n):max a 0<=n:=Nat.max_le.mpr ⟨h,Zs _⟩
instance [BC e n] [BC e' m]:BC (sI e e') (max n m+1):=⟨λa b=>by
 obtain⟨a,a'⟩:=a;obtain⟨b,b'⟩:=b;simp only[Jb,nQ,BC.eq,YV,jz,Y1],λa=>ka (F8 (BC.dp (e:=e) a.1) (ML (BC.dp (e:=e') a.2)))⟩
instance [BC e n] [BC e' m] [BC e'' k]:BC (D3 e e' e'') (max n (max m k)+1):=⟨λa b=>by
 obtain⟨a,a',a2⟩:=a;obtain⟨b,b',b2⟩:=b;simp only[Jb,nQ,BC.eq,YV,jz,Y1],λa=>ka (F8 (BC.dp (e:=e) a.1) (F8 (BC.dp (e:=e') a.2.1) (ML (BC.dp (e:=e'') a.2.2))))⟩
instance [BC e n] [BC e' m] [BC e'' k] [BC e3 l]:BC (F3 e e' e'' e3) (max n (max m (max k l))+1):=⟨λa b=>by
 obtain⟨a,a',a2,a3⟩:=a;obtain⟨b,b',b2,b3⟩:=b;simp only[Jb,nQ,BC.eq,YV,jz,Y1],λa=>ka (F8 (BC.dp (e:=e) a.1) (F8 (BC.dp (e:=e') a.2.1) (F8 (BC.dp (e:=e'') a.2.2.1) (ML (BC.dp (e:=e3) a.2.2.2)))))⟩
instance [BC e n] [CO e]:BC (eO e) (n+1):=⟨λa b=>by
 cases a with
 |none=>cases b with
  |none=>exact rfl
  |some b=>exact(CO.l (e:=e) b).trans (by simp)
 |some a=>cases b with
  |none=>exact(CO.r (e:=e) a).trans (by simp)
  |some b=>exact(BC.eq (e:=e) a b).trans (by simp),λa=>by
 cases a with
 |none=>show Cr .non<=n+1;simp[Cr]
 |some a=>exact gR (BC.dp (e:=e) a)⟩
end
section
variable{p:Ev->Y Bool}{fs:Ev->Y (O Bx)}{e:α->Dt}{e':β->Dt}
def B9[DecidableEq α][BC e n](c:n<=100)(a:R fa ρ (zE e))(b:R fb ρ (zE e)):R (b2 BE fa fb) ρ (zE eB):=⟨decide (a.v=b.v),bA a.D b.D,λh=>by
 obtain⟨h1,h2⟩:=aC h;have:=BC.dp (e:=e) a.v;simp only[b2,a.ok h1,b.ok h2,At,BE,vV,toD,zI,or_self,qh,BC.eq];rw[zl ()]⟩
def LG[DecidableEq α][BC e n](c:n<=100)(a:R fa ρ (zE e))(b:R fb ρ (zE e)):R (b2 WM fa fb) ρ (zE eB):=⟨!decide (a.v=b.v),bA a.D b.D,λh=>by
 obtain⟨h1,h2⟩:=aC h;have:=BC.dp (e:=e) a.v;simp only[b2,a.ok h1,b.ok h2,At,WM,vV,toD,zI,or_self,qh,BC.eq];rw[zl ()]⟩
theorem sS{b:Bx}(h:sE b=Z ds):toD b=.lst ds/\vV b=false:=by
 cases b with
 |z d=>cases d<;>cases h;exact⟨rfl,rfl⟩
 |l d=>cases h;exact⟨rfl,rfl⟩
 |o d=>cases h;exact⟨rfl,rfl⟩
 |n d=>cases h
 |m d _=>cases h
def Pn[DecidableEq α][BC e n](c:n+1<=100)(a:RL fa ρ e)(b:RL fb ρ e):R (b2 BE fa fb) ρ (zE eB):=⟨decide (a.v=b.v),bA a.D b.D,λh=>by
 obtain⟨h1,h2⟩:=aC h;have:=BC.dp (e:=eL e) a.v;simp only[b2,a.ok h1,b.ok h2,At,BE,(sS a.lk).1,(sS a.lk).2,(sS b.lk).1,(sS b.lk).2,zI,or_self,qh];have e1:=BC.eq (e:=eL e) a.v b.v;rw[zl (zt (Nat.min_le_left _ _) (zt (BC.dp (e:=eL e) a.v) c)),e1,At]⟩
def LF[DecidableEq α][BC e n](c:n+1<=100)(a:RL fa ρ e)(b:RL fb ρ e):R (b2 WM fa fb) ρ (zE eB):=⟨!decide (a.v=b.v),bA a.D b.D,λh=>by
 obtain⟨h1,h2⟩:=aC h;simp only[b2,a.ok h1,b.ok h2,At,WM,(sS a.lk).1,(sS a.lk).2,(sS b.lk).1,(sS b.lk).2,zI,or_self,qh];have e1:=BC.eq (e:=eL e) a.v b.v;rw[zl (zt (Nat.min_le_left _ _) (zt (BC.dp (e:=eL e) a.v) c)),e1,At]⟩
def Pq(a b:Dt):Bool:=(Ot a b).getD false
def D0(a b:Dt):Prop:=(Ot a b).isSome=true/\min (Cr a) (Cr b)<=100
def Zf(a:R fa ρ (zE eD))(b:R fb ρ (zE eD)):R (b2 BE fa fb) ρ (zE eB):=⟨Pq a.v b.v,bA (bA a.D b.D) (Z (D0 a.v b.v)),λh=>by
 obtain⟨h,c⟩:=aC h;obtain⟨h1,h2⟩:=aC h;obtain⟨c,d⟩:D0 a.v b.v:=c;simp only[b2,a.ok h1,b.ok h2,At,BE,vV,toD,zI,or_self,qh,zl d];cases hd:Ot a.v b.v with
 |none=>rw[hd]at c;cases c
 |some k=>simp only[Pq,hd,At,ic];exact zl d⟩
def UY(a:R fa ρ (zE eD))(b:R fb ρ (zE eD)):R (b2 WM fa fb) ρ (zE eB):=⟨!Pq a.v b.v,bA (bA a.D b.D) (Z (D0 a.v b.v)),λh=>by
 obtain⟨h,c⟩:=aC h;obtain⟨h1,h2⟩:=aC h;obtain⟨c,d⟩:D0 a.v b.v:=c;simp only[b2,a.ok h1,b.ok h2,At,WM,vV,toD,zI,or_self,qh,zl d];cases hd:Ot a.v b.v with
 |none=>rw[hd]at c;cases c
 |some k=>simp only[Pq,hd,At,ic];exact zl d⟩
def Mk(a:R fa ρ (zE (eO e)))(b:∀x,JZ (.z (e x))=false):R (b2 EI fa (cB .non)) ρ (zE eB):=⟨a.v.isNone,a.D,λh=>by
 simp only[b2,a.ok h,At,cB,EI];cases hv:a.v with
 |none=>rfl
 |some x=>simp only[Option.isNone_some,b]⟩
def Dm(a:R fa ρ (zE (eO e)))(b:∀x,JZ (.z (e x))=false):R (b2 Dc fa (cB .non)) ρ (zE eB):=⟨a.v.isSome,a.D,λh=>by
 simp only[b2,a.ok h,At,cB,Dc];cases hv:a.v with
 |none=>rfl
 |some x=>simp only[fJ,b,y0]⟩
def Pr(a:R fa ρ (zE eB))(b:R fb ρ (zE eB)):R (QG fa fb) ρ (zE eB):=⟨a.v&&b.v,bA a.D (Ih (a.v=true) b.D),λh=>by
 obtain⟨h1,h2⟩:=aC h;simp only[QG,a.ok h1,At,Ws];cases hv:a.v with
 |true=>simp only[QQ,Bool.true_and];exact b.ok (mX h2 hv)
 |false=>simp only[zI,qh,jZ]⟩
def Go(a:R fa ρ (zE eB)):R (tV fa) ρ tE:=⟨a.v,a.D,λh=>by simp only[tV,a.ok h,At,GI]⟩
def fT(a:RL fa ρ e):R (tV fa) ρ tE:=⟨!a.v.isEmpty,a.D,λh=>by
 have:GI a.b=Z (!(a.v.map e).isEmpty):=by
  have:=a.lk;generalize a.v.map e=ds at this
  revert this
  generalize a.b=b;intro this;cases b with
  |z d=>cases d<;>cases this;rfl
  |l d=>cases this;rfl
  |o d=>cases this;rfl
  |n d=>cases this
  |m d _=>cases this
 simp only[tV,a.ok h,At,this,pW]⟩
def cP{g:Bx->Bx->Y Bx}(a:R (b2 g fa fb) ρ (zE eB)):R (p8 g fa fb) ρ tE:=⟨a.v,a.D,λh=>by simp only[p8,a.ok h,At,Ws]⟩
def L0(a:R p ρ tE)(b:R q ρ tE):R (Wu p q) ρ tE:=⟨a.v&&b.v,bA a.D (Ih (a.v=true) b.D),λh=>by
 obtain⟨h1,h2⟩:=aC h;simp only[Wu,a.ok h1,At];cases hv:a.v with
 |true=>simp only[QQ,Bool.true_and];exact b.ok (mX h2 hv)
 |false=>simp only[zI,qh,jZ]⟩
def ES(a:R p ρ tE)(b:R q ρ tE):R (D5 p q) ρ tE:=⟨a.v||b.v,bA a.D (Ih (a.v=false) b.D),λh=>by
 obtain⟨h1,h2⟩:=aC h;simp only[D5,a.ok h1,At];cases hv:a.v with
 |true=>simp only[QQ,Bool.true_or]
 |false=>simp only[zI,qh,gi];exact b.ok (mX h2 hv)⟩
def IP(a:R p ρ tE):R (F0 p) ρ tE:=⟨!a.v,a.D,λh=>by simp only[F0,a.ok h,At]⟩
end
section
variable{ε:Type}{fd:Ev->Y Bx}{p:Ev->Y Bool}{fs:Ev->Y (O Bx)}{e:α->Dt}{e':β->Dt}{e'':γ->Dt}{e3:δ->Dt}
def b7(e:α->Dt):R (cN gP aH) ρ (zE (eT e)):=⟨[],X9,λ_=>X2⟩
def l8(a:R fa ρ (zE e)):R (cN gP (aq fa aH)) ρ (zE (IX e)):=⟨a.v,a.D,λh=>by
 simp only[cN,aq,aH,a.ok h,At];rfl⟩
def mY(a:R fa ρ (zE e))(b:R fb ρ (zE e')):R (cN gP (aq fa (aq fb aH))) ρ (zE (sI e e')):=⟨(a.v,b.v),bA a.D b.D,λh=>by
 obtain⟨h1,h2⟩:=aC h;simp only[cN,aq,aH,a.ok h1,b.ok h2,At];rfl⟩
def Kw(a:R fa ρ (zE e))(b:R fb ρ (zE e'))(c:R fc ρ (zE e'')):R (cN gP (aq fa (aq fb (aq fc aH)))) ρ (zE (D3 e e' e'')):=⟨(a.v,b.v,c.v),bA a.D (bA b.D c.D),λh=>by
 obtain⟨h1,h⟩:=aC h;obtain⟨h2,d⟩:=aC h;simp only[cN,aq,aH,a.ok h1,b.ok h2,c.ok d,At];rfl⟩
def we(a:R fa ρ (zE e))(b:R fb ρ (zE e'))(c:R fc ρ (zE e''))(d:R fd ρ (zE e3)):R (cN gP (aq fa (aq fb (aq fc (aq fd aH))))) ρ (zE (F3 e e' e'' e3)):=⟨(a.v,b.v,c.v,d.v),bA a.D (bA b.D (bA c.D d.D)),λh=>by
 obtain⟨h1,h⟩:=aC h;obtain⟨h2,h⟩:=aC h;obtain⟨f,g⟩:=aC h;simp only[cN,aq,aH,a.ok h1,b.ok h2,c.ok f,d.ok g,At];rfl⟩
def cU(e:α->Dt):R aH ρ (λxs:O α=>xs.map (zE e)):=⟨[],X9,λ_=>X2⟩
def aP(a:R fa ρ (zE e))(t:R fs ρ (λxs:O α=>xs.map (zE e))):R (aq fa fs) ρ (λxs:O α=>xs.map (zE e)):=⟨a.v::t.v,bA a.D t.D,λh=>by
 obtain⟨h1,h2⟩:=aC h;simp only[aq,a.ok h1,t.ok h2,At,zk]⟩
theorem Dn:∀xs:O α,QJ (xs.map (zE e))=Z (xs.map e)
 |[]=>rfl
 |x::xs=>by simp only[zk,QJ,Dn xs,At]
def iR(t:R fs ρ (λxs:O α=>xs.map (zE e)))(a:t.v.length<=1000):R (cN mO fs) ρ (oE e):=⟨t.v,t.D,λh=>by
 simp only[cN,t.ok h,At,mO,zg,zl a,Dn]⟩
def Kz(t:R fs ρ (λxs:O α=>xs.map (zE e)))(a:t.v.length<=1000):R (cN gP fs) ρ (zE (eT e)):=⟨t.v,t.D,λh=>by
 simp only[cN,t.ok h,At,gP,zg,zl a,Dn]⟩
def Rp(t:R fs ρ (λxs:O Dt=>xs.map (zE eD)))(a:t.v.length<=1000):R (cN gP fs) ρ (zE eD):=⟨.tup t.v,t.D,λh=>by
 simp only[cN,t.ok h,At,gP,zg,zl a,Dn,List.map_id_fun',id]⟩
def at'[Inhabited α](xs:O α)(i:Int):α:=(IW xs i).getD default
def In(n:Nat)(i:Int):Prop:=-(n:Int)<=i/\i<n
theorem zR{xs:O α}{i:Int}(h:In xs.length i):∃x,IW xs i=Z x:=by
 obtain⟨h1,h2⟩:=h;unfold IW DZ;by_cases h0:0<=i
 ·rw[zl h0,zl h2];exact⟨xs[i.toNat]'(),ZY ()⟩
 ·rw[zv h0,zl h1];exact⟨xs[(i+xs.length).toNat]'(),ZY ()⟩
theorem ajD{xs:O α}{i:Int}{x:α}(h:IW xs i=Z x):IW (xs.map e) i=Z (e x):=by
 unfold IW at h ⊢;rw[zg];obtain⟨j,a,h⟩:=AT h;rw[a,At,Zp,h];rfl
theorem NE[Inhabited α]{xs:O α}{i:Int}(h:In xs.length i):IW (xs.map e) i=Z (e (at' xs i)):=by
 obtain⟨x,hx⟩:=zR h;rw[ajD hx];unfold at';rw[hx];rfl
theorem c9{b:Bx}{i:Int}(h:sE b=Z ds):eY b (.z (.int i))=(IW ds i).bind λd=>Z (.z d):=by
 cases b with
 |z d=>cases d<;>cases h;rfl
 |l d=>cases h;rfl
 |o d=>cases h;rfl
 |n d=>cases h
 |m d _=>cases h
def iT[Inhabited α](a:RL fa ρ e)(b:R fb ρ (zE eI)):R (b2 eY fa fb) ρ (zE e):=⟨at' a.v b.v,bA (bA a.D b.D) (Z (In a.v.length b.v)),λh=>by
 obtain⟨h,c⟩:=aC h;obtain⟨h1,h2⟩:=aC h;simp only[b2,a.ok h1,b.ok h2,At,c9 a.lk,NE (show In a.v.length b.v from c)]⟩
def Re[Inhabited α](a:R fa ρ (zE (eT e)))(b:R fb ρ (zE eI)):R (b2 eY fa fb) ρ (zE e):=⟨at' a.v b.v,bA (bA a.D b.D) (Z (In a.v.length b.v)),λh=>by
 obtain⟨h,c⟩:=aC h;obtain⟨h1,h2⟩:=aC h;simp only[b2,a.ok h1,b.ok h2,At,eY,vX,NE (show In a.v.length b.v from c)]⟩
def ch(x:AJ)(i:Int):AJ:=⟨#[(IW x.cps.toList i).getD 0]⟩
def Zg(a:R fa ρ (zE eS))(b:R fb ρ (zE eI)):R (b2 eY fa fb) ρ (zE eS):=⟨ch a.v b.v,bA (bA a.D b.D) (Z (In a.v.length b.v)),λh=>by
 obtain⟨h,c⟩:=aC h;obtain⟨h1,h2⟩:=aC h;obtain⟨x,hx⟩:=zR (xs:=a.v.cps.toList) (i:=b.v) (show In a.v.length b.v from c);simp only[b2,a.ok h1,b.ok h2,At,eY,hx,ch,ic]⟩
def mQ(d:Dt)(i:Int):Dt:=match eY (.z d) (.z (.int i))with|some (.z y)=>y|_=>.non
def Pu(d:Dt)(i:Int):Prop:=match d with
 |.tup ds=>In ds.length i
 |.lst ds=>In ds.length i
 |.str x=>In x.length i
 |_=>False
def yc(a:R fa ρ (zE eD))(b:R fb ρ (zE eI)):R (b2 eY fa fb) ρ (zE eD):=⟨mQ a.v b.v,bA (bA a.D b.D) (Z (Pu a.v b.v)),λh=>by
 obtain⟨h,d⟩:=aC h;obtain⟨h1,h2⟩:=aC h;have d:Pu a.v b.v:=d;simp only[b2,a.ok h1,b.ok h2,At];show eY (.z a.v) (.z (.int b.v))=Z (.z (mQ a.v b.v));unfold mQ;cases hv:a.v with
 |tup ds=>
  rw[hv]at d;obtain⟨x,hx⟩:=zR (show In ds.length b.v from d);simp only[eY,vX,At,hx]
 |lst ds=>
  rw[hv]at d;obtain⟨x,hx⟩:=zR (show In ds.length b.v from d);simp only[eY,vX,At,hx]
 |str x=>
  rw[hv]at d;obtain⟨c,hx⟩:=zR (xs:=x.cps.toList) (show In x.length b.v from d);simp only[eY,At,hx]
 |non=>rw[hv]at d;exact absurd d id
 |bl _=>rw[hv]at d;exact absurd d id
 |int _=>rw[hv]at d;exact absurd d id
 |emp=>rw[hv]at d;exact absurd d id⟩
def gM(a:R fa ρ (zE e))(g:α->β)(e':β->Dt)(i:Int)(h:∀x,eY (.z (e x)) (.z (.int i))=Z (.z (e' (g x)))):R (b2 eY fa (cB (.int i))) ρ (zE e'):=⟨g a.v,a.D,λhd=>by
 simp only[b2,a.ok hd,At,cB,h]⟩
def C5(xs:O α)(lo hi:Y Int):O α:=(xs.drop (HT.jo xs.length 0 lo)).take (HT.jo xs.length xs.length hi-HT.jo xs.length 0 lo)
theorem Zh(xs:O α)(lo hi:Y Int):C3 (xs.map e) lo hi=(C5 xs lo hi).map e:=by
 unfold C3 C5;rw[zg,List.map_take,List.map_drop]
abbrev pE:Y Int->Y Int:=λo=>o
def W9:R vY ρ pE:=⟨X9,X9,λ_=>X2⟩
def Xa(a:R fa ρ (zE eI)):R (Aw fa) ρ pE:=⟨Z a.v,a.D,λh=>by simp only[Aw,a.ok h,At,L3]⟩
variable{fl fh:Ev->Y (Y Int)}
theorem agh{b:Bx}(h:sE b=Z ds):FA b lo hi=Z (.o (C3 ds lo hi)):=by
 cases b with
 |z d=>cases d<;>cases h;rfl
 |l d=>cases h;rfl
 |o d=>cases h;rfl
 |n d=>cases h
 |m d _=>cases h
def T1(a:RL fa ρ e)(l:R fl ρ pE)(u:R fh ρ pE):R (YK fa fl fh) ρ (oE e):=⟨C5 a.v l.v u.v,bA a.D (bA l.D u.D),λh=>by
 obtain⟨h1,h⟩:=aC h;obtain⟨h2,b⟩:=aC h;simp only[YK,a.ok h1,l.ok h2,u.ok b,At,agh a.lk,Zh]⟩
def t5(a:R fa ρ (zE (eT e)))(l:R fl ρ pE)(u:R fh ρ pE):R (YK fa fl fh) ρ (zE (eT e)):=⟨C5 a.v l.v u.v,bA a.D (bA l.D u.D),λh=>by
 obtain⟨h1,h⟩:=aC h;obtain⟨h2,b⟩:=aC h;simp only[YK,a.ok h1,l.ok h2,u.ok b,At,FA,Zh]⟩
def Zi(a:R fa ρ (zE eS))(l:R fl ρ pE)(u:R fh ρ pE):R (YK fa fl fh) ρ (zE eS):=⟨Txt.slice a.v l.v u.v,bA a.D (bA l.D u.D),λh=>by
 obtain⟨h1,h⟩:=aC h;obtain⟨h2,b⟩:=aC h;simp only[YK,a.ok h1,l.ok h2,u.ok b,At,FA]⟩
def MK(n:Nat):Prop:=n<=1000000
def Rq(a:R fa ρ (zE eS))(b:R fb ρ (zE eS)):R (b2 iG fa fb) ρ (zE eS):=⟨a.v++b.v,bA (bA a.D b.D) (Z (MK (a.v.length+b.v.length))),λh=>by
 obtain⟨h,c⟩:=aC h;obtain⟨h1,h2⟩:=aC h;simp only[b2,a.ok h1,b.ok h2,At,iG,zl (show a.v.length+b.v.length<=F6 from c)]⟩
def ajE(a:R fa ρ (zE (eT e)))(b:R fb ρ (zE (eT e))):R (b2 iG fa fb) ρ (zE (eT e)):=⟨a.v++b.v,bA (bA a.D b.D) (Z (MK (a.v.length+b.v.length))),λh=>by
 obtain⟨h,c⟩:=aC h;obtain⟨h1,h2⟩:=aC h;simp only[b2,a.ok h1,b.ok h2,At,iG,zg,zl (show a.v.length+b.v.length<=F6 from c),zE,eT,qc]⟩
def UC(a:R fa ρ (zE eS))(b:R fb ρ (zE eI)):R (b2 Bv fa fb) ρ (zE eS):=⟨Txt.mul a.v b.v,bA (bA a.D b.D) (Z (b.v<=1000 ∧ -1000<=b.v/\a.v.length<=1000)),λh=>by
 obtain⟨h,c⟩:=aC h;obtain⟨h1,h2⟩:=aC h;simp only[b2,a.ok h1,b.ok h2,At];exact zl c⟩
theorem X'{b:Bx}(h:sE b=Z ds):sG [b]=Z (.z (.int ds.length)):=by
 cases b with
 |z d=>cases d<;>cases h;rfl
 |l d=>cases h;rfl
 |o d=>cases h;rfl
 |n d=>cases h
 |m d _=>cases h
theorem ow{b:Bx}(h:sE b=Z ds):vX b=Z ds:=by
 cases b with
 |z d=>cases d<;>cases h;rfl
 |l d=>cases h;rfl
 |o d=>cases h;rfl
 |n d=>cases h
 |m d _=>cases h
def C0(a:RL fa ρ e):R (cN sG (aq fa aH)) ρ (zE eI):=⟨(a.v.length:Int),a.D,λh=>by
 simp only[cN,aq,aH,a.ok h,At,X' a.lk,zg]⟩
def OG(a:R fa ρ (zE (eT e))):R (cN sG (aq fa aH)) ρ (zE eI):=⟨(a.v.length:Int),a.D,λh=>by
 simp only[cN,aq,aH,a.ok h,At,sG,vX,zg]⟩
def KC(a:R fa ρ (zE eS)):R (cN sG (aq fa aH)) ρ (zE eI):=⟨(a.v.length:Int),a.D,λh=>by
 simp only[cN,aq,aH,a.ok h,At,sG]⟩
def oU(a:RL fa ρ e):R (cN mV (aq fa aH)) ρ (zE (eT e)):=⟨a.v,a.D,λh=>by
 simp only[cN,aq,aH,a.ok h,At,mV,ow a.lk]⟩
def d4(a:R fa ρ (zE (eT e))):R (cN Ud (aq fa aH)) ρ (oE e):=⟨a.v,a.D,λh=>by
 simp only[cN,aq,aH,a.ok h,At,Ud,vX]⟩
def l6(a:R fa ρ (zE eI)):R (cN GN (aq fa aH)) ρ (zE eI):=⟨if a.v<0 then -a.v else a.v,a.D,λh=>by
 simp only[cN,aq,aH,a.ok h,At,GN]⟩
def Y'(a:R fa ρ (zE eB)):R (cN Fc (aq fa aH)) ρ (zE eI):=⟨if a.v=true then 1 else 0,a.D,λh=>by
 simp only[cN,aq,aH,a.ok h,At,Fc]⟩
theorem BV:∀l:AZ,xY (l.map eS)=Z l
 |[]=>rfl
 |a::l=>by simp only[zk,xY,BV l,At]
def aa(s:AJ)(a:RL fa ρ eS):R (b1 (Ue s) fa) ρ (zE eS):=⟨Txt.join s a.v,bA a.D (Z ((a.v.map (·.length)).sum+a.v.length*s.length<=100000)),λh=>by
 obtain⟨h,b⟩:=aC h;simp only[b1,a.ok h,At,Ue,a.lk,BV];exact zl b⟩
def Zj(a:RL fa ρ eS):R (cN Ow (aq fa aH)) ρ (oE eS):=⟨uZ a.v,bA a.D (Z (a.v.length<64)),λh=>by
 obtain⟨h,b⟩:=aC h;simp only[cN,aq,aH,a.ok h,At,Ow,a.lk,BV];exact zl b⟩
def D4:Dt->Int
 |.int i=>i
 |_=>0
def MN:Dt->AJ
 |.str x=>x
 |_=>⟨#[]⟩
def wg(a:R f ρ (zE eD))(g:Dt->α)(e:α->Dt):R f ρ (zE e):=⟨g a.v,bA a.D (Z (a.v=e (g a.v))),λhd=>by
 obtain⟨h1,h2⟩:=aC hd;have h2:a.v=e (g a.v):=h2;rw[a.ok h1];show Z (Bx.z a.v)=Z (Bx.z (e (g a.v)));rw[<-h2]⟩
class EG {α:Type} (e:α->Dt):Prop where
 f:∀a,MA (e a)=true
instance:EG eI:=⟨λ_=>rfl⟩
instance:EG eB:=⟨λ_=>rfl⟩
instance:EG eS:=⟨λ_=>rfl⟩
end
structure AR {γ:Type} (cA:γ->List Bx->Prop) (fs:Ev->Option (List Bx)) (ρ:Ev) where
 v:γ
 D:Option Prop
 bs:List Bx
 h:cA v bs
 ok:hold D->fs ρ=some bs
section
variable{ε σ:Type}{fd:Ev->Y Bx}{p:Ev->Y Bool}{fs:Ev->Y (O Bx)}{e:α->Dt}{e':β->Dt}{e'':γ->Dt}{e3:δ->Dt}
def aN:Unit->O Bx->Prop:=λ_ bs=>bs=[]
def aZ(e:α->Dt)(t:γ->O Bx->Prop):α×γ->O Bx->Prop:=λx bs=>∃r,bs=.z (e x.1)::r/\t x.2 r
def aL(e:α->Dt)(t:γ->O Bx->Prop):O α×γ->O Bx->Prop:=λx bs=>∃b r,bs=b::r/\sE b=Z (x.1.map e)/\t x.2 r
def bx:AR aN aH ρ:=⟨db,X9,[],rfl,λ_=>X2⟩
def bM{t:γ->O Bx->Prop}(a:R fa ρ (zE e))(r:AR t fs ρ):AR (aZ e t) (aq fa fs) ρ:=⟨(a.v,r.v),bA a.D r.D,_,⟨_,rfl,r.h⟩,λh=>by
 obtain⟨h1,h2⟩:=aC h;simp only[aq,a.ok h1,r.ok h2,At]⟩
def uG{t:γ->O Bx->Prop}(a:RL fa ρ e)(r:AR t fs ρ):AR (aL e t) (aq fa fs) ρ:=⟨(a.v,r.v),bA a.D r.D,_,⟨_,_,rfl,a.lk,r.h⟩,λh=>by
 obtain⟨h1,h2⟩:=aC h;simp only[aq,a.ok h1,r.ok h2,At]⟩
def An{d:γ->O Bx->Prop}{c:α->Bx}{T:γ->α}{b:γ->Y Prop}(S:∀v bs,d v bs->bs.length=n/\(hold (b v)->F (bs.map lend)=Z (c (T v))))(a:AR d fs ρ):R (bN n F fs) ρ c:=⟨T a.v,bA a.D (b a.v),λh=>by
 obtain⟨h1,h2⟩:=aC h;obtain⟨e,f⟩:=S a.v a.bs a.h;simp only[bN,a.ok h1,At,zl e,f h2]⟩
theorem rf{bs:O Bx}{c:α->Bx}(x:R g (bs.map Z++ba (n-bs.length) X9) (λr=>Ap.rt (c r)))(h:hold x.D):cL n g bs=Z (c x.v):=by
 unfold cL;rw[x.ok h];rfl
def FC(xs:O α)(P:α->Y Prop):Y Prop:=Z (∀x∈xs,hold (P x))
theorem Dp{fs:Ev->Y (O Dt)}{b:Ev}{g:α->O Dt}{π:α->Bool}:∀xs:O α,(∀x∈xs,∃a,gt (e x) b=Z a/\p a=Z (π x)/\(π x=true->fs a=Z (g x)))->Fq gt p fs b (xs.map e)=Z ((xs.filter π).flatMap g)
 |[],_=>rfl
 |x::xs,h=>by
  obtain⟨a,h1,h2,d⟩:=h x (zh ..);have c:=Dp (g:=g) (π:=π) xs λy f=>h y (zi _ f);cases hp:π x with
  |true=>simp only[zk,Fq,h1,At,h2,hp,QQ,d hp,c,qS,Ya]
  |false=>simp only[zk,Fq,h1,At,h2,hp,c,qS,zI,qh]
theorem UG{g:α->β}:∀xs:O α,xs.flatMap (λx=>[e' (g x)])=(xs.map g).map e'
 |[]=>rfl
 |x::xs=>by rw[Ya,UG xs];rfl
theorem Dq{b:Ev}{g:α->β}{π:α->Bool}(xs:O α)(h:∀x∈xs,∃a,gt (e x) b=Z a/\p a=Z (π x)/\(π x=true->fe a=Z (.z (e' (g x))))):G4 gt p fe b (xs.map e)=Z (((xs.filter π).map g).map e'):=by
 rw[<-UG];exact Dp xs λx hx=>let ⟨a,h1,h2,h3⟩:=h x hx;⟨a,h1,h2,λhp=>by rw[h3 hp];rfl⟩
theorem C8{b:Ev}{g:α->β}(xs:O α)(h:∀x∈xs,∃a,gt (e x) b=Z a/\fe a=Z (.z (e' (g x)))):G4 gt uF fe b (xs.map e)=Z ((xs.map g).map e'):=
 (Dq (π:=λ_=>true) xs λx hx=>let ⟨a,h1,h2⟩:=h x hx;⟨a,h1,rfl,λ_=>h2⟩).trans (by rw[ez.mpr λ_ _=>X2])
def yQ(it:R fi ρ (iE e))(a:α->Ev)(d:∀x,gt (e x) (gB is ρ++ba n X9)=Z (a x))(b:∀x,R fe (a x) (zE e')):R (dY fi gt uF fe is n) ρ (oE e'):=⟨it.v.map λx=>(b x).v,bA (bA it.D (Z (it.v.length<=100000))) (FC it.v λx=>(b x).D),λh=>by
 obtain⟨h,c⟩:=aC h;obtain⟨h1,h2⟩:=aC h;have c:∀x∈it.v,hold (b x).D:=c;simp only[dY,it.ok h1,At,zg,zl (show it.v.length<=100000 from h2),C8 it.v λx hx=>⟨a x,d x,(b x).ok (c x hx)⟩]⟩
def Dr(it:R fi ρ (iE e))(a:α->Ev)(c:∀x,gt (e x) (gB is ρ++ba n X9)=Z (a x))(b:∀x,R fe (a x) (zE e'))(d:∀x,(b x).D=X9):R (dY fi gt uF fe is n) ρ (oE e'):=⟨it.v.map λx=>(b x).v,bA it.D (Z (it.v.length<=100000)),λh=>by
 obtain⟨h1,h2⟩:=aC h;simp only[dY,it.ok h1,At,zg,zl (show it.v.length<=100000 from h2),C8 it.v λx hx=>⟨a x,c x,(b x).ok (by rw[d x];trivial)⟩]⟩
def mZ(it:R fi ρ (iE e))(a:α->Ev)(d:∀x,gt (e x) (gB is ρ++ba n X9)=Z (a x))(t:∀x,R p (a x) tE)(b:∀x,R fe (a x) (zE e')):R (dY fi gt p fe is n) ρ (oE e'):=⟨(it.v.filter λx=>(t x).v).map λx=>(b x).v,bA (bA it.D (Z (it.v.length<=100000))) (FC it.v λx=>bA (t x).D (Ih ((t x).v=true) (b x).D)),λh=>by
 obtain⟨h,c⟩:=aC h;obtain⟨h1,h2⟩:=aC h;have c:∀x∈it.v,hold (bA (t x).D (Ih ((t x).v=true) (b x).D)):=c;simp only[dY,it.ok h1,At,zg,zl (show it.v.length<=100000 from h2),Dq it.v λx hx=>⟨a x,d x,(t x).ok (aC (c x hx)).1,λf=>(b x).ok (mX (aC (c x hx)).2 f)⟩]⟩
def a0(it:R fi ρ (iE e))(a:α->Ev)(c:∀x,gt (e x) (gB is ρ++ba n X9)=Z (a x))(t:∀x,R p (a x) tE)(b:∀x,R fe (a x) (zE e'))(d:∀x,(t x).D=X9)(f:∀x,(b x).D=X9):R (dY fi gt p fe is n) ρ (oE e'):=⟨(it.v.filter λx=>(t x).v).map λx=>(b x).v,bA it.D (Z (it.v.length<=100000)),λh=>by
 obtain⟨h1,h2⟩:=aC h;simp only[dY,it.ok h1,At,zg,zl (show it.v.length<=100000 from h2),Dq it.v λx hx=>⟨a x,c x,(t x).ok (by rw[d x];trivial),λ_=>(b x).ok (by rw[f x];trivial)⟩]⟩
def BK(a:RL fa ρ e):R (Ig fa) ρ (iE e):=⟨a.v,a.D,λh=>by
 have:HR a.b=Z (a.v.map e):=by
  have:=a.lk
  revert this
  generalize a.b=b;generalize a.v.map e=ds;intro this;cases b with
  |z d=>cases d<;>cases this;rfl
  |l d=>cases this;rfl
  |o d=>cases this;rfl
  |n d=>cases this
  |m d _=>cases this
 simp only[Ig,a.ok h,At,this]⟩
def Xb(a:R fa ρ (zE (eT e))):R (Ig fa) ρ (iE e):=⟨a.v,a.D,λh=>by simp only[Ig,a.ok h,At,HR]⟩
def GY(a:R fa ρ (oE e)):R (D6 fa) ρ (iE e):=⟨a.v,a.D,λh=>by simp only[D6,a.ok h,At,Fn]⟩
def Sl(a:R fa ρ (zE (eT e))):R (D6 fa) ρ (iE e):=⟨a.v,a.D,λh=>by simp only[D6,a.ok h,At,Fn]⟩
def rng(i:Int)(n:Nat):O Int:=(dg n).map λk:Nat=>i+(k:Int)
theorem Zk(i:Int)(n:Nat):QL i n=(rng i n).map eI:=by
 unfold QL rng;rw[ZU];rfl
def Rg(j:Int):Prop:=-4611686018427387904<=j/\j<4611686018427387904
def Hl(a:R fa ρ (zE eI)):R (Wg (aq fa aH)) ρ (iE eI):=⟨rng 0 a.v.toNat,bA a.D (Z (Rg a.v)),λh=>by
 obtain⟨h,b⟩:=aC h;simp only[Wg,aq,aH,a.ok h,At];show(if -(2 ^ 62)<=a.v/\a.v<2 ^ 62 then Z (QL 0 a.v.toNat)else X9)=_;exact(zl b).trans (by rw[Zk])⟩
def dE(n:Int)(m:Nat)(b:n.toNat=m)(a:Rg n):R (Wg (aq (cB (.int n)) aH)) ρ (iE eI):=⟨rng 0 m,X9,λ_=>by
 simp only[Wg,aq,aH,At,cB];show(if -(2 ^ 62)<=n/\n<2 ^ 62 then Z (QL 0 n.toNat)else X9)=_;exact(zl a).trans (by rw[Zk,b])⟩
end
section
variable{ε σ:Type}{fd:Ev->Y Bx}{p:Ev->Y Bool}{fs:Ev->Y (O Bx)}{e:α->Dt}{e':β->Dt}{k:Ev->Y Ap}{cO:γ->Ap}
theorem m5{ρ':Ev}(h:g1 ρ=Z (.nx ρ')):aF g1 k ρ=k ρ':=by
 unfold aF;rw[h];rfl
def bI(x:R (aF g (aF g1 k)) ρ cO):R (aF (aF g g1) k) ρ cO:=⟨x.v,x.D,λh=>by
 rw[<-x.ok h];unfold aF;cases g ρ with
 |none=>rfl
 |some o=>cases o<;>rfl⟩
def bW(x:R k ρ cO):R (aF cZ k) ρ cO:=⟨x.v,x.D,λh=>x.ok h⟩
def bR(x:γ)(h:cO x=.nx (kill is ρ)):R (c7 is) ρ cO:=⟨x,X9,λ_=>by rw[h];rfl⟩
def bZ{c:α->Bx}(inj:α->γ)(a:R f ρ c)(h:∀x,cO (inj x)=.rt (c x))(b:∀x,Fk (c x)=Z (.rt (c x))):R (aF (dB f) k) ρ cO:=⟨inj a.v,a.D,λhd=>by
 have:dB f ρ=Z (.rt (c a.v)):=by unfold dB;rw[a.ok hd,At,b]
 unfold aF;rw[this,h];rfl⟩
def Rr{c:α->Bx}(i:Nat)(inj:α->γ)(a:α)(hi:ρ[i]?=Z (Z (c a)))(h:∀x,cO (inj x)=.rt (c x))(b:∀x,Fk (c x)=Z (.rt (c x))):R (aF (JL i) k) ρ cO:=⟨inj a,X9,λhd=>by
 have:JL i ρ=Z (.rt (c a)):=by unfold JL;rw[hi];exact b a
 unfold aF;rw[this,h];rfl⟩
def bU{c:α->Bx}(i:Nat)(a:R f ρ c)(b:∀x,TX ρ i (c x)=Z (ρ.set i (Z (c x))))(K:∀x,R k (ρ.set i (Z (c x))) cO):R (aF (B0 i f) k) ρ cO:=⟨(K a.v).v,bA a.D (K a.v).D,λhd=>by
 obtain⟨h1,h2⟩:=aC hd;rw[m5 (ρ':=ρ.set i (Z (c a.v))) (by unfold B0;rw[a.ok h1,At,b,At])];exact(K a.v).ok h2⟩
def LX(a:R f ρ (zE e))(b:α->Ev)(c:∀x,gt (e x) ρ=Z (b x))(K:∀x,R k (b x) cO):R (aF (GS gt f) k) ρ cO:=⟨(K a.v).v,bA a.D (K a.v).D,λhd=>by
 obtain⟨h1,h2⟩:=aC hd;rw[m5 (ρ':=b a.v) (by unfold GS;rw[a.ok h1,At];simp only[c,At])];exact(K a.v).ok h2⟩
def me(i j:Nat)(a:R fa ρ (zE e))(b:R fb ρ (zE e'))(K:∀x y,R k ((ρ.set i (Z (.z (e x)))).set j (Z (.z (e' y)))) cO):R (aF (MS i j (aq fa (aq fb aH))) k) ρ cO:=⟨(K a.v b.v).v,bA (bA a.D b.D) (K a.v b.v).D,λhd=>by
 obtain⟨h1,c⟩:=aC hd;obtain⟨h1,h2⟩:=aC h1;rw[m5 (ρ':=(ρ.set i (Z (.z (e a.v)))).set j (Z (.z (e' b.v)))) (by unfold MS;simp only[aq,aH,a.ok h1,b.ok h2,At,HK])];exact(K a.v b.v).ok c⟩
def yR(i:Nat)(xs:O α)(hi:ρ[i]?=Z (Z (.o (xs.map e))))(a:R f ρ (zE e))(K:∀ys:O α,R k (ρ.set i (Z (.o (ys.map e)))) cO):R (aF (FJ i f) k) ρ cO:=⟨(K (xs++[a.v])).v,bA (bA a.D (Z (MK xs.length))) (K (xs++[a.v])).D,λhd=>by
 obtain⟨h1,b⟩:=aC hd;obtain⟨h1,h2⟩:=aC h1;have h2:xs.length<=1000000:=h2;rw[m5 (ρ':=ρ.set i (Z (.o ((xs++[a.v]).map e)))) (by
  unfold FJ;rw[a.ok h1,At];simp only[HZ,hi,zg,qc,zk,kF];rw[zl (kc h2 ())])]
 exact(K _).ok b⟩
def kY(t:R p ρ tE)(a:R (aF g1 k) ρ cO)(b:R (aF g2 k) ρ cO):R (aF (xX p g1 g2) k) ρ cO:=⟨if t.v=true then a.v else b.v,bA t.D (bA (Ih (t.v=true) a.D) (Ih (t.v=false) b.D)),λhd=>by
 obtain⟨h1,h2⟩:=aC hd;obtain⟨h2,e⟩:=aC h2;have e1:∀c,t.v=c->aF (xX p g1 g2) k ρ=aF (if c=true then g1 else g2) k ρ:=λc d=>by
  unfold aF xX;rw[t.ok h1,At,d];cases c<;>rfl
 cases hv:t.v with
 |true=>rw[e1 true hv];simp only[QQ];exact a.ok (mX h2 hv)
 |false=>rw[e1 false hv];simp only[zI,qh];exact b.ok (mX e hv)⟩
def Az(E:σ->Ev)(t:R p ρ tE)(a:R g1 ρ (λs=>Ap.nx (E s)))(b:R g2 ρ (λs=>Ap.nx (E s)))(K:∀s,R k (E s) cO):R (aF (xX p g1 g2) k) ρ cO:=⟨(K (if t.v=true then a.v else b.v)).v,bA (bA t.D (bA (Ih (t.v=true) a.D) (Ih (t.v=false) b.D))) (K (if t.v=true then a.v else b.v)).D,λhd=>by
 obtain⟨h,d⟩:=aC hd;obtain⟨h1,h2⟩:=aC h;obtain⟨h2,c⟩:=aC h2;rw[m5 (ρ':=E (if t.v=true then a.v else b.v)) (by
  unfold xX;rw[t.ok h1,At];cases hv:t.v with
  |true=>simp only[QQ];exact a.ok (mX h2 hv)
  |false=>simp only[zI,qh];exact b.ok (mX c hv))]
 exact(K _).ok d⟩
def sJ(step:σ->α->σ)(P:σ->α->Y Prop):O α->σ->Prop
 |[],_=>True
 |x::xs,s=>hold (P s x)/\sJ step P xs (step s x)
theorem Du{gb:Ev->Y Ap}(E:σ->Ev)(a:σ->α->Ev)(b:∀s x,gt (e x) (E s)=Z (a s x))(body:∀s x,R gb (a s x) (λs=>Ap.nx (E s))):∀(xs:O α) (s:σ),sJ (λs x=>(body s x).v) (λs x=>(body s x).D) xs s->yx gt gb (xs.map e) (E s)=Z (.nx (E (xs.foldl (λs x=>(body s x).v) s)))
 |[],s,_=>rfl
 |x::xs,s,h=>by
  simp only[zk,yx,b,At,(body s x).ok h.1,Q4];exact Du E a b body xs _ h.2
def Ho(E:σ->Ev)(s0:σ)(d:ρ=E s0)(it:R fi ρ (iE e))(a:σ->α->Ev)(b:∀s x,gt (e x) (E s)=Z (a s x))(body:∀s x,R gb (a s x) (λs=>Ap.nx (E s)))(K:∀s,R k (E s) cO):R (aF (rC fi gt gb) k) ρ cO:=⟨(K (it.v.foldl (λs x=>(body s x).v) s0)).v,bA (bA it.D (Z (sJ (λs x=>(body s x).v) (λs x=>(body s x).D) it.v s0))) (K (it.v.foldl (λs x=>(body s x).v) s0)).D,λhd=>by
 obtain⟨h,c⟩:=aC hd;obtain⟨h1,h2⟩:=aC h;rw[m5 (ρ':=E (it.v.foldl (λs x=>(body s x).v) s0)) (by
  unfold rC;rw[it.ok h1,At];subst d;exact Du E a b body it.v s0 h2)]
 exact(K _).ok c⟩
def UN(E:σ->Ev)(s0:σ)(b:ρ=E s0)(it:R fi ρ (iE e))(a:σ->α->Ev)(f:∀s x,gt (e x) (E s)=Z (a s x))(body:∀s x,R gb (a s x) (λs=>Ap.nx (E s)))(g:∀s x,(body s x).D=X9)(K:∀s,R k (E s) cO):R (aF (rC fi gt gb) k) ρ cO:=⟨(K (it.v.foldl (λs x=>(body s x).v) s0)).v,bA it.D (K (it.v.foldl (λs x=>(body s x).v) s0)).D,λhd=>by
 obtain⟨h1,d⟩:=aC hd;have h2:∀(xs:O α) (s:σ),sJ (λs x=>(body s x).v) (λs x=>(body s x).D) xs s:=λxs=>by
  induction xs with
  |nil=>intro s;trivial
  |cons x xs c=>intro s;exact⟨by show hold (body s x).D;rw[g s x];trivial,c _⟩
 rw[m5 (ρ':=E (it.v.foldl (λs x=>(body s x).v) s0)) (by
  unfold rC;rw[it.ok h1,At];subst b;exact Du E a f body it.v s0 (h2 _ _))]
 exact(K _).ok d⟩
inductive nY (σ τ:Type) where
 |nx (s:σ)|rt (r:τ)|bk (s:σ)|ct (s:σ)
def cC(E:σ->Ev)(c:τ->Bx):nY σ τ->Ap
 |.nx s=>.nx (E s)
 |.rt r=>.rt (c r)
 |.bk s=>.bk (E s)
 |.ct s=>.ct (E s)
def lB(step:σ->α->nY σ τ):O α->σ->nY σ τ
 |[],s=>.nx s
 |x::xs,s=>match step s x with
  |.nx s'=>lB step xs s'
  |.ct s'=>lB step xs s'
  |.bk s'=>.nx s'
  |.rt r=>.rt r
def rG(step:σ->α->nY σ τ)(P:σ->α->Y Prop):O α->σ->Prop
 |[],_=>True
 |x::xs,s=>hold (P s x)/\match step s x with
  |.nx s'=>rG step P xs s'
  |.ct s'=>rG step P xs s'
  |.bk _=>True
  |.rt _=>True
theorem Jl{c:τ->Bx}(E:σ->Ev)(a:σ->α->Ev)(b:∀s x,gt (e x) (E s)=Z (a s x))(body:∀s x,R gb (a s x) (cC E c)):∀(xs:O α) (s:σ),rG (λs x=>(body s x).v) (λs x=>(body s x).D) xs s->yx gt gb (xs.map e) (E s)=Z (cC E c (lB (λs x=>(body s x).v) xs s))
 |[],s,_=>rfl
 |x::xs,s,h=>by
  obtain⟨h1,h2⟩:=h;dsimp only at h2;simp only[zk,yx,b,At,(body s x).ok h1,lB]
  revert h2
  cases(body s x).v with
  |nx s'=>intro h2;exact Jl E a b body xs s' h2
  |ct s'=>intro h2;exact Jl E a b body xs s' h2
  |bk s'=>intro _;rfl
  |rt r=>intro _;rfl
theorem Dv(step:σ->α->nY σ τ):∀(xs:O α) (s:σ),(∃s',lB step xs s=.nx s')\/∃r,lB step xs s=.rt r
 |[],s=>.inl ⟨s,rfl⟩
 |x::xs,s=>by
  unfold lB;cases step s x with
  |nx s'=>exact Dv step xs s'
  |ct s'=>exact Dv step xs s'
  |bk s'=>exact .inl ⟨s',rfl⟩
  |rt r=>exact .inr ⟨r,rfl⟩
def BN(r:nY σ τ)(inj:τ->γ)(K:σ->γ):γ:=match r with
 |.rt r=>inj r
 |.nx s=>K s
 |.bk s=>K s
 |.ct s=>K s
def sU(r:nY σ τ)(K:σ->Prop):Prop:=match r with
 |.rt _=>True
 |.nx s=>K s
 |.bk s=>K s
 |.ct s=>K s
def Zm(r:nY σ τ)(K:σ->Y Prop):Y Prop:=Z (sU r λs=>hold (K s))
def Ru{c:τ->Bx}(E:σ->Ev)(s0:σ)(f:ρ=E s0)(it:R fi ρ (iE e))(a:σ->α->Ev)(g:∀s x,gt (e x) (E s)=Z (a s x))(body:∀s x,R gb (a s x) (cC E c))(inj:τ->γ)(d:∀r,cO (inj r)=.rt (c r))(K:∀s,R k (E s) cO):R (aF (rC fi gt gb) k) ρ cO:=⟨BN (lB (λs x=>(body s x).v) it.v s0) inj λs=>(K s).v,bA (bA it.D (Z (rG (λs x=>(body s x).v) (λs x=>(body s x).D) it.v s0))) (Zm (lB (λs x=>(body s x).v) it.v s0) λs=>(K s).D),λhd=>by
 obtain⟨h,b⟩:=aC hd;obtain⟨h1,h2⟩:=aC h;have e1:rC fi gt gb ρ=Z (cC E c (lB (λs x=>(body s x).v) it.v s0)):=by
  unfold rC;rw[it.ok h1,At];subst f;exact Jl E a g body it.v s0 h2
 rcases Dv (λs x=>(body s x).v) it.v s0 with⟨s',es⟩|⟨r,es⟩
 ·rw[es]at e1 b ⊢;rw[m5 e1];exact(K s').ok b
 ·rw[es]at e1 ⊢;show aF (rC fi gt gb) k ρ=Z (cO (inj r));unfold aF;rw[e1,d];rfl⟩
theorem KD(h:ρ[i]?=Z (Z (.z (.tup ds)))):Bu i gt gb ρ=yx gt gb ds ρ:=by unfold Bu;rw[h];rfl
def Xc(i:Nat){ρ':Ev}(xs:O α)(hv:Bu i gt gb ρ=yx gt gb (xs.map e) ρ')(E:σ->Ev)(s0:σ)(d:ρ'=E s0)(a:σ->α->Ev)(b:∀s x,gt (e x) (E s)=Z (a s x))(body:∀s x,R gb (a s x) (λs=>Ap.nx (E s)))(K:∀s,R k (E s) cO):R (aF (Bu i gt gb) k) ρ cO:=⟨(K (xs.foldl (λs x=>(body s x).v) s0)).v,bA (Z (sJ (λs x=>(body s x).v) (λs x=>(body s x).D) xs s0)) (K (xs.foldl (λs x=>(body s x).v) s0)).D,λhd=>by
 obtain⟨h2,c⟩:=aC hd;rw[m5 (ρ':=E (xs.foldl (λs x=>(body s x).v) s0)) (by
  rw[hv,d];exact Du E a b body xs s0 h2)]
 exact(K _).ok c⟩
def Zn{c:τ->Bx}(i:Nat){ρ':Ev}(xs:O α)(hv:Bu i gt gb ρ=yx gt gb (xs.map e) ρ')(E:σ->Ev)(s0:σ)(f:ρ'=E s0)(a:σ->α->Ev)(g:∀s x,gt (e x) (E s)=Z (a s x))(body:∀s x,R gb (a s x) (cC E c))(inj:τ->γ)(d:∀r,cO (inj r)=.rt (c r))(K:∀s,R k (E s) cO):R (aF (Bu i gt gb) k) ρ cO:=⟨BN (lB (λs x=>(body s x).v) xs s0) inj λs=>(K s).v,bA (Z (rG (λs x=>(body s x).v) (λs x=>(body s x).D) xs s0)) (Zm (lB (λs x=>(body s x).v) xs s0) λs=>(K s).D),λhd=>by
 obtain⟨h2,b⟩:=aC hd;have e1:Bu i gt gb ρ=Z (cC E c (lB (λs x=>(body s x).v) xs s0)):=by
  rw[hv,f];exact Jl E a g body xs s0 h2
 rcases Dv (λs x=>(body s x).v) xs s0 with⟨s',es⟩|⟨r,es⟩
 ·rw[es]at e1 b ⊢;rw[m5 e1];exact(K s').ok b
 ·rw[es]at e1 ⊢;show aF (Bu i gt gb) k ρ=Z (cO (inj r));unfold aF;rw[e1,d];rfl⟩
class Ky {κ:Type} (c:κ->AY):Prop where
 inj:∀a b,c a=c b->a=b
abbrev kS:AJ->AY:=Sum.inr
abbrev kI:Int->AY:=Sum.inl
instance:Ky kS:=⟨λ_ _ h=>by cases h;rfl⟩
instance:Ky kI:=⟨λ_ _ h=>by cases h;rfl⟩
abbrev mE(e:α->Dt):O (AJ×α)->Bx:=λm=>.m (m.map λq=>(kS q.1,e q.2)) X9
abbrev nE(e:α->Dt):O (AJ×α)->Bx:=λm=>.n (m.map λq=>(kS q.1,e q.2))
section
variable [DecidableEq κ] {c:κ->AY}
def look[Inhabited α](m:O (κ×α))(x:κ):α:=((m.find? λq=>decide (q.1=x)).map (·.2)).getD default
def has(m:O (κ×α))(x:κ):Bool:=m.any λq=>decide (q.1=x)
def put(m:O (κ×α))(x:κ)(a:α):O (κ×α):=if has m x=true then m.map (λq=>if q.1=x then(q.1,a)else q)else m++[(x,a)]
theorem MW[Ky c](a b:κ):decide (c a=c b)=decide (a=b):=by
 by_cases h:a=b
 ·rw[h];simp
 ·rw[z4 h,z4 λz=>h (Ky.inj (c:=c) _ _ z)]
theorem rh[Ky c](m:O (κ×α))(x:κ):J6 (m.map λq=>(c q.1,e q.2)) (c x)=((m.find? λq=>decide (q.1=x)).map (·.2)).map e:=by
 unfold J6;rw[List.find?_map];simp only[Option.map_map,Function.comp_def,MW]
theorem gh[Ky c][Inhabited α]{m:O (κ×α)}{x:κ}(h:has m x=true):J6 (m.map λq=>(c q.1,e q.2)) (c x)=Z (e (look m x)):=by
 rw[rh];unfold look;unfold has at h;rw[xE]at h;obtain⟨q,a,hx⟩:=h;cases b:m.find? λq=>decide (q.1=x)with
 |none=>exact absurd hx (by simpa using dI.mp b q a)
 |some q=>rfl
theorem Zo[Ky c](m:O (κ×α))(x:κ)(a:α):Q0 (m.map λq=>(c q.1,e q.2)) (c x) (e a)=(put m x a).map λq=>(c q.1,e q.2):=by
 unfold Q0 put has;rw[List.any_map];simp only[Function.comp_def,MW];by_cases h:(m.any λq=>decide (q.1=x))=true
 ·rw[zl h,zl h];rw[ZU,ZU];refine Q1 λq _=>?_;simp only[Function.comp];by_cases b:q.1=x
  ·simp[b]
  ·have h':¬ c q.1=c x:=λz=>b (Ky.inj (c:=c) _ _ z);simp[b,h']
 ·rw[zv h,zv h];simp
end
theorem UJ:∀m:O (AJ×α),EZ (m.map λq=>(kS q.1,e q.2))=Z (m.map (·.1))
 |[]=>rfl
 |q::m=>by rw[zk,EZ,UJ m,At];rfl
def lZ[Inhabited α](a:R fa ρ (nE e))(b:R fb ρ (zE eS)):R (b2 mD fa fb) ρ (zE e):=⟨look a.v b.v,bA (bA a.D b.D) (Z (has a.v b.v=true)),λh=>by
 obtain⟨h,d⟩:=aC h;obtain⟨h1,h2⟩:=aC h;simp only[b2,a.ok h1,b.ok h2,At,mD,D7,gh (c:=kS) (show has a.v b.v=true from d)]⟩
def rS(e:α->Dt):R (λ_=>Z (.m [] X9)) ρ (mE e):=⟨[],X9,λ_=>X2⟩
end
section
variable{fs:Ev->Y AZ}{e:α->Dt}
theorem Zq{b:Bx}(h:sE b=Z ds):vX b=Z ds:=by
 cases b with
 |z d=>cases d<;>first|exact h|(cases h;done)
 |l _=>exact h
 |o _=>exact h
 |n _=>cases h
 |m _ _=>cases h
theorem Po(n:Nat):∃m,m=n:=⟨n,rfl⟩
noncomputable def kN(n:Nat):Nat:=Classical.choose (Po n)
theorem SO(n:Nat):kN n=n:=Classical.choose_spec (Po n)
noncomputable def UM(n:Int)(m:Nat)(b:n.toNat=m)(a:Rg n):R (Wg (aq (cB (.int n)) aH)) ρ (iE eI):=⟨rng 0 (kN m),X9,λh=>by rw[SO];exact(dE n m b a).ok h⟩
end
end P1
namespace P1
open L2 S1 S6
class sV {α:Type} (e:α->Dt) where
 k:α->AY
 ok:∀a,IN (e a)=some (k a)
 inj:∀a b,k a=k b->a=b
 same:∀a b,Oz (k a) (k b)=true
instance:sV eI:=⟨λi=>.inl i,λ_=>rfl,λa b h=>by cases h;rfl,λ_ _=>rfl⟩
instance:sV eS:=⟨λi=>.inr i,λ_=>rfl,λa b h=>by cases h;rfl,λ_ _=>rfl⟩
class jr {α:Type} (e:α->Dt) where
 k:α->List AY
 ok:∀a,Ax (e a)=some (k a)
 inj:∀a b,k a=k b->a=b
 shp:∀a b,MF (k a) (k b)=true
 ne:∀a,(k a).isEmpty=false
class MU {α:Type} (e:α->Dt) [jr e]:Prop where
 tx:∀a,IE (jr.k e a)=true
section
variable{e:α->Dt}{e':β->Dt}{e'':γ->Dt}{e3:δ->Dt}
instance [sV e] [sV e']:jr (sI e e'):=⟨λq=>[sV.k e q.1,sV.k e' q.2],λq=>by simp only[Ax,O2,sV.ok,At],λa b h=>by
 simp only[ja,and_true]at h;exact xk (sV.inj _ _ h.1) (sV.inj _ _ h.2),λa b=>by simp[MF,sV.same],λ_=>rfl⟩
instance [sV e] [sV e'] [sV e'']:jr (D3 e e' e''):=⟨λq=>[sV.k e q.1,sV.k e' q.2.1,sV.k e'' q.2.2],λq=>by simp only[Ax,O2,sV.ok,At],λa b h=>by
 simp only[ja,and_true]at h;exact xk (sV.inj _ _ h.1) (xk (sV.inj _ _ h.2.1) (sV.inj _ _ h.2.2)),λa b=>by simp[MF,sV.same],λ_=>rfl⟩
instance [sV e] [sV e'] [sV e''] [sV e3]:jr (F3 e e' e'' e3):=⟨λq=>[sV.k e q.1,sV.k e' q.2.1,sV.k e'' q.2.2.1,sV.k e3 q.2.2.2],λq=>by simp only[Ax,O2,sV.ok,At],λa b h=>by
 simp only[ja,and_true]at h;exact xk (sV.inj _ _ h.1) (xk (sV.inj _ _ h.2.1) (xk (sV.inj _ _ h.2.2.1) (sV.inj _ _ h.2.2.2))),λa b=>by simp[MF,sV.same],λ_=>rfl⟩
instance [sV e]:MU (sI e eS):=⟨λa=>by simp[jr.k,IE,sV.k]⟩
instance [sV e] [sV e']:MU (D3 e eS e'):=⟨λa=>by simp[jr.k,IE,sV.k]⟩
instance [sV e] [sV e'] [sV e'']:MU (F3 e eS e' e''):=⟨λa=>by simp[jr.k,IE,sV.k]⟩
variable{fs:Ev->Y (O (O AY))}
theorem nZ[jr e]:∀xs:O α,yO (xs.map e)=Z (xs.map (jr.k e))
 |[]=>rfl
 |x::xs=>by simp only[zk,yO,jr.ok,At,nZ xs]
def Rv(e:α->Dt)[jr e](a b:α):Bool:=qu (jr.k e a) (jr.k e b)
def Ao(e:α->Dt)[jr e](a b:α):Bool:=eZ (jr.k e a) (jr.k e b)
def Px(e:α->Dt)[jr e](xs:O α):O α:=xs.mergeSort (Rv e)
theorem KH[jr e](xs:O α):(Px e xs).Perm xs:=JP ..
theorem Xd[jr e](xs:O α):(Px e xs).Pairwise (λa b=>Rv e a b=true):=kB (le:=Rv e) (λa b c=>iI (jr.k e a) (jr.k e b) (jr.k e c)) (λa b=>rE (jr.k e a) (jr.k e b)) xs
theorem aE[jr e]{a b:α}(h:Rv e a b=true)(h':Rv e b a=true):a=b:=jr.inj _ _ (zP h h')
theorem XG[jr e](xs:O α):BJ (xs.map (jr.k e))=(Px e xs).map (jr.k e):=by
 refine(OD ((KH xs).map _) (dd.mpr (Xd xs))).symm
theorem ag[jr e](xs:O α):(xs.map (jr.k e)).map BO=xs.map e:=by
 rw[ZU];exact Q1 λa _=>(u0 (jr.ok a)).symm
end
end P1
namespace P1
open L2
section
variable{fd fk:Ev->Y Bx}{fs:Ev->Y (O Bx)}{e:α->Dt}{e':β->Dt}{k:Ev->Y Ap}{cO:γ->Ap}{p:Ev->Y Bool}
abbrev mW(w:Y A1)(e:α->Dt):O (AJ×α)->Bx:=λm=>.m (m.map λq=>(kS q.1,e q.2)) w
def aM(e:α->Dt)(t:γ->O Bx->Prop):O (AJ×α)×γ->O Bx->Prop:=λx bs=>∃b r,bs=b::r/\(b=nE e x.1\/b=mE e x.1)/\t x.2 r
def Xe{t:γ->O Bx->Prop}(a:R fa ρ (nE e))(r:AR t fs ρ):AR (aM e t) (aq fa fs) ρ:=⟨(a.v,r.v),bA a.D r.D,_,⟨_,_,rfl,.inl rfl,r.h⟩,λh=>by
 obtain⟨h1,h2⟩:=aC h;simp only[aq,a.ok h1,r.ok h2,At]⟩
def dA{t:γ->O Bx->Prop}(a:R fa ρ (mE e))(r:AR t fs ρ):AR (aM e t) (aq fa fs) ρ:=⟨(a.v,r.v),bA a.D r.D,_,⟨_,_,rfl,.inr rfl,r.h⟩,λh=>by
 obtain⟨h1,h2⟩:=aC h;simp only[aq,a.ok h1,r.ok h2,At]⟩
def Zr(w:Y A1)(i:Nat)(m:O (AJ×α))(hi:ρ[i]?=Z (Z (mW w e m)))(a:R fa ρ (zE e))(b:R fb ρ (zE eS))(K:∀c:O (AJ×α),R k (ρ.set i (Z (mW w e c))) cO):R (aF (YL i fa fb) k) ρ cO:=⟨(K (put m b.v a.v)).v,bA (bA (bA a.D b.D) (Z (m.length<1000))) (K (put m b.v a.v)).D,λhd=>by
 obtain⟨h,f⟩:=aC hd;obtain⟨h,d⟩:=aC h;obtain⟨h1,h2⟩:=aC h;rw[m5 (ρ':=ρ.set i (Z (mW w e (put m b.v a.v)))) (by
  unfold YL;rw[a.ok h1,At,b.ok h2,At];simp only[Ug,D7,At,hi,mW,zg,zl (show m.length<1000 from d),Zo])]
 exact(K _).ok f⟩
def Fs(a:O (AJ×β)):O (AJ×β):=a.foldl (λm q=>put m q.1 q.2) []
theorem Xf(a:O (AJ×β)):dictOf (a.map (sI eS e'))=(Fs a).map λq=>(kS q.1,e' q.2):=by
 unfold dictOf Fs;have:∀(a:O (AJ×β)) (m:O (AJ×β)),(a.map (sI eS e')).foldl LY (m.map λq=>(kS q.1,e' q.2))=(a.foldl (λm q=>put m q.1 q.2) m).map λq=>(kS q.1,e' q.2):=by
  intro a
  induction a with
  |nil=>intro m;rfl
  |cons q a b=>
   intro m;rw[zk,Q4,Q4];show(a.map (sI eS e')).foldl LY (Q0 (m.map λq=>(kS q.1,e' q.2)) (kS q.1) (e' q.2))=_;rw[Zo (c:=kS)];exact b _
 exact this a []
def WV(a:R fk ρ (zE eS))(b:R fv ρ (zE e)):R (b2 Kd fk fv) ρ (zE (sI eS e)):=⟨(a.v,b.v),bA a.D b.D,λh=>by
 obtain⟨h1,h2⟩:=aC h;simp only[b2,a.ok h1,b.ok h2,At,Kd]⟩
def fR(i:R fi ρ (iE e))(a:R (dY fi gt p (b2 Kd fk fv) is n) ρ (oE (sI eS e'))):R (Y8 fi gt p fk fv is n) ρ (mE e'):=⟨Fs a.v,bA (bA i.D (Z (i.v.length<1000))) a.D,λh=>by
 obtain⟨h,c⟩:=aC h;obtain⟨h1,h2⟩:=aC h;have h2:i.v.length<1000:=h2;have b:=a.ok c;unfold dY at b;unfold Y8;rw[i.ok h1,At]at b ⊢;rw[zl (by rw[zg];omega)]at b;rw[zl (by rw[zg];exact h2)];obtain⟨out,d,b⟩:=AT b;rw[d,At];injection b with b;injection b with b;rw[b,Xf]⟩
def IS(a:R fd ρ (nE e)):R (Pg fd) ρ (iE eS):=⟨a.v.map (·.1),a.D,λh=>by
 simp only[Pg,a.ok h,At,DC,ZU];rfl⟩
def pM(a:R fa ρ (nE e)):R (cN Kh (aq fa aH)) ρ (oE eS):=⟨a.v.map (·.1),a.D,λh=>by
 simp only[cN,aq,aH,a.ok h,At,Kh,UJ]⟩
def hV(a:R fa ρ (zE eS))(b:R fb ρ (zE eS)):R (cN Kg (aq fa (aq fb aH))) ρ (zE eS):=⟨if xZ b.v a.v=true then b.v else a.v,bA a.D b.D,λh=>by
 obtain⟨h1,h2⟩:=aC h;simp only[cN,aq,aH,a.ok h1,b.ok h2,At,Kg];rfl⟩
theorem d5{bs:O Bx}{m:O (AJ×α)}{c:O (AJ×α)->Ev}(x:R g ((mW (Z a) e m::bs).map Z++ba (n-(bs.length+1)) X9) (λb=>Ap.nx (c b)))(h:hold x.D)(h0:∀b,(c b)[0]?=Z (Z (mW (Z a) e b))):Uw n g a (m.map λq=>(kS q.1,e q.2)) bs=Z (x.v.map λq=>(kS q.1,e q.2)):=by
 unfold Uw;rw[x.ok h,At];simp only[h0,QQ]
def R1{b:γ->O Bx->Prop}{cO:δ->Ap}{T:O (AJ×α)->γ->O (AJ×α)}{c:O (AJ×α)->γ->Y Prop}(w:Y A1)(i:Nat)(m:O (AJ×α))(hi:ρ[i]?=Z (Z (mW w e m)))(S:∀m v bs,b v bs->bs.length=n/\bs.all DI=true/\(hold (c m v)->∀a,G a (m.map λq=>(kS q.1,e q.2)) bs=Z ((T m v).map λq=>(kS q.1,e q.2))))(a:AR b fs ρ)(K:∀f:O (AJ×α),R k (ρ.set i (Z (mW w e f))) cO):R (aF (Hi i n G fs) k) ρ cO:=⟨(K (T m a.v)).v,bA (bA a.D (c m a.v)) (K (T m a.v)).D,λhd=>by
 obtain⟨h,g⟩:=aC hd;obtain⟨h1,h2⟩:=aC h;obtain⟨j,l,d⟩:=S m a.v a.bs a.h;rw[m5 (mf hi (a.ok h1) j l (d h2))];exact(K _).ok g⟩
end
section
variable{e:α->Dt}
end
end P1
namespace P1
open L2 S1 S6
section
variable{e:α->Dt}
theorem map_some(e:α->Dt)(xs:O α):(xs.map Z).map (eO e)=xs.map e:=by rw[ZU];rfl
end
end P1
namespace P1
open L2
section
variable{k:Ev->Y Ap}{cO:α->Ap}
def NB(i:Nat)(E:Ev)(a:LS i ρ=Z E)(K:R k E cO):R (EW i k) ρ cO:=⟨K.v,K.D,λh=>by
 unfold EW;rw[a];exact K.ok h⟩
end
section
variable{e:α->Dt}
end
section
variable{σ:Type}{p:Ev->Y Bool}{k:Ev->Y Ap}{cO:γ->Ap}
end
section
variable{e:α->Dt}
def LB(fs:Ev->Y (O Bx)):Ev->Y (O Dt):=λρ=>(fs ρ).bind Ux
def Hq(xs:O α):O (Int×α):=(dg xs.length).zipWith (λ(k:Nat) x=>((k:Int),x)) xs
theorem vF(xs:O α):Hj (xs.map e)=(Hq xs).map (sI eI e):=by
 unfold Hj Hq;rw[zg,jY,qb]
def nX(a:RL fa ρ e):R (LB (aq fa aH)) ρ (iE (sI eI e)):=⟨Hq a.v,a.D,λh=>by
 simp only[LB,aq,aH,a.ok h,At,Ux,a.lk,vF]⟩
end
section
variable{σ:Type}
theorem Jm{step:σ->α->σ}{P:σ->α->Y Prop}(I:Nat->σ->Prop):∀(xs:O α) (m:Nat) (s0:σ),I m s0->(∀k x s,xs[k]?=Z x->I (m+k) s->hold (P s x)/\I (m+k+1) (step s x))->sJ step P xs s0/\I (m+xs.length) (xs.foldl step s0)
 |[],m,s0,h0,_=>⟨trivial,h0⟩
 |x::xs,m,s0,h0,hs=>by
  obtain⟨h1,h2⟩:=hs 0 x s0 X2 h0;have:=Jm I xs (m+1) (step s0 x) h2 λk y s e h=>by
   have:=hs (k+1) y s (by simpa using e) (by rw[show m+(k+1)=m+1+k by omega];exact h);rw[show m+(k+1)+1=m+1+k+1 by omega]at this;exact this
  refine⟨⟨h1,this.1⟩,?_⟩;rw[ZO,show m+(xs.length+1)=m+1+xs.length by omega];exact this.2
theorem ii{i:Int}{k:Nat}{x:Int}(h:(rng i n)[k]?=Z x):x=i+k/\k<n:=by
 unfold rng at h;rw[Zp]at h;cases hk:(dg n)[k]? with
 |none=>rw[hk]at h;cases h
 |some j=>
  rw[hk]at h;have a:k<n:=by simpa using(bc.mp hk).1
  have:j=k:=by
   rw[lr a]at hk;cases hk;rfl
  subst this;cases h;exact⟨rfl,a⟩
theorem sW(i:Int)(n:Nat):(rng i n).length=n:=by unfold rng;simp
theorem rH{step:σ->Int->σ}{P:σ->Int->Y Prop}(I:Nat->σ->Prop)(n:Nat)(s0:σ)(h0:I 0 s0)(hs:∀(k:Nat) s,k<n->I k s->hold (P s k)/\I (k+1) (step s k)):sJ step P (rng 0 n) s0/\I n ((rng 0 n).foldl step s0):=by
 have:=Jm (P:=P) I (rng 0 n) 0 s0 h0 λk x s e h=>by
  obtain⟨rfl,hk⟩:=ii e;rw[kD]at h ⊢;rw[mu];exact hs k s hk h
 rw[sW,kD]at this;exact this
theorem Dw{step:Unit->α->nY Unit Bool}{P:Unit->α->Y Prop}:∀xs:O α,(∀x∈xs,hold (P db x)/\(step db x=.nx db\/step db x=.ct db))->lB step xs db=.nx db/\rG step P xs db
 |[],_=>⟨rfl,trivial⟩
 |x::xs,h=>by
  obtain⟨h1,h2⟩:=h x (zh ..);have a:=Dw (P:=P) xs λy b=>h y (zi _ b);rcases h2 with h2|h2
  ·exact⟨by unfold lB;rw[h2];exact a.1,h1,by rw[h2];exact a.2⟩
  ·exact⟨by unfold lB;rw[h2];exact a.1,h1,by rw[h2];exact a.2⟩
theorem wj[Inhabited α]{xs:O α}{i:Int}(h:In xs.length i):at' xs i∈xs:=by
 obtain⟨x,hx⟩:=zR h;unfold at';rw[hx];unfold IW at hx;obtain⟨j,_,hx⟩:=AT hx;exact Jn hx
theorem BL[Inhabited α]{xs:O α}{k:Nat}{x:α}(h:xs[k]?=Z x):at' xs (k:Int)=x:=by
 have a:k<xs.length:=(bc.mp h).1;unfold at' IW DZ;rw[zl (),zl (),At,KW,h];rfl
theorem FQ[Inhabited α](xs:O α)(k:Nat)(h:k<xs.length):at' xs (k:Int)=xs[k]:=BL (ZY h)
theorem B7{i:Int}(h0:0<=i)(h1:i<n):In n i:=⟨by omega,h1⟩
theorem RF{k:Nat}(h:k<n):In n (k:Int):=⟨by omega,by omega⟩
theorem rJ{x m:Int}(a:0<m)(h:m<=n):In n (x%m):=B7 (Int.emod_nonneg _ ()) (Int.lt_of_lt_of_le (mv _ a) h)
theorem sX(x:Int){m:Int}(a:0<m):0<=x%m/\x%m<m:=⟨Int.emod_nonneg _ (),mv _ a⟩
theorem Hr{j:Int}(h0:0<=j)(h1:j<=1000000):Rg j:=⟨by omega,by omega⟩
theorem SD{a b:Int}(h0:0<=a)(h1:a<18446744073709551616):Gc a b:=.inl ⟨by omega,h1⟩
theorem wb{xs:O α}{k:Nat}(h:k<=xs.length):C5 xs (Z (k:Int)) X9=xs.drop k:=by
 unfold C5;rw[HT.afo,HT.abR,KI h,Qb (by simp)]
theorem sY(x y:AJ):(x++y).length=x.length+y.length:=by
 show(x.cps++y.cps).size=_;rw[K0];rfl
theorem FT(x:AJ)(i:Int):(ch x i).length=1:=rfl
theorem slice_le(x:AJ)(l u:Y Int):(Txt.slice x l u).length<=x.length:=PyProof.Txt.length_slice_le x l u
end
section
variable [Inhabited α] {e:α->Dt}{k:Ev->Y Ap}{cO:γ->Ap}
end
theorem Py:∀xs:O Int,Pj (xs.map eI)=Z xs
 |[]=>rfl
 |x::xs=>by simp only[zk,eI,Pj,Py xs,At]
section
variable{e:α->Dt}{k:Ev->Y Ap}{cO:γ->Ap}
end
section
variable{e:α->Dt}{k:Ev->Y Ap}{cO:γ->Ap}
def f7[Inhabited γ]:R (aF Ic k) ρ cO:=⟨default,Z False,λh=>absurd h id⟩
theorem sL[DecidableEq κ]{c:κ->AY}[Ky c](m:O (κ×α))(x:κ):G2 (m.map λq=>(c q.1,e q.2)) (c x)=has m x:=by
 unfold G2 has;rw[List.any_map];simp only[Function.comp_def,MW]
def OS(a:R fa ρ (zE eS))(b:R fb ρ (nE e)):R (b2 Ee fa fb) ρ (zE eB):=⟨has b.v a.v,bA a.D b.D,λh=>by
 obtain⟨h1,h2⟩:=aC h;simp only[b2,a.ok h1,b.ok h2,At,Ee,D7,nE,sL]⟩
end
section
variable{e:α->Dt}
end
section
variable{e:α->Dt}{e':β->Dt}
def fN(a:RL fa ρ eI):R (cN Uy (aq fa aH)) ρ (zE eI):=⟨MJ a.v,bA a.D (Z (0<a.v.length)),λh=>by
 obtain⟨h1,h2⟩:=aC h;have h2:0<a.v.length:=h2;simp only[cN,aq,aH,a.ok h1,At,Uy,a.lk,Py,zl h2]⟩
def eA{e3:γ->Dt}(a:R fa ρ (zE e))(b:R fb ρ (zE e'))(g:α->β->γ)(h:∀x y,iG (.z (e x)) (.z (e' y))=Z (.z (e3 (g x y)))):R (b2 iG fa fb) ρ (zE e3):=⟨g a.v b.v,bA a.D b.D,λhd=>by
 obtain⟨h1,h2⟩:=aC hd;simp only[b2,a.ok h1,b.ok h2,At,zE,h]⟩
end
def RP(f:Ev->Y β)(ρ:Ev)(c:α->β)(v:α)(D:Y Prop):Prop:=hold D->f ρ=Z (c v)
theorem R.tp{f:Ev->Y β}{c:α->β}{b:α}{a:Y Prop}(x:R f ρ c)(hv:x.v=b:=by kernel_rfl)(d:x.D=a:=by kernel_rfl):RP f ρ c b a:=λh=>by
 subst hv d;exact x.ok h
def RP.r{f:Ev->Y β}{c:α->β}{v:α}{D:Y Prop}(h:RP f ρ c v D):R f ρ c:=⟨v,D,h⟩
theorem IR{p:O α->Prop}(h:∀a,p [a]):∀us:O α,us.length=1->p us
 |[a],_=>h a
theorem Lc{p:O α->Prop}(h:∀a b,p [a,b]):∀us:O α,us.length=2->p us
 |[a,b],_=>h a b
theorem gN{p:O α->Prop}(h:∀a b c,p [a,b,c]):∀us:O α,us.length=3->p us
 |[a,b,c],_=>h a b c
theorem uk{p:O α->Prop}(h:∀a b c d,p [a,b,c,d]):∀us:O α,us.length=4->p us
 |[a,b,c,d],_=>h a b c d
theorem To{p:O α->Prop}(h:∀a b c d e,p [a,b,c,d,e]):∀us:O α,us.length=5->p us
 |[a,b,c,d,e],_=>h a b c d e
end P1
namespace P1
open L2 S1
end P1
namespace P1
open L2
section
variable{fs:Ev->Y (O Bx)}{p:Ev->Y Bool}
end
section
variable{AS:O AB}
end
section
variable{ks:O V}{o:AE}
theorem pT(i:∀f u,X.H₀ a≠Z (.jl f u))(I:L2.AU X AN σ H s)(e:H a=Z (.jl o (.lst ks))):L2.AU X AN σ (B4 H a (.lst ks)) s:=by
 have ne:∀{b:A1} {u:HO},H b=Z u->u≠.jl o (.lst ks)->b≠a:=λq n z=>by subst z;rw[e]at q;cases q;exact n rfl
 have g:∀{b:A1},H b=X9->b≠a:=λq z=>by subst z;rw[e]at q;cases q
 refine⟨I.ok,I.os,I.bare,⟨I.base.keep,I.base.slot,λb f q n hx=>?_,I.base.there,λb xs q=>?_,λb f u q=>?_,λb ps q=>?_⟩,I.loc,I.cell,?_,λx c q=>?_,λp hp=>?_,λb f q=>?_,I.len⟩
 ·have:=I.base.free b f q n hx;rw[aK (g this)];exact this
 ·have:=I.base.tups b xs q;rw[aK (ne this λz=>by cases z)];exact this
 ·have:=I.base.Cu b f u q;rw[aK (λz=>by subst z;exact i _ _ q)];exact this
 ·obtain⟨m,this⟩:=I.base.Al b ps q;exact⟨m,by rw[aK (ne this λz=>by cases z)];exact this⟩
 ·have:=I.free;rw[aK (g this)];exact this
 ·have:=I.qX x c q;rw[aK (g this)];exact this
 ·obtain⟨p1,p2,p3⟩:=I.pin p hp;exact⟨p1,by rw[aK (g p2)];exact p2,p3⟩
 ·have st:∀{c:A1} {w:HO},fQ X.prog X.w H s.heap c w->fQ X.prog X.w (B4 H a (.lst ks)) s.heap c w:=λx=>
   x.stay (λ_ _ _ r=>r) (λd r=>by rw[aK (ne r λz=>by cases z)];exact r) (λd xs r=>by rw[aK (ne r λz=>by cases z)];exact r) λd o' j r=>by rw[aK (ne r λz=>by cases z)];exact r
  by_cases h:b=a
  ·subst h;rw[aU]at q;cases q;exact st (I.hok _ _ e).2
  ·rw[aK h]at q;exact st (I.hok _ _ q)
end
section
variable{M0 M1 M2 er:Expr}{f0 f2:Ev->Y Bx}{d0 d2:Dt}{z0 z1 z2 z3:Pos}
end
section
variable{st:O AB}{fr:Ev->Y Bx}{p:Ev->Y Bool}{i':Nat}{W:O Nat}{z:Pos}
end
section
variable{a b c:Ev->Y Ap}{p:Ev->Y Bool}{k:Nat}
end
end P1
namespace P1
open L2 S6
section
variable{kx vx t1 i1 t2 i2:Expr}{f1 f2:O Expr}{xs:AZ}{g1 g2:Dt->Ev->Y Ev}{p1 p2:Ev->Y Bool}{fk:Ev->Y Bx}{fi1 fi2:Ev->Y (O Dt)}{fs:Ev->Y (O Dt)}{N m:Nat}
def cls2(fi:Ev->Y (O Dt))(gt:Dt->Ev->Y Ev)(p:Ev->Y Bool)(fs:Ev->Y (O Dt))(is:O Nat)(n:Nat):Ev->Y (O Dt):=λρ=>(fi ρ).bind λds=>Fq gt p fs (gB is ρ++ba n X9) ds
def Rw(fi:Ev->Y (O Dt))(gt:Dt->Ev->Y Ev)(p:Ev->Y Bool)(fs:Ev->Y (O Dt))(is:O Nat)(n:Nat):Ev->Y Bx:=λρ=>(cls2 fi gt p fs is n ρ).bind λout=>if out.length<=100000 then Z (.o out)else X9
theorem YF.no{D:A1}{b:O Dt}{o:HO}:YF K D H b o->(∀a u,o≠.jl a u)/\∀vs,o≠.tup vs:=λ⟨_,e,_⟩=>by subst e;exact⟨λ_ _ z=>(by cases z),λ_ z=>(by cases z)⟩
end
end P1
namespace P1
open L2
section
variable{e:α->Dt}{e':β->Dt}{p:Ev->Y Bool}{fs:Ev->Y (O Dt)}
theorem KJ{g:α->O β}:∀xs:O α,(xs.flatMap g).map e'=xs.flatMap λx=>(g x).map e'
 |[]=>rfl
 |x::xs=>by rw[Ya,qc,KJ xs];rfl
def bn(it:R fi ρ (iE e))(a:α->Ev)(c:∀x,gt (e x) (gB is ρ++ba n X9)=Z (a x))(b:∀x,R fs (a x) (iE e')):R (cls2 fi gt uF fs is n) ρ (iE e'):=⟨it.v.flatMap λx=>(b x).v,bA it.D (FC it.v λx=>(b x).D),λh=>by
 obtain⟨h1,h2⟩:=aC h;have h2:∀x∈it.v,hold (b x).D:=h2;simp only[cls2,it.ok h1,At];rw[Dp (π:=λ_=>true) (g:=λx=>(b x).v.map e') it.v λx hx=>⟨a x,c x,rfl,λ_=>(b x).ok (h2 x hx)⟩,ez.mpr λ_ _=>X2];rw[iE,KJ]⟩
def pg(it:R fi ρ (iE e))(a:α->Ev)(c:∀x,gt (e x) ρ=Z (a x))(t:∀x,R p (a x) tE)(b:∀x,R fe (a x) (zE e')):R (DE fi gt p (FR fe)) ρ (iE e'):=⟨(it.v.filter λx=>(t x).v).map λx=>(b x).v,bA it.D (FC it.v λx=>bA (t x).D (Ih ((t x).v=true) (b x).D)),λh=>by
 obtain⟨h1,h2⟩:=aC h;have h2:∀x∈it.v,hold (bA (t x).D (Ih ((t x).v=true) (b x).D)):=h2;simp only[DE,it.ok h1,At];exact Dq it.v λx hx=>⟨a x,c x,(t x).ok (aC (h2 x hx)).1,λd=>(b x).ok (mX (aC (h2 x hx)).2 d)⟩⟩
def i0(a:R (cls2 fi gt p fs is n) ρ (iE e)):R (Rw fi gt p fs is n) ρ (oE e):=⟨a.v,bA a.D (Z (a.v.length<=100000)),λh=>by
 obtain⟨h1,h2⟩:=aC h;simp only[Rw,a.ok h1,At,zg,zl (show a.v.length<=100000 from h2)]⟩
end
def hx(h:A6)(a:A1):HO:=.ext λh'=>h'.get? a=h.get? a
section
variable{H2:Hp}{as:O A1}
end
section
variable{D:A1}{gs:O (Int×A1×O Dt)}{k:Int}{x:Dt}{u:V}
end
section
variable{e1 e2 ev:Expr}{f2:Ev->Y Bx}{p:Ev->Y Bool}{w:AJ}{pw py py2 py3 px p1 p3 p4 pl a1 a2 c1 c2:Pos}
end
end P1
namespace P1
open L2 S6
section
variable{kx vx t1 i1 t2 i2:Expr}{f1 f2:O Expr}{xs:AZ}{g1 g2:Dt->Ev->Y Ev}{p1 p2:Ev->Y Bool}{fk:Ev->Y Bx}{fi1 fi2:Ev->Y (O Dt)}{m:Nat}
end
end P1
namespace P1
open L2
section
variable{e:α->Dt}{e0:β->Dt}{fd f2:Ev->Y Bx}{p:Ev->Y Bool}{kk:Ev->Y Ap}{cO:γ->Ap}
end
section
variable{e:α->Dt}{p:Ev->Y Bool}{fs:Ev->Y (O Dt)}
end
section
variable{a:Expr}
end
theorem bL{bs:O Bx}{c:α->Bx}{v:α}{D:Y Prop}(x:RP g (bs.map Z++ba (n-bs.length) X9) (λr=>Ap.rt (c r)) v D)(h:hold D):cL n g bs=Z (c v):=rf x.r h
section
variable{e:α->Dt}
end
open PySem.Builtin PySem.Builtin.Str
section
variable{o:Expr}{fx:Ev->Y Bx}
def OU:Bx->Y AJ
 |.z (.str x)=>Z x
 |_=>X9
end
section
variable{g:Ev->Y AJ}
end
def Zt(e g j:Nat)(f1:Ev->Y Bx)(p:Ev->Y Bool)(fe:Ev->Y Bx)(f:Ev):O Dt->AZ->O Dt->Y (O Dt)
 |[],_,out=>Z out
 |d::ds,seen,out=>match d with
  |.tup [a,b]=>(f1 ((f.set e (Z (.z a))).set g (Z (.z b)))).bind λr=>match r with
   |.z h=>(p (((f.set e (Z (.z a))).set g (Z (.z b))).set j (Z (.z h)))).bind λc=>(fe (((f.set e (Z (.z a))).set g (Z (.z b))).set j (Z (.z h)))).bind λv=>(OU v).bind λx=>
    if c=false/\x∉seen/\seen.length<4000/\out.length<4000 then Zt e g j f1 p fe f ds (seen++[x]) (out++[h])else X9
   |_=>X9
  |_=>X9
section
variable{e1 e2 e3:Expr}{p:Ev->Y Bool}{gr:Ev->Y Ap}{fx:Ev->Y Dt}{tR tQ:TS}{xr xj y1 y2:AJ}{AS no:O AB}{kk:Nat}{p0 p00 p01 p02 q1 q2 pt pj pa px pb pif pf2 px3 a1 c1 pe1 pr a2 pj2 c2 pe2:Pos}
end
section
variable{e:α->Dt}{ea:β->Dt}{eb:δ->Dt}{p:Ev->Y Bool}{kk:Ev->Y Ap}{cO:γ->Ap}
theorem Jo[Inhabited α]{c d j:Nat}{A:β×δ->Y α}{V:β×δ->AJ}:∀(xs:O (β×δ)) (b:AZ) (a:O α),(∀x∈xs,(A x).isSome=true/\f1 ((ρ.set c (Z (.z (ea x.1)))).set d (Z (.z (eb x.2))))=Z (.z (eO e (A x)))/\p (((ρ.set c (Z (.z (ea x.1)))).set d (Z (.z (eb x.2)))).set j (Z (.z (eO e (A x)))))=Z false/\fe (((ρ.set c (Z (.z (ea x.1)))).set d (Z (.z (eb x.2)))).set j (Z (.z (eO e (A x)))))=Z (.z (.str (V x)))) →
  (b++xs.map V).Nodup->b.length+xs.length<4000->a.length+xs.length<4000->Zt c d j f1 p fe ρ (xs.map (sI ea eb)) b (a.map e)=Z ((a++xs.map λx=>(A x).getD default).map e)
 |[],b,a,_,_,_,_=>by simp[Zt]
 |x::xs,b,a,h,hn,h1,h2=>by
  obtain⟨a1,a2,f,l⟩:=h x (zh ..);rw[ZO]at h1 h2;rw[zk];simp only[Zt,sI,a2,At,f,l,OU];rw[zl ⟨by first|rfl|trivial,λi=>by
   rw[zk]at hn;exact(List.nodup_append.mp hn).2.2 _ i _ (zh ..) rfl,by omega,by rw[zg];omega⟩]
  have e1:a.map e++[eO e (A x)]=(a++[(A x).getD default]).map e:=by
   rw[qc];cases m:A x with
   |none=>rw[m]at a1;cases a1
   |some y=>rfl
  rw[e1,Jo xs (b++[V x]) (a++[(A x).getD default]) (λy g=>h y (zi _ g)) (by simpa using hn) (by simp;omega) (by simp;omega)];simp
end
end P1
namespace P1
open L2 S1
theorem oo{x y:AY}{p q:A0}(hs:Oz x y=true)(hp:jk x p=true)(a:jk y q=true)(h:Q (.bool (WY x y)) s):A7 (A8 prog w) A (AG .Lt p q) Q E s:=by
 rcases bH hp with⟨i,t,rfl,rfl⟩|⟨z,t,rfl,rfl⟩
 ·rcases bH a with⟨j,u,rfl,rfl⟩|⟨z,u,rfl,rfl⟩
  ·exact lt_int h
  ·cases hs
 ·rcases bH a with⟨j,u,rfl,rfl⟩|⟨b,u,rfl,rfl⟩
  ·cases hs
  ·exact PySem.P.lt_str h
theorem UL{ks g:O AY}{b:A1}{c:O A0}(P:iz s.heap a AQ.toArray)(L:iz s.heap b c.toArray)(hk:Ks ks AQ)(C:Ks g c)(hs:Wh ks g)(S:A.units<cLine)(h:Q (.bool (eZ ks g)) s):A7 (A8 prog w) A (AG .Lt (.ref a) (.ref b)) Q E s:=by
 obtain⟨y,ea,z,⟨na,H⟩,_⟩:=P;obtain⟨B,eb,x,⟨nb,U⟩,_⟩:=L;show A7 _ _ (richCompare .Lt (.ref a) (.ref b)) _ _ _;refine wpAny_richCompare_same_room ⟨y,ea,z⟩ ⟨B,eb,x⟩ F.slot_tuple_lt (jI F.slot_tuple_lt ⟨y,ea,z⟩ F.entry_tuple_lt ?_ (F.args_tuple_lt_2 _ _)) S;show A7 _ _ (isInstance (.ref b) (.type "tuple") >>= _) _ _ s;refine zb (KF ⟨B,eb,x⟩ isSubtype_tuple_tuple ?_);simp only[YY,zI,qh];refine zb (xm ea H ?_);refine zb (xm eb U ?_);refine zb ?_;refine wpAny_forIn_list _
  (λAS r s'=>r.1=X9/\s'=s/\∃j l i m,AS=List.zip i m/\Ks j i/\Ks l m/\Wh j l/\eZ j l=eZ ks g/\(i.length<m.length↔AQ.length<c.length))
  _ ?_ ?_ _ _ ⟨rfl,rfl,ks,g,AQ,c,by simp,hk,C,hs,rfl,Iff.rfl⟩
 ·rintro⟨u,v⟩ AS r s' ⟨p,rfl,j,l,i,m,f,q,n,o,d,t⟩;cases q with
  |nil=>simp at f
  |@cons J u' G I h1 W=>
   cases n with
   |nil=>simp at f
   |@cons K v' D N h2 M=>
    simp only[ke,ja,YV]at f;obtain⟨⟨rfl,rfl⟩,rfl⟩:=f;refine zb (CA h1 h2 ?_);simp only[eZ]at d;by_cases e:J=K
    ·rw[zl e]at d;rw[z5 e];simp only[YY,zI,qh];exact ze ⟨rfl,rfl,G,D,I,N,rfl,W,M,o.2,d,by simpa using t⟩
    ·rw[zv e]at d;rw[z4 e];simp only[y0,QQ];refine zb (QY ?_);refine zb (show A7 _ _ (AG .Lt u v) _ _ _ from oo o.1 h1 h2 ?_);rw[d];exact zb (ze (ze (ze ⟨_,rfl,by simp,h⟩)))
 ·rintro⟨r1,r2⟩ s' ⟨p,rfl,j,l,i,m,f,q,n,o,d,t⟩;simp only at p;subst p;have X:decide (AQ.length<c.length)=eZ ks g:=by
   rw[<-d,<-decide_eq_decide.mpr t];cases q with
   |nil=>cases n with
    |nil=>rfl
    |cons _ _=>rfl
   |cons _ _=>cases n with
    |nil=>rfl
    |cons _ _=>simp at f
  refine ze ⟨_,rfl,?_⟩;show Value.bool (decide (AQ.toArray.size<c.toArray.size))≠_/\Q (Value.bool (decide (AQ.toArray.size<c.toArray.size))) _;rw[zr,zr,X];exact⟨by simp,h⟩
section
variable{k:Nat}{f:A1}{p:Pos}
end
end P1
namespace P1
open L2 S1 S6
theorem Lu{p:O α->Prop}(h:p []):∀us:O α,us.length=0->p us
 |[],_=>h
section
variable{e:α->Dt}{g:Ev->Y Bx}{c:α->Bx}
end
def DD(d:Dt):R (cB d) ρ (zE eD):=yP d eD d rfl
def B8(i:Int):R (cB (.int i)) ρ (zE eI):=yP (.int i) eI i rfl
def vO(s:AJ):R (cB (.str s)) ρ (zE eS):=yP (.str s) eS s rfl
abbrev Nn(K:B6)(n:AJ)(f:A1):Prop:=nsIn K mainGlobals n=Z (Z (.ref f))
abbrev Lk(K:B6)(f:A1)(n:AJ)(st:AB)(e:A0)(c:Y A1)(sl:Array (Y A0))(kV b pm:A0)(d:Y A1)(a ct:A0):Prop:=K.lookup f=Z ⟨e,c,.func (fnOf n n (vQ st) (ji st) (aJ st) .none kV b pm d a ct),sl⟩
end P1
namespace P1
open L2
section
variable{e:α->Dt}
end
section
variable{Ex:BF}{outer:O Env}{L e T:A1}{C fl:A0}{dx:Y A1}{Q:Unit->A2->Prop}
end
section
variable{H':Hp}{h':A6}{ch:O A1}
end
section
variable{g:Array GenState}{d:Drawn}{t:Nat}{fI e:A1}{AS:O A0}{B:String}
end
section
variable{g:Array GenState}{d:Drawn}{t:Nat}{e:A1}
end
section
variable{g:Array GenState}{d:Drawn}{t:Nat}{e dx:A1}{v:A0}{vs:Array A0}{sl:Array (Y A0)}{m:AJ->Y A0}
end
section
variable{o value:Expr}{tv:TE}{f:AJ}{pos' p:Pos}{B:String}{t:TA}
end
section
variable{f:AJ}{p:Pos}{B:String}
end
section
variable{E:XK}
end
section
variable{Cn f:A1}{iv iy k:Nat}{n cn:AJ}{np hp p py pa:Pos}{b0:AB}{suite:O AB}{ts:A1->TS}{tf:TE}{t:TA}
end
section
variable{d:A1}{fs:O (AJ×V)}{f:AJ}{o:Expr}
end
section
variable{f:AJ}{E:XK}{gy:Ev->Y Dt}{p:Pos}{AS a b:O AB}{B:String}{pc:Ev->Y Bool}
end
section
variable{k:Nat}{f h:A1}{fs:Ev->Y (O Bx)}{p q:Pos}
end
end P1
namespace P1
open L2 S6
section
variable{xs:AZ}{p:Ev->Y Bool}
end
section
variable{e2 se:Expr}{fS:Ev->Y AZ}{fx:Ev->Y Dt}{no AS:O AB}{tR tQ:TS}{p0 p02 px pb pif pk:Pos}{f:AJ}{E:XK}
end
end P1
namespace P1
open L2
section
variable{e1 e2 e3:Expr}{p:Ev->Y Bool}{gr:Ev->Y Ap}{xr xj y1 y2:AJ}{AS no:O AB}{kk:Nat}{p0 p00 p01 p02 q1 q2 pt pj pa px pb pif pf2 px3 a1 c1 pe1 pr a2 pj2 c2 pe2:Pos}{fx:Ev->Y Dt}{f:AJ}{E:XK}
end
section
variable{Cn f:A1}{iv k:Nat}{n cn:AJ}{np hp p pa:Pos}{b0:AB}{suite:O AB}{ts:A1->TS}{tf:TE}{t:TA}
end
section
variable{fx:Ev->Y Bx}
def hoI(f:Ev->Y Bx):Ev->Y Bx:=λρ=>(f ρ).bind λb=>match b with
 |.z (.int i)=>if 0<=i/\i<1000000 then Z (.z (.str (toString i)))else X9
 |_=>X9
end
section
variable{xs:Array A0}
end
theorem zH:∀{AQ:O A0} {a:O Int},IntsAre AQ a->AX (a.map V.int) AQ
 |_,_,.nil=>.nil
 |_,_,.cons y t h=>.cons ⟨t,rfl⟩ (zH h)
section
variable{e:α->Dt}
end
section
variable{e:α->Dt}{ea:β->Dt}{eb:δ->Dt}{p:Ev->Y Bool}{fx:Ev->Y Dt}
end
section
variable{e:α->Dt}{g:Ev->Y β}{c:γ->β}
end
section
variable{E:XK}
end
section
variable{f:AJ}{E:XK}{fs:Ev->Y (O Bx)}{gy:Ev->Y Dt}{p p1 epos:Pos}{AS:O AB}
end
section
variable{o:Expr}
def PM:Dt->Bool
 |.non=>true
 |.tup _=>true
 |_=>false
def SU:Dt->Bool
 |.non=>true
 |_=>false
end
section
variable{o l:Expr}{fs:Ev->Y (O Bx)}{z:AJ}
end
instance {σ τ:Type} [Inhabited σ]:Inhabited (nY σ τ):=⟨.nx default⟩
section
variable{e:α->Dt}
theorem Xg(a:∀x,∃ds,e x=.tup ds)(ys:O (Y α)):(ys.map (eO e)).all PM=true/\(SU ∘ eO e)=Option.isNone:=by
 refine⟨?_,?_⟩
 ·rw[QR];intro d hd;obtain⟨o,_,rfl⟩:=av.mp hd;cases o with
  |none=>rfl
  |some x=>obtain⟨ds,q⟩:=a x;show PM (e x)=true;rw[q];rfl
 ·funext o;cases o with
  |none=>rfl
  |some x=>obtain⟨ds,q⟩:=a x;show SU (e x)=false;rw[q];rfl
end
section
variable{o e2:Expr}{fx fy:Ev->Y Bx}
end
section
variable{f:AJ}{E:XK}{gy:Ev->Y Dt}{sts AS:O AB}{p0 p00 p01 p02:Pos}
end
structure DQ (K:B6) (mg:Str->Option Value) (x:Str) (st:Stmt) (ps:AZ) where
 f:Addr
 fd:FuncData
 F:Cc K x x st f fd
 b:BG K fd ps []
 m:mg x=some (.ref f)
 k:keepIn K (.ref f)=true
def gF{f:A1}{g b:Y A1}{sl:Array (Y A0)}{m kV e pm d ct:A0}(X:K.In h)(G:h.Ns mainGlobals mg)(a:Nn K x f)(l:Lk K f x st m g sl kV e pm b d ct)(c:codeIn K d x=true)(k:keepIn K (.ref f)=true)(n:∀(kV j pm:A0) (b:Y A1) (i ct:A0) (us:O A0),us.length=ps.length->bindArgs (fnOf x x (vQ st) (ji st) (aJ st) .none kV j pm b i ct) ⟨us,[]⟩=pure (ps.zip us):=by intro _ _ _ _ _ _;first|exact P1.IR λ_=>X2|exact P1.Lc λ_ _=>X2|exact P1.gN λ_ _ _=>X2|exact P1.uk λ_ _ _ _=>X2|exact P1.To λ_ _ _ _ _=>X2|exact P1.Lu X2):DQ K mg x st ps:=
 ⟨f,_,Ps l c k,(Ps l c k).binds n,mg_of X G a,k⟩
abbrev Ok(P:A3)(w:A4)(base:A6)(d:DQ K mg x st ps)(k n:Nat)(F:O Bx->Y Bx):Prop:=qt P w K mg base Fj k d.f d.fd ps (WK K n F)
theorem wk{k m:Nat}(d:DQ K mg x st ps)(S:aW N ps (aJ st))(c:∀(a:A0) (A:A5) (outer:O Env) (s:A2) (H:Hp) (E:XK),iQ k (A.deeper (AK x (aJ st) s.heap.objs.size d.f a))->(A.deeper (AK x (aJ st) s.heap.objs.size d.f a)).units+100<cLine->N.Nodup->TV (HX Fj P w K mg base N x (aJ st) d.f a A outer s H E).nox (ji st) g)(h:N.length=n:=by rfl)(e:ps.length=m:=by rfl):Ok P w base d (k+1) m (cL n g):=gL d.F S h e λa A outer s H E b=>c a A outer s H E b (zN b) S.nd
section
variable{k m:Nat}{fs:Ev->Y (O Bx)}{p:Pos}
theorem cg(d:DQ X.K X.mg x st ps)(G:Ok X.prog X.w X.base d k n F)(h:iQ m X.A)(f:Yz X (e::es) fs)(i:Gl X x:=by rfl)(a:k<=m:=by decide)(g:ad x:=by decide)(he:A9 (e::es) X.env=(false,eval e X.env)::A9 es X.env:=by rfl)(c:(AD pos (A9 es X.env)).any (·.1)=false:=by rfl):QV X (.Call (.Name x p) (e::es) [] pos) (bN n F fs):=
 XV G (h.mono a) i d.m d.k d.b f g he c
end
theorem FH{l:PySem.W.OpenLaw}{q:A3}{loose:AZ}{d:DefRec}{K:Params->B6}{T:B6->(AJ->Y A0)->Type}{k:Nat}{F_law:O Bx->Y Bx}(c:∀{K mg},T K mg->DQ K mg "law" st [x])(hk:iQ k callerA)(hd:d.name ="law")(G:∀(w:A4) (mg:AJ->Y A0) (base:A6) (t:T (K w.params) mg),Ok l.prog w base (c t) k 1 F_law)(M:l.most=Z 63)(I:d.params.defaults=[])(h1:∀b:O Int,b.length<=63->F_law [.z (.lst (b.map .int))]=Z (.z (.bl true)))(h2:∀b:O Int,b.length<=63->F_law [.l (b.map .int)]=Z (.z (.bl true)))(A:∀(kV g pm:A0) (j:Y A1) (i ct u:A0),bindArgs (fnOf "law" "law" (vQ st) (ji st) (aJ st) .none kV g pm j i ct) ⟨[u],[]⟩=pure [(x,u)])(L:∀(w:A4) (h:A6),YP w h->(K w.params).In h)(y:∀(w:A4) (h:A6) (mg D:AJ->Y A0) (C:ExcName->Y A0) (v:AZ),(K w.params).In h->Top q v C mg D h->∃E,L2.FK (K w.params) h E)(F:∀(w:A4) (mg:AJ->Y A0) (h:A6),(K w.params).In h->h.Ns mainGlobals mg->T (K w.params) mg):
  PySem.W.WalkO q loose XP YP l.row.toRowW d [] (λf vs=>PySem.call f vs):=
 L2.gT (n:=63) (k:=k) (x:=x) (CX:=Fj) (sp:=λK=>WK K 1 F_law) M () I hk L (λw mg fa h X N e=>by
  have t:=F w mg h X N;have p:=(c t).m;rw[hd,p]at e;cases e;refine⟨(c t).fd,λs u=>?_,λbase _ _=>G w mg base t⟩;obtain⟨Q,P,kV,g,pm,j,i,ct,osl,e,S,U⟩:=(c t).F.ex;rw[e];exact .of_eq (A kV g pm j i ct u)) (λK H a b o B J=>WH h1 h2 K H a b o B J) (λ_ _ _ _ z=>z) y
section
variable{k:Nat}{f:A1}{sp:A1->O V->Hp->VK->Prop}{p:Pos}{t:TA}
end
section
variable{p0 p1:Pos}{p:Ev->Y Bool}{xs:AZ}{e:A1}{a:Expr}{ta:TA}
end
section
variable{f:AJ}{E:XK}{fs:Ev->Y (O Bx)}{p:Pos}
end
section
variable{g:Array GenState}{d:Drawn}{t:Nat}{AS:O A0}{B:String}
end
section
variable{E:XK}{p:Pos}{B:String}{k:Nat}{t:TA}
end
def E6(j:Int)(ds:O Dt):O Dt:=(dg ds.length).zipWith (λk d=>.tup [.int (j+(k:Nat)),d]) ds
theorem Zu(j:Int)(ds:O Dt):(E6 j ds).length=ds.length:=by simp[E6]
section
variable{p kp cp:Pos}{fs:Ev->Y (O Bx)}{j:Int}{kk:Nat}
end
section
variable{e:α->Dt}
def rK(j:Int)(xs:O α):O (Int×α):=(dg xs.length).zipWith (λ(k:Nat) x=>(j+(k:Int),x)) xs
end
section
variable{g:Ev->Y AJ}
variable{e:α->Dt}
end
section
variable{e:α->Dt}{σ':Type}
def qE(e:α->Dt):Y (O α)->Bx
 |none=>.z .non
 |some l=>.o (l.map e)
def n9(e:α->Dt):Y (O α)->Bx
 |none=>.z .non
 |some l=>.l (l.map e)
class MZ (c:Option (List α)->Bx) (e:outParam (α->Dt)):Prop where
 d:∀v,toD (c v)=eO (eL e) v/\vV (c v)=false
instance:MZ (qE e) e:=⟨λv=>by cases v<;>exact⟨rfl,rfl⟩⟩
instance:MZ (n9 e) e:=⟨λv=>by cases v<;>exact⟨rfl,rfl⟩⟩
instance:MZ (zE (eO (eL e))) e:=⟨λv=>⟨rfl,rfl⟩⟩
end
theorem Z'(l:A1)(items:Array A0)(n:Nat)(a:Y A1)(sl:Array (Y A0)):
  Meets (Builtin.«enumerate.__new__» ⟨[.type "enumerate", .ref l],[]⟩) (λ_ R s=>s.heap.get? l=Z ⟨.type "tuple",a,.seq items n,sl⟩ ∧
   R (.ok (.ret (.ref (s.heap.push { cls:=.type "tuple_iterator",data:=.fields #[.ref l,.int 0 0] }).objs.size)))
    { s with heap:=(s.heap.push { cls:=.type "tuple_iterator",data:=.fields #[.ref l,.int 0 0] }).push { cls:=.type "enumerate",data:=.fields #[.none,.bool false,.ref s.heap.objs.size,rawInt 0,.none,.none] } }):=
 .of_wp λprog w A R s ⟨hl,h⟩=>by
  obtain⟨hp,g,d,tk,os⟩:=s;have b:=sub_enumerate;have m2:Heap.IsTuple (Shared.heap ⟨hp,g,d,tk,os⟩) l items:=⟨_,hl,rfl,n,rfl⟩
  wp_walk using AutoSeq1.wpAny_loadPart' hl
  refine wpAny_stack_any λst=>ze ?_;split
  ·rename_i c _ _ _ _ _;cases(c==Value.type "enumerate")
   ·wp_walk using AutoSeq1.wpAny_loadPart' hl,yB m2
    exact⟨_,rfl,h⟩
   ·wp_walk using AutoSeq1.wpAny_loadPart' hl,yB m2
    exact⟨_,rfl,h⟩
  ·wp_walk using AutoSeq1.wpAny_loadPart' hl,yB m2
   exact⟨_,rfl,h⟩
theorem XT(i:s.heap.IsTuple l items)(h:∀h',IsEnum h' (s.heap.objs.size+1) s.heap.objs.size 0 .none->h'.IsTupleIter s.heap.objs.size l 0->(∀b o,s.heap.get? b=Z o->h'.get? b=Z o)->Q (.ref (s.heap.objs.size+1)) { s with heap:=h' }):
  A7 (A8 prog w) A (call (.type "enumerate") [.ref l]) Q E s:=by
 obtain⟨⟨c,f,m,sl⟩,e,g,n,hd⟩:=i;cases g;cases hd;refine callType_new F.called_enumerate () (F.typeCall_enumerate_1 _) (F.newCall_enumerate_1 _) (λj=>F.args_object_init_2 j _) F.entry_enumerate_new (Z' l items n f sl) ⟨e,?_⟩;have d:(s.heap.push { cls:=.type "tuple_iterator",data:=.fields #[.ref l,.int 0 0] }).objs.size=s.heap.objs.size+1:=kK ..;show _/\_;rw[d];have a:=zC (s.heap.push { cls:=.type "tuple_iterator",data:=.fields #[.ref l,.int 0 0] }) (o:={ cls:=.type "enumerate",data:=.fields #[.none,.bool false,.ref s.heap.objs.size,rawInt 0,.none,.none] }) rfl;rw[d]at a;exact⟨⟨_,a,rfl⟩,h _ a ⟨_,zd _ (zC _ X2),rfl,rfl⟩ λb o x=>zd _ (zd _ x)⟩
theorem dC{e:A1}{j:Int}{x old:A0}(he:IsEnum s.heap e it j old)(J:s.heap.IsTupleIter it l i)(F:s.heap.IsTuple l items)(hx:items[i]?=Z x)(ne:e≠it)(q:∀h',IsEnumOut h' e it (j+1) x s.heap.objs.size->h'.IsTupleIter it l (i+1)->h'.get? s.heap.objs.size=Z { cls:=.type "tuple",data:=.seq #[.int j s.toks,x] }->(∀b o,b≠e->b≠it->s.heap.get? b=Z o->h'.get? b=Z o)->Q (.ref s.heap.objs.size) { s with heap:=h',toks:=s.toks+1 }):
  A7 (A8 prog w) A (Builtin.«enumerate.__next__» ⟨[.ref e],[]⟩) (λM s'=>∃v,M=.done (.ret v)/\Q v s') E s:=by
 obtain⟨c,g,d,tk,os⟩:=s;have f:it≠e:=Ki ne;show A7 _ _ (field (.ref e) 2 >>= _) _ _ _;refine zb (km he X2 (x:=.ref it) X2 (zb (VS J F hx λa1 it1 (m:Heap.SameBut it c a1)=>?_)));have e1:IsEnum a1 e it j old:=(m.2 e ne).trans he;show A7 _ _ (field (.ref e) 3 >>= _) _ _ ⟨a1,g,d,tk,os⟩;refine zb (km e1 X2 (x:=rawInt j) X2 ?_);show A7 _ _ (field (.ref e) 4 >>= _) _ _ ⟨a1,g,d,tk,os⟩;refine zb (km e1 X2 (x:=.none) X2 ?_);show A7 _ _ (mkInt j >>= _) _ _ ⟨a1,g,d,tk,os⟩;refine zb (wpAny_mkInt ?_);show A7 _ _ (setField (.ref e) 3 (rawInt (j+1)) >>= _) _ _ ⟨a1,g,d,tk+1,os⟩;refine zb (yA e1 (by simp) λa2 e2 (p:Heap.SameBut e a1 a2)=>?_);have e2:IsEnum a2 e it (j+1) old:=e2;show A7 _ _ (setField (.ref e) 4 .none >>= _) _ _ ⟨a2,g,d,tk+1,os⟩;refine zb (yA e2 (by simp) λa3 e3 (h:Heap.SameBut e a2 a3)=>?_);have e3:IsEnum a3 e it (j+1) old:=e3;have z3:a3.objs.size=c.objs.size:=by rw[h.1,p.1,m.1]
 show A7 _ _ (newTuple [.int j tk,x] >>= _) _ _ ⟨a3,g,d,tk+1,os⟩;refine zb (wpAny_newTuple ?_);have le:e<c.objs.size:=zz he;obtain⟨a,K,u,L,H,G⟩:∃a,a3.push { cls:=.type "tuple",data:=.seq #[.int j tk,x] }=a/\IsEnum a e it (j+1) old/\a.get? c.objs.size=Z { cls:=.type "tuple",data:=.seq #[.int j tk,x] }/\(∀b o,b≠e->b≠it->c.get? b=Z o->a.get? b=Z o)/\a.IsTupleIter it l (i+1):=by
  refine⟨_,rfl,zd _ e3,by rw[<-z3];exact zC _ rfl,λb o b1 b2 z=>zd _ (h.extBut b o b1 (p.extBut b o b1 (m.extBut b o b2 z))),?_⟩;obtain⟨o,I,r⟩:=(it1.extBut p.extBut f).extBut h.extBut f;exact⟨o,zd _ I,r⟩
 rw[show({ heap:=a3,gens:=g,drawn:=d,toks:=tk+1,os:=os }:A2).heap.push { cls:=.type "tuple",data:=.seq #[.int j tk,x] }=a from K,show({ heap:=a3,gens:=g,drawn:=d,toks:=tk+1,os:=os }:A2).heap.objs.size=c.objs.size from z3];show A7 _ _ (Builtin.SmallTypes.ownedTupleIsFree (.ref e) >>= _) _ _ ⟨a,g,d,tk+1,os⟩;refine zb ?_;unfold Builtin.SmallTypes.ownedTupleIsFree;refine zb (km u X2 (x:=.none) X2 (ze ?_));simp only[QQ];refine zb (QY (zb (km u X2 (x:=old) X2 (zb (yA u (by simp) λa5 n (B:Heap.SameBut e a a5)=>?_)))));have n:IsEnum a5 e it (j+1) x:=n;show A7 _ _ (Builtin.SmallTypes.ownedTupleHandOut (.ref e) (.ref c.objs.size) >>= _) _ _ ⟨a5,g,d,tk+1,os⟩;refine zb ?_;unfold Builtin.SmallTypes.ownedTupleHandOut;refine zb (yA n (by simp) λa6 y (D:Heap.SameBut e a5 a6)=>?_);have y:IsEnumOut a6 e it (j+1) x c.objs.size:=y;refine yA y (by simp) λa7 e7 (C:Heap.SameBut e a6 a7)=>?_;have kk:∀b o,b≠e->a.get? b=Z o->a7.get? b=Z o:=λb o t z=>C.extBut b o t (D.extBut b o t (B.extBut b o t z));exact zb (kG (ze ⟨_,rfl,q a7 e7 (((G.extBut B.extBut f).extBut D.extBut f).extBut C.extBut f) (kk _ _ (kg le) L) λb o b1 b2 z=>kk b o b1 (H b o b1 b2 z)⟩))
theorem de{e:A1}{j:Int}{x old:A0}{Q:Y A0->A2->Prop}(he:IsEnum s.heap e it j old)(f:s.heap.IsTupleIter it l i)(g:s.heap.IsTuple l items)(hx:items[i]?=Z x)(ne:e≠it)(q:∀h',IsEnumOut h' e it (j+1) x s.heap.objs.size->h'.IsTupleIter it l (i+1)->h'.get? s.heap.objs.size=Z { cls:=.type "tuple",data:=.seq #[.int j s.toks,x] }->(∀b o,b≠e->b≠it->s.heap.get? b=Z o->h'.get? b=Z o)->Q (Z (.ref s.heap.objs.size)) { s with heap:=h',toks:=s.toks+1 }):
  A7 (A8 prog w) A (pyNext (.ref e)) Q E s:=by
 have d:s.TypeIs (.ref e) "enumerate":=⟨_,he,rfl⟩;unfold pyNext;exact zb (wpAny_attempt (JA (name:=Str.ofString "__next__") d YE (jI YE d F.entry_enumerate_next (dC he f g hx ne λh' a b c k=>ze (q h' a b c k)) (F.args_enumerate_next_1 _))))
theorem agt{e:A1}{j:Int}{old:A0}{Q:Y A0->A2->Prop}(c:A.handled=X9)(he:IsEnum s.heap e it j old)(d:s.heap.IsTupleIter it l i)(f:s.heap.IsTuple l items)(hx:items[i]?=X9)(q:∀h',Heap.ExtBut it s.heap h'->Q X9 { s with heap:=h' }):A7 (A8 prog w) A (pyNext (.ref e)) Q E s:=by
 have a:s.TypeIs (.ref e) "enumerate":=⟨_,he,rfl⟩;unfold pyNext;refine zb (wpAny_attempt (JA (name:=Str.ofString "__next__") a YE (jI YE a F.entry_enumerate_next ?_ (F.args_enumerate_next_1 _))));show A7 _ _ (field (.ref e) 2 >>= _) _ _ _;refine zb (km he X2 (x:=.ref it) X2 (zb (W8 c d f hx λh' x he' ⟨o,ho,hc⟩=>?_)));exact zb (KF (T :="StopIteration") (b:=true) ⟨o,ho,hc⟩ isSubtype_stop (ze (q _ he')))
def LP(K:B6)(l:A1)(j:Int):It:=
 ⟨λi H=>∃xs x,yw K H l xs/\xs[i]?=Z x,λi H v H'=>∃p x,H p=X9/\(∀xs,yw K H l xs->xs[i]?=Z x)/\v=.ref p/\H'=B4 H p (.tup [.int (j+i),x]),λi H=>∃xs,yw K H l xs/\xs.length<=i⟩
theorem XW(l e it:A1)(j:Int)(ne:e≠it):
  C4 P w K (.Tuple elts x1 tpos) (LP K l j) [e,it] e (λi h=>(∃old,IsEnum h e it (j+(i:Nat)) old)/\h.IsTupleIter it l i) where
 mem:=by simp
 obj:=λi h st b a=>by
  obtain⟨⟨old,h1⟩,o,h2,_,h3⟩:=st;rcases List.mem_cons.mp a with rfl|a
  ·exact⟨_,h1,λv z=>by cases z⟩
  ·cases bj.mp a;exact⟨o,h2,λv z=>by rw[h3]at z;cases z⟩
 keep:=λi h h' st k=>by
  obtain⟨⟨old,h1⟩,h2⟩:=st;exact⟨⟨old,k e (by simp) _ h1⟩,h2.at λo q=>k it (by simp) o q⟩
 item:=by
  intro X y f g C i AN s σ H E I d st n;subst y f g;obtain⟨⟨old,h1⟩,h2⟩:=st;obtain⟨xs,x,c,hx⟩:=n;obtain⟨AQ,m,p,J⟩:=I.tuple c;obtain⟨u,hu,ru⟩:=m.get hx;have fe:=d e (by simp);have fi:=d it (by simp);refine de h1 h2 (show s.heap.IsTuple l AQ.toArray from p) (x:=u) (by simpa using hu) ne λa4 S a3 N hk=>⟨_,rfl,?_⟩;refine wpAny_letOwnedTupleGo_enum S λB A t=>?_;have elt:e<s.heap.objs.size:=zz h1;have M:it<s.heap.objs.size:=by obtain⟨_,q,_⟩:=h2;exact zz q
  have W:B.get? s.heap.objs.size=Z { cls:=.type "tuple",data:=.seq #[.int (j+(i:Nat)) s.toks,u] }:=(t.2 _ (kg elt)).trans N;have D:B.IsTupleIter it l (i+1):=a3.at λo q=>(t.2 it (Ki ne)).trans q;have G:j+(i:Nat)+1=j+((i+1:Nat):Int):=by omega
  refine⟨.ref s.heap.objs.size,B4 H s.heap.objs.size (.tup [.int (j+i),x]),Zd (t':=s.toks+1) I (λb o F Q q=>(t.2 b F).trans (hk b o F Q q)) fe fi ⟨_,A⟩ (by obtain⟨o,q,_⟩:=D;exact⟨o,q⟩) ?_,rfl,⟨_,x,I.hok.fresh (zo _),λys L=>by rw[I.Ey L c];exact hx,rfl,rfl⟩,⟨⟨_,by rw[<-G];exact A⟩,D⟩,λb a=>?_⟩
  ·exact⟨by show 2<=AA;decide,[.int (j+(i:Nat)) s.toks,u],.cons ⟨_,rfl⟩ (.cons ru .nil),_,W,rfl,⟨_,rfl⟩,rfl⟩
  ·rcases List.mem_cons.mp a with rfl|a
   ·rw[aK (zS elt)];exact fe.1
   ·cases bj.mp a;rw[aK (zS M)];exact fi.1
 done:=by
  intro X y f g C i AN s σ H E I d st n;subst y f g;obtain⟨⟨old,h1⟩,h2⟩:=st;obtain⟨xs,c,hx⟩:=n;obtain⟨AQ,m,p,J⟩:=I.tuple c;obtain⟨f0,f1,f2,f3,f4,U⟩:=d it (by simp);have hl:=m.length;exact agt (I.ok.hd C) h1 h2 (show s.heap.IsTuple l AQ.toArray from p) (by simp;omega) λh' eb=>⟨rfl,I.turned (t':=s.toks) (λb o a e=>eb b o a e) f0 f1 f3 f4 U⟩
 self:=λ_ _ _ _ _ st h=>by
  obtain⟨⟨old,h1⟩,_⟩:=st;exact xp h1 h
theorem B5.enT(j:Int)(h:yw K Hs l vs)(r:aO K Hs ds vs):B5 K (LP K l j) (P1.E6 j ds) Hs:=λi H s=>by
 have h':=Kp.sqT (.of s) h;have c:=r.kp (.of s);refine⟨λd e=>?_,λe=>⟨vs,h',by rw[Zu]at e;rw[r.length];exact e⟩⟩;have hi:i<ds.length:=by
  have:=(bc.mp e).1;rwa [Zu]at this
 have m:ds[i]?=Z ds[i]:=by simp[hi]
 unfold P1.E6 at e;rw[k4]at e;simp[hi]at e;subst e;obtain⟨v,ev,g⟩:=c.get m;refine⟨⟨vs,v,h',ev⟩,λx H' y=>?_⟩;obtain⟨p,n,hp,f,rfl,rfl⟩:=y;have:=f vs h';rw[ev]at this;cases this;have a:AV H (B4 H p (.tup [.int (j+i),v])):=λb o q=>by rw[aK (cM q hp)];exact q
 refine⟨a,?_⟩;simp only[AW];exact⟨p,_,rfl,.inl (.inl aU),aO.cons (by simp only[AW]) (aO.cons (AW.kp (.of a) g) aO.nil)⟩
section
variable{p:Pos}{fs:Ev->Y (O Bx)}
def rV(K:B6)(ta:TA):TI:=λσ H R=>ta σ H λvs H1=>∃l,vs=[.ref l]/\(∃xs,yw K H1 l xs)/\R (LP K l 0) H1
theorem wf{ta:TA}(j:Gl X "enumerate")(g:X.mg "enumerate"=X9)(d:PA X [e] ta)(hs:A9 [e] X.env=[(false,eval e X.env)]:=by rfl):PI X (.Tuple elts x1 tpos) (.Call (.Name "enumerate" p) [e] [] pos) (rV X.K ta):=by
 intro AN s σ H R I h;refine Call_ (yE I j g boot_enumerate (PyProof.Rows.callWith_type1 (jH (d pos AN s σ H _ I h) λus s1 ⟨vs,H1,I1,r1,q1⟩=>?_) hs X2));obtain⟨l,rfl,⟨xs,i⟩,q⟩:=q1;obtain⟨u,rfl,f⟩:=BA r1;cases f;obtain⟨AQ,o,p,n⟩:=I1.tuple i;refine XT (show s1.heap.IsTuple l AQ.toArray from p) λh' c m hk=>?_;refine xp c ?_;refine⟨s1.heap.objs.size+1,[s1.heap.objs.size+1,s1.heap.objs.size],_,_,H1,rfl,I1.kept (t':=s1.toks) hk,XW l _ _ 0 (kg (yi _)),⟨⟨_,by rw[show(0:Int)+((0:Nat):Int)=0 by simp];exact c⟩,m⟩,λb a=>?_,q⟩;rcases List.mem_cons.mp a with rfl|a
 ·exact I1.Tj (Kj _) (I1.hok.fresh (Kj _))
 ·cases bj.mp a;exact I1.Tj (zo _) (I1.hok.fresh (zo _))
def GU:O Bx->Y (O Dt)
 |[.z (.tup ds)]=>Z (E6 0 ds)
 |_=>X9
theorem iO(l:Gl X "enumerate")(i:X.mg "enumerate"=X9)(g:Yz X [e] fs)(hs:A9 [e] X.env=[(false,eval e X.env)]:=by rfl):EK X (.Tuple elts x1 tpos) (.Call (.Name "enumerate" p) [e] [] pos) (λρ=>(fs ρ).bind GU):=⟨λAN s σ H R I q=>by
 refine wf l i g.run hs AN s σ H R I ?_;obtain⟨H0,ρ,ds,E,e,q⟩:=q;obtain⟨bs,eb,e⟩:=AT e;refine⟨H0,ρ,bs,E,eb,λvs H1 j h=>?_⟩;unfold GU at e;split at e
 ·rename_i n;cases e;obtain⟨v,rfl,c⟩:=BQ h;simp only[bJ,AW]at c;obtain⟨a,ws,rfl,b,m⟩:=c;refine⟨a,rfl,⟨ws,b⟩,q _ _ j λHs hs t d f=>.enT 0 ?_ (m.part d f)⟩;rcases b with (b|⟨o,b⟩)|b
  ·exact .inl (.inl ((f _ _ b).trans b))
  ·exact .inl (.inr ⟨o,(d _ _ _ b).trans b⟩)
  ·exact .inr b
 ·cases e⟩
end
section
variable{e:α->Dt}
def MT(fs:Ev->Y (O Bx)):Ev->Y (O Dt):=λρ=>(fs ρ).bind GU
def bu(a:R fa ρ (zE (eT e))):R (MT (aq fa aH)) ρ (iE (sI eI e)):=⟨rK 0 a.v,a.D,λh=>by
 have b:E6 0 (a.v.map e)=(rK 0 a.v).map (sI eI e):=by
  unfold E6 rK;rw[zg,jY,qb]
 simp only[MT,aq,aH,a.ok h,At,zE,eT,GU,b]⟩
end
section
variable{e:α->Dt}
end
section
variable{AS:O AB}{ga:Ev->Y Ap}
end
section
variable{k:Nat}{f:A1}{Fa Fb:O Bx->Y Bx}{p spos:Pos}{fs:Ev->Y (O Bx)}
end
section
variable{e:α->Dt}
end
end P1
namespace P1
open L2 S1 S6
section
variable{e:α->Dt}
end
end P1
namespace P1
open L2
section
variable{e:α->Dt}
end
section
variable{R:Result->A2->Prop}{I:A1}{wr:O A1}{P:Nat->A0->Prop}{St:Nat->A6->Prop}
end
section
variable{e:α->Dt}
end
def Fh{α:Type}:O α->O α
 |[]=>[]
 |x::xs=>x::Fh (xs.drop 5)
termination_by l=>l.length
decreasing_by simp;omega
section
variable{st:Expr}{fs:Ev->Y Bx}
end
section
variable{e:α->Dt}
end
section
variable{AS:O AB}{W:O Nat}
end
section
variable{e:α->Dt}
end
section
variable{st:O AB}{fr:Ev->Y Bx}{p:Ev->Y Bool}{W:O Nat}{z:Pos}{Φ:Hp->Hp->L2.St->Ev->Prop}
end
section
variable{AS:O AB}
end
end P1
namespace P1
open L2 S6
section
variable{p p' pos':Pos}
end
end P1
namespace P1
open L2 S1
section
variable{T:O AY->A0->Prop}(inj:∀ k l v,T k v->T l v->k=l)
include inj
end
end P1
namespace P1
open L2 S1 S6
section
variable{e:α->Dt}{e':β->Dt}
end
end P1
namespace P1
open L2
theorem Xh{pos':Pos}{c f:A0}(l:O A0)(h:TriplesOk l)(d:codeAmong pos' (l++[rawInt pos.line,rawInt pos.col,c])=Z f):codeAmong pos' l=Z f\/f=c:=by
 fun_induction TriplesOk l with
 |case1=>
  simp only[yz,codeAmong,rawInt]at d;split at d
  ·cases d;exact .inr rfl
  ·cases d
 |case2 a t b u x AS g=>
  simp only[YR,codeAmong]at d ⊢;split at d
  ·rename_i e;rw[zl e];exact .inl d
  ·rename_i e;rw[zv e];exact g h d
 |case3 l h1 h2=>exact h.elim
def UW(K:B6)(c P:A1)(q:AJ):Prop:=∃o vs b tf d tg inF a tt x t,K.lookup c=Z o/\o.cls=.type "code" ∧ o.data=.fields vs/\vs[11]?=Z (.ref P)/\vs.getD 11 .none=.ref P/\vs.getD 18 .none=.str b tf ∧
 vs.getD 7 .none=.int d tg/\vs.getD 9 .none=.bool inF/\vs.getD 10 .none=.int a tt/\c≠P/\vs[1]?=Z (.str x t)/\x∈HG/\q=x++(".<locals>.<lambda>":AJ)
theorem UW.tab{c P:A1}{q:AJ}(h:UW K c P q):MX K P q:=by
 obtain⟨o,vs,_,_,_,_,_,_,_,x,t,a,_,d,e,_,_,_,_,_,_,f,g,i⟩:=h;exact⟨c,o,vs,x,t,a,d,f,g,e,i⟩
theorem UW.hd{c P:A1}{q:AJ}(h:UW K c P q){hp:A6}(k:K.In hp):PySem.W.CodeHd hp c P:=by
 obtain⟨o,vs,a1,a2,j,n,g,p,i,x,t,a,b,d,e,e1,e2,e3,f,l,m,_⟩:=h;exact⟨o,vs,a1,a2,j,n,g,p,i,k _ _ a,b,d,e,e1,e2,e3,f,l,m⟩
abbrev Ij:HO:=.ext λ_=>True
structure Pz (H:Hp) (f:Addr) (q:Str) (params:Arguments) (body:Expr) (scope:Scope) (clos:List (Str×Addr)) (pm:Value):Prop where
 at_:∃c' ctv oc vs t,H f=some (.jl (kla_obj "<lambda>" q params body scope clos pm c' ctv) Ij)/\H c'=some (.jl oc Ij)/\oc.data=.fields vs/\vs[1]?=some (.str q t)
theorem Pz.same{H':Hp}{f:A1}{q:AJ}{body:Expr}{d:O (AJ×A1)}{pm:A0}(h:Pz H f q params body scope d pm)(s:AV H H'):Pz H' f q params body scope d pm:=by
 obtain⟨c',e,g,vs,t,a,b,c⟩:=h.at_;exact⟨c',e,g,vs,t,s _ _ a,s _ _ b,c⟩
theorem Rx{o:AE}(e:h.get? a=Z o):fQ P w H h a (.jl o Ij):=⟨e,trivial,⟨o,e⟩,λ_ _ _ _=>trivial⟩
theorem U0{c P:A1}{q:AJ}{body:Expr}{y:O (AJ×A1)}{R:BF}(I:L2.AU X AN σ H s)(hK:UW X.K c P q)(a5:X.env.code=.ref c)(hq:X.env.qual++("<lambda>":AJ)=q)(e9:defaultsOf params X.env=([],[]))(a4:closureFor scope X.env=pure y)(h:∀f H' s',L2.AU X AN σ H' s'->AV H H'->H f=X9->Pz H' f q params body scope y ((X.mg "__name__").getD .none)->R (.ref f) s'):A7 M A (eval (.Lambda params body scope pos) X.env) R E s:=by
 refine PySem.W.kla_eval e9 ?_;rw[show X.env.qual++("<lambda>":AJ)=q from hq];obtain⟨ps,B,a6,f1⟩:=(I.ok.tabs.go I.base.Al) P q hK.tab;obtain⟨b0,J,F,a7⟩:=I.hok P _ B;have D:s.heap.Ns mainGlobals X.mg:=I.mod.glob.keeps I.bk;have C:=hK.hd I.kIn;obtain⟨L,S,b1,b2,b3,b4,b5,Q⟩:=I.mod.bmain;have e6:mainGlobals≠P:=λz=>by
  obtain⟨o,es,ep,e,hd,_⟩:=D;rw[z,J]at e;cases e;cases hd
 have p:=I.bk _ _ b3;have G:L≠P:=λz=>by rw[z,J]at p;cases p;cases b4
 have d1:L≠mainGlobals:=λz=>by
  obtain⟨o,es,ep,e,hd,_⟩:=D;rw[z,e]at p;cases p;rw[hd]at Q;cases Q
 have hB:s.heap.BuiltinsAt X.mg P:=⟨L,S,b1,b2,d1,G,p,b4,b5,Q⟩;cases U:codeAmong pos (tr ps++b0).toList with
 |some N=>
  obtain⟨c',a,vs,t,rfl,g1,g2,g3⟩:=a7 pos N U;refine PySem.W.kla_makeFunctionHit (mg:=X.mg) a4 I.ok.glob D a5 C J F U hB λm h' tk hk f0=>?_;have x:L2.AU X AN σ H { s with heap:=h',toks:=tk }:=I.kept hk;have i:H h'.objs.size=X9:=x.hok.fresh (zo _);have l:AV H (B4 H h'.objs.size (.jl (kla_obj "<lambda>" q params body scope y ((X.mg "__name__").getD .none) c' m) Ij)):=bY i;refine h h'.objs.size _ _ (x.laid (t':=tk) (λb u e=>zd _ e) (zo _) (Rx (zC _ X2))) l i ⟨c',m,a,vs,t,aU,l _ _ g1,g2,?_⟩;rw[a6]at g3;exact g3
 |none=>
  refine PySem.W.kla_makeFunction (mg:=X.mg) a4 I.ok.glob D a5 C J F U e6 hB λc' m h' tk hx c0 d2 e0 a3=>?_;obtain⟨f3,a,vs,t,e2,e5,hd,hv⟩:=e0;cases e2;have e7:H c'=X9:=I.hok.fresh c0;have nP:∀b,H b=X9->b≠P:=λb n z=>by rw[z,B]at n;cases n
  have f2:=a3;have g:AV H (B4 H c' (.jl a Ij)):=bY e7;have u:Un X.fs [] H (B4 H c' (.jl a Ij)) s.heap h':=by
   refine⟨λb o e n _ _=>hx b o (nP b n) e,λb o e n _ _=>⟨o.slots,hx b o (nP b n) e⟩,λb o e n _=>?_,λb o e _=>?_,λb xs e=>g _ _ e,λb o u e=>g _ _ e,λb ps e=>⟨#[],by rw[g _ _ e];simp⟩⟩
   ·rw[aK (zS (zD (zz e) c0))];exact n
   ·by_cases j:b=P
    ·subst j;exact⟨_,a3⟩
    ·exact⟨o,hx b o j e⟩
  have c4:Cq X.prog X.w (B4 H c' (.jl a Ij)) h':=λb S e=>by
   by_cases j:b=c'
   ·subst j;rw[aU]at e;cases e;exact Rx e5
   ·rw[aK j]at e;by_cases G:b=P
    ·subst G;rw[B]at e;cases e;refine⟨b0++#[rawInt pos.line,rawInt pos.col,.ref c'],?_,?_,λpos' N z=>?_⟩
     ·rw[<-xn];exact a3
     ·rw[<-xn,ZA];exact TriplesOk_snoc _ _ _ _ F
     ·rw[<-xn,ZA]at z;rcases Xh _ F z with z|z
      ·obtain⟨d,od,ws,t',e1,e2,e3,e4⟩:=a7 pos' N z;exact⟨d,od,ws,t',e1,g _ _ e2,e3,e4⟩
      ·exact⟨c',a,vs,t,z,aU,hd,by rw[a6];exact hv⟩
    ·refine(I.hok b S e).stay (λd v hd q'=>hx d v (λz=>?_) q') (λd z=>g _ _ z) (λd xs z=>g _ _ z) λd o φ z=>g _ _ z;subst z;rcases hd with z|z
     ·exact G z.symm
     ·rw[B]at z;cases z
  have x:L2.AU X AN σ (B4 H c' (.jl a Ij)) { s with heap:=h',toks:=tk }:=I.un u c4;have i:(B4 H c' (.jl a Ij)) h'.objs.size=X9:=x.hok.fresh (zo _);have d0:H h'.objs.size=X9:=by rw[aK (kg d2)]at i;exact i
  have l:AV (B4 H c' (.jl a Ij)) (B4 (B4 H c' (.jl a Ij)) h'.objs.size (.jl (kla_obj "<lambda>" q params body scope y ((X.mg "__name__").getD .none) c' m) Ij)):=bY i;exact h h'.objs.size _ _ (x.laid (t':=tk) (λb u e=>zd _ e) (zo _) (Rx (zC _ X2))) (g.trans l) d0 ⟨c',m,a,vs,t,aU,l _ _ aU,hd,hv⟩
def PJ(X:Cx)(scope:Scope)(cl:O (AJ×A1)):AZ->O Nat->Prop
 |[],[]=>True
 |x::xs,i::is=>(X.N[i]?=Z x/\(X.env.kindOf x=Z .cell\/X.env.kindOf x=Z .free)/\scope.names.lookup x=Z .free/\∃c,cl.lookup x=Z c)/\PJ X scope cl xs is
 |_,_=>False
theorem PJ.get{X:Cx}{scope:Scope}{cl:O (AJ×A1)}:∀{xs:AZ} {is:O Nat},PJ X scope cl xs is->xs.length=is.length/\∀(j:Nat) (x:AJ),xs[j]?=Z x->∃i,is[j]?=Z i/\X.N[i]?=Z x/\(X.env.kindOf x=Z .cell\/X.env.kindOf x=Z .free)/\scope.names.lookup x=Z .free/\∃c,cl.lookup x=Z c
 |[],[],_=>⟨rfl,λj x e=>by simp at e⟩
 |x::xs,i::is,h=>by
  obtain⟨h1,h2⟩:=h;obtain⟨l,g⟩:=PJ.get h2;refine⟨by simp[l],λj y e=>?_⟩;cases j with
  |zero=>simp at e;subst e;exact⟨i,rfl,h1⟩
  |succ j=>obtain⟨k,e1,e2⟩:=g j y (by simpa using e);exact⟨k,by simpa using e1,e2⟩
 |[],_::_,h=>h.elim
 |_::_,[],h=>h.elim
structure PK (X:Cx) (scope:Scope) (cl:List (Str×Addr)) (x:Str) (xs:AZ) (is:List Nat):Prop where
 clos:closureFor scope X.env=pure cl
 kind:scope.kind=.function
 co:scope.isCoroutine=false
 gen:scope.isGenerator=false
 ahw:∀y∈scope.names,y.2≠.cell
 par:scope.names.lookup x=some .local
 sub:C1 X.env.cells cl
 has:∀y∈scope.names,y.2=.free->∃c,cl.lookup y.1=some c
 cap:PJ X scope cl xs is
def EM(X:Cx)(A:A5)(a:AZ)(env:Env)(s₀:A2)(H₀:Hp):Cx:=
 { X with A:=A.deeper env,N:=a,s₀:=s₀,H₀:=H₀,env:=env,outer:=X.stack,stack:=env::X.stack,ex:=[],calm:=true,fn:=λ_=>false,pn:=[],xe:=λ_ _=>False }
section
variable{q:AJ}{body:Expr}{xs:AZ}{f c':A1}{pm:A0}
theorem sA{h1:A6}{t1:Nat}(I:L2.AU X AN σ H s)(O:PK X scope cl x xs is)(F:A.frames=Z X.stack)(S:A.handled=X9)(r:Au v u)(U:h1.Ns s.heap.objs.size (λy=>[(x,u)].reverse.lookup y))(hk:∀b o,s.heap.get? b=Z o->h1.get? b=Z o):
  L2.AU (EM X A (x::xs) (envX q scope s.heap.objs.size f (.ref c') cl) s H) [] (Z v::uE is σ) H { s with heap:=h1,toks:=t1 }:=by
 obtain⟨B,Q⟩:=O.cap.get;have g:∀b:A1,b∉(EM X A (x::xs) (envX q scope s.heap.objs.size f (.ref c') cl) s H).ex:=λb z=>absurd (show b∈([]:List A1) from z) (by simp);have d:∀y c,cl.lookup y=Z c->X.env.cells.lookup y=Z c:=λy c e=>O.sub.get e;refine⟨⟨I.ok.mod,O.kind,rfl,rfl,zo _,λy z c e1 e2=>I.ok.inj y z c (d _ _ e1) (d _ _ e2),λy a=>?_,λy c h _=>absurd h (by show ¬ (false=true);simp),λ_=>S,Around.frames_deeper F,.inr ⟨rfl,rfl⟩,λb z=>absurd z (g b),I.bs,zt I.ok.bsz I.sz,λb _ _=>g b,λb z=>absurd z (g b),I.stack,I.Qo,I.ok.tabs.go I.base.Al⟩,
  rfl,I.bare,Un.kept hk,⟨_,U,λj y w e1 e2 _=>?_⟩,λy c e=>?_,I.hok.fresh (zo _),λy c e=>I.qX y c (d _ _ e),λp hp=>absurd (show p∈([]:List (A1×AE)) from hp) (by simp),I.hok.kept hk,?_⟩
 ·have a:scope.names.lookup y=Z .cell\/scope.names.lookup y=Z .free:=a;rcases a with a|a
  ·exact absurd X2 (O.ahw _ (JO a))
  ·exact O.has _ (JO a) rfl
 ·cases j with
  |zero=>
   have e1:Z x=Z y:=e1;have e2:Z (Z v)=Z (Z w):=e2;cases e1;cases e2;exact⟨u,r,.inl ⟨O.par,by simp⟩⟩
  |succ j=>
   have e1:xs[j]?=Z y:=e1;have e2:(uE is σ)[j]?=Z (Z w):=e2;obtain⟨i,C,n,k,P,c,t⟩:=Q j y e1;have e3:σ[i]?=Z (Z w):=by
    unfold uE at e2;rw[Zp,C]at e2;cases q:σ[i]? with
    |none=>rw[xb,q]at e2;cases e2
    |some o=>
     rw[xb,q]at e2;have:o=Z w:=by simpa using e2
     rw[this]
   have M:Wi X.env.scope y:=by
    rcases k with k|k
    ·exact .inr (.inl k)
    ·exact .inr (.inr k)
   obtain⟨m',W,K⟩:=I.loc;obtain⟨N,G,l⟩:=K i y w n e3 M;refine⟨N,G,?_⟩;rcases l with⟨J,_⟩|⟨_,c2,D,L⟩
   ·rcases k with k|k<;>(rw[J]at k;cases k)
   ·have:=d _ _ t;rw[D]at this;cases this;obtain⟨o,m,hd⟩:=L;exact .inr ⟨.inr P,_,t,o,hk _ o m,hd⟩
 ·obtain⟨E,o,m,hd⟩:=I.cell y c (d _ _ e);exact⟨E,o,hk _ _ m,hd⟩
 ·show(Z v::uE is σ).length=(x::xs).length;simp[uE,B]
theorem Zv{y:Bx}(I:L2.AU X AN σ H s)(O:PK X scope cl x xs is)(hA:A.frames=Z X.stack)(hh:A.handled=X9)(a5:A.depth<recursionLimit)(L:Pz H f q params body scope cl pm)(b0:∀b3 ct u,bindArgs (kla_fn "<lambda>" q params body scope cl pm b3 ct) ⟨[u],[]⟩=pure [(x,u)])(hb:∀f c' s H,PV (EM X A (x::xs) (envX q scope s.heap.objs.size f (.ref c') cl) s H) body fb)(E:bV X.K H0 H σ ρ)(r:Au v u)(rd:AW X.K H d v)(e:fb (Z (.z d)::gB is ρ)=Z y):
  A7 (bi X) A (call (.ref f) [u]) (λC s'=>∃g H',L2.AU X AN σ H' s'/\Au g C/\AV H H'/\Nw H y g/\bJ X.K H' y g) (λ_ _=>False) s:=by
 obtain⟨c',b5,oc,vs,t,a1,a2,a3,U⟩:=L.at_;have hf:=(I.hok _ _ a1).1;have hc:=(I.hok _ _ a2).1;refine wpAny_call (PySem.W.kla_callFunE a5 hf X2 O.co O.gen X2 ⟨c',oc,vs,t,rfl,hc,a3,U⟩ ?_);rw[b0];refine ze (wpAny_newFunctionEnv O.ahw (λz N=>by rw[bj.mp N];exact O.par) (λa7 b4 D=>⟨(I.nolimit).fresh _ D,?_⟩) O.kind);show AF _ _ (.expr body (envX q scope s.heap.objs.size f (.ref c') cl)) _ _;have a6:∀b o,s.heap.get? b=Z o->a7.get? b=Z o:=λb o e=>D.extBut b o (zS (zz e)) (zd _ e);have J:=sA (t1:=s.toks+1) (c':=c') (f:=f) (q:=q) I O hA hh r b4 a6;have E0:=E.caps is 0;have E1:bV X.K H H (Z v::uE is σ) (Z (.z d)::gB is ρ):=by
  have B:=E0.len;simp only[List.replicate_zero,qk]at E0 B;refine⟨by simpa using B,λi b e=>?_,λi j c a b e h=>?_,AV.refl H,λi c a e h=>?_⟩
  ·cases i with
   |zero=>cases e;exact⟨v,rfl,rd⟩
   |succ i=>exact E0.val i b (by simpa using e)
  ·cases i with
   |zero=>cases e;cases h
   |succ i=>
    intro h1 h2 F h4;cases j with
    |zero=>cases h2;cases F
    |succ j=>rw[E0.own i j c a b (by simpa using e) h (by simpa using h1) (by simpa using h2) F (by simpa using h4)]
  ·cases i with
   |zero=>cases e;cases h
   |succ i=>intro h1;exact E0.new i c a (by simpa using e) h (by simpa using h1)
 refine PySem.W.kla_codeExpr (qa (hb f c' s H [] _ _ _ (λg H'=>AV H H'/\Nw H y g/\bJ X.K H' y g) J ⟨H,_,y,E1,e,λg H' m p n=>⟨m,p,n⟩⟩) (λC s' hs=>?_) λe s' hs=>hs.elim);obtain⟨g,H',l,rv,m,p,n⟩:=hs;obtain⟨P,H2,S,G,s2,n2,M⟩:=I.after (Q:=λg H'=>AV H H'/\Nw H y g/\bJ X.K H' y g) ⟨g,H',l.os,l.bare,l.base,l.hok,rv,m,p,n⟩;exact⟨P,H2,S,G,s2,n2,M⟩
end
end P1
namespace P1
open PySem PySem.Spec PySem.Calls PyProof.Rows L2 S1
def Ht(bt:Dt->Dt->Bool):Dt->Dt->O (Dt×Dt)->Dt
 |b,_,[]=>b
 |b,kb,(d,k)::r=>if bt k kb=true then Ht bt d k r else Ht bt b kb r
def BH(Eu:Dt->Bool)(fk:Dt->Y Bx):O Dt->Y (O (Dt×Dt))
 |[]=>Z []
 |d::ds=>match fk d with
  |some (.z k)=>if Eu k=true then(BH Eu fk ds).bind λr=>Z ((d,k)::r)else X9
  |_=>X9
def Ry(X:Cx)(σ:L2.St)(H1:Hp)(f:A1)(fk:Dt->Y Bx):Prop:=∀(AN:O (A1×AE)) (s:A2) (H:Hp) (d k:Dt) (v:V) (u:A0),L2.AU X AN σ H s->AV H1 H->Au v u->AW X.K H d v->fk d=Z (.z k) →
 A7 (bi X) X.A.in1 (call (.ref f) [u]) (λb s'=>∃a H',L2.AU X AN σ H' s'/\Au a b/\AV H H'/\AW X.K H' k a) (λ_ _=>False) s
def KN(X:Cx)(op:CmpOp)(bt:Dt->Dt->Bool)(Eu:Dt->Bool):Prop:=∀(AN:O (A1×AE)) (σ:L2.St) (H:Hp) (s:A2) (a b:Dt) (f d:V) (c e:A0) (Q:BF) (E:BF),L2.AU X AN σ H s->Au f c->Au d e →
 AW X.K H a f->AW X.K H b d->Eu a=true->Eu b=true->Q (.bool (bt a b)) s->A7 (bi X) X.A.in1 (richCompare op c e) Q E s
theorem mF{H1:Hp}{S:A1}{o:HO}(s:AV H1 H)(h:H1 S=X9):AV H1 (B4 H S o):=λa u e=>by
 rw[aK (cM e h)];exact s a u e
theorem wz{r:O (Dt×Dt)}(h:BH Eu fk (d::ds)=Z r):∃k a,fk d=Z (.z k)/\Eu k=true/\BH Eu fk ds=Z a/\r=(d,k)::a:=by
 simp only[BH]at h;split at h
 ·rename_i k hk;split at h
  ·rename_i ok;obtain⟨a,e,h⟩:=AT h;cases h;exact⟨k,a,hk,ok,e,rfl⟩
  ·cases h
 ·cases h
theorem vC{H':Hp}{xs:O V}(h:su K H a xs)(s:AV H H'):su K H' a xs:=by
 rcases h with (h|⟨o,h⟩)|h
 ·exact .inl (.inl (s _ _ h))
 ·exact .inl (.inr ⟨o,s _ _ h⟩)
 ·exact .inr h
theorem Xi{p:A1×AE}(I:L2.AU X AN σ H s)(h1:s.heap.get? p.1=Z p.2)(h2:H p.1=X9)(d:p.1≠X.env.locals)(c:p.1∉X.fs)(b:∀v,p.2.data≠.cell v):L2.AU X (p::AN) σ H s:=
 I.Cv λq a=>by
  rcases List.mem_cons.mp a with rfl|a
  ·exact⟨h1,h2,d,c,b⟩
  ·exact I.pin q (ZE _ a)
theorem Rz{p:A1×AE}(I:L2.AU X (p::AN) σ H s):L2.AU X AN σ H s:=
 I.Cv λq a=>I.pin q (ZE _ (zi _ a))
def MB:{ f:String->Builtin // f "min"=Builtin.«min»/\f "max"=Builtin.«max» }:=by
 refine⟨?f,?a,?b⟩
 case a=>delta Builtin.«min»;rfl
 case b=>delta Builtin.«max»;rfl
def Me:{ f:String->CmpOp->Builtin // f "min" .Lt=Builtin.«min.loop»/\f "max" .Gt=Builtin.«max.loop» }:=by
 refine⟨?f,?a,?b⟩
 case a=>delta Builtin.«min.loop»;rfl
 case b=>delta Builtin.«max.loop»;rfl
structure MM (nm lp:String) (op:CmpOp):Prop where
 hk:builtinKind nm=none
 hp:plainId nm=true
 he:entryFor table nm=some (MB.1 nm)
 pl:plainId lp=true
 le:entryFor table lp=some (Me.1 nm op)
 hn:(toString nm++toString ".loop":String)=lp
 a1:∀a,argsOk nm ⟨[a],[]⟩
 a2:∀a b,argsOk nm ⟨[a,b],[]⟩
 ak:∀a v,argsOk nm ⟨[a],[(Str.ofString "key",v)]⟩
theorem Xj:MM "min" "min.loop" .Lt:=⟨PySem.F.kind_min,PySem.F.plain_min,PySem.F.entry_min.trans (congrArg Z MB.2.1.symm),PySem.F.plain_min_loop,PySem.F.entry_min_loop.trans (congrArg Z Me.2.1.symm),by decide,PySem.F.args_min1,PySem.F.args_min2,λ_ _=>by unfold argsOk;kernel_rfl⟩
theorem Xk:MM "max" "max.loop" .Gt:=⟨PySem.F.kind_max,PySem.F.plain_max,PySem.F.entry_max.trans (congrArg Z MB.2.2.symm),PySem.F.plain_max_loop,PySem.F.entry_max_loop.trans (congrArg Z Me.2.2.symm),by decide,PySem.F.args_max1,PySem.F.args_max2,λ_ _=>by unfold argsOk;kernel_rfl⟩
section
variable{nm lp:String}(hM:MM nm lp op){R:Result->A2->Prop}
include hM in
theorem VA{f S a:A1}{H1:Hp}{a4:Dt}(f2:X.calm=true)(hT:Ry X σ H1 f fk)(hC:KN X op bt Eu)(hl:su X.K H1 l vs)(a5:aO X.K H1 ds vs)(e1:H1 S=X9)(f3:l≠a)(g0:S≠a)(a6:a≠X.env.locals)(e5:X.s₀.heap.objs.size<=a)(g2:a∉X.fs)(d1:∀x c,X.env.cells.lookup x=Z c->c≠a)(b4:∀p∈X.pn++AN,p.1≠a)(hR:∀v u H' s',L2.AU X AN σ H' s'->AV H1 H'->Au v u->AW X.K H' a4 v->R (.ok (.ret u)) s'):
  ∀(r:O (Dt×Dt)) (j:Nat) (s:A2) (H:Hp) (i:AE) (d k:Dt) (B C:V),BH Eu fk (ds.drop j)=Z r->j<=ds.length->L2.AU X ((a,i)::AN) σ H s->AV H1 H->i.cls=.type "list_iterator" → i.data=.fields #[.ref l,.int j 0] →
   H S=Z (.lst [B,C])->AW X.K H d B->AW X.K H k C->Eu k=true->Ht bt d k r=a4 →
   AF (bi X) X.A (.builtin lp ⟨[.ref a,.ref f,.ref S],[]⟩) R s:=by
 intro r
 induction r with
 |nil=>
  intro j s H i d k B C hk hj I m b0 a3 q rd rk ok g;have hh:X.A.in1.handled=X9:=I.ok.hd f2;have g8:ds.drop j=[]:=by
   cases e:ds.drop j with
   |nil=>rfl
   |cons x y=>
    rw[e]at hk;obtain⟨_,_,_,_,_,h⟩:=wz hk;cases h
  have N:j=ds.length:=by
   have:=congrArg dv g8;rw[jS]at this;simp at this;omega
  obtain⟨AQ,L,pl,hz⟩:=I.list (vC hl m);have c4:AQ.length=ds.length:=by rw[<-L.length,a5.length]
  obtain⟨_,h2,n2,rs,_,eS⟩:=I.Qx q;obtain⟨u1,u2,rfl,d0,f1⟩:=DO rs;have gI:=(I.pin (a,i) (ZE _ zh)).1;have W:=Walks.list (prog:=X.prog) (w:=X.w) (A:=X.A.in1) hh a l f3 AQ.toArray;refine k8 hM.le ?_;rw[Around.under_plainId hM.pl _];show A7 _ X.A.in1 (seqItems? (.ref S) >>= _) _ _ _;refine zb (kq eS X2 ?_);show A7 _ X.A.in1 (tryCatch (pyNext (.ref a)) _ >>= _) _ _ _;refine zb (ko (W.done _ _ _ ⟨⟨i,gI,b0,by rw[a3,zr,c4,<-N]⟩,pl.isList⟩ λh' F U=>?_));have I1:L2.AU X AN σ H { s with heap:=h',toks:=F }:=(Rz I).turned (it:=a) (λb o g e=>U b o (by simpa using g) e) (I.pin (a,i) (ZE _ zh)).2.1 a6 (.inr e5) d1 b4;have e6:=U S _ (by simpa using g0) eS;show A7 _ X.A.in1 (updateSeq S (λ_=>#[]) >>= _) _ _ _;refine zb ?_;refine kX e6 X2 (zb (kG (ze ?_)));have s1:=Qr h' S (Obj.mapSeq λ_=>(#[]:Array A0));obtain⟨c2,J⟩:∃c2,(h'.update S (Obj.mapSeq λ_=>(#[]:Array A0))).get? S=Z { cls:=.type "list",data:=.seq #[] c2 }:=⟨_,get?_update_seq e6 λ_=>#[]⟩;have t:L2.AU X AN σ (B4 H S (.lst [])) { s with heap:=h'.update S (Obj.mapSeq λ_=>(#[]:Array A0)),toks:=F }:=I1.write (by rw[q];trivial) (.inl X2) (λb u g e=>(s1.2 b g).trans e) ⟨_,J⟩ ⟨Zs _,[],c2,.nil,J⟩;have e0:d=a4:=g;subst e0;exact hR B u1 _ _ t (mF m e1) d0 (rd.kp (Kp.lst q))
 |cons dk r ih=>
  intro j s H i d k B C hk hj I m b0 a3 q rd rk ok g;have hh:X.A.in1.handled=X9:=I.ok.hd f2;obtain⟨d2,AS,M⟩:∃d2 AS,ds.drop j=d2::AS:=by
   cases e:ds.drop j with
   |nil=>rw[e]at hk;cases hk
   |cons x y=>exact⟨x,y,rfl⟩
  have N:j<ds.length:=by
   have:=congrArg dv M;rw[jS]at this;simp at this;omega
  have f9:ds[j]?=Z d2:=by
   have:=congrArg (·[0]?) M;simpa using this
  have e4:ds.drop (j+1)=AS:=by
   have:=congrArg List.tail M;rw[List.tail_drop]at this;simpa using this
  rw[M]at hk;obtain⟨E,r',g6,f0,e7,hk⟩:=wz hk;cases hk;obtain⟨v2,g3,e3⟩:=a5.get f9;obtain⟨AQ,L,pl,hz⟩:=I.list (vC hl m);have c4:AQ.length=ds.length:=by rw[<-L.length,a5.length]
  obtain⟨w2,h1,e9⟩:=L.get g3;obtain⟨_,h2,n2,rs,_,eS⟩:=I.Qx q;obtain⟨u1,u2,rfl,d0,f1⟩:=DO rs;have pI:=I.pin (a,i) (ZE _ zh);have W:=Walks.list (prog:=X.prog) (w:=X.w) (A:=X.A.in1) hh a l f3 AQ.toArray;refine k8 hM.le ?_;rw[Around.under_plainId hM.pl _];show A7 _ X.A.in1 (seqItems? (.ref S) >>= _) _ _ _;refine zb (kq eS X2 ?_);show A7 _ X.A.in1 (tryCatch (pyNext (.ref a)) _ >>= _) _ _ _;refine zb (ko (W.item j _ _ _ (by rw[zr];omega) ⟨⟨i,pI.1,b0,a3⟩,pl.isList⟩ λv h' F hP f4 U=>?_));have hv:v=w2:=by
   rw[kQ,h1]at hP;cases hP;rfl
  subst hv;obtain⟨Q,g1,e2,a7⟩:=id f4.1;have I1:L2.AU X ((a,Q)::AN) σ H { s with heap:=h',toks:=F }:=Xi ((Rz I).turned (it:=a) (t':=F) (λb o g e=>U b o (by simpa using g) e) pI.2.1 a6 (.inr e5) d1 b4) g1 pI.2.1 a6 g2 (λv z=>by rw[a7]at z;cases z);show A7 _ X.A.in1 (tryCatch (holding [v] (call (.ref f) [v])) _ >>= _) _ _ _;refine zb (ko (Z3 (qa (hT _ _ H d2 E v2 v I1 m e9 (e3.kp (.of m)) g6) (λx D he=>?_) λ_ _ hF=>hF.elim)));obtain⟨kv,H2,t,c0,n,b6⟩:=he;have G:=n _ _ q;obtain⟨_,h3,n3,h4,_,b3⟩:=t.Qx G;have h0:=rd.kp (.of n);have b5:=rk.kp (.of n);show A7 _ X.A.in1 (tryCatch (holding [v,x] (richCompare op x u2 >>= _)) _ >>= _) _ _ _;refine zb (ko (Z3 (zb (hC _ _ _ _ E k kv C x u2 _ _ t c0 f1 b6 b5 f0 ok ?_))));refine zb (Z3 (ky ?_));refine zb (kG (ze ?_));simp only[Ht]at g;by_cases P:bt E k=true
  ·rw[zl P]at g;simp only[P,QQ];have s1:=Qr D.heap S (Obj.mapSeq λ_=>#[v,x]);obtain⟨c2,J⟩:∃c2,(D.heap.update S (Obj.mapSeq λ_=>#[v,x])).get? S=Z { cls:=.type "list",data:=.seq #[v,x] c2 }:=⟨_,get?_update_seq b3 λ_=>#[v,x]⟩;have I3:L2.AU X ((a,Q)::AN) σ (B4 H2 S (.lst [v2,kv])) { D with heap:=D.heap.update S (Obj.mapSeq λ_=>#[v,x]) }:=t.write (t':=D.toks) (by rw[G];trivial) (.inl X2) (λb u g e=>(s1.2 b g).trans e) ⟨_,J⟩ ⟨(show 2<=AA by decide),[v,x],c2,.cons e9 (.cons c0 .nil),J⟩;refine zb ?_;refine kX b3 X2 (zb (kG ?_));rw[hM.hn];exact ze ⟨plainId_quiet hM.pl _,ih (j+1) _ _ Q d2 E v2 kv (by rw[e4];exact e7) N I3 (mF (m.trans n) e1) e2 (by rw[a7]) aU (((e3.kp (.of m)).kp (.of n)).kp (Kp.lst G)) (b6.kp (Kp.lst G)) f0 g⟩
  ·rw[zv P]at g;have f5:bt E k=false:=by simpa using P
   simp only[f5,zI,qh];refine zb (kG ?_);rw[hM.hn];exact ze ⟨plainId_quiet hM.pl _,ih (j+1) _ _ Q d k B C (by rw[e4];exact e7) N t (m.trans n) e2 (by rw[a7]) G h0 b5 ok g⟩
include hM in
theorem f6{f:A1}{S d0 m:Dt}{J:O (Dt×Dt)}(I:L2.AU X AN σ H s)(b0:X.calm=true)(P:Ry X σ H f fk)(hC:KN X op bt Eu)(B:su X.K H l vs)(a4:aO X.K H ds vs)(hk:BH Eu fk ds=Z ((d0,m)::J))(a:Ht bt d0 m J=S)(hQ:∀v u H' s',L2.AU X AN σ H' s'->AV H H'->Au v u->AW X.K H' S v->Q u s'):
  A7 (bi X) X.A (call (.builtin nm) [.ref l] [(Str.ofString "key", .ref f)]) Q E s:=by
 have hh:X.A.in1.handled=X9:=I.ok.hd b0;obtain⟨AQ,rv,pl,hz⟩:=I.list B;have e5:l<s.heap.objs.size:=by obtain⟨o,n,e,_⟩:=pl;exact zz e
 refine kmk_tree hM.hk hM.hp hM.he (hM.ak _ _) ?_;show A7 _ X.A.in1 (Builtin.Builtins.bindParams nm ["key","default"] 0 ⟨[],[(Str.ofString "key", .ref f)]⟩ >>= _) _ _ s;refine zb (Y2 (show Builtin.Builtins.bindParams nm ["key","default"] 0 ⟨[],[(Str.ofString "key", .ref f)]⟩=pure [Z (.ref f),X9] from X2) ?_);refine zb (ze ?_);refine zb (wpAny_pyIter_list pl.isList ?_);refine zb (YU ?_ (Zs _));rw[hM.hn];generalize hoI:({ cls:=.type "list_iterator",data:=.fields #[.ref l,.int 0 0] }:AE)=oI;have hS:(s.heap.push oI).objs.size=s.heap.objs.size+1:=size_push' ..;have f4:(s.heap.push oI).get? s.heap.objs.size=Z oI:=zC _ (by rw[<-hoI];rfl);have q:s.heap.objs.size≠X.env.locals:=kg I.lt;have N:X.s₀.heap.objs.size<=s.heap.objs.size:=I.sz;have F:s.heap.objs.size∉X.fs:=I.ak6 (zo _);have a6:∀x c,X.env.cells.lookup x=Z c->c≠s.heap.objs.size:=λx c e=>by obtain⟨v,o,ho,_⟩:=I.cell x c e;exact zS (zz ho)
 have U:∀p∈X.pn++AN,p.1≠s.heap.objs.size:=λp hp=>zS (zz (I.pin p hp).1);have b6:l≠s.heap.objs.size:=zS e5;have f0:(s.heap.push oI).objs.size≠s.heap.objs.size:=by rw[hS];exact Nat.succ_ne_self _
 have fI:H s.heap.objs.size=X9:=I.hok.fresh (zo _);have fS:H (s.heap.push oI).objs.size=X9:=I.hok.fresh (by rw[hS];exact Kj _);have I1:L2.AU X ((s.heap.objs.size,oI)::AN) σ H { s with heap:=s.heap.push oI }:=Xi (I.kept (t':=s.toks) λb o e=>zd _ e) f4 fI q F (λv z=>by rw[<-hoI]at z;cases z);have j:L2.AU X ((s.heap.objs.size,oI)::AN) σ (B4 H (s.heap.push oI).objs.size (.lst [])) { s with heap:=(s.heap.push oI).push { cls:=.type "list",data:=.seq #[] } }:=I1.laid (t':=s.toks) (λb o e=>zd _ e) (zo _) ⟨Zs _,[],0,.nil,zC _ rfl⟩;have g:AV H (B4 H (s.heap.push oI).objs.size (.lst [])):=bY fS;refine ze ⟨plainId_quiet hM.pl _,?_⟩;obtain⟨d2,AS,e6⟩:∃d2 AS,ds=d2::AS:=by
  cases e:ds with
  |nil=>rw[e]at hk;cases hk
  |cons x y=>exact⟨x,y,rfl⟩
 subst e6;obtain⟨k2,r',c4,f2,e3,hk⟩:=wz hk;cases hk;obtain⟨C,e9,b4⟩:=a4.get (i:=0) (d:=d0) rfl;obtain⟨b3,e4,f1,_⟩:=j.list (vC B g);obtain⟨w2,a7,a3⟩:=e4.get e9;have L:=j.pin (s.heap.objs.size,oI) (ZE _ zh);obtain⟨_,g1,n2,rs,_,eS⟩:=j.Qx (l:=(s.heap.push oI).objs.size) (xs:=[]) aU;cases rs;have W:=Walks.list (prog:=X.prog) (w:=X.w) (A:=X.A.in1) hh s.heap.objs.size l b6 b3.toArray;refine k8 hM.le ?_;rw[Around.under_plainId hM.pl _];show A7 _ X.A.in1 (seqItems? (.ref _) >>= _) _ _ _;refine zb (kq eS X2 ?_);show A7 _ X.A.in1 (tryCatch (pyNext (.ref s.heap.objs.size)) _ >>= _) _ _ _;have e2:0<b3.length:=(bc.mp a7).1;refine zb (ko (W.item 0 _ _ _ (by rw[zr];exact e2) ⟨⟨oI,L.1,by rw[<-hoI],by rw[<-hoI];rfl⟩,f1.isList⟩ λv h' a5 hP e7 f9=>?_));have hv:v=w2:=by
  rw[kQ,a7]at hP;cases hP;rfl
 subst hv;obtain⟨G,e1,f3,b5⟩:=id e7.1;have f5:=(Rz j).turned (h':=h') (it:=s.heap.objs.size) (t':=a5) (λb o a e=>f9 b o (by simpa using a) e) L.2.1 q (.inr N) a6 U;have I3:L2.AU X ((s.heap.objs.size,G)::AN) σ (B4 H (s.heap.push oI).objs.size (.lst [])) { s with heap:=h',toks:=a5 }:=Xi f5 e1 L.2.1 q F (λv z=>by rw[b5]at z;cases z);show A7 _ X.A.in1 (tryCatch (holding [v] (call (.ref f) [v])) _ >>= _) _ _ _;refine zb (ko (Z3 (qa (P _ _ _ d0 m C v I3 g a3 (b4.kp (.of g)) c4) (λx h he=>?_) λ_ _ hF=>hF.elim)));obtain⟨kv,H2,I4,e0,D,d1⟩:=he;have t:=D _ _ (show(B4 H (s.heap.push oI).objs.size (.lst [])) (s.heap.push oI).objs.size=Z (.lst []) from aU);obtain⟨_,g2,n3,g0,_,M⟩:=I4.Qx t;have s1:=Qr h.heap (s.heap.push oI).objs.size (Obj.mapSeq λ_=>#[v,x]);obtain⟨c2,c0⟩:∃c2,(h.heap.update (s.heap.push oI).objs.size (Obj.mapSeq λ_=>#[v,x])).get? (s.heap.push oI).objs.size=Z { cls:=.type "list",data:=.seq #[v,x] c2 }:=⟨_,get?_update_seq M λ_=>#[v,x]⟩;have I5:L2.AU X ((s.heap.objs.size,G)::AN) σ (B4 H2 (s.heap.push oI).objs.size (.lst [C,kv])) { h with heap:=h.heap.update (s.heap.push oI).objs.size (Obj.mapSeq λ_=>#[v,x]) }:=I4.write (t':=h.toks) (by rw[t];trivial) (.inl X2) (λb u a e=>(s1.2 b a).trans e) ⟨_,c0⟩ ⟨(show 2<=AA by decide),[v,x],c2,.cons a3 (.cons e0 .nil),c0⟩;show A7 _ X.A.in1 (updateSeq (s.heap.push oI).objs.size (λ_=>#[v,x]) >>= _) _ _ _;refine zb ?_;refine kX M X2 ?_;rw[hM.hn];exact ze ⟨plainId_quiet hM.pl _,VA hM b0 P hC B a4 fS b6 f0 q N F a6 U hQ J 1 _ _ G d0 m C kv e3 (by simp) I5 (mF (g.trans D) fS) f3 (by rw[b5]) aU (((b4.kp (.of g)).kp (.of D)).kp (Kp.lst t)) (d1.kp (Kp.lst t)) f2 a⟩
end
def Mb(prog:A3)(w:A4)(A:A5)(op:CmpOp)(h0:A6)(out:A1->Prop)(P:Nat->A0->Prop)(bt:Nat->Nat->Bool):Prop:=
 ∀i j vi vj (s:A2) (Q:BF) (E:BF),(∀b o,¬ out b->h0.get? b=Z o->s.heap.get? b=Z o)->P i vi->P j vj->Q (.bool (bt i j)) s->A7 (A8 prog w) A (richCompare op vi vj) Q E s
section
variable{nm lp:String}(hM:MM nm lp op){R:Result->A2->Prop}{I:A1}{wr:O A1}{P:Nat->A0->Prop}{St:Nat->A6->Prop}
include hM in
theorem ie(W:Walks prog w A.in1 I fp wr n P St)(bt:Nat->Nat->Bool){h0:A6}(S:A1)(K:S∉fp)(N:Mb prog w A.in1 op h0 (λb=>b∈wr\/b=S) P bt):
  ∀(k j:Nat) (s:A2) (a:A0) (c:Nat),n-(j+1)=k->j+1<=n->(∀b o,b∉wr->b≠S->h0.get? b=Z o->s.heap.get? b=Z o)->St (j+1) s.heap->P (argBest bt j) a->s.heap.get? S=Z { cls:=.type "list",dict:=X9,data:=.seq #[a,a] c,slots:=#[] } →
  (∀v h' tk,P (argBest bt (n-1)) v->(∀b o,b∉wr->b≠S->h0.get? b=Z o->h'.get? b=Z o)->R (.ok (.ret v)) { s with heap:=h',toks:=tk })->AF (A8 prog w) A (.builtin lp ⟨[.ref I,.none,.ref S],[]⟩) R s:=by
 have G:S∉wr:=λh=>K (W.sub _ h);have C:∀{b:A1},¬ (b∈wr\/b=S)->b∉wr/\b≠S:=λz=>⟨λx=>z (.inl x),λx=>z (.inr x)⟩;intro k
 induction k with
 |zero=>
  intro j s a c hk L p t l f i;have u:j+1=n:=by omega
  refine k8 hM.le ?_;rw[Around.under_plainId hM.pl _];show A7 _ A.in1 (seqItems? (.ref S) >>= _) _ _ s;refine zb (kq f X2 ?_);show A7 _ A.in1 (tryCatch (pyNext (.ref I)) _ >>= _) _ _ s;refine zb (ko (W.done s _ _ (u▸t) λh' tk g=>?_));have d:=g S _ G f;show A7 _ A.in1 (updateSeq S (λ_=>#[]) >>= _) _ _ _;refine zb ?_;refine kX d X2 (zb (kG (ze ?_)));refine i a _ tk (by rw[<-u];exact l) λb o D J e=>(QU _ _ (Ki J)).trans (g b o D (p b o D J e))
 |succ k B=>
  intro j s a c hk L p t l f i;have m:j+1<n:=by omega
  refine k8 hM.le ?_;rw[Around.under_plainId hM.pl _];show A7 _ A.in1 (seqItems? (.ref S) >>= _) _ _ s;refine zb (kq f X2 ?_);show A7 _ A.in1 (tryCatch (pyNext (.ref I)) _ >>= _) _ _ s;refine zb (ko (W.item (j+1) s _ _ m t λv h' tk H E g=>?_));have d:=g S _ G f;have q:∀b o,b∉wr->b≠S->h0.get? b=Z o->h'.get? b=Z o:=λb o x y e=>g b o x (p b o x y e);show A7 _ A.in1 (tryCatch (holding [v,v] (richCompare op v a >>= _)) _ >>= _) _ _ _;refine zb (ko (Z3 (zb (N (j+1) (argBest bt j) v a _ _ _ (λb o x e=>q b o (C x).1 (C x).2 e) H l ?_))));refine zb (Z3 (ky ?_));refine zb (kG (ze ?_));cases F:bt (j+1) (argBest bt j)with
  |true=>
   simp only[QQ];refine zb ?_;refine kX d X2 (zb (kG ?_));rw[hM.hn];refine ze ⟨plainId_quiet hM.pl _,B (j+1) _ v _ () m (λb o x y e=>(QU _ _ (Ki y)).trans (q b o x y e)) (W.frame _ _ _ E λb M o e=>?_) (by simp only[argBest,F,QQ];exact H) (KP _ d X2) i⟩;exact(QU _ _ (λh:S=b=>K (by rw[h];exact M))).trans e
  |false=>
   simp only[zI,qh];refine zb (kG ?_);rw[hM.hn];exact ze ⟨plainId_quiet hM.pl _,B (j+1) _ a c () m q E (by simp only[argBest,F,zI,qh];exact l) d i⟩
include hM in
theorem VX(W:Walks prog w A.in1 I fp wr n P St)(bt:Nat->Nat->Bool){h0:A6}(S:A1)(a:S∉fp)(u:Mb prog w A.in1 op h0 (λb=>b∈wr\/b=S) P bt)(i:0<n){c:Nat}(q:∀b o,b∉wr->b≠S->h0.get? b=Z o->s.heap.get? b=Z o)(j:St 0 s.heap)(f:s.heap.get? S=Z { cls:=.type "list",dict:=X9,data:=.seq #[] c,slots:=#[] })(p:∀v h' tk,P (argBest bt (n-1)) v->(∀b o,b∉wr->b≠S->h0.get? b=Z o->h'.get? b=Z o)->R (.ok (.ret v)) { s with heap:=h',toks:=tk }):
  AF (A8 prog w) A (.builtin lp ⟨[.ref I,.none,.ref S],[]⟩) R s:=by
 have l:S∉wr:=λh=>a (W.sub _ h);refine k8 hM.le ?_;rw[Around.under_plainId hM.pl _];show A7 _ A.in1 (seqItems? (.ref S) >>= _) _ _ s;refine zb (kq f X2 ?_);show A7 _ A.in1 (tryCatch (pyNext (.ref I)) _ >>= _) _ _ s;refine zb (ko (W.item 0 s _ _ i j λv h' tk t z g=>?_));have d:=g S _ l f;show A7 _ A.in1 (updateSeq S (λ_=>#[v,v]) >>= _) _ _ _;refine zb ?_;refine kX d X2 ?_;rw[hM.hn];refine ze ⟨plainId_quiet hM.pl _,ie hM W bt S a u _ 0 _ v _ X2 i (λb o x y e=>(QU _ _ (Ki y)).trans (g b o x (q b o x y e))) (W.frame _ _ _ z λb m o e=>?_) t (KP _ d X2) p⟩;exact(QU _ _ (λh:S=b=>a (by rw[h];exact m))).trans e
include hM in
include hM in
theorem Ba{AQ:Array A0}{bt:Nat->Nat->Bool}(t:A.handled=X9)(f:s.heap.IsList a AQ)(C:0<AQ.size)(y:Mb prog w A.in1 op s.heap (λc=>s.heap.objs.size<=c) (λi v=>AQ[i]?=Z v) bt)(m:∀v h' tk,AQ[argBest bt (AQ.size-1)]?=Z v->(∀c o,s.heap.get? c=Z o->h'.get? c=Z o)->Q v { s with heap:=h',toks:=tk }):A7 (A8 prog w) A (call (.builtin nm) [.ref a]) Q E s:=by
 have h:a<s.heap.objs.size:=by obtain⟨o,e,_⟩:=f;exact zz e
 refine call_function_tree hM.hk hM.hp hM.he (hM.a1 _) ?_;show A7 _ A.in1 (Builtin.Builtins.bindParams nm ["key","default"] 0 ⟨[],[]⟩ >>= _) _ _ s;refine zb (Y2 (show Builtin.Builtins.bindParams nm ["key","default"] 0 ⟨[],[]⟩=pure [X9,X9] from X2) ?_);refine zb (ze ?_);refine zb (wpAny_pyIter_list f ?_);refine zb (QA ?_);rw[hM.hn];refine ze ⟨plainId_quiet hM.pl _,?_⟩;have d:(s.heap.push { cls:=.type "list_iterator",data:=.fields #[.ref a,.int 0 0] }).objs.size=s.heap.objs.size+1:=kK ..;have W:=Walks.list (prog:=prog) (w:=w) (A:=A.in1) t s.heap.objs.size a (zS h) AQ;refine VX hM (h0:=s.heap) W bt _ ?_ (λi j n p s' u B hk hi l x=>y i j n p s' u B (λc o b e=>hk c o (λz=>?_) e) hi l x) C (λc o _ _ e=>zd _ (zd _ e)) ?_ (zC _ X2) λv h' tk q hk=>?_
 ·rw[d];intro g;simp only[QP,qA,or_false]at g;rcases g with e|e
  ·exact absurd (show(s.heap.objs.size+1:Nat)=s.heap.objs.size from e) (Nat.succ_ne_self _)
  ·exact absurd (show a<a from zD h (by rw[<-e];exact Kj _)) (ki _)
 ·rcases z with z|z
  ·rw[bj.mp z]at b;exact b (zo _)
  ·rw[d]at z;rw[z]at b;exact b (Kj _)
 ·exact⟨⟨_,zd _ (zC _ X2),rfl,rfl⟩,(f.push _).push _⟩
 ·refine m v h' tk q λc o e=>hk c o (λz=>?_) (λz=>?_) e
  ·have:=zz e;rw[bj.mp z]at this;exact ki _ this
  ·have:=zz e;rw[d]at z;rw[z]at this;exact ki _ (Kk this)
end
end P1
namespace P1
open L2 S1
def F7(bt:Dt->Dt->Bool)(Eu:Dt->Bool)(fe fb:Ev->Y Bx)(is:O Nat):Ev->Y Bx:=λρ=>(fe ρ).bind λb=>(sE b).bind λds=>(BH Eu (λd=>fb (Z (.z d)::gB is ρ)) ds).bind fun
 |(d,k)::r=>Z (.z (Ht bt d k r))
 |[]=>X9
section
variable{body:Expr}{adM p kpos:Pos}{xs:AZ}{c P:A1}{q:AJ}
theorem adN{f:A1}{pm:A0}(b:X.calm=true)(hd:X.A.depth<recursionLimit)(O:PK X scope cl x xs is)(g:∀pm i ct u,bindArgs (kla_fn "<lambda>" q params body scope cl pm i ct) ⟨[u],[]⟩=pure [(x,u)])(l:∀f c' s H,QV (EM X X.A.in1 (x::xs) (envX q scope s.heap.objs.size f (.ref c') cl) s H) body fb)(E:bV X.K H0 H σ ρ)(L:Pz H f q params body scope cl pm):
  Ry X σ H f λd=>fb (Z (.z d)::gB is ρ):=λAN s H' d k v u I a j c e=>
 qa (Zv I O (show X.A.in1.frames=Z X.stack from I.ok.frames) (show X.A.in1.handled=X9 from I.ok.hd b) (show X.A.in1.depth<recursionLimit from hd) (L.same a) (g pm) (λf c' s H=>(l f c' s H).run) (E.grow a) j c e)
  (λu' s' ⟨v',H'',I',r',s'',_,r''⟩=>⟨v',H'',I',r',s'',r''⟩) λ_ _ h=>h
theorem U4{nm lp:String}{i:AJ}(hM:MM nm lp op)(n:X.calm=true)(hd:X.A.depth<recursionLimit)(hC:KN X op bt Eu)(hg:Gl X i)(z:X.mg i=X9)(hv:AH i=Z (.builtin nm))(O:PK X scope cl x xs is)(hK:UW X.K c P q)(t:X.env.code=.ref c)(B:X.env.qual++("<lambda>":AJ)=q)(a4:defaultsOf params X.env=([],[]))(F:∀pm G ct u,bindArgs (kla_fn "<lambda>" q params body scope cl pm G ct) ⟨[u],[]⟩=pure [(x,u)])(he:QV X e fe)(J:∀f c' s H,QV (EM X X.A.in1 (x::xs) (envX q scope s.heap.objs.size f (.ref c') cl) s H) body fb)(hs:A9 [e] X.env=(false,eval e X.env)::A9 [] X.env:=by rfl)(h1:AD pos (A9 [e] X.env)=(false,eval e X.env)::AD pos (A9 [] X.env):=by rfl)(h2:(AD pos (A9 [e] X.env)).any (·.1)=false:=by rfl)(hn:i ≠ "__name__":=by decide)(a3:ad i:=by decide):
  QV X (.Call (.Name i p) [e] [⟨Z "key", .Lambda params body scope adM,kpos⟩] pos) (F7 bt Eu fe fb is):=⟨λAN s σ H Q I h=>by
 obtain⟨H0,ρ,b,E,g,D⟩:=h;unfold F7 at g;obtain⟨b1,e1,g⟩:=AT g;obtain⟨ds,ed,g⟩:=AT g;obtain⟨S,ek,g⟩:=AT g;cases S with
 |nil=>cases g
 |cons dk r=>
  obtain⟨d,k⟩:=dk;cases g;refine jv (yE I hg z hv ?_ hn a3);refine callWith_kw (jH (qp he.run yH hs pos AN s σ H (λvs H1=>∃v,vs=[v]/\AV H H1/\bJ X.K H1 b1 v) I ⟨H0,ρ,b1,E,e1,λv H' U _ l=>⟨v,rfl,U,l⟩⟩) λus s1 M=>?_) h1 h2 X2 rfl;obtain⟨vs,H1,I1,r1,v,rfl,m,l⟩:=M;obtain⟨u,rfl,W⟩:=BA r1;obtain⟨a,ws,rfl,sq,C⟩:=l.Ib ed;cases W;show A7 _ _ (evalAll [do let v <-eval (.Lambda params body scope adM) X.env;standAt pos;pure v]) _ _ s1;refine wpAny_evalAll_cons (zb (U0 I1 hK t B a4 O.clos λf H2 s2 y j hf L=>zb (kH (ze (wpAny_evalAll_nil ?_)))));show A7 _ _ (call (.builtin nm) [.ref a] [(Str.ofString "key", .ref f)]) _ _ _;exact f6 hM y n (adN n hd O F J ((E.grow m).grow j) L) hC (vC sq j) (C.kp (.of j)) ek X2 λv u H' s' w o rv N=>⟨v,H',w,rv,D v H' ((m.trans j).trans o) trivial N⟩⟩
def FM:Dt->Bool
 |.int _=>true
 |_=>false
def EO:Dt->Dt->Bool
 |.int a,.int b=>decide (b<a)
 |_,_=>false
theorem UB:KN X .Gt EO FM:=λAN σ H s e f m j i l Q E I g b p1 p2 d a h=>by
 cases e<;>first|(cases d;done)|skip;cases f<;>first|(cases a;done)|skip;simp only[AW]at p1 p2;subst p1 p2;obtain⟨t,rfl⟩:=g;obtain⟨c,rfl⟩:=b;have:=PyProof.Rows.gt_int (prog:=X.prog) (w:=X.w) (A:=X.A.in1) (E:=E) (Q:=Q) (t:=t) (u:=c) h;exact this
def GT:Dt->Bool
 |.tup [.int _,.str _]=>true
 |_=>false
def FE(a b:Dt):Bool:=match Ax a,Ax b with
 |some ks,Z ls=>eZ ks ls
 |_,_=>false
theorem Zw(h:GT d=true):∃i x,d=.tup [.int i,.str x]:=by
 unfold GT at h;split at h
 ·exact⟨_,_,rfl⟩
 ·cases h
theorem adO(B:X.A.units+100<cLine):KN X .Lt FE GT:=λAN σ H s v z t q C D Q E I o d p1 p2 m l h=>by
 obtain⟨i,x,rfl⟩:=Zw m;obtain⟨j,y,rfl⟩:=Zw l;have e1:Ax (.tup [.int i,.str x])=Z [.inl i,.inr x]:=rfl;have e2:Ax (.tup [.int j,.str y])=Z [.inl j,.inr y]:=rfl;unfold FE at h;rw[e1,e2]at h;rw[u0 e1]at p1;rw[u0 e2]at p2;simp only[BO,AW]at p1 p2;obtain⟨p,vs,rfl,sq,f⟩:=p1;obtain⟨p',F,rfl,c,n⟩:=p2;cases o;cases d;obtain⟨AQ,b,t1⟩:=Iq I sq;obtain⟨u,a,t2⟩:=Iq I c;rw[u6 f]at b;rw[u6 n]at a;have e:X.A.in1.units<cLine:=by
  show X.A.units+1<cLine;omega
 have g:Wh [Sum.inl i,Sum.inr x] [Sum.inl j,Sum.inr y]:=⟨rfl,rfl,trivial⟩;have:=UL (prog:=X.prog) (w:=X.w) (E:=E) (Q:=Q) t1 t2 (YT X b) (YT X a) g e h;exact this
end
end P1
namespace P1
open L2
theorem KQ(k:AJ):∀{vs:O A0} {ys:AZ},StrsAre vs ys->vs.countP (isStrOf k)=ys.count k
 |_,_,.nil=>rfl
 |_,_,.cons n u h=>by
  rw[hY,List.count_cons,KQ k h];rfl
section
variable{o:Expr}
theorem wP:LO X "list.count" (λx xs H Q=>∃a vs ds ys k,x=.ref a/\xs=[.str k]/\su X.K H a vs/\aO X.K H ds vs/\xY ds=Z ys/\Q (.int (ys.count k:Nat)) H):=by
 intro AN s σ H x xs v us Q I j l h;obtain⟨a,vs,ds,ys,k,rfl,rfl,sq,f,b,q⟩:=h;obtain rfl:v=Value.ref a:=j;obtain⟨u,rfl,i⟩:=BA l;obtain⟨t,rfl⟩:=i;obtain⟨AQ,m,pl,p⟩:=I.list sq;obtain⟨⟨w,e,o,sl⟩,g,c,n,d⟩:=pl.isList;simp only at c d;subst c d;obtain⟨rfl,_⟩:=uX f b;have hi:=rD m;refine call_meets F.slot_list_count ⟨_,g,rfl⟩ F.entry_list_count (F.args_list_count_2 _ _) (SeqAt.list_countAt a AQ.toArray n e sl (.str k t) (isStrOf k)) ⟨g,λy b=>(eq_isStrOf k t hi y (by simpa using b)).at _ _,?_⟩;rw[show AQ.toArray.toList=AQ from rfl,KQ k hi];exact⟨.int _,H,I.tok _,⟨_,rfl⟩,q⟩
def Dy:Bx->Bx->Y Bx
 |b,.z (.str k)=>(sE b).bind λds=>(xY ds).bind λys=>Z (.z (.int (ys.count k:Nat)))
 |_,_=>X9
theorem t9(t:QV X o fo)(j:QV X e fe)(i:attributeBase o "count" X.env (eval o X.env)=eval o X.env:=by rfl)(n:((AD cpos (A9 [e] X.env)).all (λx=>!x.1)&&(backToKw cpos (keywordEach [] X.env)).all (λx=>x.1.isSome)&&decide (([e]:O Expr).length+([]:O AC).length+(if([]:O AC).isEmpty then 0 else 1)<30))=true:=by rfl)(h:(apos.endLine==cpos.line)=true:=by rfl)(hs:A9 [e] X.env=(false,eval e X.env)::A9 [] X.env:=by rfl):QV X (.Call (.Attribute o "count" apos) [e] [] cpos) (b2 Dy fo fe):=
 ⟨S8 (Yx (T :="list") F.plainAttrs_list F.slot_list_count F.type_list_count wP t.run (qp j.run yH hs) i n h hs X2) λσ H Q q=>by
  obtain⟨H0,ρ,c,E,e,q⟩:=q;obtain⟨a,ea,e⟩:=AT e;obtain⟨b,eb,e⟩:=AT e;unfold Dy at e;split at e
  ·rename_i k;obtain⟨ds,m,e⟩:=AT e;obtain⟨ys,g,e⟩:=AT e;cases e;refine⟨H0,ρ,_,E,ea,λv H1 f y s=>?_⟩;obtain⟨p,vs,rfl,sq,u⟩:=s.Ib m;refine⟨.inl ⟨rfl,vs,sq⟩,H0,ρ,_,E.grow f,eb,λw H2 d z l=>?_⟩;obtain⟨rfl,_⟩:=CI l;exact⟨p,vs,ds,ys,k,rfl,rfl,vC sq d,u.kp (.of d),g,q _ _ (f.trans d) trivial (by simp only[bJ,AW])⟩
  ·cases e⟩
end
def vD(b:AJ->AJ->Bool):AJ->AZ->AJ
 |y,[]=>y
 |y,z::r=>if b z y=true then vD b z r else vD b y r
theorem BP(b:AJ->AJ->Bool)(z:AJ):∀(l:AZ) (y:AJ),vD b y (l++[z])=if b z (vD b y l)=true then z else vD b y l
 |[],y=>rfl
 |x::l,y=>by
  simp only[YR,vD];split
  ·exact BP b z l x
  ·exact BP b z l y
theorem FZ(b:AJ->AJ->Bool):∀(l:AZ) (y:AJ),vD b y l∈y::l
 |[],y=>zh
 |x::l,y=>by
  simp only[vD];split
  ·exact zi _ (FZ b l x)
  ·rcases List.mem_cons.mp (FZ b l y)with h|h
   ·rw[h];exact zh
   ·exact zi _ (zi _ h)
theorem U5(b:AJ->AJ->Bool)(y:AJ)(r:AZ):∀j,j<=r.length->(y::r).getD (argBest (λi j=>b ((y::r).getD i "") ((y::r).getD j "")) j) ""=vD b y (r.take j)
 |0,_=>rfl
 |j+1,h=>by
  have a:=U5 b y r j ();have e:(y::r).getD (j+1) ""=r[j]:=by simp[show j<r.length by omega]
  rw[JJ (),BP,argBest];rw[a,e];split
  ·rw[e]
  ·rw[a]
def m3(X:Cx)(op:CmpOp)(lt:AJ->AJ->Bool):Prop:=∀{s:A2} {E Q:BF} {x y:AJ} {t u:Tok},Q (.bool (lt x y)) s->A7 (bi X) X.A.in1 (richCompare op (.str x t) (.str y u)) Q E s
def EV(lt:AJ->AJ->Bool):O Bx->Y Bx
 |[b]=>(sE b).bind λds=>(xY ds).bind fun
  |y::r=>Z (.z (.str (vD lt y r)))
  |[]=>X9
 |_=>X9
abbrev U6:=EV λx z=>decide (x.cps.toList<z.cps.toList)
abbrev U7:=EV λx z=>decide (z.cps.toList<x.cps.toList)
theorem NF{nm lp:String}{lt:AJ->AJ->Bool}(hM:MM nm lp op)(x:m3 X op lt)(C:X.calm=true):nJ X (.builtin nm) (EV lt):=by
 intro AN s σ H xs us Q I g h;obtain⟨bs,c,p,e,q⟩:=h;unfold EV at e;split at e
 ·obtain⟨ds,B,e⟩:=AT e;obtain⟨ys,w,e⟩:=AT e;cases ys with
  |nil=>cases e
  |cons y r=>
   cases e;obtain⟨v,rfl,E⟩:=BQ p;obtain⟨a,vs,rfl,sq,n⟩:=E.Ib B;obtain⟨u,rfl,A⟩:=BA g;cases A;obtain⟨AQ,d,pl,F⟩:=I.list sq;obtain⟨rfl,o⟩:=uX n w;have hi:=rD d;have m:AQ.length=r.length+1:=by rw[<-d.length];simp
   have b:∀(i:Nat) (v:A0),AQ.toArray[i]?=Z v->∃t,v=.str ((y::r).getD i "") t:=λi v hv=>by
    rw[kQ]at hv;obtain⟨z,t,e1,e2⟩:=Hg hi i v hv;exact⟨t,by rw[e2,kM,e1];rfl⟩
   refine Ba hM (I.ok.hd C) pl.isList (by rw[zr,m];exact Nat.zero_lt_succ _) (bt:=λi j=>lt ((y::r).getD i "") ((y::r).getD j "")) (λi j J K s' G L hk hi f l=>?_) λv h' tk D keep=>?_
   ·obtain⟨t,rfl⟩:=b _ _ hi;obtain⟨t',rfl⟩:=b _ _ f;exact x l
   ·obtain⟨t,hv⟩:=b _ _ D;have e1:AQ.toArray.size-1=r.length:=by rw[zr];omega
    have e2:=U5 lt y r r.length (zo _);rw[xC]at e2;rw[e1]at hv;have e3:v=.str (vD lt y r) t:=hv.trans (by rw[<-e2]);exact⟨.str _,H,I.kept (t':=tk) keep,⟨t,e3⟩,q _ H (AV.refl H) trivial ⟨rfl,o _ (FZ _ r y)⟩⟩
 ·cases e
theorem Zx(a:X.calm=true):nJ X (.builtin "min") U6:=NF Xj (λh=>PySem.P.lt_str h) a
theorem Zy(a:X.calm=true):nJ X (.builtin "max") U7:=NF Xk (λh=>PySem.P.gt_str h) a
end P1
namespace P1
open L2 S1
end P1
namespace P1
open L2 S1 S6
section
variable{e:α->Dt}{e':β->Dt}
theorem zT:∀xs:AZ,xY (xs.map eS)=Z xs
 |[]=>rfl
 |x::xs=>by rw[zk,xY,zT xs,At]
def fU(b:α->α->Bool):α->O α->α
 |y,[]=>y
 |y,z::r=>if b z y=true then fU b z r else fU b y r
def As[Inhabited α](b:α->α->Bool):O α->α
 |[]=>default
 |y::r=>fU b y r
theorem Jp(b:AJ->AJ->Bool):∀(r:AZ) (y:AJ),vD b y r=fU b y r
 |[],_=>rfl
 |z::r,y=>by
  simp only[vD,fU];rw[Jp b r z,Jp b r y]
def CM(x z:AJ):Bool:=decide (x.cps.toList<z.cps.toList)
def CF(x z:AJ):Bool:=decide (z.cps.toList<x.cps.toList)
def Pm[Inhabited AJ](a:RL fa ρ eS):R (cN U6 (aq fa aH)) ρ (zE eS):=⟨As CM a.v,bA a.D (Z (a.v≠[])),λh=>by
 obtain⟨h1,h2⟩:=aC h;cases e:a.v with
 |nil=>exact absurd e h2
 |cons y r=>
  have b:=a.lk;rw[e]at b;simp only[cN,aq,aH,a.ok h1,At,U6,EV,b,zT,Jp];rfl⟩
def ND[Inhabited AJ](a:RL fa ρ eS):R (cN U7 (aq fa aH)) ρ (zE eS):=⟨As CF a.v,bA a.D (Z (a.v≠[])),λh=>by
 obtain⟨h1,h2⟩:=aC h;cases e:a.v with
 |nil=>exact absurd e h2
 |cons y r=>
  have b:=a.lk;rw[e]at b;simp only[cN,aq,aH,a.ok h1,At,U7,EV,b,zT,Jp];rfl⟩
def l7(b:RL fb ρ eS)(a:R fa ρ (zE eS)):R (b2 Dy fb fa) ρ (zE eI):=⟨(b.v.count a.v:Nat),bA b.D a.D,λh=>by
 obtain⟨h1,h2⟩:=aC h;simp only[b2,b.ok h1,a.ok h2,At,Dy,b.lk,zT]⟩
theorem Ga{Eu:Dt->Bool}{fk:Dt->Y Bx}{g:α->β}(a:∀y,Eu (e' y)=true):∀{xs:O α},(∀x∈xs,fk (e x)=Z (.z (e' (g x))))->BH Eu fk (xs.map e)=Z (xs.map λx=>(e x,e' (g x)))
 |[],_=>rfl
 |x::xs,h=>by
  rw[zk,BH,h x (zh ..)];simp only[a,QQ];rw[Ga a λz b=>h z (zi _ b),At];rfl
theorem Gb(bt:Dt->Dt->Bool)(g:α->β):∀(xs:O α) (y:α),Ht bt (e y) (e' (g y)) (xs.map λx=>(e x,e' (g x)))=e (fU (λx z=>bt (e' (g x)) (e' (g z))) y xs)
 |[],_=>rfl
 |x::xs,y=>by
  simp only[zk,Ht,fU];rw[Gb bt g xs x,Gb bt g xs y];split<;>rfl
def Pp[Inhabited α](b:∀y,Eu (e' y)=true)(a:RL fe ρ e)(k:∀x:α,R fb (Z (.z (e x))::gB is ρ) (zE e')):R (F7 bt Eu fe fb is) ρ (zE e):=
 ⟨As (λx z=>bt (e' (k x).v) (e' (k z).v)) a.v,bA a.D (Z (a.v≠[]/\∀x∈a.v,hold (k x).D)),λh=>by
 obtain⟨h1,h2,c⟩:=aC h;have hk:=Ga (e:=e) (e':=e') (fk:=λd=>fb (Z (.z d)::gB is ρ)) (g:=λx=>(k x).v) b λx hx=>(k x).ok (c x hx);unfold F7;rw[a.ok h1,At,a.lk,At,hk,At];cases ea:a.v with
 |nil=>exact absurd ea h2
 |cons y r=>
  simp only[zk];rw[Gb bt (λx=>(k x).v) r y];rfl⟩
def hk(q:AJ×β):O AY:=[.inr q.1]
end
end P1
namespace P1
open L2
section
variable [Inhabited α] {e:α->Dt}{k:Ev->Y Ap}{cO:γ->Ap}
theorem Bb{β:Type}(g:α->β):∀(xs:O α) (m:Nat),(xs.map g).eraseIdx m=(xs.eraseIdx m).map g
 |[],_=>by simp
 |x::xs,0=>by simp
 |x::xs,m+1=>by simp[Bb g xs m]
def g7(j i:Nat)(xs:O α)(hi:ρ[i]?=Z (Z (.o (xs.map e))))(a:R f ρ (zE eI))(K:∀(ys:O α) (y:α),R k ((ρ.set i (Z (.o (ys.map e)))).set j (Z (zE e y))) cO):R (aF (Fm j i f) k) ρ cO:=
 ⟨(K (xs.eraseIdx a.v.toNat) (at' xs a.v)).v,bA (bA a.D (Z (0<=a.v/\a.v<xs.length/\xs.length<=100000))) (K (xs.eraseIdx a.v.toNat) (at' xs a.v)).D,λhd=>by
 obtain⟨h1,c⟩:=aC hd;obtain⟨h1,h2⟩:=aC h1;obtain⟨h0,d,g⟩:0<=a.v/\a.v<xs.length/\xs.length<=100000:=h2;rw[m5 (ρ':=(ρ.set i (Z (.o ((xs.eraseIdx a.v.toNat).map e)))).set j (Z (zE e (at' xs a.v)))) (by
  unfold Fm;rw[a.ok h1,At];show(match (Bx.z (Dt.int a.v))with|.z (.int k)=>_|_=>X9)=_;dsimp only;rw[hi];dsimp only;have b:a.v.toNat<xs.length:=by omega
  have e0:a.v=((a.v.toNat:Nat):Int):=by omega
  have e1:at' xs a.v=xs[a.v.toNat]:=by
   conv=>lhs;rw[e0]
   exact BL (xs:=xs) (k:=a.v.toNat) (by simp[b])
  rw[zl ⟨by omega,by omega⟩];have e2:seqIndex? a.v (xs.map e).length=Z a.v.toNat:=PySem.seqIndex_of h0 (by simpa using d);rw[e2,At,Zp,ZY b,xb,At,e1,Bb];rfl)]
 exact(K (xs.eraseIdx a.v.toNat) (at' xs a.v)).ok c⟩
end
theorem IQ{f c:A1}{k m:Nat}(F:Cc K x qual st f fd)(d:fd.code=.ref c)(S:aW N ps (aJ st))(C:N.length=n)(t:ps.length=m)(j:∀(A:A5) (outer:O Env) (s:A2) (H:Hp) (E:XK),iQ k (A.deeper (AK qual (aJ st) s.heap.objs.size f (.ref c)))->TV (HX Fj P w K mg base N qual (aJ st) f (.ref c) A outer s H E).nox (ji st) g):
  qt P w K mg base Fj (k+1) f fd ps (WK K m (cL n g)):=by
 subst C t;obtain⟨J,G,kV,I,pm,L,o,ct,osl,rfl,B,p⟩:=F.ex;have d:o=.ref c:=d;subst d;refine Pv B p S (λvs H Q E h=>h.1) λA outer s H vs Q E l h=>?_;refine⟨_,Wj.nox (j A outer s H E l).run,?_⟩;obtain⟨D,bs,r,i,z,e,q⟩:=h;obtain⟨a,er,e⟩:=AT e;refine⟨H,_,a,bV.start i z,er,?_⟩;cases a with
 |rt b=>cases e;exact λv H' s' u a=>q v H' s' u a
 |nx ρ=>cases e;exact λσ H' y=>q _ H' y.base trivial (by unfold bJ AW;rfl)
 |bk ρ=>cases e
 |ct ρ=>cases e
section
variable{k:Nat}{f:A1}{p:Pos}{fs:Ev->Y (O Bx)}
theorem tm(G:qt X.prog X.w X.K X.mg X.base Fj k f fd ps (WK X.K n F))(B:iQ k X.A)(hN:X.N[i]?=Z x)(hv:Wi X.env.scope x)(hk:keepIn X.K (.ref f)=true)(M:BG X.K fd ps [])
  (P:F2 X (e::es) fs) (g:ad x:=by decide) (a3:(x==("__classdict__":AJ))=false:=by decide) (he:A9 (e::es) X.env=(false,eval e X.env)::A9 es X.env:=by rfl) (D:(AD pos (A9 es X.env)).any (·.1)=false:=by rfl):
  PE X (.Call (.Name x p) (e::es) [] pos) (λσ H Q=>σ[i]?=Z (Z (.ref f))/\tF X.K (bN n F fs) σ H Q):=by
 intro AN s σ H Q I h;obtain⟨h1,H0,ρ,r,E,b,q⟩:=h;obtain⟨bs,eb,b⟩:=AT b;split at b
 ·rename_i L;obtain⟨m,U,y⟩:=id I.loc;obtain⟨u,S,l⟩:=y i x _ hN h1 hv;cases S;have go:A7 (bi X) X.A (callWith pos (.ref f) [] (AD pos (A9 (e::es) X.env)) (backToKw pos (keywordEach [] X.env))) (EP X AN σ Q) X.xe s:=by
   refine callWith_K (h₀:=X.base) I.ok.mod.kin hk (jH (P pos AN s σ H (λvs H1=>AV H H1/\uT X.K H1 bs vs) I ⟨H0,ρ,bs,E,eb,λvs H1 t d=>⟨t,d⟩⟩) λus t ⟨vs,H1,I1,rv,sm1,d⟩=>⟨I1.kIn,?_⟩) he D;refine N2 G B M .nil L4 I1 rv ?_;rw[qk];exact⟨by rw[<-Paired.length d];exact L,_,r,JV d,QS bs,b,λv H2 W J z=>q v H2 (sm1.trans W) (J.old sm1) z⟩
  rcases l with⟨a,C⟩|⟨a,c,o,j⟩
  ·exact jv (wpAny_Name (wpAny_loadName_local I.ok.kind a U C go) g)
  ·rcases a with a|a
   ·exact jv (wpAny_Name (wpAny_loadName_cell I.ok.kind a o j go) g)
   ·exact jv (wpAny_Name (wpAny_loadName_free I.ok.kind a o j go a3) g)
 ·cases b
end
end P1
namespace P1
open PySem PySem.Spec PySem.Calls PyProof.Rows L2
def RB(f:A1)(v:A0):Bool:=match v with
 |.ref g=>g==f
 |_=>false
def Ff(K:B6)(a:A1)(D:O (AJ×A1)):Prop:=KTD.tabLook RB (λb=>K.lookup b) a D=true
theorem U8(f:A1)(v:A0)(h:RB f v=true):v=.ref f:=by
 unfold RB at h;split at h
 ·rw[eq_of_beq h]
 ·cases h
theorem Ff.tab(k:Ff K a D)(x:K.In h):KTD.TabOf (λf v=>v=Value.ref f) h a D:=KTD.tab_of_look U8 (λb o q=>x b o q) k
section
variable{k:AJ}{tk:Tok}
theorem g4{f:A1}{Q:Y A0->A2->Prop}(T:KTD.TabOf (λf v=>v=Value.ref f) s.heap a D)(hk:KTD.datumAt k D=Z f)(h1:Q (Z (.ref f)) { s with toks:=s.toks+1 }):
  A7 (A8 prog w) A (dictGet a (.str k tk)) Q E s:=by
 obtain⟨_,o,es,ep,d,h,hd,c⟩:=T;unfold dictGet
 try with_reducible refine Z3 ?_
 refine zb (wpAny_pyHash_str (zb (KTD.kt_dictFind_strs (s:={ s with toks:=s.toks+1 }) d hd (by obtain⟨l⟩:=es;simpa using c.exact) ?_)));have b:Q (findBy (λk v=>v.isStr k) es k) { s with toks:=s.toks+1 }:=by
  have g:findBy (λk v=>v.isStr k) es k=(es.toList.find? λe=>e.key.isStr k).map (·.val):=by
   obtain⟨l⟩:=es;simp[findBy]
  rw[g];obtain⟨v,hv,rfl⟩:=c.find_some hk;rw[hv];exact h1
 rw[findBy_of_findIdx?]at b;cases hi:es.findIdx? λe=>e.key.isStr k with
 |none=>rw[hi]at b;exact ze b
 |some i=>rw[hi]at b;exact zb (wpAny_dictEntries (s:={ s with toks:=s.toks+1 }) d hd (ze b))
theorem WN{f:A1}(T:KTD.TabOf (λf v=>v=Value.ref f) s.heap a D)(hk:KTD.datumAt k D=Z f)(h:Q (.ref f) { s with toks:=s.toks+1 }):
  A7 (A8 prog w) A (getItem (.ref a) (.str k tk)) Q E s:=by
 have ty:s.TypeIs (.ref a) "dict":=let ⟨_,o,_,_,ho,hc,_⟩:=T;⟨o,ho,hc.1⟩;unfold getItem
 try with_reducible refine Z3 ?_
 refine zb (wpAny_sequenceKey ty () ?_);refine zb (JA (name:=Str.ofString "__getitem__") ty slot_dict_getitem
  (jI slot_dict_getitem ty entry_dict_getitem ?_ (args_dict_getitem _ _)))
 show A7 _ _ (dictGet a (.str k tk) >>= _) _ _ s;exact zb (g4 T hk (ze ⟨_,rfl,ze h⟩))
end
def Hu(X:Cx):O (AJ×A1)->O (AJ×(O Bx->Y Bx))->Prop
 |[],[]=>True
 |(x,f)::D,(y,F)::T=>(x=y/\∃k fd ps,qt X.prog X.w X.K X.mg X.base Fj k f fd ps (WK X.K 1 F)/\iQ k X.A/\keepIn X.K (.ref f)=true/\BG X.K fd ps [])/\Hu X D T
 |_,_=>False
theorem TZ:Hu X [] []:=trivial
theorem zU{f:A1}{k:Nat}{T:O (AJ×(O Bx->Y Bx))}(G:qt X.prog X.w X.K X.mg X.base Fj k f fd ps (WK X.K 1 F))(b:iQ k X.A)(hk:keepIn X.K (.ref f)=true)(a:BG X.K fd ps [])(r:Hu X D T):Hu X ((x,f)::D) ((x,F)::T):=⟨⟨rfl,k,fd,ps,G,b,hk,a⟩,r⟩
theorem Hu.get{h:AJ}{F:O Bx->Y Bx}:∀{D:O (AJ×A1)} {T:O (AJ×(O Bx->Y Bx))},Hu X D T->T.lookup h=Z F->∃f k fd ps,KTD.datumAt h D=Z f/\qt X.prog X.w X.K X.mg X.base Fj k f fd ps (WK X.K 1 F)/\iQ k X.A/\keepIn X.K (.ref f)=true/\BG X.K fd ps []
 |[],[],_,e=>by cases e
 |(x,f)::D,(y,G)::T,r,e=>by
  obtain⟨⟨rfl,k,fd,ps,a,b,c,d⟩,r⟩:=r;rw[ym]at e;unfold KTD.datumAt;by_cases hx:h=x
  ·subst hx;rw[beq_self_eq_true]at e;cases e;exact⟨f,k,fd,ps,by simp,a,b,c,d⟩
  ·rw[beq_eq_false_iff_ne.mpr hx]at e;obtain⟨g,j,i,l,q,z⟩:=Hu.get r e;exact⟨g,j,i,l,by simp[hx,q],z⟩
 |[],_::_,r,_=>r.elim
 |_::_,[],r,_=>r.elim
def EX(i j:Nat)(tab:O (AJ×(O Bx->Y Bx)))(fh fa:Ev->Y Bx):Ev->Y Ap:=λρ=>if i<ρ.length then(fh ρ).bind λb=>match b with
 |.z (.str h)=>(tab.lookup h).bind λF=>(bN 1 F (aq fa aH) (ρ.set i X9)).bind λr=>(TX (ρ.set i X9) j r).bind λa=>Z (.nx a)
 |_=>X9
 else X9
theorem bV.apb{H1:Hp}(E:bV K H0 H σ ρ)(s:AV H H1):bV K H0 H1 (σ.set i (Z v)) (ρ.set i X9):=by
 have d:=E.grow s;have ne:∀{j:Nat} {b:Bx},(ρ.set i X9)[j]?=Z (Z b)->j≠i/\ρ[j]?=Z (Z b):=λ{j b} e=>by
  rw[y8]at e;split at e
  ·split at e<;>cases e
  ·rename_i h;exact⟨λz=>h z.symm,e⟩
 have f:∀{j:Nat},j≠i->(σ.set i (Z v))[j]?=σ[j]?:=λ{j} h=>ei (λz=>h z.symm);refine⟨by simp[E.len],λj b e=>?_,λj m c a b e g ea eb n l=>?_,d.base,λj c a e g ea=>?_⟩
 ·obtain⟨h,e⟩:=ne e;rw[f h];exact d.val j b e
 ·obtain⟨h,e⟩:=ne e;obtain⟨h',eb⟩:=ne eb;rw[f h]at ea;rw[f h']at l;exact d.own j m c a b e g ea eb n l
 ·obtain⟨h,e⟩:=ne e;rw[f h]at ea;exact d.new j c a e g ea
section
variable{tab:O (AJ×(O Bx->Y Bx))}{dn:AJ}{ek:Expr}{p0 p1 p3 q0 q1 q2 q3:Pos}{AS:O AB}{fh:Ev->Y Bx}
theorem g9(g:Gl X dn)(e:X.mg dn=Z (.ref a))(c:Ff X.K a D)(d:PV X ek fh)(b:ad dn:=by decide)(hs:FI ek:=by intro _ _;rfl):
  PE X (.Subscript (.Name dn p1) ek p2) (λσ H Q=>tF X.K fh σ H λv H1=>∃h f,v=.str h/\KTD.datumAt h D=Z f/\Q (.ref f) H1):=by
 intro AN s σ H Q I h;refine Yy PySem.F.slot_dict_getitem.lookup hs (Qp I g e (jH (d AN s σ H _ I h) λiv s2 ⟨v,H2,I2,rv,k,f,ev,hk,q⟩=>?_) b);subst ev;obtain⟨t,rfl⟩:=rv;have T:=c.tab I2.kIn;exact⟨let ⟨_,o,_,_,ho,hc,_⟩:=T;⟨o,ho,hc.1⟩,WN T hk ⟨.ref f,H2,I2.tok _,rfl,q⟩⟩
theorem oD(i j:Nat)(hN:X.N.Nodup)(hg:Gl X dn)(C:X.mg dn=Z (.ref a))(hD:Ff X.K a D)(o:Hu X D tab)(hh:QV X ek fh)(ha:QV X e fa)(A:TV X AS g)
  (hs:FI ek:=by intro _ _;rfl) (hi:X.N[i]?=Z x:=by rfl) (u:X.N[j]?=Z y:=by rfl) (hx:Cf X.env.scope x:=by first|exact kC rfl|exact QN X2) (B:Cf X.env.scope y:=by first|exact kC rfl|exact QN X2) (hv:Wi X.env.scope x:=by first|exact kC rfl|exact QN (kC X2)|exact QN (QN X2))
  (U:X.fn x=true\/X.env.scope.names.lookup x=Z .local:=by first|exact .inl rfl|exact .inr X2) (S:X.fn y=true\/X.env.scope.names.lookup y=Z .local:=by first|exact .inl rfl|exact .inr X2)
  (a5:ad dn:=by decide) (a6:ad x:=by decide) (a3:(x==("__classdict__":AJ))=false:=by decide)
  (l:swapsWith (.Subscript (.Name dn p1) ek p2) (Z (.Name x p0)) p3.line X.env=pure false:=by rfl) (d:swapsWith (.Call (.Name x q1) [e] [] q2) (Z (.Name y q0)) q3.line X.env=pure false:=by rfl)
  (he:A9 [e] X.env=(false,eval e X.env)::A9 [] X.env:=by rfl) (M:(AD q2 (A9 [] X.env)).any (·.1)=false:=by rfl):
  TV X (.Assign [.Name x p0] (.Subscript (.Name dn p1) ek p2) p3::.Assign [.Name y q0] (.Call (.Name x q1) [e] [] q2) q3::AS) (aF (EX i j tab fh fa) g):=by
 have call:PE X (.Call (.Name x q1) [e] [] q2) (λσ H Q=>∃h f F,KTD.datumAt h D=Z f/\tab.lookup h=Z F/\σ[i]?=Z (Z (.ref f))/\tF X.K (bN 1 F (aq fa aH)) σ H Q):=by
  intro AN s σ H Q I h;obtain⟨k,f,F,e1,e2,e3,q⟩:=h;obtain⟨f',n,fd,ps,z,G,r,hk,hb⟩:=o.get e2;rw[e1]at z;cases z;exact tm G r hi hv hk hb (aj ha aB he).run a6 a3 he M AN s σ H Q I ⟨e3,q⟩
 refine⟨Hk (Jz (Qq (pos:=p3) (pos':=p0) hN hi hx (g9 hg C hD hh.run a5 hs) l U) (Jz (Qq (pos:=q3) (pos':=q0) hN u B call d S) A.run)) λDe σ H h=>?_⟩;obtain⟨H0,ρ,r,E,c,q⟩:=h;obtain⟨r1,e1,c⟩:=AT c;unfold EX at e1;split at e1;rotate_left
 ·cases e1
 rename_i m;rw[<-E.len]at m;obtain⟨b,eb,e1⟩:=AT e1;split at e1;rotate_left
 ·cases e1
 rename_i k;obtain⟨F,p,e1⟩:=AT e1;obtain⟨P,ec,e1⟩:=AT e1;obtain⟨L,a4,e1⟩:=AT e1;cases e1;obtain⟨f,n,fd,ps,z,_⟩:=o.get p;refine⟨H0,ρ,_,E,eb,λv H1 l n1 J=>?_⟩;obtain⟨rfl,_⟩:=CI J;refine⟨k,f,rfl,z,?_⟩;have t:=E.apb (i:=i) (v:=.ref f) l;refine⟨k,f,F,z,p,by simp[m],H0,_,P,t,ec,λv2 H2 d W w=>?_⟩;exact⟨H0,L,r,QK t d w W a4,c,q⟩
end
end P1
namespace P1
open L2
def yS(o:AE):Y (AJ×A1):=match o.data with
 |.fields vs=>match vs[1]?,vs[11]? with
  |some (Value.str x _),Z (Value.ref P)=>if HG.contains x=true then Z (x,P)else X9
  |_,_=>X9
 |_=>X9
def TN(K:B6):O (A1×AJ):=K.filterMap λp=>(yS p.2).map λq=>(q.2,q.1)
def NO(x:AJ):Array A0:=#[.str (x++(".<locals>.<lambda>":AJ)) 0]
def MQ(K:B6):O (A1×Array A0):=(TN K).map λp=>(p.1,NO p.2)
def C'(K:B6)(x:AJ):Y A1:=match nsIn K mainGlobals x with
 |some (Z (.ref f))=>match K.lookup f with
  |some a=>match a.data with
   |.func fd=>match fd.code with
    |.ref c=>Z c
    |_=>X9
   |_=>X9
  |none=>X9
 |_=>X9
def Jq(p:A3)(K:B6)(c:A1)(x:AJ)(P:A1):Bool:=(recsOf p).any (λd=>d.name==x)&&C' K x==Z c&&(K.lookup c).bind yS==Z (x,P)&&(K.lookup P).isNone&&(TN K).lookup P==Z x
def TM(p:A3)(K:B6):Bool:=K.all λr=>match yS r.2 with
 |none=>true
 |some (x,P)=>Jq p K r.1 x P
theorem BR{α β γ:Type}[BEq α]{a:α}(f:β->γ):∀l:O (α×β),(l.map λp=>(p.1,f p.2)).lookup a=(l.lookup a).map f
 |[]=>rfl
 |(b,c)::l=>by
  simp only[zk,ym];split
  ·rfl
  ·exact BR f l
theorem Gd{α β:Type}[BEq α][LawfulBEq α]{a:α}{b:β}:∀{l:O (α×β)},l.lookup a=Z b->(a,b)∈l
 |[],h=>by cases h
 |(c,d)::l,h=>by
  rw[ym]at h;split at h
  ·rename_i e;cases h;rw[eq_of_beq e];exact zh ..
  ·exact zi _ (Gd h)
theorem Xs{o:AE}{P:A1}(h:yS o=Z (x,P)):∃vs t,o.data=.fields vs/\vs[1]?=Z (.str x t)/\vs[11]?=Z (.ref P):=by
 unfold yS at h;cases hd:o.data with
 |fields vs=>
  rw[hd]at h;dsimp only at h;split at h
  ·rename_i y t Q e1 e2;split at h
   ·cases h;exact⟨vs,t,rfl,e1,e2⟩
   ·cases h
  ·cases h
 |_=>rw[hd]at h;cases h
theorem DB{p:A3}{Q:AJ->Y A0}{J:ExcName->Y A0}{y:AZ}(g:TM p K=true)(X:K.In h)(T:Top p y J mg Q h):L2.FK K h (MQ K):=by
 have s:∀c o x P,(c,o)∈K->yS o=Z (x,P)->Jq p K c x P=true:=λc o x P m e=>by
  have:=List.all_eq_true.mp g _ m;simp only[e]at this;exact this
 refine⟨λP q k=>?_,λP ps e=>?_⟩
 ·obtain⟨c,o,vs,x,t,e,d,v,m,f,l⟩:=k;subst l;have er:yS o=Z (x,P):=by
   unfold yS;simp only[d,v,f];rw[zl (eg.mpr m)]
  have z:=s c o x P (Gd e) er;simp only[Jq,qi,beq_iff_eq]at z;refine⟨NO x,?_,rfl,Nat.zero_lt_one⟩;unfold MQ;rw[BR,z.2];rfl
 ·unfold MQ at e;rw[BR]at e;obtain⟨x,ex,rfl⟩:=da.mp e;have m:=Gd ex;obtain⟨⟨c,o⟩,w,i⟩:=dz.mp m;obtain⟨⟨C,G⟩,i,l⟩:=da.mp i;obtain⟨q1,q2⟩:=Prod.mk.inj l;have q1:G=P:=q1;have q2:C=x:=q2;rw[q1,q2]at i;have z:=s c o x P w i;simp only[Jq,qi,beq_iff_eq,xE,hH]at z;obtain⟨⟨⟨⟨⟨d,hd,hx⟩,b⟩,u⟩,U⟩,_⟩:=z;obtain⟨a,o1,fd,c1,E,t1,t2,H,N,_,j⟩:=T.tab d hd;rw[hx]at t1;obtain⟨o',A,D⟩:=Option.bind_eq_some_iff.mp u;obtain⟨vs,t,M,_,I⟩:=Xs D;have B:c1=c:=by
   unfold C' at b;split at b
   ·rename_i f L;have:=mg_of X T.g L;rw[t1]at this;cases this;split at b
    ·rename_i ob S;have:=X _ _ S;rw[t2]at this;cases this;split at b
     ·rename_i W n;rw[H]at n;cases n;rw[N]at b;cases b;rfl
     ·cases b
    ·cases b
   ·cases b
  subst B;have F:E=P:=by
   obtain⟨⟨o2,ws,e1,_,e2,e3⟩,_⟩:=j;rw[X _ _ A]at e1;cases e1;rw[M]at e2;cases e2;rw[I]at e3;cases e3;rfl
  subst F;exact⟨U,j.2,j.isCodeTable,rfl⟩
def GE(K:B6)(fd:FuncData)(q:AJ):Bool:=match fd.code with
 |.ref c=>match K.lookup c with
  |some o=>match o.data with
   |.fields vs=>o.cls==.type "code" && (match vs[11]?,vs[1]?,vs.getD 18 .none,vs.getD 7 .none,vs.getD 9 .none,vs.getD 10 .none with
    |some (Value.ref P),Z (Value.str x _),Value.str _ _,Value.int _ _,Value.bool _,Value.int _ _=>!(c==P)&&HG.contains x&&q==x++(".<locals>.<lambda>":AJ)
    |_,_,_,_,_,_=>false)
   |_=>false
  |none=>false
 |_=>false
theorem RD{q:AJ}(h:GE K fd q=true):∃c P,fd.code=.ref c/\UW K c P q:=by
 unfold GE at h;split at h;rotate_left
 ·cases h
 rename_i c g;split at h;rotate_left
 ·cases h
 rename_i o u;split at h;rotate_left
 ·cases h
 rename_i vs hd;rw[qi]at h;obtain⟨h1,h⟩:=h;split at h;rotate_left
 ·cases h
 rename_i P x t f tf i m b j d a e1 l s v e;simp only[qi,qV,beq_eq_false_iff_ne,ne_eq,beq_iff_eq]at h;obtain⟨⟨h2,n⟩,p⟩:=h;exact⟨c,P,g,o,vs,f,tf,i,m,b,j,d,x,t,u,eq_of_beq h1,hd,a,by rw[Array.getD_eq_getD_getElem?,a];rfl,l,s,v,e,h2,e1,eg.mp n,p⟩
theorem Xl{xs:AZ}(f:closureFor scope X.env=pure cl)(c:scope.kind=.function)(d:scope.isCoroutine=false)(g:scope.isGenerator=false)(b:(scope.names.all λy=>!(y.2==.cell))=true)(h:scope.names.lookup x=Z .local)(sub:C1 X.env.cells cl)(has:(scope.names.all λy=>!(y.2==.free)||(cl.lookup y.1).isSome)=true)(i:PJ X scope cl xs is):PK X scope cl x xs is:=by
 refine⟨f,c,d,g,λy a e=>?_,h,sub,λy a e=>?_,i⟩
 ·have:=List.all_eq_true.mp b y a;rw[e]at this;simp at this
 ·have:=List.all_eq_true.mp has y a;rw[e]at this;exact dV.mp (by simpa using this)
section
variable{e:α->Dt}{c:β->Bx}{fh:Ev->Y Bx}{k:Ev->Y Ap}{cO:γ->Ap}{tab:O (AJ×(O Bx->Y Bx))}{tt:O (AJ×(O α->β)×(O α->Y Prop))}
def mj[Inhabited β](tt:O (AJ×(O α->β)×(O α->Y Prop)))(h:AJ)(v:O α):β:=match tt.lookup h with
 |some p=>p.1 v
 |none=>default
def F1(tt:O (AJ×(O α->β)×(O α->Y Prop)))(h:AJ)(v:O α):Prop:=match tt.lookup h with
 |some p=>hold (p.2 v)
 |none=>False
inductive EL (e:α->Dt) (c:β->Bx):List (Str×(List Bx->Option Bx))->List (Str×(List α->β)×(List α->Option Prop))->Prop
 |nil:EL e c [] []
 |cons {x:Str} {F:List Bx->Option Bx} {t:List α->β} {d:List α->Option Prop} {tab:List (Str×(List Bx->Option Bx))} {tt:List (Str×(List α->β)×(List α->Option Prop))}:(∀(v:List α×Unit) bs,aL e aN v bs->bs.length=1/\(hold (d v.1)->F (bs.map lend)=some (c (t v.1))))->EL e c tab tt->EL e c ((x,F)::tab) ((x,t,d)::tt)
theorem EL.get{h:AJ}{p:(O α->β)×(O α->Y Prop)}(T:EL e c tab tt)(q:tt.lookup h=Z p):∃F,tab.lookup h=Z F/\∀(v:O α×Unit) bs,aL e aN v bs->bs.length=1/\(hold (p.2 v.1)->F (bs.map lend)=Z (c (p.1 v.1))):=by
 induction T with
 |nil=>cases q
 |cons S r a=>
  rw[ym]at q ⊢;split at q
  ·cases q;exact⟨_,rfl,S⟩
  ·exact a q
def eM[Inhabited β](i j:Nat)(T:EL e c tab tt)(h:R fh ρ (zE eS))(a:RL fa (ρ.set i X9) e)(f:i<ρ.length)(m:∀x,TX (ρ.set i X9) j (c x)=Z ((ρ.set i X9).set j (Z (c x))))(K:∀x,R k ((ρ.set i X9).set j (Z (c x))) cO):R (aF (EX i j tab fh fa) k) ρ cO:=
 ⟨(K (mj tt h.v a.v)).v,bA (bA (bA h.D a.D) (Z (F1 tt h.v a.v))) (K (mj tt h.v a.v)).D,λhd=>by
 obtain⟨hd,n⟩:=aC hd;obtain⟨hd,d⟩:=aC hd;obtain⟨h1,h2⟩:=aC hd;have d:F1 tt h.v a.v:=d;have go:EX i j tab fh fa ρ=Z (.nx ((ρ.set i X9).set j (Z (c (mj tt h.v a.v))))):=by
  unfold EX mj;unfold F1 at d;rw[zl f,h.ok h1,At];simp only[eS];split at d
  ·rename_i p hp;obtain⟨F,l,S⟩:=T.get hp;rw[l,hp,At];obtain⟨o,g⟩:=S (a.v,db) [a.b] ⟨a.b,[],rfl,a.lk,rfl⟩;have:bN 1 F (aq fa aH) (ρ.set i X9)=Z (c (p.1 a.v)):=by
    unfold bN aq aH;rw[a.ok h2];simp only[At];rw[zl o];exact g d
   rw[this];simp only[At,m]
  ·exact d.elim
 rw[m5 go];exact(K (mj tt h.v a.v)).ok n⟩
end
end P1
namespace P1
open PySem PySem.Spec PySem.Calls PyProof.Rows L2 S1
theorem agE{x y:AY}{p q:A0}(hs:Oz x y=true)(hp:jk x p=true)(a:jk y q=true)(h:Q (.bool (WY y x)) s):A7 (A8 prog w) A (AG .Gt p q) Q E s:=by
 rcases bH hp with⟨i,t,rfl,rfl⟩|⟨z,t,rfl,rfl⟩
 ·rcases bH a with⟨j,u,rfl,rfl⟩|⟨z,u,rfl,rfl⟩
  ·exact gt_int h
  ·cases hs
 ·rcases bH a with⟨j,u,rfl,rfl⟩|⟨b,u,rfl,rfl⟩
  ·cases hs
  ·exact PySem.P.gt_str h
theorem oS{ks g:O AY}{b:A1}{c:O A0}(S:iz s.heap a AQ.toArray)(M:iz s.heap b c.toArray)(hk:Ks ks AQ)(D:Ks g c)(hs:Wh ks g)(U:A.units<cLine)(h:Q (.bool (eZ g ks)) s):A7 (A8 prog w) A (AG .Gt (.ref a) (.ref b)) Q E s:=by
 obtain⟨y,ea,B,⟨na,I⟩,_⟩:=S;obtain⟨C,eb,x,⟨nb,W⟩,_⟩:=M;show A7 _ _ (richCompare .Gt (.ref a) (.ref b)) _ _ _;refine wpAny_richCompare_same_room ⟨y,ea,B⟩ ⟨C,eb,x⟩ F.slot_tuple_gt (jI F.slot_tuple_gt ⟨y,ea,B⟩ F.entry_tuple_gt ?_ (F.args_tuple_gt_2 _ _)) U;show A7 _ _ (isInstance (.ref b) (.type "tuple") >>= _) _ _ s;refine zb (KF ⟨C,eb,x⟩ isSubtype_tuple_tuple ?_);simp only[YY,zI,qh];refine zb (xm ea I ?_);refine zb (xm eb W ?_);refine zb ?_;refine wpAny_forIn_list _
  (λAS r s'=>r.1=X9/\s'=s/\∃j l i m,AS=List.zip i m/\Ks j i/\Ks l m/\Wh j l/\eZ l j=eZ g ks/\(m.length<i.length↔c.length<AQ.length))
  _ ?_ ?_ _ _ ⟨rfl,rfl,ks,g,AQ,c,by simp,hk,D,hs,rfl,Iff.rfl⟩
 ·rintro⟨u,v⟩ AS r s' ⟨p,rfl,j,l,i,m,f,q,n,o,d,t⟩;cases q with
  |nil=>simp at f
  |@cons K u' H J h1 X=>
   cases n with
   |nil=>simp at f
   |@cons L v' G P h2 N=>
    simp only[ke,ja,YV]at f;obtain⟨⟨rfl,rfl⟩,rfl⟩:=f;refine zb (CA h1 h2 ?_);simp only[eZ]at d;by_cases e:L=K
    ·rw[zl e]at d;rw[z5 e.symm];simp only[YY,zI,qh];exact ze ⟨rfl,rfl,H,G,J,P,rfl,X,N,o.2,d,by simpa using t⟩
    ·rw[zv e]at d;rw[z4 λz=>e z.symm];simp only[y0,QQ];refine zb (QY ?_);refine zb (show A7 _ _ (AG .Gt u v) _ _ _ from agE o.1 h1 h2 ?_);rw[d];exact zb (ze (ze (ze ⟨_,rfl,by simp,h⟩)))
 ·rintro⟨r1,r2⟩ s' ⟨p,rfl,j,l,i,m,f,q,n,o,d,t⟩;simp only at p;subst p;have a3:decide (c.length<AQ.length)=eZ g ks:=by
   rw[<-d,<-decide_eq_decide.mpr t];cases q with
   |nil=>cases n with
    |nil=>rfl
    |cons _ _=>rfl
   |cons _ _=>cases n with
    |nil=>rfl
    |cons _ _=>simp at f
  refine ze ⟨_,rfl,?_⟩;show Value.bool (decide (c.toArray.size<AQ.toArray.size))≠_/\Q (Value.bool (decide (c.toArray.size<AQ.toArray.size))) _;rw[zr,zr,a3];exact⟨by simp,h⟩
theorem PL{h':A6}{AQ:Array A0}(t:iz h a AQ)(k:∀o,h.get? a=Z o->h'.get? a=Z o):iz h' a AQ:=let ⟨o,e,r⟩:=t;⟨o,k _ e,r⟩
def Lm(X:Cx)(op:CmpOp)(lt:O AY->O AY->Bool):Prop:=∀{s:A2} {E:BF} {ks c:O AY} {a b:A1} {AQ d:O A0} {Q:BF},iz s.heap a AQ.toArray->iz s.heap b d.toArray->Ks ks AQ->Ks c d->Wh ks c->Q (.bool (lt ks c)) s->A7 (bi X) X.A.in1 (richCompare op (.ref a) (.ref b)) Q E s
theorem eP(f:X.A.units+100<cLine):Lm X .Lt λk l=>eZ k l:=λa b c d e q=>UL a b c d e (show X.A.units+1<cLine by omega) q
theorem UD(f:X.A.units+100<cLine):Lm X .Gt λk l=>eZ l k:=λa b c d e q=>oS a b c d e (show X.A.units+1<cLine by omega) q
end P1
namespace P1
open L2
section
variable{K:Type} [DecidableEq K] {knd:KeyKind prog w K}
end
end P1
namespace L2
end L2
namespace P1
open L2
section
variable{a b:Expr}{fs:Ev->Y (O Bx)}
end
end P1
namespace P1
open L2 S1 S6
section
variable{e:α->Dt}{e':β->Dt}{e3:γ->Dt}{k:Ev->Y Ap}{cO:δ->Ap}
end
end P1
namespace P1
open L2
section
variable{o f k v:Expr}{ff fk:Ev->Y Bx}{keys:O (Y Expr)}{values:O Expr}
end
section
variable{e:α->Dt}{fk:Ev->Y Bx}
end
end P1
namespace P1
open L2 S1
def He(cI:O (O AY)):Bool:=decide (cI.length<=100000)&&(cI.all (λk=>!k.isEmpty)&&cI.all λk=>cI.all λl=>MF k l)
def KR:O Bx->Y Bx
 |[b]=>(vX b).bind λds=>(yO ds).bind λcI=>if He cI=true then Z (.o ((BJ cI).map BO))else X9
 |_=>X9
theorem adZ:nJ X (.builtin "sorted") KR:=by
 intro AN s σ H xs us Q I F h;obtain⟨bs,c,K,e,q⟩:=h;unfold KR at e;split at e
 ·rename_i b;obtain⟨ds,ed,e⟩:=AT e;obtain⟨cI,ek,e⟩:=AT e;split at e
  ·rename_i hs;cases e;simp only[He,qi,Q3,QR,qV]at hs;obtain⟨B,U,y⟩:=hs;obtain⟨v,rfl,r1⟩:=BQ K;obtain⟨p,vs,rfl,sq,w⟩:=Q6 r1 ed;obtain⟨u,rfl,P⟩:=BA F;cases P;have N:=u5 ek;subst N;have S:∃(AQ:O A0) (o:AE) (T:String) (n:Nat),AX vs AQ/\s.heap.get? p=Z o/\o.cls=.type T/\(T ="list" ∨ T ="tuple")/\o.data=.seq AQ.toArray n/\vs.length<=AA:=by
    rcases sq with sq|sq
    ·obtain⟨AQ,f,pl,j⟩:=I.list sq;obtain⟨o,g,c,n,d⟩:=pl.isList;exact⟨AQ,o,_,n,f,g,c,.inl rfl,d,j⟩
    ·obtain⟨AQ,f,⟨o,g,c,n,d⟩,j⟩:=I.tuple sq;exact⟨AQ,o,_,n,f,g,c,.inr rfl,d,j⟩
   obtain⟨AQ,o,T,n,f,g,hc,M,hd,j⟩:=S;have J:AQ.length=cI.length:=by rw[<-f.length,w.length,zg]
   have tv:=Jh I w f;refine WX (kd:=tuples' true) (rk:=λv=>C2 cI (BS cI AQ v)) (vs:=AQ) (λE' G t=>J8 g hc M hd (by rw[<-f.length];exact j) t)
    (λh2 E' E s' k G t=>O1 (Paired.imp' (λ_ _ z=>sH.keep z k) tv) (λk hk=>by have:=U k hk;cases k with|nil=>cases this|cons _ _=>exact qe _ _) (λk hk l i=>FP (y k hk l i)) () t)
    (λE s' k=>Ui (Paired.imp' (λ_ _ z=>sH.keep z k) tv) λk hk l i=>FP (y k hk l i)) (by rw[J];exact zt B ()) (λ_=>gc) λl h' tk m st hp up i ext W=>?_
   have out:=ly tv hp up;have L:∀u∈((AM st).map (·.2)).toList,u∈AQ:=λu A=>by
    rw[h6]at A;obtain⟨pr,a3,rfl⟩:=av.mp A;have C:pr∈AQ.zip AQ:=by rw[<-pairsOf_toList];exact(dc.mp hp).mem_iff.mp a3
    have:=mem_zip_self C;rw[<-this.1];exact this.2
   obtain⟨zs,z1,z2⟩:=O4 I w f out L;have D:zs.length=cI.length:=by rw[z2.length,zg,(G9 cI).length_eq]
   have x:H l=X9:=I.hok.fresh i;refine⟨.ref l,_,I.laid (t':=tk) (a:=l) (o:=.lst zs) ext i ⟨by rw[D];exact zt B (),_,m,z1,?_⟩,rfl,q _ _ (bY x) (λa ea=>by cases ea;exact x) ⟨l,zs,rfl,aU,z2.kp (.of (bY x))⟩⟩;rw[W]
  ·cases e
 ·cases e
def I0(X:Cx)(A:A5)(σ:L2.St)(H1:Hp)(f:A1)(fk:Dt->Y Bx):Prop:=∀(AN:O (A1×AE)) (s:A2) (H:Hp) (d k:Dt) (v:V) (u:A0),L2.AU X AN σ H s->AV H1 H->Au v u->AW X.K H d v->fk d=Z (.z k) →
 A7 (bi X) A (call (.ref f) [u]) (λb s'=>∃a H',L2.AU X AN σ H' s'/\Au a b/\AV H H'/\AW X.K H' k a) (λ_ _=>False) s
def yU(X:Cx)(kf:O Dt->Y (O (O AY))):Prop:=∀(AN:O (A1×AE)) (σ:L2.St) (H:Hp) (s:A2) (ks:O Dt) (vs:O V) (us:O A0) (cI:O (O AY)),L2.AU X AN σ H s->aO X.K H ks vs->AX vs us->kf ks=Z cI →
 ∃(kd:SortKind) (K:A0->O AY),us.map K=cI/\(2<=us.length->∀(A:A5) (E:BF) (Q:SortKind->A2->Prop),Q kd s->A7 (bi X) A (keyKind' us.toArray) Q E s)/\∀A:A5,Et X.prog X.w A s kd (λv=>C2 cI (K v)) (pairsOf us)
def Dz(ds:O Dt)(cI:O (O AY)):Bool:=decide cI.Nodup||(match yO ds with|some a=>(a.zip cI).all λp=>(a.zip cI).all λq=>!decide (p.2=q.2)||decide (p.1=q.1)|none=>false)
def EF(a b:Dt×O AY):Bool:=qu a.2 b.2
def PN(ds:O Dt)(cI:O (O AY)):O Dt:=((ds.zip cI).mergeSort EF).map (·.1)
def uH(kf:O Dt->Y (O (O AY)))(fe:Ev->Y Bx)(fk:Ev->Dt->Y Bx):Ev->Y Bx:=λρ=>(fe ρ).bind λb=>(vX b).bind λds=>(BH (λ_=>true) (fk ρ) ds).bind λr=>(kf (r.map (·.2))).bind λcI=>if(decide (ds.length<=100000)&&Dz ds cI)=true then Z (.o (PN ds cI))else X9
theorem Gf{fk:Dt->Y Bx}:∀{ds:O Dt} {r:O (Dt×Dt)},BH (λ_=>true) fk ds=Z r->r.length=ds.length/\∀(i:Nat) (d:Dt),ds[i]?=Z d->∃k:Dt,r[i]?=Z (d,k)/\fk d=Z (.z k)
 |[],r,h=>by cases h;exact⟨rfl,λi d e=>by cases e⟩
 |d::ds,r,h=>by
  obtain⟨k,b,h1,_,h2,rfl⟩:=wz h;obtain⟨l,m⟩:=Gf h2;refine⟨congrArg (·+1) l,λi a e=>?_⟩;cases i with
  |zero=>cases e;exact⟨k,rfl,h1⟩
  |succ i=>exact m i a e
theorem KY{α:Type}{le:α->α->Prop}:∀{l c:O α},(∀a∈l,∀b∈l,le a b->le b a->a=b)->l.Perm c->l.Pairwise le->c.Pairwise le->l=c
 |[],c,_,h,_,_=>h.nil_eq
 |x::l,c,anti,h,p,p'=>by
  cases c with
  |nil=>exact absurd h.length_eq (by simp)
  |cons y c=>
   have e:x=y:=by
    have hx:x∈y::c:=h.mem_iff.mp zh;have d:y∈x::l:=h.mem_iff.mpr zh;rcases List.mem_cons.mp hx with e|hx
    ·exact e
    rcases List.mem_cons.mp d with e|d
    ·exact e.symm
    exact anti x zh y (zi _ d) ((ca.mp p).1 y d) ((ca.mp p').1 x hx)
   subst e;rw[KY (λa f b g=>anti a (zi _ f) b (zi _ g)) ((j3 x).mp h) (ca.mp p).2 (ca.mp p').2]
theorem bX(l:ds.length=cI.length)(h:Dz ds cI=true):∀p∈ds.zip cI,∀q∈ds.zip cI,p.2=q.2->p.1=q.1:=by
 unfold Dz at h;rw[Kb]at h;intro p hp q a e;rcases h with h|h
 ·have nd:cI.Nodup:=Q2 h;obtain⟨i,hi,b⟩:=dt.mp hp;obtain⟨j,m,c⟩:=dt.mp a;rw[qq]at b c;subst b c;have:=(xD nd).mp e;subst this;rfl
 ·split at h
  ·rename_i n hd;have e0:=u5 hd;subst e0;simp only[QR,Kb,qV,QE,Q3]at h;rw[List.zip_map_left]at hp a;obtain⟨p',d,rfl⟩:=av.mp hp;obtain⟨f,g,rfl⟩:=av.mp a;rcases h p' d f g with h|h
   ·exact absurd e h
   ·exact congrArg BO h
  ·cases h
theorem XY{R:α->β->Prop}{ys b:O β}(p:ys.Perm b):∀{xs:O α},AI R xs ys->∃a,xs.Perm a/\AI R a b:=by
 induction p with
 |nil=>intro xs h;cases h;exact⟨[],.refl _,.nil⟩
 |cons y _ e=>
  intro xs h;cases h with
  |cons h t=>obtain⟨a,p',c⟩:=e t;exact⟨_::a,p'.cons _,.cons h c⟩
 |swap y z l=>
  intro xs h;cases h with
  |cons h1 t=>cases t with
   |cons h2 t=>exact⟨_::_::_,.swap _ _ _,.cons h2 (.cons h1 t)⟩
 |trans _ _ d f=>
  intro xs h;obtain⟨x1,p1,t1⟩:=d h;obtain⟨g,p2,t2⟩:=f t1;exact⟨g,p1.trans p2,t2⟩
section
variable{kS:A1}{vs:O A0}{keys:Array A0}{e e1:Nat}{P:PySem.Fin->A2->Prop}
theorem agH(x:s.heap.get? kS=Z (seqObj "list" keys e))(v:s.heap.get? a=Z (seqObj "list" #[] e1))(z:kS≠a)(p:keys.size=vs.length)(G:vs.length<=AA)
  (y:2<=keys.size->∀Q:SortKind->A2->Prop,Q kd s->A7 (A8 prog w) A (keyKind' keys) Q E s) (B:Et prog w A s kd rk (keys.zip vs.toArray))
  (h:∀(st:SortSt) (c:Nat),(AM st).Perm (keys.zip vs.toArray)->Up rk (AM st) (AM st).size->((s.heap.update kS (Obj.mapSeq λ_=>(#[]:Array A0))).update a (Obj.mapSeq λ_=>(AM st).map (·.2))).get? a=Z (seqObj "list" ((AM st).map (·.2)) c) →
   P (.done (.ret .none)) { s with heap:=(s.heap.update kS (Obj.mapSeq λ_=>(#[]:Array A0))).update a (Obj.mapSeq λ_=>(AM st).map (·.2)) }):
  A7 (A8 prog w) A (ksk_end a false vs.toArray e1 (.ref kS) keys) P E s:=by
 have m:(keys.zip vs.toArray).size=vs.length:=by rw[Array.size_zip,p,zr,hU]
 have D:=Qr s.heap kS (Obj.mapSeq λ_=>(#[]:Array A0));have g:(s.heap.update kS (Obj.mapSeq λ_=>(#[]:Array A0))).get? a=Z (seqObj "list" #[] e1):=(D.2 a z.symm).trans v;have n:∀st:SortSt,(AM st).Perm (keys.zip vs.toArray)->failedOf st=X9->Up rk (AM st) (AM st).size->A7 (A8 prog w) A (ksk_tail a false e1 (.ref kS) st) P E s:=λst hp f l=>by
  have F:((AM st).map (·.2)).size=vs.length:=by rw[Array.size_map,hp.size_eq,m]
  obtain⟨c,C⟩:∃c,((s.heap.update kS (Obj.mapSeq λ_=>(#[]:Array A0))).update a (Obj.mapSeq λ_=>(AM st).map (·.2))).get? a=Z (seqObj "list" ((AM st).map (·.2)) c):=⟨_,get?_update_seq g λ_=>(AM st).map (·.2)⟩;unfold ksk_tail
  try dsimp only
  refine zb (listUpdate_at x X2 ?_ () (Zs _));refine zb (kG ?_);refine zb (seqEpoch_at g X2 ?_);refine zb (listUpdate_at g X2 ?_ (Zs _) (by simp only[zI,qh];omega));rw[f];simp only[bne_self_eq_false,zI,qh];exact ze (h st c hp l C)
 unfold ksk_end
 try dsimp only
 rw[zv (by simp)];by_cases h2:vs.toArray.size<2
 ·rw[zl h2,zl h2];refine zb (ze ?_);rw[StateT.run_pure];refine zb (ze ?_)
  try dsimp only
  refine n (SortSt.mk' general' (if false=true then(keys.zip vs.toArray).reverse else keys.zip vs.toArray) #[] 7 X9) (xf _) X2 λi j H o=>?_;have u:j<(keys.zip vs.toArray).size:=o;rw[m]at u;rw[zr]at h2;have:i=j:=by omega
  subst this;exact zo _
 ·rw[zv h2,zv h2];rw[zr]at h2;refine zb (y () _ ?_);refine zb (qa (Us (b:=keys.zip vs.toArray) (st:=SortSt.mk' kd (if false=true then(keys.zip vs.toArray).reverse else keys.zip vs.toArray) #[] 7 X9) (Q:=λ_ d=>(AM d).Perm (keys.zip vs.toArray)/\failedOf d=X9/\Up rk (AM d) (keys.zip vs.toArray).size) B ⟨xf _,rfl,rfl,rfl⟩ () λt q1 q2 q3=>⟨q1,q2,q3⟩) ?_ λ_ _ q=>q);rintro⟨⟨⟩,d⟩ s' ⟨rfl,hp,f,l⟩
  try dsimp only
  exact n d hp f (by rw[hp.size_eq];exact l)
end
theorem gm{f kS:A1}{r:O (Dt×Dt)}{oa:AE}{e1:Nat}{P:PySem.Fin->A2->Prop}(hT:I0 X A σ H0 f fk)(hk:BH (λ_=>true) fk ds=Z r)(F:aO X.K H0 ds vs)(J:AX vs AQ)(hz:AQ.length<=AA)(I:L2.AU X AN σ H s)(sm:AV H0 H)(h0:H0 kS=X9)(hS:H kS=Z (.lst []))(ha:H a=Z (.jl oa (.lst [])))(h:∀H' s' AO c n,L2.AU X AN σ H' s'->AV H0 H'->H' kS=Z (.lst AO)->H' a=Z (.jl oa (.lst []))->aO X.K H' (r.map (·.2)) AO->AX AO c->s'.heap.get? kS=Z (seqObj "list" c.toArray n)->A7 (bi X) A (ksk_end a false AQ.toArray e1 (.ref kS) c.toArray) P E s'):
  A7 (bi X) A (ksk_rest a (.ref f) false AQ.toArray e1 (.ref kS)) P E s:=by
 obtain⟨b0,S⟩:=Gf hk;have a6:AQ.length=ds.length:=by rw[<-J.length,F.length]
 unfold ksk_rest;refine zb (QY ?_)
 first
  |rw[List.forIn_toArray]
  |(rw[<-mz];simp only[eF])
  |rw[<-mz]
 refine zb (ksk_fold (λi s'=>∃H' AO,L2.AU X AN σ H' s'/\AV H0 H'/\H' kS=Z (.lst AO)/\H' a=Z (.jl oa (.lst []))/\aO X.K H' ((r.take i).map (·.2)) AO) AQ 0 s ⟨H,[],I,sm,hS,ha,by rw[k0];exact aO.nil⟩ ?step ?done)
 case step=>
  rintro j x s' hx ⟨H',AO,q,l,o,m,rk⟩;simp only[kD]at rk ⊢;have hj:j<AQ.length:=(bc.mp hx).1;obtain⟨d,hd⟩:∃d,ds[j]?=Z d:=⟨_,ZY ()⟩;obtain⟨k,a4,N⟩:=S j d hd;obtain⟨v,hv,U⟩:=F.get hd;obtain⟨u,G,ru⟩:=J.get hv;rw[hx]at G;cases G;have Q:AO.length<=j:=by rw[rk.length,zg,qB];omega
  refine zb (wpAny_attempt (qa (hT AN s' H' d k v x q l ru (U.kp (.of l)) N) (λg p he=>?_) λ_ _ M=>M.elim));obtain⟨D,H2,C,a3,y,a5⟩:=he
  try dsimp only
  have B:=y _ _ o;obtain⟨_,c,n,t,_,eS⟩:=C.Qx B;have a7:c.length<=j:=by rw[<-t.length];exact Q
  have s1:=Qr p.heap kS (Obj.mapSeq (·.push g));obtain⟨c2,L⟩:∃c2,(p.heap.update kS (Obj.mapSeq (·.push g))).get? kS=Z (seqObj "list" (c.toArray.push g) c2):=⟨_,get?_update_seq eS (·.push g)⟩;have ea:c.toArray.push g=(c++[g]).toArray:=by simp
  have I3:L2.AU X AN σ (B4 H2 kS (.lst (AO++[D]))) { p with heap:=p.heap.update kS (Obj.mapSeq (·.push g)) }:=C.write (t':=p.toks) (by rw[B];trivial) (.inl X2) (λb u hb e=>(s1.2 b hb).trans e) ⟨_,L⟩ ⟨by rw[Zl];simp;omega,c++[g],c2,t.append (.cons a3 .nil),by rw[<-ea];exact L⟩;refine zb (listUpdate_at eS X2 ?_ (by rw[zr];omega) (zt (xi (Array.size_push ..)) (by rw[zr];omega)));refine ze ⟨rfl,_,AO++[D],I3,mF (l.trans y) h0,aU,?_,?_⟩
  ·have ne:a≠kS:=λz=>by rw[z,o]at m;cases m
   rw[aK ne];exact y _ _ m
  ·have W:(r.take (j+1)).map (·.2)=(r.take j).map (·.2)++[k]:=by rw[nF,a4,qc];rfl
   rw[W];exact((rk.kp (.of y)).append (aO.cons a5 aO.nil)).kp (Kp.lst B)
 case done=>
  rintro s' ⟨H',AO,q,l,o,m,rk⟩;rw[show r.take (0+AQ.length)=r from Qb ()]at rk;obtain⟨_,c,n,t,_,eS⟩:=q.Qx o
  try dsimp only
  refine zb (listItems_at eS X2 ?_);exact h H' s' AO c n q l o m rk t eS
theorem U9{x:Keyed}(h:x∈us.zip us):x∈(pairsOf us).toList:=by rw[pairsOf_toList];exact h
theorem KZ{f p:A1}{r:O (Dt×Dt)}(hF:yU X kf)(I:L2.AU X AN σ H s)(hT:I0 X A.in1.in1 σ H f fk)(sq:su X.K H p vs\/yw X.K H p vs)(M:aO X.K H ds vs)(hk:BH (λ_=>true) fk ds=Z r)(e9:kf (r.map (·.2))=Z cI)(hl:ds.length<=100000)(h1:Dz ds cI=true)(hQ:∀H' s' l zs,L2.AU X AN σ H' s'->AV H H'->H l=X9->H' l=Z (.lst zs)->aO X.K H' (PN ds cI) zs->Q (.ref l) s'):
  A7 (bi X) A (call (.builtin "sorted") [.ref p] [(Str.ofString "key", .ref f)]) Q E s:=by
 have e5:∃(AQ:O A0) (o:AE) (T:String) (n:Nat),AX vs AQ/\s.heap.get? p=Z o/\o.cls=.type T/\(T ="list" ∨ T ="tuple")/\o.data=.seq AQ.toArray n/\vs.length<=AA:=by
  rcases sq with sq|sq
  ·obtain⟨AQ,r',pl,D⟩:=I.list sq;obtain⟨o,g,c,n,d⟩:=pl.isList;exact⟨AQ,o,_,n,r',g,c,.inl rfl,d,D⟩
  ·obtain⟨AQ,r',⟨o,g,c,n,d⟩,D⟩:=I.tuple sq;exact⟨AQ,o,_,n,r',g,c,.inr rfl,d,D⟩
 obtain⟨AQ,o,T,n,S,g,P,f3,hd,D⟩:=e5;have J:AQ.length<=AA:=by rw[<-S.length];exact D
 have b3:AQ.length=ds.length:=by rw[<-S.length,M.length]
 refine call_function_entry_kw kind_sorted plain_sorted entry_sorted (ksk_s1 _ _) ?_;unfold Builtin.«sorted»;refine zb (m:=checkCount "sorted" 1 1 _) (ze ?_);refine zb (J8 g P f3 hd J λhp tk e6 ext=>zb (YU ?_));generalize b4:hp.objs.size=l;have U:(hp.push (seqObj "list" AQ.toArray 0)).get? l=Z (seqObj "list" AQ.toArray 0):=by rw[<-b4];exact zC _ rfl
 have a5:s.heap.objs.size<=l:=by rw[<-b4];exact e6
 refine zb (Z3 (wpAny_call_entry_kw slot_list_sort ⟨_,U,rfl⟩ entry_list_sort ?_ (ksk_l1 _ _)));show A7 (bi X) A.in1.in1 (Builtin.«list.sort» ⟨[.ref l],[(Str.ofString "key", .ref f)]⟩) _ _ _;rw[ksk_t1];obtain⟨e1,a7⟩:∃e1,((hp.push (seqObj "list" AQ.toArray 0)).update l (Obj.mapSeq λ_=>(#[]:Array A0))).get? l=Z (seqObj "list" #[] e1):=⟨_,get?_update_seq U λ_=>#[]⟩;unfold ksk_tree;refine zb (listItems_at U X2 ?_);refine zb (listUpdate_at U X2 ?_ (by rw[zr];omega) (Zs _));refine zb (seqEpoch_at a7 X2 ?_);refine zb (wpAny_newTuple ?_ (by show AQ.length<=_;exact J));refine zb (YU ?_ (Zs _));refine Z3 ?_;have s0:=Qr (hp.push (seqObj "list" AQ.toArray 0)) l (Obj.mapSeq λ_=>(#[]:Array A0));have fl:H l=X9:=I.hok.fresh a5;have f4:∀b u,s.heap.get? b=Z u->((hp.push (seqObj "list" AQ.toArray 0)).update l (Obj.mapSeq λ_=>(#[]:Array A0))).get? b=Z u:=λb u e=>
  (s0.2 b (zS (zD (zz e) a5))).trans (zd _ (ext b u e))
 have I1:L2.AU X AN σ (B4 H l (.jl (seqObj "list" #[] e1) (.lst []))) { s with heap:=(hp.push (seqObj "list" AQ.toArray 0)).update l (Obj.mapSeq λ_=>(#[]:Array A0)),toks:=tk }:=
  I.laid (t':=tk) f4 a5 ⟨a7,Zs _,[],e1,.nil,a7⟩
 generalize g6:(hp.push (seqObj "list" AQ.toArray 0)).update l (Obj.mapSeq λ_=>(#[]:Array A0))=h2 at *
 have I2:L2.AU X AN σ (B4 H l (.jl (seqObj "list" #[] e1) (.lst []))) { s with heap:=h2.push (seqObj "tuple" AQ.toArray 0),toks:=tk }:=I1.kept (t':=tk) λb u e=>zd _ e;generalize g3:h2.push (seqObj "tuple" AQ.toArray 0)=h3 at *
 have I3:L2.AU X AN σ (B4 (B4 H l (.jl (seqObj "list" #[] e1) (.lst []))) h3.objs.size (.lst [])) { s with heap:=h3.push (seqObj "list" #[] 0),toks:=tk }:=
  I2.laid (t':=tk) (λb u e=>zd _ e) (zo _) ⟨Zs _,[],0,.nil,zC _ rfl⟩
 have a3:(B4 H l (.jl (seqObj "list" #[] e1) (.lst []))) h3.objs.size=X9:=I2.hok.fresh (zo _);have N:l≠h3.objs.size:=λz=>by rw[<-z,aU]at a3;cases a3
 have b0:H h3.objs.size=X9:=by rw[aK N.symm]at a3;exact a3
 have f2:AV H (B4 (B4 H l (.jl (seqObj "list" #[] e1) (.lst []))) h3.objs.size (.lst [])):=mF (bY fl) b0;have f1:∀ob u,X.H₀ l≠Z (.jl ob u):=λob u e=>by have:=I.base.Cu l ob u e;rw[fl]at this;cases this
 show A7 _ A.in1.in1 (ksk_rest l (.ref f) false AQ.toArray e1 (.ref h3.objs.size)) _ _ { s with heap:=h3.push (seqObj "list" #[] 0),toks:=tk };refine gm (H0:=H) (oa:=seqObj "list" #[] e1) hT hk M S J I3 f2 b0 aU (by rw[aK N,aU]) λH' s' AO B m I' f5 g1 d0 rk b5 eS=>?_;have a4:B.length=AQ.length:=by rw[<-b5.length,rk.length,zg,(Gf hk).1,b3]
 obtain⟨kd,K,hK,kk,cc⟩:=hF AN σ H' s' _ AO B cI I' rk b5 e9;have g0:cI.length=ds.length:=by rw[<-hK,zg,a4,b3]
 have na:s'.heap.get? l=Z (seqObj "list" #[] e1):=(I'.hok _ _ d0).1;refine agH (kd:=kd) (rk:=λv=>C2 cI (K v)) eS na N.symm (by rw[zr];exact a4) J (λh2 Q' W=>kk (by rw[zr]at h2;exact h2) _ _ _ W) (λE' p q Q' hp W hh=>?_) λst c hp up P=>?_
 ·rw[ksk_zip,eF]at hp W;have m1:=(xc hp).1;have m2:=(xc W).1;have z:∀{x:A0},x∈B->(x,x)∈(pairsOf B).toList:=λ{x} hx=>U9 (by
   obtain⟨i,hi,e⟩:=dt.mp hx;exact dt.mpr ⟨i,by rw[List.length_zip];omega,by rw[qq,e]⟩)
  exact cc _ E' (p.1,p.1) (q.1,q.1) Q' (z m1) (z m2) hh
 ·have d2:(B.zip AQ).Perm (AM st).toList:=by
   have:=dc.mp hp;rw[ksk_zip,eF]at this;exact this.symm
  have pr:AI (λ(x:(Dt×O AY)×V) (y:Keyed)=>x.1.2=K y.1/\Au x.2 y.2/\AW X.K H x.1.1 x.2/\y.1∈B) ((ds.zip cI).zip vs) (B.zip AQ):=by
   have L:∀(C:O A0),(∀x∈C,x∈B)->∀(ds:O Dt) (cI:O (O AY)) (vs:O V) (AQ:O A0),C.map K=cI->aO X.K H ds vs->AX vs AQ->AI (λ(x:(Dt×O AY)×V) (y:Keyed)=>x.1.2=K y.1/\Au x.2 y.2/\AW X.K H x.1.1 x.2/\y.1∈B) ((ds.zip cI).zip vs) (C.zip AQ):=by
    intro C
    induction C with
    |nil=>intro _ ds cI vs AQ e _ _;subst e;rw[kF,gd,n4,n4];exact .nil
    |cons k C F=>
     intro hm ds cI vs AQ e r t;subst e;cases t with
     |nil=>rw[gd,gd];exact .nil
     |@cons v u vs AQ t1 t2=>
      cases ds with
      |nil=>simp only[aO]at r;cases r
      |cons d ds=>
       simp only[aO]at r;obtain⟨v',g2,e,r1,r2⟩:=r;cases e;rw[zk,ke,ke,ke];exact .cons ⟨rfl,t1,r1,hm k zh⟩ (F (λx hx=>hm x (zi _ hx)) ds _ vs AQ X2 r2 t2)
   exact L B (λ_ h=>h) ds cI vs AQ hK M S
  obtain⟨xs,px,pa⟩:=XY d2 pr;have gx:∀{i:Nat} {x:(Dt×O AY)×V} {y:Keyed},xs[i]?=Z x->(AM st).toList[i]?=Z y->x.1.2=K y.1/\Au x.2 y.2/\AW X.K H x.1.1 x.2/\y.1∈B:=λ{i x y} e1 e2=>by
   obtain⟨y',e3,q⟩:=Kl pa e1;rw[e2]at e3;cases e3;exact q
  have lx:xs.length=(AM st).size:=by rw[pa.length,ZN]
  have d1:xs.map (·.1.1)=PN ds cI:=by
   have e0:xs.map (·.1)=(ds.zip cI).mergeSort EF:=by
    have pz:(xs.map (·.1)).Perm (ds.zip cI):=by
     have h:=px.symm.map Prod.fst;rwa [pJ (by rw[List.length_zip,M.length];omega)]at h
    refine KY (le:=λa b=>EF a b=true) (λa ha b G f0 e7=>?_) (pz.trans (JP ..).symm) ?_ (kB (le:=EF) (λa b c=>iI a.2 b.2 c.2) (λa b=>rE a.2 b.2) _)
    ·have e2:a.2=b.2:=zP f0 e7;have:=bX g0.symm h1 a (pz.mem_iff.mp ha) b (pz.mem_iff.mp G) e2;exact xk this e2
    ·rw[dq];intro i j hi hj e4;rw[zg]at hi hj;simp only[YO];have c4:i<(AM st).size:=by omega
     have a6:j<(AM st).size:=by omega
     obtain⟨a1,_,_,m1⟩:=gx (i:=i) (x:=xs[i]) (y:=(AM st)[i]) (ZY hi) (by rw[ZY (by rw[ZN];exact c4),ye]);obtain⟨a2,_,_,m2⟩:=gx (i:=j) (x:=xs[j]) (y:=(AM st)[j]) (ZY hj) (by rw[ZY (by rw[ZN];exact a6),ye]);have u:=up i j (ZI e4) a6;unfold at_ at u;rw[getElem?_pos _ i c4,getElem?_pos _ j a6]at u;show qu _ _=true;unfold qu;rw[a1,a2,<-Jg (show K (AM st)[j].1∈cI by rw[<-hK];exact qf m2),z4 (ej.mpr u)];rfl
   have:xs.map (·.1.1)=(xs.map (·.1)).map (·.1):=by rw[ZU];rfl
   rw[this,e0];rfl
  have rz:aO X.K H (PN ds cI) (xs.map (·.2)):=by
   rw[<-d1];have L:∀{xs:O ((Dt×O AY)×V)} {ys:O Keyed},AI (λx (y:Keyed)=>x.1.2=K y.1/\Au x.2 y.2/\AW X.K H x.1.1 x.2/\y.1∈B) xs ys->aO X.K H (xs.map (·.1.1)) (xs.map (·.2)):=by
    intro xs ys h
    induction h with
    |nil=>exact aO.nil
    |cons h _ F=>rw[zk,zk];exact aO.cons h.2.2.1 F
   exact L pa
  have vz:AX (xs.map (·.2)) ((AM st).map (·.2)).toList:=by
   rw[h6];have L:∀{xs:O ((Dt×O AY)×V)} {ys:O Keyed},AI (λx (y:Keyed)=>x.1.2=K y.1/\Au x.2 y.2/\AW X.K H x.1.1 x.2/\y.1∈B) xs ys->AX (xs.map (·.2)) (ys.map (·.2)):=by
    intro xs ys h
    induction h with
    |nil=>exact .nil
    |cons h _ F=>exact .cons h.2.1 F
   exact L pa
  have f9:(xs.map (·.2)).length<=AA:=by rw[rz.length,<-d1,zg,lx,hp.size_eq,Array.size_zip,zr,zr,a4,hU];exact J
  have t1:=Qr s'.heap h3.objs.size (Obj.mapSeq λ_=>(#[]:Array A0));obtain⟨c1,b6⟩:∃c1,(s'.heap.update h3.objs.size (Obj.mapSeq λ_=>(#[]:Array A0))).get? h3.objs.size=Z { cls:=.type "list",data:=.seq #[] c1 }:=⟨_,get?_update_seq eS λ_=>#[]⟩;have J1:L2.AU X AN σ (B4 H' h3.objs.size (.lst [])) { s' with heap:=s'.heap.update h3.objs.size (Obj.mapSeq λ_=>(#[]:Array A0)) }:=I'.write (t':=s'.toks) (by rw[g1];trivial) (.inl X2) (λb u G e=>(t1.2 b G).trans e) ⟨_,b6⟩ ⟨Zs _,[],c1,.nil,b6⟩;have J2:=pT f1 J1 (show(B4 H' h3.objs.size (.lst [])) l=Z (.jl (seqObj "list" #[] e1) (.lst [])) by rw[aK N];exact d0);have t2:=Qr (s'.heap.update h3.objs.size (Obj.mapSeq λ_=>(#[]:Array A0))) l (Obj.mapSeq λ_=>(AM st).map (·.2));have J3:L2.AU X AN σ (B4 (B4 (B4 H' h3.objs.size (.lst [])) l (.lst [])) l (.lst (xs.map (·.2)))) { s' with heap:=(s'.heap.update h3.objs.size (Obj.mapSeq λ_=>(#[]:Array A0))).update l (Obj.mapSeq λ_=>(AM st).map (·.2)) }:=
   J2.write (t':=s'.toks) (by rw[aU];trivial) (.inl X2) (λb u G e=>(t2.2 b G).trans e) ⟨_,P⟩ ⟨f9,((AM st).map (·.2)).toList,c,vz,by rw[P]⟩
  have c0:AV H (B4 (B4 (B4 H' h3.objs.size (.lst [])) l (.lst [])) l (.lst (xs.map (·.2)))):=mF (mF (mF f5 b0) fl) fl;exact⟨_,rfl,ze ⟨_,rfl,hQ _ _ l _ J3 c0 fl aU (rz.kp (.of c0))⟩⟩
end P1
namespace P1
open L2 S6
section
variable{t1 i1 tY i2 tZ i3:Expr}{f1 f2 f3:O Expr}{xs:AZ}{g1 g2 g3:Dt->Ev->Y Ev}{p1 p2 p3:Ev->Y Bool}{fi1 fi2 fi3:Ev->Y (O Dt)}{m m2:Nat}
structure OO (X:Cx) (ts:AZ) (m m2:Nat) (scope:Scope) (cl:List (Str×Addr)) (xs:AZ) (is:List Nat) (t1 i1:Expr) (f1:List Expr) (tY i2:Expr) (f2:List Expr) (tZ i3:Expr) (f3:List Expr) (fi1 fi2 fi3:Ev->Option (List Dt)) (g1 g2 g3:Dt->Ev->Option Ev) (p1 p2 p3:Ev->Option Bool):Prop where
 ok:uD X scope cl xs is
 calm:X.calm=true
 it1:EA X t1 i1 fi1
 tg1:∀C s₀ H₀ fp,CC (Am X (xs++ts) scope cl C s₀ H₀ fp) t1 g1
 c1:∀C s₀ H₀ fp,vU (Am X (xs++ts) scope cl C s₀ H₀ fp) f1 p1
 k1:YC is.length m g1
 it2:∀C s₀ H₀ fp,EK (Am X (xs++ts) scope cl C s₀ H₀ fp) tY i2 fi2
 tg2:∀C s₀ H₀ fp,CC (Am X (xs++ts) scope cl C s₀ H₀ fp) tY g2
 c2:∀C s₀ H₀ fp,vU (Am X (xs++ts) scope cl C s₀ H₀ fp) f2 p2
 k2:YC m m2 g2
 it3:∀C s₀ H₀ fp,EK (Am X (xs++ts) scope cl C s₀ H₀ fp) tZ i3 fi3
 tg3:∀C s₀ H₀ fp,CC (Am X (xs++ts) scope cl C s₀ H₀ fp) tZ g3
 c3:∀C s₀ H₀ fp,vU (Am X (xs++ts) scope cl C s₀ H₀ fp) f3 p3
 k3:YC m2 (is.length+ts.length) g3
 hm:is.length<=m:=by decide
 hm2:m<=m2:=by decide
 hm3:m2<=is.length+ts.length:=by decide
 hs:∀x,foldedSetIterable i1 X.env x=pure x:=by intro _;rfl
 hs2:∀C x,foldedSetIterable i2 (compEnvC scope (cellsFrom (C+1) scope.names cl) C X.env) x=pure x:=by intro _ _;rfl
 hs3:∀C x,foldedSetIterable i3 (compEnvC scope (cellsFrom (C+1) scope.names cl) C X.env) x=pure x:=by intro _ _;rfl
theorem WA(ts:AZ)(W:OO X ts m m2 scope cl xs is t1 i1 f1 tY i2 f2 tZ i3 f3 fi1 fi2 fi3 g1 g2 g3 p1 p2 p3)(he:∀C c f fp,QV (Am X (xs++ts) scope cl C c f fp) elt fe):
  QV X (.ListComp elt [⟨t1,i1,f1,0⟩,⟨tY,i2,f2,0⟩,⟨tZ,i3,f3,0⟩] scope pos) (Rw fi1 g1 p1 (DE fi2 g2 p2 (DE fi3 g3 p3 (FR fe))) is ts.length):=⟨λAN s σ H Q I h=>by
 obtain⟨H0,ρ,b,E,e,q⟩:=h;obtain⟨out,g,e⟩:=AT e;obtain⟨ds,S,g⟩:=AT g;split at e
 ·rename_i u;cases e;rw[eval_ListComp];refine Kx (use:=X9) X2 W.hs W.ok.clos W.ok.kind W.ok.names ?_;refine jH (W.it1.run AN s σ H (λJ H'=>AV H H'/\B5 X.K J ds H') I ⟨H0,ρ,ds,E,S,λJ H' s' y=>⟨s',y⟩⟩) λv s1 h1=>jH h1 λa3 s2 h2=>?_;obtain⟨it,fp,tn,J,H2,rfl,p,T,st,P,i,Y⟩:=h2;refine Fv (B:=G5) (Ac:=YF X.K) (O0:=.lst []) (N:=100000) (RR:=λn C=>compPost (bi X) X.A X.xe X9 (EP X AN σ Q) n C) (ts:=ts) (xs:=xs) W.ok W.calm (λC c f fp=>(W.tg1 C c f fp).run) (λC c f fp=>(W.c1 C c f fp).run)
   (λC c f fp=>T3 (X:=Am X (xs++ts) scope cl C c f fp) (comp:=.ListComp elt [⟨t1,i1,f1,0⟩,⟨tY,i2,f2,0⟩,⟨tZ,i3,f3,0⟩] scope pos) (d:=1) W.calm X2 (W.it2 C c f fp).run (W.tg2 C c f fp).run (W.c2 C c f fp).run
    (T3 (X:=Am X (xs++ts) scope cl C c f fp) (comp:=.ListComp elt [⟨t1,i1,f1,0⟩,⟨tY,i2,f2,0⟩,⟨tZ,i3,f3,0⟩] scope pos) (d:=2) W.calm X2 (W.it3 C c f fp).run (W.tg3 C c f fp).run (W.c3 C c f fp).run (YG (he C c f fp).run) W.k3 W.hm3 YF.kp YF.no (W.hs3 C) (λ_ _ _=>X2) (Oo X2 λh=>h) λh=>h)
    W.k2 W.hm2 YF.kp YF.no (W.hs2 C) (λ_ _ _=>by simp only[bind_assoc,pure_bind];rfl) (Oo X2 λh=>h) λh=>h)
   W.k1 W.hm p ((E.grow i).caps is ts.length) (JR T) st P Y g u ?_
   QA (λ_=>⟨Zs _,[],0,.nil,zC _ rfl⟩) (λ_=>⟨[],rfl,aO.nil⟩) YF.kp (λ_ _ _=>by simp only[bind_assoc,pure_bind];rfl) codeAny_compStart_list λh=>h
  rintro D C s' H' o U l M ⟨m,F⟩ x t ⟨us,rfl,z⟩;refine⟨m,F,λh' j=>⟨.ref D,H',?_,rfl,q _ _ (i.trans x) (λa ea=>by cases ea;exact i.free U) ⟨D,us,rfl,t,z⟩⟩⟩;obtain⟨f0,f1,f2,f3,f4,L⟩:=M;exact l.turned (t':=s'.toks) (λb o G e=>(j.2 b G).trans e) f0 f1 f3 f4 L
 ·cases e⟩
section
variable{e:α->Dt}{e':β->Dt}{p:Ev->Y Bool}{fs:Ev->Y (O Dt)}
end
end
end P1
namespace P1
open L2 S1
def G1(ks:O Dt):Y (O (O AY)):=(yO ks).bind λcI=>if(cI.all (λk=>!k.isEmpty)&&cI.all λk=>cI.all λl=>MF k l)=true then Z cI else X9
def DV:O Dt->Y (O (O AY))
 |[]=>Z []
 |.str x::ds=>(DV ds).bind λr=>Z ([.inr x]::r)
 |_=>X9
theorem WI:yU X G1:=by
 intro AN σ H s ks vs us cI I g h e;unfold G1 at e;obtain⟨i,ek,e⟩:=AT e;split at e
 ·rename_i hs;cases e;simp only[qi,QR,qV]at hs;obtain⟨d,b⟩:=hs;have c:=u5 ek;subst c;have tv:=Jh I g h;refine⟨tuples' true,BS cI us,yN tv _ λv q=>(nW tv v q).2,λh2 A E Q f=>O1 tv (λk hk=>by have:=d k hk;cases k with|nil=>cases this|cons _ _=>exact qe _ _) (λk hk l a=>FP (b k hk l a)) () f,λA=>Ui tv λk hk l a=>FP (b k hk l a)⟩
 ·cases e
def EU:A0->O AY
 |.str x _=>[.inr x]
 |_=>[]
theorem S0:∀{ks:O Dt} {cI:O (O AY)},DV ks=Z cI->∃xs:AZ,ks=xs.map Dt.str/\cI=xs.map λx=>[.inr x]
 |[],_,h=>by cases h;exact⟨[],rfl,rfl⟩
 |d::ks,cI,h=>by
  cases d<;>first|(cases h;done)|skip;rename_i x;unfold DV at h;obtain⟨r,e,h⟩:=AT h;cases h;obtain⟨xs,rfl,rfl⟩:=S0 e;exact⟨x::xs,rfl,rfl⟩
theorem PX{K:B6}{H:Hp}:∀{xs:AZ} {vs:O V} {us:O A0},aO K H (xs.map Dt.str) vs->AX vs us->StrsAre us xs
 |[],_,_,h,r=>by
  simp only[kF,aO]at h;subst h;cases r;exact .nil
 |x::xs,_,_,h,r=>by
  simp only[zk,aO]at h;obtain⟨v,vs,rfl,h1,h2⟩:=h;cases r with
  |cons a b=>
   obtain⟨e,_⟩:v=.str x/\x.length<=AA:=by simpa only[AW]using h1
   subst e;obtain⟨t,rfl⟩:=a;exact .cons _ _ (PX h2 b)
theorem UA:yU X DV:=by
 intro AN σ H s ks vs us cI I l m e;obtain⟨xs,rfl,rfl⟩:=S0 e;have a:=PX l m;have j:∀{us:O A0} {xs:AZ},StrsAre us xs->us.map EU=xs.map λx=>[.inr x]:=by
  intro us xs h
  induction h with
  |nil=>rfl
  |cons _ _ _ f=>rw[zk,zk,f];rfl
 have hv:∀{us:O A0} {xs:AZ},StrsAre us xs->∀u∈us,∃x t,u=.str x t/\x∈xs:=by
  intro us xs h
  induction h with
  |nil=>intro u b;cases b
  |cons x t _ f=>
   intro u b;rcases List.mem_cons.mp b with rfl|b
   ·exact⟨x,t,rfl,zh⟩
   ·obtain⟨y,c,e,i⟩:=f u b;exact⟨y,c,e,zi _ i⟩
 refine⟨oneType',EU,j a,λh2 A E Q d=>?_,λA E p q Q hp d h=>?_⟩
 ·match us,h2,a with
  |v1::v2::us,_,a=>exact Y2 (keyKind_strs a) d
 ·rw[pairsOf_toList]at hp d;obtain⟨x,t,e1,g⟩:=hv a p.1 (mem_zip_self hp).2;obtain⟨y,c,e2,m2⟩:=hv a q.1 (mem_zip_self d).2;rw[e1,e2]at h ⊢;rw[keyLt'_oneType];have:decide (C2 (xs.map λx=>[.inr x]) (EU (.str x t))<C2 (xs.map λx=>[.inr x]) (EU (.str y c)))=decide (x.cps.toList<y.cps.toList):=by
   rw[show EU (.str x t)=[.inr x] from rfl,show EU (.str y c)=[.inr y] from rfl,Jg (av.mpr ⟨x,g,rfl⟩)];unfold eZ;split
   ·rename_i e;cases e;simp[eZ,k5]
   ·rfl
  rw[this]at h;exact oneLt_str h
theorem UP{H':Hp}{xs:O V}(h:yw K H a xs)(s:AV H H'):yw K H' a xs:=by
 rcases h with (h|⟨o,h⟩)|h
 ·exact .inl (.inl (s _ _ h))
 ·exact .inl (.inr ⟨o,s _ _ h⟩)
 ·exact .inr h
theorem mo{k:Nat}(r:iQ (k+1) A):iQ k A.in1.in1:=
 ⟨r.hd,by have:=r.dp;show A.depth+3*k+5<_;omega,by have:=r.un;show A.units+1+1+16*k+200<_;omega⟩
section
variable{k:Nat}{f:A1}
theorem WJ{H1:Hp}(G:qt X.prog X.w X.K X.mg X.base Fj k f fd ps (WK X.K 1 F))(m:iQ k A)(n:A.frames=Z X.stack)(p:BG X.K fd ps []):I0 X A σ H1 f λd=>F [.z d]:=by
 intro AN s H d kk v u I q o l e;have Ev:=I.env0;have h:WK X.K 1 F ([v]++[]) H (λb H'=>AV H H'/\AW X.K H' kk b) E0:=⟨rfl,[.z d],.z kk,.cons l .nil,rfl,e,λb H' s' _ c=>⟨s',c⟩⟩;have g:([u]++[]:O A0).length=ps.length:=by
  have:=G.len _ _ _ _ h;exact this
 refine wpAny_call (codeAny_mono (G.run A X.stack s H ⟨[u],[]⟩ ([u]++[]) ([v]++[]) _ _ m ⟨n,Ev.mod,Ev.bs,Ev.bsz,Ev.HW,Ev.frf,Ev.hok,Ev.bare,Ev.tabs⟩ (p s [u] I.kIn g) (.cons o .nil) h) λr s' a=>?_);cases r with
 |error e=>exact a.elim
 |ok fl=>
  cases fl with
  |ret t=>
   obtain⟨b,H',j,c,s',i⟩:=I.after a;exact⟨b,H',j,c,s',i⟩
  |next=>exact False.elim a
  |brk=>exact False.elim a
  |cont=>exact False.elim a
end
section
variable{p kp kpos:Pos}{k:Nat}{f:A1}
theorem x3(q:yU X kf)(hg:Gl X "sorted")(B:X.mg "sorted"=X9)(hv:AH "sorted"=Z (.builtin "sorted"))(G:qt X.prog X.w X.K X.mg X.base Fj k f fd ps (WK X.K 1 F))(y:iQ (k+1) X.A)(U:Gl X x)(a3:X.mg x=Z (.ref f))(M:BG X.K fd ps [])(he:QV X e fe)
  (hs:A9 [e] X.env=(false,eval e X.env)::A9 [] X.env:=by rfl) (h1:AD pos (A9 [e] X.env)=(false,eval e X.env)::AD pos (A9 [] X.env):=by rfl) (h2:(AD pos (A9 [e] X.env)).any (·.1)=false:=by rfl) (L:("sorted":AJ) ≠ "__name__":=by decide) (a5:(("sorted":AJ)==("__debug__":AJ))=false:=by decide) (D:ad x:=by decide):
  QV X (.Call (.Name "sorted" p) [e] [⟨Z "key", .Name x kp,kpos⟩] pos) (uH kf fe λ_ d=>F [.z d]):=⟨λAN s σ H Q I h=>by
 obtain⟨H0,ρ,b,E,c,J⟩:=h;unfold uH at c;obtain⟨b1,e1,c⟩:=AT c;obtain⟨ds,ed,c⟩:=AT c;obtain⟨kr,ek,c⟩:=AT c;obtain⟨cI,a4,c⟩:=AT c;split at c
 ·rename_i j;cases c;rw[qi,Q3]at j;refine jv (yE I hg B hv ?_ L a5);refine callWith_kw (jH (qp he.run yH hs pos AN s σ H (λvs H1=>∃v,vs=[v]/\AV H H1/\bJ X.K H1 b1 v) I ⟨H0,ρ,b1,E,e1,λv H' P _ g=>⟨v,rfl,P,g⟩⟩) λus s1 N=>?_) h1 h2 X2 rfl;obtain⟨vs,H1,i,r1,v,rfl,m,g⟩:=N;obtain⟨u,rfl,S⟩:=BA r1;obtain⟨a,ws,rfl,sq,C⟩:=Q6 g ed;cases S;show A7 _ _ (evalAll [do let v <-eval (.Name x kp) X.env;standAt pos;pure v]) _ _ s1;refine wpAny_evalAll_cons (zb (Qp i U a3 ?_ D));refine zb (kH (ze (wpAny_evalAll_nil ?_)));show A7 _ _ (call (.builtin "sorted") [.ref a] [(Str.ofString "key", .ref f)]) _ _ _;refine KZ q i (WJ G (mo y) (show X.A.in1.in1.frames=Z X.stack from i.ok.frames) M) sq C ek a4 j.1 j.2 λH' s' l zs t n o W rz=>⟨.ref l,H',t,rfl,J (.ref l) H' (m.trans n) (λa ea=>by cases ea;exact m.free o) ⟨l,zs,rfl,W,rz⟩⟩
 ·cases c⟩
end
section
variable{body:Expr}{adM p kpos:Pos}{xs:AZ}{c P:A1}{q:AJ}
theorem ai(a7:X.calm=true)(hd:X.A.depth<recursionLimit)(C:yU X kf)(hg:Gl X "sorted")(F:X.mg "sorted"=X9)(hv:AH "sorted"=Z (.builtin "sorted"))(O:PK X scope cl x xs is)(hK:UW X.K c P q)(y:X.env.code=.ref c)(G:X.env.qual++("<lambda>":AJ)=q)
  (a6:defaultsOf params X.env=([],[])) (N:∀pm U ct u,bindArgs (kla_fn "<lambda>" q params body scope cl pm U ct) ⟨[u],[]⟩=pure [(x,u)]) (he:QV X e fe)
  (hb:∀f c' s H,QV (EM X X.A.in1.in1 (x::xs) (envX q scope s.heap.objs.size f (.ref c') cl) s H) body fb)
  (hs:A9 [e] X.env=(false,eval e X.env)::A9 [] X.env:=by rfl) (h1:AD pos (A9 [e] X.env)=(false,eval e X.env)::AD pos (A9 [] X.env):=by rfl) (h2:(AD pos (A9 [e] X.env)).any (·.1)=false:=by rfl) (hn:("sorted":AJ) ≠ "__name__":=by decide) (a5:(("sorted":AJ)==("__debug__":AJ))=false:=by decide):
  QV X (.Call (.Name "sorted" p) [e] [⟨Z "key", .Lambda params body scope adM,kpos⟩] pos) (uH kf fe λρ d=>fb (Z (.z d)::gB is ρ)):=⟨λAN s σ H Q I h=>by
 obtain⟨H0,ρ,b,E,g,M⟩:=h;unfold uH at g;obtain⟨b1,e1,g⟩:=AT g;obtain⟨ds,ed,g⟩:=AT g;obtain⟨kr,ek,g⟩:=AT g;obtain⟨cI,a4,g⟩:=AT g;split at g
 ·rename_i t;cases g;rw[qi,Q3]at t;refine jv (yE I hg F hv ?_ hn a5);refine callWith_kw (jH (qp he.run yH hs pos AN s σ H (λvs H1=>∃v,vs=[v]/\AV H H1/\bJ X.K H1 b1 v) I ⟨H0,ρ,b1,E,e1,λv H' j _ n=>⟨v,rfl,j,n⟩⟩) λus s1 hu=>?_) h1 h2 X2 rfl;obtain⟨vs,H1,I1,r1,v,rfl,o,n⟩:=hu;obtain⟨u,rfl,ru⟩:=BA r1;obtain⟨a,ws,rfl,sq,J⟩:=Q6 n ed;cases ru;show A7 _ _ (evalAll [do let v <-eval (.Lambda params body scope adM) X.env;standAt pos;pure v]) _ _ s1;refine wpAny_evalAll_cons (zb (U0 I1 hK y G a6 O.clos λf H2 s2 D i hf L=>zb (kH (ze (wpAny_evalAll_nil ?_)))));show A7 _ _ (call (.builtin "sorted") [.ref a] [(Str.ofString "key", .ref f)]) _ _ _;have W:I0 X X.A.in1.in1 σ H2 f λd=>fb (Z (.z d)::gB is ρ):=λAN s H' d k v u I j rv S e=>
   qa (Zv I O (show X.A.in1.in1.frames=Z X.stack from I.ok.frames) (show X.A.in1.in1.handled=X9 from I.ok.hd a7) (show X.A.in1.in1.depth<recursionLimit from hd) (L.same j) (N _) (λf c' s H=>(hb f c' s H).run) (((E.grow o).grow i).grow j) rv S e)
    (λu' s' ⟨v',H'',m,r',s'',_,r''⟩=>⟨v',H'',m,r',s'',r''⟩) λ_ _ h=>h
  have Ie:su X.K H2 a ws\/yw X.K H2 a ws:=by
   rcases sq with sq|sq
   ·exact .inl (vC sq i)
   ·exact .inr (UP sq i)
  refine KZ C D W Ie (J.kp (.of i)) ek a4 t.1 t.2 λH' s' l zs m w B a3 rz=>⟨.ref l,H',m,rfl,M (.ref l) H' ((o.trans i).trans w) (λa ea=>by cases ea;exact(o.trans i).free B) ⟨l,zs,rfl,a3,rz⟩⟩
 ·cases g⟩
end
end P1
namespace P1
open L2
section
variable{K:Type} [DecidableEq K] {knd:KeyKind prog w K}
end
end P1
namespace P1
open L2 S1 S6
section
variable{e:α->Dt}{e':β->Dt}
theorem gz[jr e](xs:O α)(h:xs.length<=100000):He (xs.map (jr.k e))=true:=by
 simp only[He,qi,Q3,QR,qV,zg,av,forall_exists_index,and_imp,forall_apply_eq_imp_iff₂];exact⟨h,λa _=>jr.ne a,λa _ b _=>jr.shp a b⟩
def oi[jr e](a:RL fa ρ e):R (cN KR (aq fa aH)) ρ (oE e):=⟨Px e a.v,bA a.D (Z (a.v.length<=100000)),λh=>by
 obtain⟨h,b⟩:=aC h;simp only[cN,aq,aH,a.ok h,At,KR,Zq a.lk,nZ,gz a.v b,QQ,XG,ag]⟩
class Gg {β:Type} (e':β->Dt) (kf:outParam (List Dt->Option (List (List AY)))) where
 kk:β->List AY
 ok:∀xs:List β,kf (xs.map e')=some (xs.map kk)
 inj:∀a b,kk a=kk b->a=b
instance [jr e']:Gg e' G1:=⟨jr.k e',λxs=>by
 unfold G1;rw[nZ,At,zl];simp only[qi,QR,qV,av,forall_exists_index,and_imp,forall_apply_eq_imp_iff₂];exact⟨λa _=>jr.ne a,λa _ b _=>jr.shp a b⟩,jr.inj⟩
theorem ZC:∀xs:AZ,DV (xs.map eS)=Z (xs.map λx=>[.inr x])
 |[]=>rfl
 |x::xs=>by
  rw[zk,eS,DV,ZC xs,At];rfl
instance:Gg eS DV:=⟨λx=>[.inr x],ZC,λa b h=>by cases h;rfl⟩
def EJ(e':β->Dt)[Gg e' kf](κ:α->β)(a b:α):Bool:=qu (Gg.kk e' (κ a)) (Gg.kk e' (κ b))
def yV(e':β->Dt)[Gg e' kf](κ:α->β)(xs:O α):O α:=xs.mergeSort (EJ e' κ)
section
variable [Gg e' kf] {κ:α->β}
theorem BW(xs:O α):(yV e' κ xs).Perm xs:=JP ..
theorem K1(xs:O α):(yV e' κ xs).Pairwise (λa b=>EJ e' κ a b=true):=kB (le:=EJ e' κ) (λa b c=>iI _ _ _) (λa b=>rE _ _) xs
theorem UK{a b:α}(h:EJ e' κ a b=true)(h':EJ e' κ b a=true):κ a=κ b:=Gg.inj (e':=e') _ _ (zP h h')
theorem WB{xs:O α}(hi:∀a∈xs,∀b∈xs,κ a=κ b->a=b):PN (xs.map e) (xs.map λx=>Gg.kk e' (κ x))=(yV e' κ xs).map e:=by
 unfold PN;have f:(xs.map e).zip (xs.map λx=>Gg.kk e' (κ x))=xs.map λx=>(e x,Gg.kk e' (κ x)):=by
  rw[List.zip_map',]
 have i:(xs.map λx=>(e x,Gg.kk e' (κ x))).mergeSort EF=(yV e' κ xs).map λx=>(e x,Gg.kk e' (κ x)):=by
  refine KY (le:=λa b=>EF a b=true) (λa d b j h h'=>?_) ((JP ..).trans ((BW xs).map _).symm) (kB (le:=EF) (λa b c=>iI a.2 b.2 c.2) (λa b=>rE a.2 b.2) _) (dd.mpr (K1 xs));obtain⟨x,hx,rfl⟩:=av.mp ((JP ..).mem_iff.mp d);obtain⟨y,g,rfl⟩:=av.mp ((JP ..).mem_iff.mp j);rw[hi x hx y g (UK h h')]
 rw[f,i,ZU];rfl
structure SR (fe:Ev->Option Bx) (ρ:Ev) (e:α->Dt) where
 v:List α
 D:Option Prop
 ok:hold D->∃b,fe ρ=some b/\vX b=some (v.map e)
def VQ(a:RL fa ρ e):SR fa ρ e:=⟨a.v,a.D,λh=>⟨_,a.ok h,Zq a.lk⟩⟩
def oQ(a:R fa ρ (zE (eT e))):SR fa ρ e:=⟨a.v,a.D,λh=>⟨_,a.ok h,rfl⟩⟩
theorem K3{fk:Ev->Dt->Y Bx}{xs:O α}{b:Bx}(f:fe ρ=Z b)(hs:vX b=Z (xs.map e))(hk:∀x∈xs,fk ρ (e x)=Z (.z (e' (κ x))))(d:xs.length<=100000)(hi:∀a∈xs,∀b∈xs,κ a=κ b->a=b)(h1:Dz (xs.map e) (xs.map λx=>Gg.kk e' (κ x))=true):
  uH kf fe fk ρ=Z (.o ((yV e' κ xs).map e)):=by
 have h2:=Ga (Eu:=λ_=>true) (e:=e) (e':=e') (fk:=fk ρ) (g:=κ) (λ_=>X2) hk;have c:kf ((xs.map λx=>(e x,e' (κ x))).map (·.2))=Z (xs.map λx=>Gg.kk e' (κ x)):=by
  rw[ZU];have:=Gg.ok (e':=e') (xs.map κ);rw[ZU,ZU]at this;exact this
 unfold uH;rw[f,At,hs,At,h2,At,c,At,zl (by rw[qi,Q3,zg];exact⟨d,h1⟩),WB hi]
theorem ZD{xs:O α}(h:(xs.map κ).Nodup):(∀a∈xs,∀b∈xs,κ a=κ b->a=b)/\Dz (xs.map e) (xs.map λx=>Gg.kk e' (κ x))=true:=by
 constructor
 ·intro a c b f e;obtain⟨i,hi,rfl⟩:=dt.mp c;obtain⟨j,d,rfl⟩:=dt.mp f;have:=(xD (i:=i) (j:=j) (h₀:=by rw[zg];exact hi) (h₁:=by rw[zg];exact d) h).mp (by rw[YO,YO];exact e);subst this;rfl
 ·unfold Dz;rw[Kb];refine .inl (z5 ?_);have:(xs.map λx=>Gg.kk e' (κ x))=(xs.map κ).map (Gg.kk e'):=by rw[ZU];rfl
  rw[this];exact dd.mpr (KU (λne q=>ne (Gg.inj (e':=e') _ _ q)) h)
theorem UV[jr e]{xs:O α}(h:∀a∈xs,∀b∈xs,κ a=κ b->a=b):Dz (xs.map e) (xs.map λx=>Gg.kk e' (κ x))=true:=by
 unfold Dz;rw[Kb];refine .inr ?_;rw[nZ];simp only[List.zip_map',QR,av,forall_exists_index,and_imp,forall_apply_eq_imp_iff₂,Kb,qV,QE,Q3];intro a c b d;by_cases q:Gg.kk e' (κ a)=Gg.kk e' (κ b)
 ·exact .inr (by rw[h a c b d (Gg.inj (e':=e') _ _ q)])
 ·exact .inl q
end
def fm[jr e][Gg e' kf]{T:α×Unit->β}{c:α×Unit->Y Prop}(S:∀v bs,aZ e aN v bs->bs.length=1/\(hold (c v)->F (bs.map lend)=Z (zE e' (T v))))(a:SR fa ρ e):R (uH kf fa λ_ d=>F [.z d]) ρ (oE e):=
 ⟨yV e' (λx=>T (x,db)) a.v,bA a.D (Z ((∀x∈a.v,hold (c (x,db)))/\a.v.length<=100000/\∀x∈a.v,∀y∈a.v,T (x,db)=T (y,db)->x=y)),λh=>by
 obtain⟨h1,h2,g,f⟩:=aC h;obtain⟨b,i,hs⟩:=a.ok h1;exact K3 (e':=e') (κ:=λx=>T (x,db)) i hs (λx hx=>(S (x,db) [.z (e x)] ⟨_,rfl,rfl⟩).2 (h2 x hx)) g f (UV (e':=e') f)⟩
def u4[Gg e' kf](a:SR fa ρ e)(k:∀x:α,R fb (Z (.z (e x))::gB is ρ) (zE e')):R (uH kf fa λρ d=>fb (Z (.z d)::gB is ρ)) ρ (oE e):=
 ⟨yV e' (λx=>(k x).v) a.v,bA a.D (Z ((∀x∈a.v,hold (k x).D)/\a.v.length<=100000/\(a.v.map λx=>(k x).v).Nodup)),λh=>by
 obtain⟨h1,h2,f,c⟩:=aC h;obtain⟨b,g,hs⟩:=a.ok h1;exact K3 (e':=e') (κ:=λx=>(k x).v) g hs (λx hx=>(k x).ok (h2 x hx)) f (ZD (e:=e) (e':=e') c).1 (ZD (e:=e) (e':=e') c).2⟩
end
section
variable{e:α->Dt}{e':β->Dt}{p:Ev->Y Bool}{fs:Ev->Y (O Dt)}
def iN(it:R fi ρ (iE e))(a:α->Ev)(c:∀x,gt (e x) ρ=Z (a x))(b:∀x,R fs (a x) (iE e')):R (DE fi gt uF fs) ρ (iE e'):=⟨it.v.flatMap λx=>(b x).v,bA it.D (FC it.v λx=>(b x).D),λh=>by
 obtain⟨h1,h2⟩:=aC h;have h2:∀x∈it.v,hold (b x).D:=h2;simp only[DE,it.ok h1,At];rw[Dp (π:=λ_=>true) (g:=λx=>(b x).v.map e') it.v λx hx=>⟨a x,c x,rfl,λ_=>(b x).ok (h2 x hx)⟩,ez.mpr λ_ _=>X2];rw[iE,KJ]⟩
end
section
variable{e:α->Dt}
end
end P1
namespace L2
end L2
namespace P1
open L2
section
variable{e1 e2:Expr}{fs:Ev->Y (O Bx)}
variable{e:α->Dt}{k:Ev->Y Ap}{cO:γ->Ap}
end
section
variable{en:α->Dt}{k:Ev->Y Ap}{cO:γ->Ap}
end
section
variable{a b:Expr}
variable{e1:α->Dt}{e2:β->Dt}{k:Ev->Y Ap}{cO:γ->Ap}
end
end P1
namespace P1
open PySem PySem.Spec PySem.Calls PyProof.Rows L2 S1
theorem BX{α:Type}(b:α->α->Bool)(z:α):∀(l:O α) (y:α),fU b y (l++[z])=if b z (fU b y l)=true then z else fU b y l
 |[],y=>rfl
 |x::l,y=>by
  simp only[YR,fU];split
  ·exact BX b z l x
  ·exact BX b z l y
theorem Qa{α:Type}(b:α->α->Bool)(y:α)(r:O α):∀j,j<=r.length->(y::r).getD (argBest (λi j=>b ((y::r).getD i y) ((y::r).getD j y)) j) y=fU b y (r.take j)
 |0,_=>rfl
 |j+1,h=>by
  have a:=Qa b y r j ();have e:(y::r).getD (j+1) y=r[j]:=by simp[show j<r.length by omega]
  rw[JJ (),BX,argBest];rw[a,e];split
  ·rw[e]
  ·rw[a]
theorem ZF(bt:Nat->Nat->Bool):∀j,argBest bt j<=j
 |0=>zo _
 |j+1=>by
  rw[argBest];split
  ·exact zo _
  ·exact gR (ZF bt j)
theorem ME{α β:Type}{R:α->β->Prop}:∀{xs:O α} {ys:O β},AI R xs ys->∀{i:Nat} {y:β},ys[i]?=Z y->∃x,xs[i]?=Z x/\R x y
 |_,_,.nil,i,y,h=>by simp at h
 |_,_,.cons r rs,i,y,h=>by
  cases i with
  |zero=>cases h;exact⟨_,rfl,r⟩
  |succ i=>exact ME rs h
theorem VC{k:O AY}(I:L2.AU X AN σ H s)(r:AW X.K H (BO k) v)(b:Au v u):∃a AQ,u=.ref a/\iz s.heap a (List.toArray AQ)/\Ks k AQ:=by
 simp only[BO,AW]at r;obtain⟨p,vs,rfl,sq,c⟩:=r;cases b;obtain⟨AQ,b,t1⟩:=Iq I sq;rw[u6 c]at b;exact⟨p,AQ,rfl,t1,YT X b⟩
theorem ON(I:L2.AU X AN σ H s)(f:aO X.K H (cI.map BO) vs)(g:AX vs AQ)(h:AQ[i]?=Z u):∃k,cI[i]?=Z k/\∃a b,u=.ref a/\iz s.heap a (List.toArray b)/\Ks k b:=by
 obtain⟨v,ev,r⟩:=ME g h;obtain⟨d,c,e⟩:=f.alH ev;rw[Zp]at c;obtain⟨k,ek,rfl⟩:=da.mp c;exact⟨k,ek,VC I e r⟩
def EN(lt:O AY->O AY->Bool):O Bx->Y Bx
 |[b]=>(sE b).bind λds=>(yO ds).bind fun
  |y::r=>if((y::r).all λk=>(y::r).all λl=>MF k l)=true then Z (.z (BO (fU lt y r)))else X9
  |[]=>X9
 |_=>X9
abbrev Va:=EN λk l=>eZ k l
abbrev ZG:=EN λk l=>eZ l k
theorem ZJ{nm lp:String}{lt:O AY->O AY->Bool}(hM:MM nm lp op)(K:Lm X op lt)(U:X.calm=true):nJ X (.builtin nm) (EN lt):=by
 intro AN s σ H xs us Q I C h;obtain⟨bs,c,F,e,q⟩:=h;unfold EN at e;split at e
 ·obtain⟨ds,S,e⟩:=AT e;obtain⟨cI,ek,e⟩:=AT e;cases cI with
  |nil=>cases e
  |cons y r=>
   dsimp only at e;split at e;rotate_left
   ·cases e
   rename_i hs;cases e;rw[QR]at hs;have E:∀k∈y::r,∀l∈y::r,Wh k l:=λk hk l A=>FP (List.all_eq_true.mp (hs k hk) l A);obtain⟨v,rfl,r1⟩:=BQ F;obtain⟨a,vs,rfl,sq,f⟩:=r1.Ib S;obtain⟨u,rfl,P⟩:=BA C;cases P;obtain⟨AQ,n,pl,hz⟩:=I.list sq;have L:=u5 ek;subst L;have w:AQ.length=(y::r).length:=by rw[<-n.length,f.length,zg]
   refine Ba hM (I.ok.hd U) pl.isList (by rw[zr,w];exact Nat.zero_lt_succ _) (bt:=λi j=>lt ((y::r).getD i y) ((y::r).getD j y)) (λi j M N s' Q' E' hk hi b t=>?_) λu h' tk g kk=>?_
   ·have hi:AQ[i]?=Z M:=by rw[<-kQ];exact hi
    have b:AQ[j]?=Z N:=by rw[<-kQ];exact b
    obtain⟨k,ek,p,js,rfl,tk,a3⟩:=ON I f n hi;obtain⟨l,el,p',a4,rfl,tl,z⟩:=ON I f n b;have W:(y::r).getD i y=k:=by rw[kM,ek];rfl
    have B:(y::r).getD j y=l:=by rw[kM,el];rfl
    simp only[W,B]at t;have lo:∀{c:A1} {o:AE},s.heap.get? c=Z o->s'.heap.get? c=Z o:=λe=>hk _ _ (Nat.not_le_of_lt (zz e)) e;exact K (PL tk λ_=>lo) (PL tl λ_=>lo) a3 z (E _ (Jn ek) _ (Jn el)) t
   ·rw[kQ]at g;have e2:=Qa lt y r r.length (zo _);rw[xC]at e2;have e1:AQ.toArray.size-1=r.length:=by rw[zr,w];rfl
    rw[e1]at g;have b:=ZF (λi j=>lt ((y::r).getD i y) ((y::r).getD j y)) r.length;generalize argBest (λi j=>lt ((y::r).getD i y) ((y::r).getD j y)) r.length=m at g e2 b;obtain⟨v,ev,G⟩:=ME n g;obtain⟨d,x,J⟩:=f.alH ev;rw[Zp]at x;obtain⟨k,D,rfl⟩:=da.mp x;have:k=fU lt y r:=by rw[<-e2,kM,D];rfl
    subst this;exact⟨v,H,I.kept (t':=tk) kk,G,q _ H (AV.refl H) trivial J⟩
 ·cases e
theorem Vb(b:X.calm=true)(a:X.A.units+100<cLine):nJ X (.builtin "min") Va:=ZJ Xj (eP a) b
theorem du(b:X.calm=true)(a:X.A.units+100<cLine):nJ X (.builtin "max") ZG:=ZJ Xk (UD a) b
end P1
namespace P1
open PySem PySem.Spec PySem.Calls PyProof.Rows L2
theorem Vc{R:Result->A2->Prop}{v d:A1}{AO:O (AY×A0)}(hh:A.handled=X9)(hv:s.heap.IsValuesView v d)(j:s.heap.DictAt (cH prog w) d AO ep)(J:AO.length<=AA)(S:A1)(u:d≠S)(Q:v≠S)(l:A0)(q:Nat)(y:s.heap.get? S=Z { cls:=.type "list",data:=.seq #[] q })(C:∀h' tk c c',(∀b o,b≠S->s.heap.get? b=Z o->h'.get? b=Z o)->h'.get? S=Z { cls:=.type "list",dict:=X9,data:=.seq c c',slots:=#[] } →
   ItemsOf (λi x=>∃k,AO[i]?=Z (k,x)) c AO.length->R (.ok (.ret l)) { s with heap:=h',toks:=tk }):
  A7 (A8 prog w) A.in1 (Builtin.List.listExtendWith (.ref S) (.ref v) l)
   (λX s'=>match X with|.done f=>R (.ok f) s'|.again c'=>c'.quiet=true/\AF (A8 prog w) A c' R s') (λe s'=>R (.error e) s') s:=by
 have D:d<s.heap.objs.size:=by obtain⟨o,_,I,_⟩:=j;exact zz I
 have K:S<s.heap.objs.size:=zz y;unfold Builtin.List.listExtendWith;refine zb (JE (T :="dict_values") hv.typeIs ?_);have h1:Builtin.List.listSameRef (.ref S) (.ref v)=false:=by simp[Builtin.List.listSameRef];exact λe=>Q e.symm
 simp only[h1,show(Value.type "dict_values"==Value.type "list")=false by decide,show(Value.type "dict_values"==Value.type "tuple")=false by decide,lj,zI,qh];refine zb (wpAny_pyIter_values hv j ?_);refine zb (Z3 ?_);have p:=j.at' (h':=s.heap.push { cls:=.type "dict_valueiterator",data:=.fields #[.ref d,.int 0 0,.int AO.length 0,.int ep 0] }) λo e=>zd _ e;have g:(s.heap.push { cls:=.type "dict_valueiterator",data:=.fields #[.ref d,.int 0 0,.int AO.length 0,.int ep 0] }).IsValuesView v d:=by
  obtain⟨o,e,r⟩:=hv;exact⟨o,zd _ e,r⟩
 unfold Builtin.List.listLengthHint;refine zb (wpAny_specialOf (T :="dict_values") g.typeIs F.slot_dict_values_len.lookup ?_)
 wp_delta
 refine zb (KF (T :="dict_values") (b:=true) g.typeIs (by rw[isSubtype_type];kernel_rfl) ?_);show A7 _ A.in1 (typeOf (Value.ref v) >>= _) _ _ _;refine zb (JE (T :="dict_values") g.typeIs (ze ?_));rw[zl ()];show A7 _ A.in1 (Builtin.List.listTouch (Value.ref S) >>= λ_=>again (Code.builtin "list.extend.loop" ⟨[Value.ref S,Value.ref s.heap.objs.size,l],[]⟩)) _ _ _;generalize m:s.heap.push { cls:=.type "dict_valueiterator",data:=.fields #[.ref d,.int 0 0,.int AO.length 0,.int ep 0] }=G at p g ⊢;have n:G.get? S=Z { cls:=.type "list",data:=.seq #[] q }:=by
  rw[<-m];exact zd _ y
 have H:G.get? s.heap.objs.size=Z { cls:=.type "dict_valueiterator",data:=.fields #[.ref d,.int 0 0,.int AO.length 0,.int ep 0] }:=by
  rw[<-m];exact zC _ rfl
 unfold Builtin.List.listTouch;refine zb (zb (listUpdate_at n X2 (listUpdate_at (get?_update_seq n _) X2 ?_ (by show _<=_;decide) (by show _<=_;decide)) (by show _<=_;decide) (by show _<=_;decide)));have B:s.heap.objs.size≠S:=kg K;have z:=get?_update_seq (get?_update_seq n (λx=>x.push Value.none)) (λx=>x.pop);generalize P:(G.update S (Obj.mapSeq λx=>x.push Value.none)).update S (Obj.mapSeq λx=>x.pop)=U at z;have keep:∀b,b≠S->U.get? b=G.get? b:=λb a=>by rw[<-P,KB _ _ _ _ a,KB _ _ _ _ a]
 have M:U.IsValIter s.heap.objs.size d 0 AO.length ep/\U.DictAt (cH prog w) d AO ep:=⟨⟨_,(keep _ B).trans H,rfl,rfl⟩,p.at' λo e=>(keep d u).trans e⟩;show A7 _ A.in1 (again _) _ _ { s with heap:=U };have a3:S∉[s.heap.objs.size,d]:=λh=>by
  simp only[QP,qA,or_false]at h;rcases h with h|h
  ·exact B h.symm
  ·exact u h.symm
 refine ze ⟨plainId_quiet F.plain_extend_loop _,codeAny_extend_loopS (Walks.dictValues (A:=A.in1) hh s.heap.objs.size d (zS D) AO ep).toS J S a3 _ AO.length 0 { s with heap:=U } #[] _ X2 (Zs _) M z (ItemsOf.nil _) λs' c c' t L W=>?_⟩;rw[Moved.eq_with t];refine C s'.heap s'.toks c c' (λb N a e=>?_) L W;have E:=zz e;refine t.heap b N (λh=>?_) ((keep b a).trans ?_)
 ·simp only[QP,qA,or_false]at h;rcases h with h|h
  ·exact a h
  ·exact zS E h
 ·rw[<-m];exact zd _ e
theorem K4{v d:A1}{AO:O (AY×A0)}(G:A.handled=X9)(hv:s.heap.IsValuesView v d)(h:s.heap.DictAt (cH prog w) d AO ep)(z:AO.length<=AA)(u:∀h' tk c c',(∀b o,s.heap.get? b=Z o->h'.get? b=Z o) →
   h'.get? s.heap.objs.size=Z { cls:=.type "list",dict:=X9,data:=.seq c c',slots:=#[] }->ItemsOf (λi x=>∃k,AO[i]?=Z (k,x)) c AO.length->Q (.ref s.heap.objs.size) { s with heap:=h',toks:=tk }):
  A7 (A8 prog w) A (call (.type "list") [.ref v]) Q E s:=by
 have j:d<s.heap.objs.size:=by obtain⟨o,_,g,_⟩:=h;exact zz g
 have m:v<s.heap.objs.size:=by obtain⟨o,g,_⟩:=hv;exact zz g
 refine callType_codes (Q₁:=λn p=>n=.ref s.heap.objs.size/\p={ s with heap:=s.heap.push { cls:=.type "list",data:=.seq #[] } }) F.called_list (F.typeCall_list_1 _) F.entry_list_init
  (code_list_new _ ⟨rfl,rfl⟩) λn p y=>?_
 obtain⟨rfl,rfl⟩:=y;have a:(s.heap.push { cls:=.type "list",data:=.seq #[] }).get? s.heap.objs.size=Z { cls:=.type "list",data:=.seq #[] }:=zC _ rfl;have l:=h.at' (h':=s.heap.push { cls:=.type "list",data:=.seq #[] }) λo e=>zd _ e;have q:(s.heap.push { cls:=.type "list",data:=.seq #[] }).IsValuesView v d:=by
  obtain⟨o,e,r⟩:=hv;exact⟨o,zd _ e,r⟩
 refine⟨⟨_,a,rfl⟩,F.args_list_init_2 _ _,?_⟩;generalize I:s.heap.push { cls:=.type "list",data:=.seq #[] }=H at a l q ⊢;show A7 _ _ (do let old <-Builtin.List.listItems (.ref s.heap.objs.size);Builtin.List.listUpdate (.ref s.heap.objs.size) (λ_=>#[]);letGo old.toList.reverse;Builtin.List.listExtendWith (.ref s.heap.objs.size) (.ref v) .none) _ _ { s with heap:=H };refine zb ?_;unfold Builtin.List.listItems;refine zb (kq a X2 (ze ?_));show A7 _ _ (updateSeq s.heap.objs.size (λ_=>#[]) >>= λ_=>letGo (#[]:Array A0).toList.reverse >>= λ_=>Builtin.List.listExtendWith (.ref s.heap.objs.size) (.ref v) .none) _ _ _;refine zb (kX a X2 ?_);have t:=KP (Obj.mapSeq (λ_=>(#[]:Array A0))) a rfl;have f:∀b o,b≠s.heap.objs.size->H.get? b=Z o->(H.update s.heap.objs.size (Obj.mapSeq (λ_=>(#[]:Array A0)))).get? b=Z o:=
  λb o B e=>(QU _ _ (Ki B)).trans e
 refine zb (kG ?_);refine Vc (A:=A.in1) G (by obtain⟨o,e,r⟩:=q;exact⟨o,f v o (zS m) e,r⟩) (l.at' λo e=>f d o (zS j) e) z s.heap.objs.size (zS j) (zS m) .none _ t λh' tk c c' hk C D=>?_;exact⟨rfl,u h' tk c c' (λb o e=>hk b o (zS (zz e)) (f b o (zS (zz e)) (by rw[<-I];exact zd _ e))) C D⟩
section
variable{o:Expr}{to:TE}
def Xm(d v:A1):HO:=.ext λh=>h.IsValuesView v d
def xI(to:TE):TE:=λσ H Q=>to σ H λx H1=>∃d ks,x=.ref d/\Rd H1 d (.dK ks)/\∀v H2,AV H1 H2->H2 v=Z (Xm d v)->Q (.ref v) H2
theorem UH(q:PE X o to)(j:attributeBase o "values" X.env (eval o X.env)=eval o X.env:=by rfl)(g:(apos.endLine==cpos.line)=true:=by rfl):PE X (.Call (.Attribute o "values" apos) [] [] cpos) (xI to):=by
 intro AN s σ H Q I h;refine wpAny_Call_method0_late j g (jH (q AN s σ H _ I h) λu s1 ⟨x,H1,I1,rx,d,ks,ex,rd,q1⟩=>?_);subst ex;obtain rfl:u=Value.ref d:=rx;obtain⟨t1,t2,_⟩:=UI I1 (.inl ⟨ks,rd⟩);obtain⟨v,m,vs,y,i⟩:=qY I1.hok rd;refine⟨"dict","dict.values",PySem.F.plainAttrs_dict,PySem.F.slot_dict_values,PySem.F.type_dict_values,t1,t2,Calls.callWith_builtin X2 (PySem.evalArgs_none (call_meetsIn PySem.F.slot_dict_values t1 PySem.F.entry_dict_values (PySem.F.args_dict_values_1 _) (meets_dict_values (cH X.prog X.w) d m) ⟨⟨vs,i⟩,?_⟩))⟩;have p:=I1.hok.fresh (zo s1.heap.objs.size);have iv:(s1.heap.push { cls:=.type "dict_values",data:=.fields #[.ref d] }).IsValuesView s1.heap.objs.size d:=⟨_,zC _ rfl,rfl,rfl⟩;refine⟨.ref s1.heap.objs.size,_,I1.laid (t':=s1.toks) (a:=s1.heap.objs.size) (o:=Xm d s1.heap.objs.size) (λb f e=>zd _ e) (zo _) ?_,rfl,q1 _ _ (bY p) aU⟩;obtain⟨f,e,c,t⟩:=id iv;exact⟨iv,⟨f,e⟩,λh1 h2 t1 n=>by obtain⟨o',e',l⟩:=t1;exact⟨o',n _ e',l⟩⟩
def ake(X:Cx):O V->Hp->VK->Prop:=λxs H Q=>∃v d ks,xs=[.ref v]/\H v=Z (Xm d v)/\Rd H d (.dK ks)/\∀l H',AV H H'->H l=X9->H' l=Z (.lst (ks.map (·.2)))->Q (.ref l) H'
theorem ZK:∀{ks:O (AY×V)} {vs:O (AY×A0)},KV ks vs->AX (ks.map (·.2)) (vs.map (·.2))
 |_,_,.nil=>.nil
 |_,_,.cons r rs=>.cons r.2 (ZK rs)
theorem wS(m:X.calm=true):jh X (.type "list") (ake X):=by
 intro AN s σ H xs us Q I r h;obtain⟨v,d,ks,rfl,hv,p,q⟩:=h;obtain⟨u,rfl,n⟩:=BA r;cases n;have iv:s.heap.IsValuesView v d:=(I.hok _ _ hv).1;obtain⟨t,y,vs,f,j,es,ep,l⟩:=qY I.hok p;have w:ks.length=vs.length:=f.length;refine K4 (I.ok.hd m) iv ⟨j,es,l⟩ () λh' tk b c' ext en g=>?_;have c:=I.hok.fresh (zo s.heap.objs.size);have ea:b.toList=vs.map (·.2):=by
  refine nu λi=>?_;rw[Zp,kR];cases hi:b[i]? with
  |none=>
   have:vs.length<=i:=by rw[<-g.1];exact Array.getElem?_eq_none_iff.mp hi
   rw[KO this];rfl
  |some x=>
   obtain⟨k,e⟩:=g.2 i x hi;rw[e];rfl
 refine⟨.ref s.heap.objs.size,_,I.laid (t':=tk) (a:=s.heap.objs.size) (o:=.lst (ks.map (·.2))) ext (zo _) ?_,rfl,q _ _ (bY c) c aU⟩;refine⟨by rw[zg];exact t,b.toList,c',by rw[ea];exact ZK f,?_⟩;rw[en]
def ZL:Bx->Y Bx
 |.n AO=>Z (.o (AO.map (·.2)))
 |_=>X9
variable{p:Pos}
theorem ny(w:X.calm=true)(x:Gl X "list")(B:X.mg "list"=X9)(t:QV X o f)(u:attributeBase o "values" X.env (eval o X.env)=eval o X.env:=by rfl)(n:(apos.endLine==cpos.line)=true:=by rfl)
  (he:A9 (Expr.Call (.Attribute o "values" apos) [] [] cpos::[]) X.env=(false,eval (.Call (.Attribute o "values" apos) [] [] cpos) X.env)::A9 [] X.env:=by rfl):QV X (.Call (.Name "list" p) [.Call (.Attribute o "values" apos) [] [] cpos] [] pos) (b1 ZL f):=⟨by
 refine S8 (Oe (T :="list") (wS w) x B X2 (qp (UH t.run u n) yH he) (he:=he)) λσ H Q h=>?_;obtain⟨H0,ρ,b,E,c,q⟩:=h;obtain⟨b0,eb,c⟩:=AT c;unfold ZL at c;split at c
 ·cases c;refine⟨H0,ρ,_,E,eb,λv H1 j C A=>?_⟩;obtain⟨d,ks,rfl,m,s⟩:=A;refine⟨d,ks,rfl,m,λv H2 g e2=>⟨v,d,ks,rfl,e2,(m.imp (g _ _) λ⟨o,e⟩=>⟨o,g _ _ e⟩),λl y i z e3=>?_⟩⟩;exact q _ y ((j.trans g).trans i) (λa ea=>by cases ea;exact(j.trans g).free z) ⟨l,_,rfl,e3,s.2.1.kp (.of (g.trans i))⟩
 ·cases c⟩
end
end P1
namespace P1
open L2 S1 S6
section
variable{e:α->Dt}
theorem Jr[jr e](b:O AY->O AY->Bool):∀(r:O α) (y:α),fU b (jr.k e y) (r.map (jr.k e))=jr.k e (fU (λx z=>b (jr.k e x) (jr.k e z)) y r)
 |[],_=>rfl
 |z::r,y=>by
  rw[zk,fU,fU,Jr b r z,Jr b r y];split<;>rfl
theorem ZM[jr e](xs:O α):((xs.map (jr.k e)).all λk=>(xs.map (jr.k e)).all λl=>MF k l)=true:=by
 rw[QR];intro k hk;obtain⟨a,_,rfl⟩:=av.mp hk;rw[QR];intro l c;obtain⟨b,_,rfl⟩:=av.mp c;exact jr.shp a b
def ZP[jr e][Inhabited α](a:RL fa ρ e):R (cN Va (aq fa aH)) ρ (zE e):=⟨As (λx z=>Ao e x z) a.v,bA a.D (Z (a.v≠[])),λh=>by
 obtain⟨h1,h2⟩:=aC h;cases e':a.v with
 |nil=>exact absurd e' h2
 |cons y r=>
  have b:=a.lk;rw[e']at b;simp only[cN,aq,aH,a.ok h1,At,Va,EN,b,nZ];rw[zk];dsimp only;rw[<-zk,zl (ZM (e:=e) (y::r)),Jr,<-u0 (jr.ok _)];rfl⟩
def sC[jr e][Inhabited α](a:RL fa ρ e):R (cN ZG (aq fa aH)) ρ (zE e):=⟨As (λx z=>Ao e z x) a.v,bA a.D (Z (a.v≠[])),λh=>by
 obtain⟨h1,h2⟩:=aC h;cases e':a.v with
 |nil=>exact absurd e' h2
 |cons y r=>
  have b:=a.lk;rw[e']at b;simp only[cN,aq,aH,a.ok h1,At,ZG,EN,b,nZ];rw[zk];dsimp only;rw[<-zk,zl (ZM (e:=e) (y::r)),Jr,<-u0 (jr.ok _)];rfl⟩
def hW(a:R fa ρ (nE e)):R (b1 ZL fa) ρ (oE e):=⟨a.v.map (·.2),a.D,λh=>by
 simp only[b1,a.ok h,At];show Z (Bx.o ((a.v.map λq=>(kS q.1,e q.2)).map (·.2)))=Z (Bx.o ((a.v.map (·.2)).map e));rw[ZU,ZU];rfl⟩
end
end P1
namespace P1
open L2
theorem oV(x y:AJ):Pq (.str x) (.str y)=(x==y):=by
 rfl
theorem jM(x y:AJ):D0 (.str x) (.str y):=⟨by rfl,by simp[Cr]⟩
theorem RG{k:Nat}(h:ds[k]?=Z d):mQ (.tup ds) (k:Int)=d:=by
 have a:k<ds.length:=(bc.mp h).1;have:IW ds (k:Int)=Z d:=by
  unfold IW DZ;rw[zl (),zl (),At,KW,h]
 unfold mQ;simp only[eY,vX,At,this]
theorem Hv(a:Dt)(r:O Dt):mQ (.tup (a::r)) 0=a:=RG (k:=0) rfl
theorem ZQ(a b:Dt)(r:O Dt):mQ (.tup (a::b::r)) 1=b:=RG (k:=1) rfl
theorem Si(a b c:Dt)(r:O Dt):mQ (.tup (a::b::c::r)) 2=c:=RG (k:=2) rfl
theorem BI(a b:AJ):xZ a b=true↔Bw a b/\a≠b:=by
 unfold xZ Bw;rw[ltCps_eq];simp only[Q3,QE];constructor
 ·intro h;exact⟨List.lt_asymm h,λe=>by subst e;exact k5 _ h⟩
 ·intro⟨h,hn⟩;by_cases q:a.cps.toList<b.cps.toList
  ·exact q
  ·exact absurd (uY (a:=a) (b:=b) (by unfold Bw;rw[ltCps_eq];simpa using h) (by unfold Bw;rw[ltCps_eq];simpa using q)) hn
theorem ZR{i:Int}(h:i∈rng 0 n):∃k:Nat,k<n/\i=(k:Int):=by
 unfold rng at h;obtain⟨k,hk,rfl⟩:=av.mp h;exact⟨k,eX.mp hk,by omega⟩
end P1
namespace P1
open L2 S1 S6
theorem Xn[DecidableEq α]{xs ys:O α}(h1:xs.Nodup)(h2:ys.Nodup)(h:∀x,x∈xs↔x∈ys):xs.Perm ys:=by
 rw[List.perm_iff_count];intro a;by_cases b:a∈xs
 ·rw[h1.count,h2.count,zl b,zl ((h a).mp b)]
 ·rw[h1.count,h2.count,zv b,zv λz=>b ((h a).mpr z)]
def same(w:O AZ)(x y:AJ):Prop:=∃s∈w,x∈s/\y∈s
end P1
section
set_option maxHeartbeats 1000000
namespace P1
open L2
open PySem.Builtin PySem.Builtin.Str
abbrev cs(s:AJ):O Nat:=s.cps.toList
end P1
end
section
set_option maxHeartbeats 1000000
namespace P1
open L2 S1 S6
section
variable [Inhabited α]
end
theorem rj(a b c:AJ)(h1:xZ a b=true)(h2:xZ b c=true):xZ a c=true:=by
 unfold xZ at *
 simp only[Q3]at *
 exact List.lt_trans h1 h2
section
variable{e:α->Dt} [jr e]
theorem RJ(a b:α):Ao e a b=true↔Rv e a b=true/\a≠b:=by
 unfold Ao Rv qu;constructor
 ·intro h;refine⟨?_,λz=>?_⟩
  ·cases q:eZ (jr.k e b) (jr.k e a)with
   |false=>rfl
   |true=>have:=nU h q;rw[pN]at this;cases this
  ·rw[z,pN]at h;cases h
 ·rintro⟨h1,h2⟩;cases q:eZ (jr.k e a) (jr.k e b)with
  |true=>rfl
  |false=>
   have h1:eZ (jr.k e b) (jr.k e a)=false:=by
    cases z:eZ (jr.k e b) (jr.k e a)with
    |false=>rfl
    |true=>rw[z]at h1;cases h1
   exact absurd (jr.inj _ _ (yM q h1)) h2
end
end P1
end
namespace P1
open L2
open PySem.Builtin PySem.Builtin.Str
end P1
section
set_option maxHeartbeats 1000000
namespace P1
open L2
open PySem.Builtin PySem.Builtin.Str
end P1
end
section
set_option synthInstance.maxSize 100000
namespace G69
open L2 P1
noncomputable section
abbrev BT:=O P1.Dt
abbrev dJ:Type:=AJ×AJ
abbrev gQ:dJ->Dt:=sI eS eS
abbrev bh:Type:=AJ×(O dJ)
abbrev aR:bh->Dt:=sI eS (eT gQ)
abbrev IT:Type:=Int×bh
abbrev ET:Type:=Int×Dt
abbrev qw:Type:=AJ×AJ×Int
abbrev jt:qw->Dt:=D3 eS eS eI
abbrev DG:Type:=Dt×qw
abbrev HM:DG->Dt:=sI eD jt
abbrev d9:Type:=Int×AJ×AJ×Int
abbrev eN:d9->Dt:=F3 eI eS eS eI
abbrev K5:Type:=AZ×(O d9)×(O qw)
abbrev nG:K5->Dt:=D3 (eT eS) (eT eN) (eT jt)
abbrev uI:Type:=d9×(Y qw)
abbrev MP:uI->Dt:=sI eN (eO jt)
abbrev ci:Type:=Int×AJ
abbrev FV:ci->Dt:=sI eI eS
abbrev dM:Type:=AJ×AJ×AZ
abbrev dh:dM->Dt:=D3 eS eS (eT eS)
abbrev RS:Type:=(O AZ)×(O d9)×(O uI)
abbrev Sa:RS->Dt:=D3 (eL (eT eS)) (eL eN) (eL MP)
def top(i:Nat):AB:=PySem.Challenge.pw_onefolk_k69_whole_views_of_parts.main.body.getD i (.Pass ⟨0,0,0,0⟩)
abbrev K6:AB:=top 40
abbrev Bc:AB:=top 41
abbrev Hw:AB:=top 42
abbrev K7:AB:=top 43
abbrev Qc:AB:=top 44
abbrev K8:AB:=top 46
abbrev Hx:AB:=top 45
abbrev Qd:AB:=top 4
abbrev Hy:AB:=top 20
abbrev Bd:AB:=top 22
abbrev DK:AB:=top 21
abbrev ZS:AB:=top 19
abbrev Qe:AB:=top 27
abbrev K9:AB:=top 24
abbrev La:AB:=top 25
abbrev Hz:AB:=top 26
abbrev Lb:AB:=top 47
abbrev DN:AB:=top 32
abbrev DP:AB:=top 33
abbrev Ld:AB:=top 31
abbrev Bf:AB:=top 35
abbrev DR:AB:=top 34
abbrev Lf:AB:=top 30
abbrev Lg:AB:=top 29
abbrev Bg:AB:=top 38
abbrev DW:AB:=top 37
abbrev HB:AB:=top 49
abbrev Vd:AB:=top 15
abbrev Lh:AB:=top 16
abbrev yd:AB:=top 11
abbrev DX:AB:=top 10
abbrev yW:AB:=top 9
abbrev HD:AB:=top 8
abbrev HF:AB:=top 7
abbrev DY:AB:=top 6
abbrev Qf:AB:=top 17
abbrev Qg:AB:=top 13
abbrev Li:AB:=top 14
abbrev yg:AB:=top 50
abbrev yh:AB:=top 52
abbrev yj:AB:=top 51
abbrev vG:AB:=top 53
abbrev s_law:AB:=top 54
def Bh:Ev->Y Ap:=(aF (aF (B0 2 (b2 jj (b2 iG (b2 Bv (gv 2) (cB (.int 69621))) (gv 3)) (cB (.int 2147483647)))) cZ) (c7 [3]))
def wA:Ev->Y Ap:=(aF (xX (p8 Eg (gv 1) (cN sG (aq (gv 0) aH))) (aF (dB (b2 eY (gv 0) (gv 1))) cZ) cZ) (aF (B0 2 (b2 jj (b2 Bv (cB (.int 48271)) (b2 iG (b2 iG (b2 Bv (gv 1) (gv 1)) (b2 Bv (cB (.int 7)) (gv 1))) (cB (.int 11)))) (cB (.int 2147483647)))) (aF (rC (D6 (YK (gv 0) vY (Aw (cB (.int 3))))) (kJ 3) Bh) (aF (dB (gv 2)) cZ))))
def ju:O Bx->Y Bx:=cL 4 wA
def n6:Ev->Y Ap:=(aF (aF (B0 3 (b2 jj (b2 iG (b2 iG (b2 Bv (gv 3) (b2 iG (b2 jj (gv 3) (cB (.int 65521))) (cB (.int 40487)))) (b2 Bv (cB (.int 7)) (gv 5))) (cB (.int 5))) (cB (.int 1999999973)))) (aF (FJ 2 (b2 eY (cN mO (aq (gv 3) (aq (b2 jj (gv 4) (cB (.int 1000000))) aH))) (cN Fc (aq (b2 HI (gv 4) (cB (.int 0))) aH)))) (aF (B0 4 (b2 nM (gv 4) (cB (.int 1000000)))) cZ))) (c7 [5]))
def oW:Ev->Y Ap:=(aF (B0 2 (cN mO aH)) (aF (B0 3 (b2 jj (b2 Bv (b2 iG (b2 jj (gv 0) (cB (.int 1999999973))) (cB (.int 31))) (cB (.int 765432101))) (cB (.int 1999999973)))) (aF (B0 4 (cB (.int 0))) (aF (xX (D5 (p8 Eg (gv 0) (cB (.int 0))) (p8 FD (gv 0) (b2 MC (cB (.int 10)) (cB (.int 18))))) (aF (aF (B0 4 (cN GN (aq (gv 0) aH))) cZ) (c7 [])) (aF cZ (c7 []))) (aF (rC (Wg (aq (gv 1) aH)) (kJ 5) n6) (aF (JL 2) cZ))))))
def fu:O Bx->Y Bx:=cL 6 oW
def rM:Ev->Y Ap:=(aF (aF (B0 7 (b2 eY (gv 2) (b2 jj (b2 iG (gv 6) (b2 eY (gv 0) (cB (.int 2)))) (cB (.int 15))))) (aF (B0 8 (b2 iG (b2 iG (YK (gv 3) vY (Aw (gv 4))) (gv 7)) (YK (gv 3) (Aw (gv 4)) vY))) (aF (xX (p8 BE (b2 jj (b2 eY (gv 0) (cB (.int 3))) (cB (.int 3))) (cB (.int 1))) (aF (aF (B0 8 (b2 Bv (b2 eY (gv 2) (b2 nM (gv 6) (cB (.int 8)))) (b2 iG (cB (.int 1)) (b2 jj (gv 6) (cB (.int 8)))))) cZ) (c7 [])) (aF cZ (c7 []))) (aF (FJ 5 (gv 8)) cZ)))) (c7 [6,7,8]))
def sZ:Ev->Y Ap:=(aF (B0 2 (cB (.str "abcdefghijklmnopqrstuvwxyz"))) (aF (B0 3 (b1 (Ue "") (dY (Wg (aq (b2 jj (b2 eY (gv 0) (cB (.int 0))) (cB (.int 6))) aH)) (kJ 2) uF (b2 eY (gv 0) (b2 jj (b2 nM (b2 eY (gv 1) (gv 2)) (cB (.int 40))) (cB (.int 26)))) [2,0] 1))) (aF (B0 4 (b2 jj (b2 eY (gv 0) (cB (.int 1))) (b2 iG (cN sG (aq (gv 3) aH)) (cB (.int 1))))) (aF (B0 5 (cN mO aH)) (aF (rC (Wg (aq (gv 1) aH)) (kJ 6) rM) (aF (JL 5) cZ))))))
def tu:O Bx->Y Bx:=cL 9 sZ
def Bj:Ev->Y Ap:=(aF (aF (B0 1 (b2 iG (gv 1) (b2 eY (cB (.str "ab1")) (b2 jj (b2 nM (b2 nM (gv 0) (cB (.int 16))) (b2 eY (cN mO (aq (cB (.int 1)) (aq (cB (.int 3)) (aq (cB (.int 9)) (aq (cB (.int 27)) aH))))) (gv 2))) (cB (.int 3)))))) cZ) (c7 [2]))
def wB:Ev->Y Ap:=(aF (xX (p8 BE (b2 jj (gv 0) (cB (.int 4))) (cB (.int 0))) (aF (dB (b2 eY (cN mO (aq (cB (.str "a")) (aq (cB (.str "ab")) (aq (cB (.str "abc")) (aq (cB (.str "b")) (aq (cB (.str "1")) (aq (cB (.str "12")) (aq (cB (.str "a1")) aH)))))))) (b2 jj (b2 nM (gv 0) (cB (.int 4))) (cB (.int 7))))) cZ) cZ) (aF (B0 1 (cB (.str ""))) (aF (rC (Wg (aq (b2 iG (cB (.int 1)) (b2 jj (b2 nM (gv 0) (cB (.int 4))) (cB (.int 4)))) aH)) (kJ 2) Bj) (aF (dB (gv 1)) cZ))))
def wC:O Bx->Y Bx:=cL 3 wB
def Ea:Ev->Y Ap:=(aF (aF (xX (p8 HI (b2 jj (b2 eY (gv 1) (gv 4)) (cB (.int 4))) (cB (.int 0))) (aF (aF (FJ 3 (cN gP (aq (b2 eY (gv 2) (gv 4)) (aq (b1 Bt (bN 1 wC (aq (b2 nM (b2 eY (gv 1) (gv 4)) (cB (.int 4))) aH))) aH)))) cZ) (c7 [])) (aF cZ (c7 []))) cZ) (c7 [4]))
def zV:Ev->Y Ap:=(aF (B0 2 (cN mO (aq (cB (.str "day")) (aq (cB (.str "name")) (aq (b1 Bt (b2 iG (cB (.str "name")) (cB (.str "s")))) (aq (cB (.str "p")) aH)))))) (aF (B0 3 (cN mO aH)) (aF (rC (Wg (aq (cB (.int 4)) aH)) (kJ 4) Ea) (aF (dB (cN gP (aq (gv 0) (aq (cN mV (aq (gv 3) aH)) aH)))) cZ))))
def zW:O Bx->Y Bx:=cL 5 zV
def Bl:Ev->Y Ap:=(aF (aF (FJ 5 (b1 Bt (bN 2 zW (aq (b2 eY (gv 3) (b2 jj (b2 iG (b2 Bv (cB (.int 4)) (gv 6)) (b2 eY (gv 2) (cB (.int 7)))) (cB (.int 15)))) (aq (b1 Bt (bN 2 fu (aq (b1 Bt (bN 2 ju (aq (gv 0) (aq (b1 Bt (b2 iG (cB (.int 1)) (gv 6))) aH)))) (aq (cB (.int 4)) aH)))) aH))))) cZ) (c7 [6]))
def wD:Ev->Y Ap:=(aF (B0 2 (bN 2 fu (aq (b1 Bt (bN 2 ju (aq (gv 0) (aq (cB (.int 0)) aH)))) (aq (cB (.int 9)) aH)))) (aF (B0 3 (bN 2 tu (aq (gv 2) (aq (cB (.int 15)) aH)))) (aF (B0 4 (b2 eY (cN mO (aq (cB (.int 1)) (aq (cB (.int 2)) (aq (cB (.int 5)) (aq (cB (.int 8)) (aq (gv 1) (aq (gv 1) aH))))))) (b2 jj (b2 eY (gv 2) (cB (.int 6))) (cB (.int 6))))) (aF (B0 5 (cN mO aH)) (aF (rC (Wg (aq (gv 4) aH)) (kJ 6) Bl) (aF (dB (cN mV (aq (gv 5) aH))) cZ))))))
def wF:O Bx->Y Bx:=cL 7 wD
def yX:Ev->Y Ap:=(aF (aF (B0 4 (b2 eY (gv 0) (b2 iG (cB (.int 1)) (gv 3)))) (aF (MS 5 6 (aq (b2 eY (gv 1) (b2 jj (gv 4) (cB (.int 5)))) (aq (b2 eY (gv 1) (b2 jj (b2 iG (b2 iG (gv 4) (cB (.int 1))) (b2 jj (b2 nM (gv 4) (cB (.int 5))) (cB (.int 4)))) (cB (.int 5)))) aH))) (aF (B0 7 (b2 eY (cN mO (aq (b1 Bt (b2 iG (cB (.int 1)) (b2 jj (b2 nM (gv 4) (cB (.int 300))) (cB (.int 3))))) (aq (b1 Bt (b2 iG (cB (.int 1)) (b2 jj (b2 nM (gv 4) (cB (.int 300))) (cB (.int 1000))))) aH))) (b2 jj (b2 nM (gv 4) (cB (.int 7))) (cB (.int 2))))) (aF (B0 8 (b2 jj (b2 nM (gv 4) (cB (.int 20))) (cB (.int 5)))) (aF (xX (p8 BE (gv 8) (cB (.int 0))) (aF (aF (FJ 2 (cN gP (aq (cB (.str "never")) (aq (gv 5) aH)))) cZ) (c7 [])) (aF (aF (xX (p8 BE (gv 8) (cB (.int 1))) (aF (aF (FJ 2 (cN gP (aq (cB (.str "begin")) (aq (gv 5) (aq (b1 Bt (b2 iG (cB (.int 1)) (b2 jj (b2 nM (gv 4) (cB (.int 100))) (cB (.int 3))))) (aq (gv 7) aH)))))) cZ) (c7 [])) (aF (aF (xX (p8 BE (gv 8) (cB (.int 2))) (aF (aF (FJ 2 (cN gP (aq (cB (.str "both")) (aq (gv 5) (aq (gv 6) (aq (gv 7) aH)))))) cZ) (c7 [])) (aF (aF (FJ 2 (cN gP (aq (cB (.str "same")) (aq (gv 5) (aq (gv 7) aH))))) cZ) (c7 []))) cZ) (c7 []))) cZ) (c7 []))) cZ))))) (c7 [3,4,5,6,7,8]))
def tB:Ev->Y Ap:=(aF (B0 1 (cN mO (aq (cB (.str "day")) (aq (cB (.str "name")) (aq (cB (.str "names")) (aq (cB (.str "p")) (aq (cB (.str "zzz")) aH))))))) (aF (B0 2 (cN mO aH)) (aF (rC (Wg (aq (b2 iG (cB (.int 1)) (b2 jj (b2 eY (gv 0) (cB (.int 0))) (cB (.int 4)))) aH)) (kJ 3) yX) (aF (dB (cN mV (aq (gv 2) aH))) cZ))))
def tD:O Bx->Y Bx:=cL 9 tB
def Eb:Ev->Y Ap:=(aF (aF (xX (p8 BE (gv 2) (gv 1)) (aF (dB (gv 3)) cZ) cZ) cZ) (c7 [2,3]))
def zX:Ev->Y Ap:=(aF (rC (D6 (b2 eY (gv 0) (cB (.int 1)))) (qZ 2 (cX (kJ 2) (cX (kJ 3) uU))) Eb) (aF (dB (cB .non)) cZ))
def dD:O Bx->Y Bx:=cL 4 zX
def tH:Ev->Y Ap:=(aF (B0 3 (bN 2 dD (aq (gv 0) (aq (gv 2) aH)))) (aF (dB (QG (b2 Dc (gv 3) (cB .non)) (b2 BE (gv 3) (bN 2 dD (aq (gv 1) (aq (gv 2) aH)))))) cZ))
def mG:O Bx->Y Bx:=cL 4 tH
def oX:Ev->Y Ap:=(aF (B0 4 (bN 2 dD (aq (gv 0) (aq (gv 2) aH)))) (aF (B0 5 (bN 2 dD (aq (gv 1) (aq (gv 2) aH)))) (aF (xX (D5 (p8 EI (gv 4) (cB .non)) (p8 EI (gv 5) (cB .non))) (aF (dB (cB (.bl false))) cZ) cZ) (aF (dB (QG (b2 FD (cN sG (aq (gv 4) aH)) (gv 3)) (QG (b2 FD (cN sG (aq (gv 5) aH)) (gv 3)) (b2 BE (YK (gv 4) vY (Aw (gv 3))) (YK (gv 5) vY (Aw (gv 3))))))) cZ))))
def oY:O Bx->Y Bx:=cL 6 oX
def qx:Ev->Y Ap:=(aF (B0 3 (bN 2 dD (aq (gv 0) (aq (gv 2) aH)))) (aF (B0 4 (bN 2 dD (aq (gv 1) (aq (gv 2) aH)))) (aF (dB (QG (b2 Dc (gv 3) (cB .non)) (QG (b2 Dc (gv 4) (cB .non)) (b2 WM (gv 3) (gv 4))))) cZ)))
def qy:O Bx->Y Bx:=cL 5 qx
def Js:Ev->Y Ap:=(aF (xX (p8 BE (b2 eY (gv 0) (cB (.int 0))) (cB (.str "same"))) (aF (dB (bN 3 mG (aq (gv 1) (aq (gv 2) (aq (b2 eY (gv 0) (cB (.int 1))) aH))))) cZ) cZ) (aF (xX (p8 BE (b2 eY (gv 0) (cB (.int 0))) (cB (.str "begin"))) (aF (dB (bN 4 oY (aq (gv 1) (aq (gv 2) (aq (b2 eY (gv 0) (cB (.int 1))) (aq (b2 eY (gv 0) (cB (.int 2))) aH)))))) cZ) cZ) (aF (xX (p8 BE (b2 eY (gv 0) (cB (.int 0))) (cB (.str "both"))) (aF (dB (QG (bN 3 mG (aq (gv 1) (aq (gv 2) (aq (b2 eY (gv 0) (cB (.int 1))) aH)))) (bN 3 mG (aq (gv 1) (aq (gv 2) (aq (b2 eY (gv 0) (cB (.int 2))) aH)))))) cZ) cZ) (aF (dB (bN 3 qy (aq (gv 1) (aq (gv 2) (aq (b2 eY (gv 0) (cB (.int 1))) aH))))) cZ))))
def Jt:O Bx->Y Bx:=cL 3 Js
def zY:Ev->Y Ap:=(aF (dB (Rw (LB (aq (gv 0) aH)) (qZ 2 (cX (kJ 2) (cX (kJ 3) uU))) uF (DE (D6 (YK (gv 0) (Aw (b2 iG (gv 2) (cB (.int 1)))) vY)) (kJ 4) uF (DE (MT (aq (gv 1) aH)) (qZ 2 (cX (kJ 5) (cX (kJ 6) uU))) (tV (bN 3 Jt (aq (gv 6) (aq (gv 3) (aq (gv 4) aH))))) (FR (cN gP (aq (gv 6) (aq (cN gP (aq (b2 eY (gv 3) (cB (.int 0))) (aq (b2 eY (gv 4) (cB (.int 0))) (aq (gv 5) aH)))) aH)))))) [0,1] 5)) cZ)
def zZ:O Bx->Y Bx:=cL 2 zY
def wG:Ev->Y Ap:=(aF (GS (qZ 4 (cX (kJ 1) (cX (kJ 2) (cX (kJ 3) (cX (kJ 4) uU))))) (gv 0)) (aF (dB (cN gP (aq (b1 QT (gv 1)) (aq (gv 2) (aq (gv 3) (aq (gv 4) aH)))))) cZ))
def wH:O Bx->Y Bx:=cL 5 wG
def wI:Ev->Y Ap:=(aF (dB (uH G1 (gv 0) λ_ d=>wH [.z d])) cZ)
def wJ:O Bx->Y Bx:=cL 1 wI
def tK:Ev->Y Ap:=(aF (B0 2 (uH DV (gv 0) λρ d=>(b2 eY (gv 0) (cB (.int 0))) (Z (.z d)::gB [] ρ))) (aF (B0 3 (bN 2 zZ (aq (gv 2) (aq (gv 1) aH)))) (aF (B0 4 (dY (Ig (gv 3)) (qZ 2 (cX (kJ 0) (cX (kJ 1) uU))) (p8 WM (b2 eY (gv 0) (cB (.int 0))) (cB (.str "never"))) (b1 Bt (b2 iG (cN gP (aq (b2 eY (gv 0) (b1 QT (cB (.int 1)))) aH)) (gv 1))) [] 2)) (aF (B0 5 (dY (Ig (gv 3)) (qZ 2 (cX (kJ 0) (cX (kJ 1) uU))) (p8 BE (b2 eY (gv 0) (cB (.int 0))) (cB (.str "never"))) (gv 1) [] 2)) (aF (dB (cN gP (aq (cN mV (aq (dY (Ig (gv 2)) (kJ 0) uF (b2 eY (gv 0) (cB (.int 0))) [] 1) aH)) (aq (cN mV (aq (bN 1 wJ (aq (gv 4) aH)) aH)) (aq (cN mV (aq (cN KR (aq (gv 5) aH)) aH)) aH))))) cZ)))))
def pQ:O Bx->Y Bx:=cL 6 tK
def Bm:Ev->Y Ap:=(aF (aF (Fm 5 1 (b2 jj (b2 nM (b2 eY (gv 0) (cB (.int 1))) (b2 eY (cN mO (aq (cB (.int 1)) (aq (cB (.int 5)) (aq (cB (.int 20)) (aq (cB (.int 60)) (aq (cB (.int 120)) aH)))))) (gv 4))) (cN sG (aq (gv 1) aH)))) (aF (FJ 3 (cN gP (aq (gv 5) (aq (b2 eY (gv 2) (b2 jj (b2 eY (gv 0) (b2 iG (cB (.int 2)) (gv 4))) (cB (.int 6)))) aH)))) cZ)) (c7 [4,5]))
def wK:Ev->Y Ap:=(aF (B0 1 (cN mO (aq (cB (.str "day")) (aq (cB (.str "name")) (aq (cB (.str "names")) (aq (cB (.str "p")) (aq (cB (.str "zzz")) aH))))))) (aF (B0 2 (cN mO (aq (cB (.str "first")) (aq (cB (.str "last")) (aq (cB (.str "most")) (aq (cB (.str "longest")) (aq (cB (.str "least")) (aq (cB (.str "greatest")) aH)))))))) (aF (B0 3 (cN mO aH)) (aF (rC (Wg (aq (b2 jj (b2 eY (gv 0) (cB (.int 0))) (cB (.int 6))) aH)) (kJ 4) Bm) (aF (dB (cN mV (aq (gv 3) aH))) cZ)))))
def wL:O Bx->Y Bx:=cL 6 wK
def qz:Ev->Y Ap:=(aF (dB (Y8 (Ig (gv 0)) (kJ 0) uF (gv 0) (gv 0) [] 1)) cZ)
def jN:O Bx->Y Bx:=cL 1 qz
def yp:Ev->Y Ap:=(aF (aF (xX (D5 (p8 BE (b2 mD (gv 0) (gv 4)) (gv 1)) (p8 BE (b2 mD (gv 0) (gv 4)) (gv 2))) (aF (aF (YL 0 (gv 3) (gv 4)) cZ) (c7 [])) (aF cZ (c7 []))) cZ) (c7 [4]))
def qC:Ev->Y Ap:=(aF (aF (B0 3 (cN Kg (aq (gv 1) (aq (gv 2) aH)))) (aF (rC (D6 (cN Kh (aq (gv 0) aH))) (kJ 4) yp) cZ)) (c7 [3,4]))
def iJ:A1->O (AY×Dt)->O Bx->Y (O (AY×Dt)):=Uw 5 qC
def Bp:Ev->Y Ap:=(aF (aF (Hi 2 2 iJ (aq (b2 mD (gv 2) (gv 4)) (aq (b2 mD (gv 2) (gv 5)) aH))) cZ) (c7 [3,4,5,6]))
def wM:Ev->Y Ap:=(aF (B0 2 (bN 1 jN (aq (gv 0) aH))) (aF (Bu 1 (qZ 4 (cX (kJ 3) (cX (kJ 4) (cX (kJ 5) (cX (kJ 6) uU))))) Bp) (aF (JL 2) cZ)))
def wN:O Bx->Y Bx:=cL 7 wM
def oZ:Ev->Y Ap:=(aF (dB (cN mV (aq (dY (Pg (gv 0)) (kJ 2) (p8 BE (b2 mD (gv 1) (gv 2)) (gv 0)) (gv 2) [1,0] 1) aH))) cZ)
def o7:O Bx->Y Bx:=cL 2 oZ
def qD:Ev->Y Ap:=(aF (dB (dY (Pg (gv 0)) (kJ 1) (p8 BE (b2 mD (gv 0) (gv 1)) (gv 1)) (b1 Bt (bN 2 o7 (aq (gv 0) (aq (gv 1) aH)))) [0] 1)) cZ)
def jO:O Bx->Y Bx:=cL 1 qD
def wO:Ev->Y Ap:=(aF (dB (bN 1 jO (aq (bN 2 wN (aq (gv 0) (aq (gv 1) aH))) aH))) cZ)
def wQ:O Bx->Y Bx:=cL 2 wO
def wR:Ev->Y Ap:=(aF (dB (bN 2 wQ (aq (b2 eY (gv 0) (cB (.int 0))) (aq (b2 eY (gv 0) (cB (.int 1))) aH)))) cZ)
def wU:O Bx->Y Bx:=cL 1 wR
def vH:Ev->Y Ap:=(aF (aF (xX (D5 (Wu (p8 BE (b2 mD (gv 1) (b2 eY (gv 4) (cB (.int 0)))) (gv 2)) (p8 BE (b2 mD (gv 1) (b2 eY (gv 4) (cB (.int 1)))) (gv 3))) (Wu (p8 BE (b2 mD (gv 1) (b2 eY (gv 4) (cB (.int 0)))) (gv 3)) (p8 BE (b2 mD (gv 1) (b2 eY (gv 4) (cB (.int 1)))) (gv 2)))) (aF (dB (gv 4)) cZ) cZ) cZ) (c7 [4]))
def o8:Ev->Y Ap:=(aF (Bu 0 (kJ 4) vH) (aF (dB (cB .non)) cZ))
def o9:O Bx->Y Bx:=cL 5 o8
def yq:Ev->Y Ap:=(aF (aF (B0 8 (b2 mD (gv 4) (b2 eY (gv 7) (cB (.int 1))))) (aF (B0 9 (b2 mD (gv 4) (b2 eY (gv 7) (cB (.int 2))))) (aF (xX (p8 WM (gv 8) (gv 9)) (aF (aF (B0 10 (bN 4 o9 (aq (gv 3) (aq (gv 4) (aq (gv 8) (aq (gv 9) aH)))))) (aF (xX (p8 EI (gv 10) (cB .non)) (aF (aF (Hi 4 2 iJ (aq (gv 8) (aq (gv 9) aH))) (aF (FJ 5 (gv 7)) cZ)) (c7 [])) (aF (aF (FJ 6 (cN gP (aq (gv 7) (aq (gv 10) aH)))) cZ) (c7 []))) cZ)) (c7 [10])) (aF cZ (c7 [10]))) cZ))) (c7 [7,8,9,10]))
def qF:Ev->Y Ap:=(aF (GS (qZ 3 (cX (kJ 1) (cX (kJ 2) (cX (kJ 3) uU)))) (gv 0)) (aF (B0 4 (bN 1 jN (aq (gv 1) aH))) (aF (B0 5 (cN mO aH)) (aF (B0 6 (cN mO aH)) (aF (Bu 2 (kJ 7) yq) (EW 5 (EW 6 (aF (dB (cN gP (aq (b1 Bt (bN 1 jO (aq (gv 4) aH))) (aq (gv 5) (aq (gv 6) aH))))) cZ))))))))
def qG:O Bx->Y Bx:=cL 11 qF
def yZ:Ev->Y Ap:=(aF (aF (B0 4 (bN 2 dD (aq (gv 3) (aq (gv 1) aH)))) (aF (xX (p8 Dc (gv 4) (cB .non)) (aF (aF (YL 2 (gv 4) (b2 eY (gv 3) (cB (.int 0)))) cZ) (c7 [])) (aF cZ (c7 []))) cZ)) (c7 [3,4]))
def tL:Ev->Y Ap:=(aF (B0 2 (λ_=>Z (.m [] X9))) (aF (Bu 0 (kJ 3) yZ) (aF (JL 2) cZ)))
def tM:O Bx->Y Bx:=cL 5 tL
def HJ:Ev->Y Ap:=(aF (aF (xX (p8 BE (b2 eY (gv 2) (cB (.int 0))) (gv 1)) (aF (dB (gv 2)) cZ) cZ) cZ) (c7 [2]))
def Ed:Ev->Y Ap:=(aF (Bu 0 (kJ 2) HJ) (aF Ic cZ))
def Ef:O Bx->Y Bx:=cL 3 Ed
def wV:Ev->Y Ap:=(aF (dB (dY (Ig (dY (Ig (gv 0)) (kJ 1) uF (b1 Bt (bN 2 dD (aq (gv 1) (aq (gv 0) aH)))) [1] 1)) (kJ 0) (p8 Dc (gv 0) (cB .non)) (gv 0) [] 1)) cZ)
def n8:O Bx->Y Bx:=cL 2 wV
def lK:Ev->Y Ap:=(aF (dB (cN U7 (aq (gv 0) aH))) cZ)
def lM:O Bx->Y Bx:=cL 1 lK
def qH:Ev->Y Ap:=(aF (dB (cN U6 (aq (gv 0) aH))) cZ)
def qI:O Bx->Y Bx:=cL 1 qH
def m7:Ev->Y Ap:=(aF (dB (F7 FE GT (gv 0) (cN gP (aq (b1 QT (cN sG (aq (gv 0) aH))) (aq (gv 0) aH))) [])) cZ)
def jw:O Bx->Y Bx:=cL 1 m7
def tO:Ev->Y Ap:=(aF (dB (F7 EO FM (gv 0) (b2 Dy (gv 1) (gv 0)) [0])) cZ)
def pR:O Bx->Y Bx:=cL 1 tO
def tU:Ev->Y Ap:=(aF (dB (b2 eY (gv 0) (b1 QT (cB (.int 1))))) cZ)
def tW:O Bx->Y Bx:=cL 1 tU
def qJ:Ev->Y Ap:=(aF (dB (b2 eY (gv 0) (cB (.int 0)))) cZ)
def qK:O Bx->Y Bx:=cL 1 qJ
def fg:O (AJ×(O Bx->Y Bx)):=[("first",qK),("last",tW),("most",pR),("longest",jw),("least",qI),("greatest",lM)]
def z6:Ev->Y Ap:=(aF (EX 3 4 fg (gv 2) (bN 2 n8 (aq (gv 0) (aq (gv 1) aH)))) (aF (dB (cN gP (aq (gv 1) (aq (gv 4) (aq (cN mV (aq (dY (Ig (gv 0)) (kJ 2) (p8 BE (bN 2 dD (aq (gv 2) (aq (gv 1) aH))) (gv 0)) (b2 eY (gv 2) (cB (.int 0))) [4,1] 1) aH)) aH))))) cZ))
def z7:O Bx->Y Bx:=cL 5 z6
def z8:Ev->Y Ap:=(aF (B0 3 (dY (Ig (gv 2)) (kJ 1) uF (b1 Bt (bN 2 Ef (aq (gv 0) (aq (gv 1) aH)))) [0] 1)) (aF (dB (dY (Ig (gv 1)) (qZ 2 (cX (kJ 1) (cX (kJ 2) uU))) (tV (bN 2 n8 (aq (gv 0) (aq (gv 1) aH)))) (b1 Bt (bN 3 z7 (aq (gv 0) (aq (gv 1) (aq (gv 2) aH))))) [3] 2)) cZ))
def iY:O Bx->Y Bx:=cL 4 z8
def wW:Ev->Y Ap:=(aF (dB (dY (Ig (gv 2)) (kJ 2) uF (b1 Bt (bN 3 iY (aq (gv 0) (aq (gv 1) (aq (gv 2) aH))))) [0,1] 1)) cZ)
def oh:O Bx->Y Bx:=cL 3 wW
def lN:Ev->Y Ap:=(aF (B0 3 (cN Ow (aq (dY (Ig (gv 1)) (kJ 1) (p8 Ee (gv 1) (gv 0)) (gv 1) [0] 1) aH))) (aF (xX (p8 BE (gv 2) (cN mO aH)) (aF (dB (b2 BE (gv 3) (cN mO aH))) cZ) cZ) (aF (GS (qZ 3 (cX (kJ 4) (cX (kJ 5) (cX (kJ 6) uU)))) (b2 eY (gv 2) (cB (.int 0)))) (aF (xX (D5 (p8 BE (gv 3) (cN mO aH)) (p8 BE (gv 6) (cN gP aH))) (aF (dB (cB (.bl false))) cZ) cZ) (aF (dB (b2 BE (cN Ud (aq (gv 6) aH)) (dY (Ig (gv 3)) (kJ 2) (p8 BE (b2 mD (gv 1) (gv 2)) (gv 0)) (gv 2) [5,0] 1))) cZ)))))
def fW:O Bx->Y Bx:=cL 7 lN
def lO:Ev->Y Ap:=(aF (dB (bN 3 fW (aq (gv 1) (aq (gv 2) (aq (b1 Bt (bN 3 iY (aq (gv 0) (aq (cN gP (aq (cN gP (aq (gv 3) (aq (gv 4) aH))) aH)) (aq (gv 2) aH))))) aH))))) cZ)
def lQ:O Bx->Y Bx:=cL 5 lO
def lR:Ev->Y Ap:=(aF (B0 4 (dY (Ig (gv 2)) (kJ 0) (p8 WM (gv 0) (cN mO aH)) (b2 eY (gv 0) (cB (.int 0))) [] 1)) (aF (xX (p8 BE (gv 3) (cN mO aH)) (aF (dB (b2 BE (gv 4) (cN mO aH))) cZ) cZ) (aF (B0 5 (b2 eY (b2 eY (gv 3) (cB (.int 0))) (cB (.int 1)))) (aF (B0 6 (dY (Ig (gv 4)) (kJ 0) uF (b2 eY (gv 0) (cB (.int 1))) [] 1)) (aF (xX (p8 BE (gv 0) (cB (.str "least"))) (aF (dB (b2 BE (gv 5) (cN U6 (aq (gv 6) aH)))) cZ) cZ) (aF (xX (p8 BE (gv 0) (cB (.str "greatest"))) (aF (dB (b2 BE (gv 5) (cN U7 (aq (gv 6) aH)))) cZ) cZ) (aF (xX (p8 BE (gv 0) (cB (.str "longest"))) (aF (dB (b2 BE (gv 5) (b2 eY (cN Va (aq (dY (Ig (gv 6)) (kJ 0) uF (cN gP (aq (b2 EC (cB (.int 0)) (cN sG (aq (gv 0) aH))) (aq (gv 0) aH))) [] 1) aH)) (cB (.int 1))))) cZ) cZ) (aF (xX (p8 BE (gv 0) (cB (.str "first"))) (aF (dB (b2 BE (gv 5) (b2 eY (cN Va (aq (dY (Ig (gv 4)) (kJ 0) uF (cN gP (aq (b2 eY (b2 eY (gv 0) (cB (.int 2))) (cB (.int 0))) (aq (b2 eY (gv 0) (cB (.int 1))) aH))) [] 1) aH)) (cB (.int 1))))) cZ) cZ) (aF (xX (p8 BE (gv 0) (cB (.str "last"))) (aF (dB (b2 BE (gv 5) (b2 eY (cN ZG (aq (dY (Ig (gv 4)) (kJ 0) uF (cN gP (aq (b2 eY (b2 eY (gv 0) (cB (.int 2))) (b1 QT (cB (.int 1)))) (aq (b2 eY (gv 0) (cB (.int 1))) aH))) [] 1) aH)) (cB (.int 1))))) cZ) cZ) (aF (B0 7 (dY (Ig (b1 ZL (gv 1))) (kJ 1) uF (b1 Bt (cN sG (aq (dY (Pg (gv 0)) (kJ 2) (p8 BE (b2 mD (gv 1) (gv 2)) (gv 0)) (gv 2) [1,0] 1) aH))) [1] 1)) (aF (dB (b2 BE (cN sG (aq (b2 eY (b2 eY (gv 3) (cB (.int 0))) (cB (.int 2))) aH)) (cN Uy (aq (gv 7) aH)))) cZ)))))))))))
def lU:O Bx->Y Bx:=cL 8 lR
def ql:Ev->Y Ap:=(aF (aF (xX (D5 (F0 (tV (bN 3 fW (aq (gv 4) (aq (b2 eY (gv 1) (gv 7)) (aq (b2 eY (gv 6) (gv 7)) aH)))))) (F0 (tV (bN 5 lQ (aq (gv 0) (aq (gv 4) (aq (b2 eY (gv 1) (gv 7)) (aq (gv 2) (aq (gv 3) aH))))))))) (aF (dB (cB (.bl false))) cZ) cZ) (aF (B0 8 (dY (Ig (b2 eY (gv 1) (gv 7))) (kJ 2) (p8 Ee (gv 2) (gv 1)) (cN gP (aq (gv 0) (aq (b2 mD (gv 1) (gv 2)) (aq (cN gP (aq (gv 2) aH)) aH)))) [2,4] 1)) (aF (xX (Wu (p8 BE (cN sG (aq (b2 eY (gv 1) (gv 7)) aH)) (cB (.int 1))) (p8 WM (b2 eY (gv 6) (gv 7)) (gv 8))) (aF (dB (cB (.bl false))) cZ) cZ) cZ))) (c7 [7,8]))
def jP:Ev->Y Ap:=(aF (B0 4 (bN 2 tM (aq (gv 0) (aq (gv 2) aH)))) (aF (B0 5 (cN mV (aq (cN Ow (aq (dY (Ig (gv 0)) (kJ 0) uF (b2 eY (gv 0) (cB (.int 0))) [] 1) aH)) aH))) (aF (B0 6 (bN 3 oh (aq (gv 0) (aq (cN gP (aq (cN gP (aq (gv 2) (aq (gv 3) aH))) aH)) (aq (gv 1) aH))))) (aF (xX (p8 WM (cN sG (aq (gv 6) aH)) (cN sG (aq (gv 1) aH))) (aF (dB (cB (.bl false))) cZ) cZ) (aF (rC (Wg (aq (cN sG (aq (gv 1) aH)) aH)) (kJ 7) ql) (aF (dB (bN 4 lU (aq (gv 3) (aq (gv 4) (aq (gv 6) (aq (b1 Bt (bN 3 iY (aq (gv 0) (aq (cN gP (aq (cN gP (aq (gv 2) (aq (gv 3) aH))) aH)) (aq (gv 5) aH))))) aH)))))) cZ))))))
def jQ:O Bx->Y Bx:=cL 9 jP
def Ve:Ev->Y Ap:=(aF (aF (xX (F0 (tV (bN 4 jQ (aq (gv 1) (aq (gv 5) (aq (gv 6) (aq (gv 7) aH))))))) (aF (dB (cB (.bl false))) cZ) cZ) cZ) (c7 [6,7]))
def Vf:Ev->Y Ap:=(aF (aF (rC (D6 (b2 iG (gv 4) (cN gP (aq (cN gP (aq (cB (.str "name")) (aq (cB (.str "most")) aH))) (aq (cN gP (aq (cB (.str "p")) (aq (cB (.str "last")) aH))) aH))))) (qZ 2 (cX (kJ 6) (cX (kJ 7) uU))) Ve) (aF (xX (p8 WM (bN 3 oh (aq (gv 1) (aq (gv 4) (aq (gv 5) aH)))) (dY (Ig (gv 5)) (kJ 2) uF (b1 Bt (bN 3 iY (aq (gv 0) (aq (gv 1) (aq (gv 2) aH))))) [1,4] 1)) (aF (dB (cB (.bl false))) cZ) cZ) cZ)) (c7 [5,6,7]))
def ZV:Ev->Y Ap:=(aF (B0 1 (YK (bN 2 wF (aq (gv 0) (aq (cB (.int 14)) aH))) vY (Aw (cB (.int 7))))) (aF (B0 2 (bN 1 tD (aq (b1 Bt (bN 2 fu (aq (b1 Bt (bN 2 ju (aq (gv 0) (aq (cB (.int 16)) aH)))) (aq (cB (.int 5)) aH)))) aH))) (aF (B0 3 (bN 2 pQ (aq (gv 1) (aq (gv 2) aH)))) (aF (B0 4 (bN 1 wL (aq (b1 Bt (bN 2 fu (aq (b1 Bt (bN 2 ju (aq (gv 0) (aq (cB (.int 17)) aH)))) (aq (cB (.int 8)) aH)))) aH))) (aF (rC (D6 (cN mO (aq (b1 Bt (bN 1 wU (aq (gv 3) aH))) (aq (b2 eY (bN 1 qG (aq (gv 3) aH)) (cB (.int 0))) aH)))) (kJ 5) Vf) (aF (dB (cB (.bl true))) cZ))))))
def F_law:O Bx->Y Bx:=cL 8 ZV
end
end G69
end
section
set_option synthInstance.maxSize 100000
namespace G69
open L2 P1
set_option genInjectivity false
set_option genSizeOf false
structure T (K:B6) (mg:Str->Option Value) where
 {aei:Addr}
 aki:mg "HOWS"=some (.ref aei)
 jx:DQ K mg "_law_cell" K6 ["_law_script","_law_k"]
 fB:DQ K mg "_law_numbers" Bc ["_law_cell_here","_law_many"]
 tX:DQ K mg "_law_names" Hw ["_law_xs","_law_many"]
 wX:DQ K mg "_law_word" K7 ["_law_x"]
 z9:DQ K mg "_law_row" Qc ["_law_name","_law_xs"]
 wY:DQ K mg "_law_book" K8 ["_law_script","_law_most"]
 uc:DQ K mg "_law_rules" Hx ["_law_xs"]
 dF:DQ K mg "word_of" Qd ["row","field"]
 mH:DQ K mg "are_alike" Hy ["row","other","field"]
 pA:DQ K mg "begin_alike" Bd ["row","other","field","many"]
 qL:DQ K mg "are_unlike" DK ["row","other","field"]
 Ju:DQ K mg "tells" ZS ["rule","row","other"]
 Aa:DQ K mg "told_of" Qe ["rows","rules"]
 rN:DQ K mg "place_of" K9 ["reason"]
 wZ:DQ K mg "in_order" La ["reasons"]
 pU:DQ K mg "ground_of" Hz ["book","rules"]
 w5:DQ K mg "_law_view" Lb ["_law_xs"]
 jR:DQ K mg "lone_heads" DN ["names"]
 cV:DQ K mg "join_heads" DP ["heads","one","other"]
 w6:DQ K mg "heads_by" Ld ["names","reasons"]
 pB:DQ K mg "names_under" Bf ["heads","head"]
 jT:DQ K mg "sets_under" DR ["heads"]
 xg:DQ K mg "parts_by" Lf ["names","reasons"]
 xq:DQ K mg "parts_of" Lg ["ground"]
 pC:DQ K mg "bar_between" Bg ["bars","heads","one","other"]
 qM:DQ K mg "joining_of" DW ["ground"]
 ud:DQ K mg "_law_words" HB ["_law_book_here","_law_field"]
 Eh:DQ K mg "row_of" Vd ["book","name"]
 ou:DQ K mg "words_in" Lh ["rows","field"]
 fX:DQ K mg "greatest_word" yd ["words"]
 jU:DQ K mg "least_word" DX ["words"]
 fL:DQ K mg "longest_word" yW ["words"]
 jy:DQ K mg "most_word" HD ["words"]
 mJ:DQ K mg "last_word" HF ["words"]
 jV:DQ K mg "first_word" DY ["words"]
 Ab:DQ K mg "seen_of" Qf ["rows","field","how"]
 iZ:DQ K mg "view_of" Qg ["book","view","names"]
 oA:DQ K mg "views_of" Li ["book","view","sets"]
 fY:DQ K mg "_law_one_right" yg ["_law_words_here","_law_names_here","_law_told"]
 lV:DQ K mg "_law_set_right" yh ["_law_book_here","_law_words_here","_law_names_here","_law_field","_law_how"]
 lW:DQ K mg "_law_all_right" yj ["_law_how","_law_words_here","_law_told","_law_whole"]
 jW:DQ K mg "_law_view_right" vG ["_law_book_here","_law_sets","_law_field","_law_how"]
 x_law:DQ K mg "law" s_law ["_law_script"]
 amT:mg "abs"=none
 HN:mg "enumerate"=none
 amU:mg "int"=none
 vI:mg "len"=none
 Xo:mg "list"=none
 Vg:mg "max"=none
 Qh:mg "min"=none
 qN:mg "range"=none
 za:mg "sorted"=none
 pD:mg "tuple"=none
 akj:Ff K aei [("first",jV.f),("last",mJ.f),("most",jy.f),("longest",fL.f),("least",jU.f),("greatest",fX.f)]
 M5:GE K pU.fd "ground_of.<locals>.<lambda>"=true
 Gh:GE K fL.fd "longest_word.<locals>.<lambda>"=true
 M6:GE K jy.fd "most_word.<locals>.<lambda>"=true
section
variable(t:T K mg)
theorem Vh:aW ["_law_script","_law_k","_law_state","_law_cell_here"] ["_law_script","_law_k"] (aJ K6):=gD
theorem Vi:Ok P w base t.jx 1 2 ju:=wk (g:=wA) t.jx Vh λ_ _ _ _ _ _ b a nd=>(aA (fj (bO O3 (ao 1) (cF nT X2 t.vI nR (aj (ao 0) aB)) (aX _)) (aA (bD (bf (ao 0) (ao 1))) aG) aG) (aA (bG 2 nd (aY cY (aY vW aD (aY dX (aY dX (aY vW (ao 1) (ao 1)) (aY vW aD (ao 1))) aD)) aD)) (aA (nO PassesOwn.never X2 (zK (J4 (ao 0) rA (rB aD))) (aQ 3 nd) (bF [3] (aA (bG 2 nd (aY cY (aY dX (aY vW (ao 2) aD) (ao 3)) aD)) aG))) (aA (bD (ao 2)) aG))))
theorem Lj:aW ["_law_cell_here","_law_many","_law_found","_law_state","_law_digits","_law_k"] ["_law_cell_here","_law_many"] (aJ Bc):=gD
theorem Ln:Ok P w base t.fB 1 2 fu:=wk (g:=oW) t.fB Lj λ_ _ _ _ _ _ b a nd=>(aA (bG 2 nd (eV aB)) (aA (bG 3 nd (aY cY (aY vW (aY dX (aY cY (ao 0) aD) aD) aD) aD)) (aA (bG 4 nd aD) (aA (fj (QF (Fo (bO O3 (ao 0) aD (aX _)) (zJ (bO LJ (ao 0) (aY om aD aD) (aX _))))) (bF [] (aA (bG 4 nd (cF X1 X2 t.amT wE (aj (ao 0) aB))) aG)) (bF [] aG)) (aA (nO PassesOwn.never X2 (mU X2 t.qN (aj (ao 1) aB)) (aQ 5 nd) (bF [5] (aA (bG 3 nd (aY cY (aY dX (aY dX (aY vW (ao 3) (aY dX (aY cY (ao 3) aD) aD)) (aY vW aD (ao 5))) aD) aD)) (aA (q9 2 (bf (eV (aj (ao 3) (aj (aY cY (ao 4) aD) aB))) (fH fz X2 t.amU mh (aj (jf Pe (ao 4) aD (aX _)) aB)))) (aA (bG 4 nd (aY iD (ao 4) aD)) aG))))) (aA (Ja 2) aG))))))
theorem RK:aW ["_law_xs","_law_many","_law_letters","_law_stem","_law_at","_law_found","_law_k","_law_mark","_law_name"] ["_law_xs","_law_many"] (aJ Hw):=gD
theorem RM:Ok P w base t.tX 1 2 tu:=wk (g:=sZ) t.tX RK λ_ _ _ _ _ _ b a nd=>(aA (bG 2 nd bQ) (aA (bG 3 nd (di (iB ["_law_k"] (pO ["_law_letters","_law_xs"] [2,0]) X2 (xN (mU X2 t.qN (aj (aY cY (bf (ao 0) aD) aD) aB))) (λ_ _ _ _=>(bv 2)) (λ_ _ _ _=>dw) (λ_ _ _ _=>(bf (ao 0) (aY cY (aY iD (bf (ao 1) (ao 2)) aD) aD))) (cD)))) (aA (bG 4 nd (aY cY (bf (ao 0) aD) (aY dX (cF nT X2 t.vI nR (aj (ao 3) aB)) aD))) (aA (bG 5 nd (eV aB)) (aA (nO PassesOwn.never X2 (mU X2 t.qN (aj (ao 1) aB)) (aQ 6 nd) (bF [6,7,8] (aA (bG 7 nd (bf (ao 2) (aY cY (aY dX (ao 6) (bf (ao 0) aD)) aD))) (aA (bG 8 nd (aY dX (aY dX (J4 (ao 3) rA (rB (ao 4))) (ao 7)) (J4 (ao 3) (rB (ao 4)) rA))) (aA (fj (bO (of_eq a) (aY cY (bf (ao 0) aD) aD) aD (aX _)) (bF [] (aA (bG 8 nd (aY vW (bf (ao 2) (aY iD (ao 6) aD)) (aY dX aD (aY cY (ao 6) aD)))) aG)) (bF [] aG)) (aA (q9 5 (ao 8)) aG)))))) (aA (Ja 5) aG))))))
theorem Vj:aW ["_law_x","_law_found","_law_j"] ["_law_x"] (aJ K7):=gD
theorem Vk:Ok P w base t.wX 1 1 wC:=wk (g:=wB) t.wX Vj λ_ _ _ _ _ _ b a nd=>(aA (fj (bO (of_eq a) (aY cY (ao 0) aD) aD (aX _)) (aA (bD (bf (eV (aj bQ (aj bQ (aj bQ (aj bQ (aj bQ (aj bQ (aj bQ aB)))))))) (aY cY (aY iD (ao 0) aD) aD))) aG) aG) (aA (bG 1 nd bQ) (aA (nO PassesOwn.never X2 (mU X2 t.qN (aj (aY dX aD (aY cY (aY iD (ao 0) aD) aD)) aB)) (aQ 2 nd) (bF [2] (aA (bG 1 nd (aY dX (ao 1) (bf bQ (aY cY (aY iD (aY iD (ao 0) aD) (bf (eV (aj aD (aj aD (aj aD (aj aD aB))))) (ao 2))) aD)))) aG))) (aA (bD (ao 1)) aG))))
theorem Xp:aW ["_law_name","_law_xs","_law_fields","_law_words_here","_law_k"] ["_law_name","_law_xs"] (aJ Qc):=gD
theorem Xq(a:Ok P w base t.wX 1 1 wC):Ok P w base t.z9 2 2 zW:=wk (g:=zV) t.z9 Xp λ_ _ _ _ _ _ b c nd=>(aA (bG 2 nd (eV (aj bQ (aj bQ (aj (ig (aY dX bQ bQ)) (aj bQ aB)))))) (aA (bG 3 nd (eV aB)) (aA (nO PassesOwn.never X2 (mU X2 t.qN (aj aD aB)) (aQ 4 nd) (bF [4] (aA (fj (bO Pe (aY cY (bf (ao 1) (ao 4)) aD) aD (aX _)) (bF [] (aA (q9 3 (dj (aj (bf (ao 2) (ao 4)) (aj (ig (cg t.wX a b (aj (aY iD (bf (ao 1) (ao 4)) aD) aB))) aB)))) aG)) (bF [] aG)) aG))) (aA (bD (dj (aj (ao 0) (aj (fH lA X2 t.pD lu (aj (ao 3) aB)) aB)))) aG))))
theorem Vl:aW ["_law_script","_law_most","_law_head","_law_names_here","_law_many","_law_rows","_law_k"] ["_law_script","_law_most"] (aJ K8):=gD
theorem Vm(b:Ok P w base t.jx 1 2 ju)(d:Ok P w base t.tX 1 2 tu)(c:Ok P w base t.fB 1 2 fu)(e:Ok P w base t.z9 2 2 zW):Ok P w base t.wY 3 2 wF:=wk (g:=wD) t.wY Vl λ_ _ _ _ _ _ a f nd=>(aA (bG 2 nd (cg t.fB c a (aj (ig (cg t.jx b a (aj (ao 0) (aj aD aB)))) (aj aD aB)))) (aA (bG 3 nd (cg t.tX d a (aj (ao 2) (aj aD aB)))) (aA (bG 4 nd (bf (eV (aj aD (aj aD (aj aD (aj aD (aj (ao 1) (aj (ao 1) aB))))))) (aY cY (bf (ao 2) aD) aD))) (aA (bG 5 nd (eV aB)) (aA (nO PassesOwn.never X2 (mU X2 t.qN (aj (ao 4) aB)) (aQ 6 nd) (bF [6] (aA (q9 5 (ig (cg t.z9 e a (aj (bf (ao 3) (aY cY (aY dX (aY vW aD (ao 6)) (bf (ao 2) aD)) aD)) (aj (ig (cg t.fB c a (aj (ig (cg t.jx b a (aj (ao 0) (aj (ig (aY dX aD (ao 6))) aB)))) (aj aD aB)))) aB))))) aG))) (aA (bD (fH lA X2 t.pD lu (aj (ao 5) aB))) aG))))))
theorem RN:aW ["_law_xs","_law_fields","_law_found","_law_k","_law_y","_law_one","_law_other","_law_weight","_law_way"] ["_law_xs"] (aJ Hx):=gD
theorem RQ:Ok P w base t.uc 1 1 tD:=wk (g:=tB) t.uc RN λ_ _ _ _ _ _ b a nd=>(aA (bG 1 nd (eV (aj bQ (aj bQ (aj bQ (aj bQ (aj bQ aB))))))) (aA (bG 2 nd (eV aB)) (aA (nO PassesOwn.never X2 (mU X2 t.qN (aj (aY dX aD (aY cY (bf (ao 0) aD) aD)) aB)) (aQ 3 nd) (bF [3,4,5,6,7,8] (aA (bG 4 nd (bf (ao 0) (aY dX aD (ao 3)))) (aA (We 5 6 X2 nd (aj (bf (ao 1) (aY cY (ao 4) aD)) (aj (bf (ao 1) (aY cY (aY dX (aY dX (ao 4) aD) (aY cY (aY iD (ao 4) aD) aD)) aD)) aB))) (aA (bG 7 nd (bf (eV (aj (ig (aY dX aD (aY cY (aY iD (ao 4) aD) aD))) (aj (ig (aY dX aD (aY cY (aY iD (ao 4) aD) aD))) aB))) (aY cY (aY iD (ao 4) aD) aD))) (aA (bG 8 nd (aY cY (aY iD (ao 4) aD) aD)) (aA (fj (bO (of_eq a) (ao 8) aD (aX _)) (bF [] (aA (q9 2 (dj (aj bQ (aj (ao 5) aB)))) aG)) (bF [] (aA (fj (bO (of_eq a) (ao 8) aD (aX _)) (bF [] (aA (q9 2 (dj (aj bQ (aj (ao 5) (aj (ig (aY dX aD (aY cY (aY iD (ao 4) aD) aD))) (aj (ao 7) aB)))))) aG)) (bF [] (aA (fj (bO (of_eq a) (ao 8) aD (aX _)) (bF [] (aA (q9 2 (dj (aj bQ (aj (ao 5) (aj (ao 6) (aj (ao 7) aB)))))) aG)) (bF [] (aA (q9 2 (dj (aj bQ (aj (ao 5) (aj (ao 7) aB))))) aG))) aG))) aG))) aG))))))) (aA (bD (fH lA X2 t.pD lu (aj (ao 2) aB))) aG))))
theorem Xr:aW ["row","field","own_field","word"] ["row","field"] (aJ Qd):=gD
theorem Xu:Ok P w base t.dF 1 2 dD:=wk (g:=zX) t.dF Xr λ_ _ _ _ _ _ b a nd=>(aA (nO PassesOwn.never X2 (zK (bf (ao 0) aD)) (q8 X2 (cj (aQ 2 nd) (cj (aQ 3 nd) mR))) (bF [2,3] (aA (fj (bO (of_eq a) (ao 2) (ao 1) (aX _)) (aA (bD (ao 3)) aG) aG) aG))) (aA (bD uy) aG))
theorem RT:aW ["row","other","field","word"] ["row","other","field"] (aJ Hy):=gD
theorem RV(a:Ok P w base t.dF 1 2 dD):Ok P w base t.mH 2 3 mG:=wk (g:=tH) t.mH RT λ_ _ _ _ _ _ b c nd=>(aA (bG 3 nd (cg t.dF a b (aj (ao 0) (aj (ao 2) aB)))) (aA (bD (Fp (jf Dd (ao 3) uy (aX _)) (QH (jf (of_eq c) (ao 3) (cg t.dF a b (aj (ao 1) (aj (ao 2) aB))) (aX _))))) aG))
theorem Lq:aW ["row","other","field","many","word","other_word"] ["row","other","field","many"] (aJ Bd):=gD
theorem Lr(a:Ok P w base t.dF 1 2 dD):Ok P w base t.pA 2 4 oY:=wk (g:=oX) t.pA Lq λ_ _ _ _ _ _ b c nd=>(aA (bG 4 nd (cg t.dF a b (aj (ao 0) (aj (ao 2) aB)))) (aA (bG 5 nd (cg t.dF a b (aj (ao 1) (aj (ao 2) aB)))) (aA (fj (QF (Fo (bO Cb (ao 4) uy (aX _)) (zJ (bO Cb (ao 5) uy (aX _))))) (aA (bD G3) aG) aG) (aA (bD (Fp (jf LJ (cF nT X2 t.vI nR (aj (ao 4) aB)) (ao 3) (aX _)) (Fp (jf LJ (cF nT X2 t.vI nR (aj (ao 5) aB)) (ao 3) (aX _)) (QH (jf (of_eq c) (J4 (ao 4) rA (rB (ao 3))) (J4 (ao 5) rA (rB (ao 3))) (aX _)))))) aG))))
theorem M7:aW ["row","other","field","word","other_word"] ["row","other","field"] (aJ DK):=gD
theorem M8(a:Ok P w base t.dF 1 2 dD):Ok P w base t.qL 2 3 qy:=wk (g:=qx) t.qL M7 λ_ _ _ _ _ _ b c nd=>(aA (bG 3 nd (cg t.dF a b (aj (ao 0) (aj (ao 2) aB)))) (aA (bG 4 nd (cg t.dF a b (aj (ao 1) (aj (ao 2) aB)))) (aA (bD (Fp (jf Dd (ao 3) uy (aX _)) (Fp (jf Dd (ao 4) uy (aX _)) (QH (jf (JW c) (ao 3) (ao 4) (aX _)))))) aG)))
theorem aej:aW ["rule","row","other"] ["rule","row","other"] (aJ ZS):=gD
theorem c5(c:Ok P w base t.mH 2 3 mG)(e:Ok P w base t.qL 2 3 qy)(d:Ok P w base t.pA 2 4 oY):Ok P w base t.Ju 3 3 Jt:=wk (g:=Js) t.Ju aej λ_ _ _ _ _ _ a b nd=>(aA (fj (bO (of_eq b) (bf (ao 0) aD) bQ (aX _)) (aA (bD (cg t.mH c a (aj (ao 1) (aj (ao 2) (aj (bf (ao 0) aD) aB))))) aG) aG) (aA (fj (bO (of_eq b) (bf (ao 0) aD) bQ (aX _)) (aA (bD (cg t.pA d a (aj (ao 1) (aj (ao 2) (aj (bf (ao 0) aD) (aj (bf (ao 0) aD) aB)))))) aG) aG) (aA (fj (bO (of_eq b) (bf (ao 0) aD) bQ (aX _)) (aA (bD (Fp (cg t.mH c a (aj (ao 1) (aj (ao 2) (aj (bf (ao 0) aD) aB)))) (QH (cg t.mH c a (aj (ao 1) (aj (ao 2) (aj (bf (ao 0) aD) aB))))))) aG) aG) (aA (bD (cg t.qL e a (aj (ao 1) (aj (ao 2) (aj (bf (ao 0) aD) aB))))) aG))))
theorem Xv:aW ["rows","rules"] ["rows","rules"] (aJ Qe):=gD
theorem Xw(a:Ok P w base t.Ju 3 3 Jt):Ok P w base t.Aa 4 2 zZ:=wk (g:=zY) t.Aa Xv λ_ _ _ _ _ _ b c nd=>(aA (bD (WA ["at","row","other","number","rule"] (OO.mk (m:=4) (m2:=5) (pO ["rows","rules"] [0,1]) X2 (d3 X2 t.HN (aj (ao 0) aB)) (λ_ _ _ _=>(q8 X2 (cj (bv 2) (cj (bv 3) mR)))) (λ_ _ _ _=>dw) (JQ (lq (cD) (lq (cD) CQ))) (λ_ _ _ _=>(zK (J4 (ao 0) (rB (aY dX (ao 2) aD)) rA))) (λ_ _ _ _=>(bv 4)) (λ_ _ _ _=>dw) (cD) (λ_ _ _ _=>(iO X2 t.HN (aj (ao 1) aB))) (λ_ _ _ _=>(q8 X2 (cj (bv 5) (cj (bv 6) mR)))) (λ_ _ _ _=>(dZ (JD (cg t.Ju a b (aj (ao 6) (aj (ao 3) (aj (ao 4) aB))))))) (JQ (lq (cD) (lq (cD) CQ)))) (λ_ _ _ _=>(dj (aj (ao 6) (aj (dj (aj (bf (ao 3) aD) (aj (bf (ao 4) aD) (aj (ao 5) aB)))) aB)))))) aG)
theorem Vn:aW ["reason","weight","one","other","number"] ["reason"] (aJ K9):=gD
theorem Vo:Ok P w base t.rN 1 1 wH:=wk (g:=wG) t.rN Vn λ_ _ _ _ _ _ b a nd=>(aA (Wx (ao 0) (q8 X2 (cj (aQ 1 nd) (cj (aQ 2 nd) (cj (aQ 3 nd) (cj (aQ 4 nd) mR)))))) (aA (bD (dj (aj (Tz JX (ao 1)) (aj (ao 2) (aj (ao 3) (aj (ao 4) aB)))))) aG))
theorem Vp:aW ["reasons"] ["reasons"] (aJ La):=gD
theorem Vq(a:Ok P w base t.rN 1 1 wH):Ok P w base t.wZ 3 1 wJ:=wk (g:=wI) t.wZ Vp λ_ _ _ _ _ _ c d nd=>(aA (bD (x3 WI X2 t.za uW a (c.mono ()) X2 t.rN.m t.rN.b (ao 0))) aG)
theorem Ei:aW ["book","rules","rows","told","reasons","bars"] ["book","rules"] (aJ Hz):=gD
theorem RX(f:Ok P w base t.wZ 3 1 wJ)(d:Ok P w base t.Aa 4 2 zZ):Ok P w base t.pU 5 2 pQ:=by
 unfold pQ;obtain⟨j,h,c,e⟩:=RD t.M5;refine IQ (k:=4) (g:=tK) t.pU.F c Ei X2 X2 λA outer s H E a=>?_;have b:=zN a;have nd:=Ei.nd;exact(aA (bG 2 nd (ai (x :="each") (xs:=[]) (is:=[]) (cl:=[]) X2 a.depth UA X2 t.za uW (Xl X2 X2 X2 X2 X2 X2 trivial X2 trivial) e X2 X2 X2 (λ_ _ _ _=>X2) (ao 0) λi c' s' H'=>(bf (ao 0) aD))) (aA (bG 3 nd (cg t.Aa d a (aj (ao 2) (aj (ao 1) aB)))) (aA (zM 4 ["rule","pair"] (pO [] []) X2 nd (d8 (ao 3)) (λ_ _ _ _=>(q8 X2 (cj (bv 0) (cj (bv 1) mR)))) (λ_ _ _ _=>(dZ (bO (JW b) (bf (ao 0) aD) bQ (aX _)))) (λ_ _ _ _=>(ig (aY dX (dj (aj (bf (ao 0) (Tz JX aD)) aB)) (ao 1)))) (JQ (lq (cD) (lq (cD) CQ)))) (aA (zM 5 ["rule","pair"] (pO [] []) X2 nd (d8 (ao 3)) (λ_ _ _ _=>(q8 X2 (cj (bv 0) (cj (bv 1) mR)))) (λ_ _ _ _=>(dZ (bO (of_eq b) (bf (ao 0) aD) bQ (aX _)))) (λ_ _ _ _=>(ao 1)) (JQ (lq (cD) (lq (cD) CQ)))) (aA (bD (dj (aj (fH lA X2 t.pD lu (aj (iB ["row"] (pO [] []) X2 (d8 (ao 2)) (λ_ _ _ _=>(bv 0)) (λ_ _ _ _=>dw) (λ_ _ _ _=>(bf (ao 0) aD)) (cD)) aB)) (aj (fH lA X2 t.pD lu (aj (cg t.wZ f a (aj (ao 4) aB)) aB)) (aj (fH lA X2 t.pD lu (aj (cF adZ X2 t.za uW (aj (ao 5) aB)) aB)) aB))))) aG)))))
theorem Vr:aW ["_law_xs","_law_fields","_law_hows","_law_found","_law_k","_law_field"] ["_law_xs"] (aJ Lb):=gD
theorem Vs:Ok P w base t.w5 1 1 wL:=wk (g:=wK) t.w5 Vr λ_ _ _ _ _ _ b a nd=>(aA (bG 1 nd (eV (aj bQ (aj bQ (aj bQ (aj bQ (aj bQ aB))))))) (aA (bG 2 nd (eV (aj bQ (aj bQ (aj bQ (aj bQ (aj bQ (aj bQ aB)))))))) (aA (bG 3 nd (eV aB)) (aA (nO PassesOwn.never X2 (mU X2 t.qN (aj (aY cY (bf (ao 0) aD) aD) aB)) (aQ 4 nd) (bF [4,5] (aA (mS 5 1 nd (aY cY (aY iD (bf (ao 0) aD) (bf (eV (aj aD (aj aD (aj aD (aj aD (aj aD aB)))))) (ao 4))) (cF nT X2 t.vI nR (aj (ao 1) aB)))) (aA (q9 3 (dj (aj (ao 5) (aj (bf (ao 2) (aY cY (bf (ao 0) (aY dX aD (ao 4))) aD)) aB)))) aG)))) (aA (bD (fH lA X2 t.pD lu (aj (ao 3) aB))) aG)))))
theorem M9:aW ["names"] ["names"] (aJ DN):=gD
theorem Nb:Ok P w base t.jR 1 1 jN:=wk (g:=qz) t.jR M9 λ_ _ _ _ _ _ b a nd=>(aA (bD (im a ["name"] (pO [] []) X2 (d8 (ao 0)) (λ_ _ _ _=>(bv 0)) (λ_ _ _ _=>dw) (λ_ _ _ _=>(ao 0)) (λ_ _ _ _=>(ao 0)) (cD))) aG)
theorem Bq:aW ["heads","one","other","head","name"] ["heads","one","other"] (aJ DP):=gD
theorem Nf:qt P w K mg base Fj 1 t.cV.f t.cV.fd ["heads","one","other"] (GM K 2 iJ):=by
 unfold iJ;refine nS (k:=0) (g:=qC) t.cV.F Bq X2 X2 λc A outer s H E b=>?_;have a:=zN b;have nd:=Bq.nd;exact(bF [3,4] (aA (bG 3 nd (cF (w9 X2) X2 t.Qh Fz (aj (ao 1) (aj (ao 2) aB)))) (aA (nO PassesOwn.never X2 (zK (fH (bp X2) X2 t.Xo YJ (aj (ao 0) aB))) (aQ 4 nd) (bF [4] (aA (fj (QF (Fo (bO (of_eq a) (iH a (ao 0) (ao 4)) (ao 1) (aX _)) (zJ (bO (of_eq a) (iH a (ao 0) (ao 4)) (ao 2) (aX _))))) (bF [] (aA (YM 0 a (ao 3) (ao 4)) aG)) (bF [] aG)) aG))) aG)))
theorem Vt:aW ["names","reasons","heads","weight","one","other","number"] ["names","reasons"] (aJ Ld):=gD
theorem Vu(e:qt P w K mg base Fj 1 t.cV.f t.cV.fd ["heads","one","other"] (GM K 2 iJ))(d:Ok P w base t.jR 1 1 jN):Ok P w base t.w6 2 2 wN:=wk (g:=wM) t.w6 Vt λ_ _ _ _ _ _ c a nd=>(aA (bG 2 nd (cg t.jR d c (aj (ao 0) aB))) (aA (CN 1 PassesOwn.never X2 (q8 X2 (cj (aQ 3 nd) (cj (aQ 4 nd) (cj (aQ 5 nd) (cj (aQ 6 nd) mR))))) (bF [3,4,5,6] (aA (Zc 2 e (c.mono ()) X2 t.cV.m t.cV.k t.cV.b (aj (iH a (ao 2) (ao 4)) (aj (iH a (ao 2) (ao 5)) aB))) aG))) (aA (Ja 2) aG)))
theorem Lw:aW ["heads","head"] ["heads","head"] (aJ Bf):=gD
theorem Lx:Ok P w base t.pB 1 2 o7:=wk (g:=oZ) t.pB Lw λ_ _ _ _ _ _ b a nd=>(aA (bD (fH lA X2 t.pD lu (aj (Ke ["name"] (pO ["head","heads"] [1,0]) X2 (ao 0) (λ_ _ _ _=>(bv 2)) (λ_ _ _ _=>(dZ (bO (of_eq a) (iH a (ao 1) (ao 2)) (ao 0) (aX _)))) (λ_ _ _ _=>(ao 2)) (cD)) aB))) aG)
theorem Ng:aW ["heads"] ["heads"] (aJ DR):=gD
theorem Nh(b:Ok P w base t.pB 1 2 o7):Ok P w base t.jT 2 1 jO:=wk (g:=qD) t.jT Ng λ_ _ _ _ _ _ c a nd=>(aA (bD (Ke ["name"] (pO ["heads"] [0]) X2 (ao 0) (λ_ _ _ _=>(bv 1)) (λ_ _ _ _=>(dZ (bO (of_eq a) (iH a (ao 0) (ao 1)) (ao 1) (aX _)))) (λ_ _ _ _=>(ig (cg t.pB b c (aj (ao 0) (aj (ao 1) aB))))) (cD))) aG)
theorem Vv:aW ["names","reasons"] ["names","reasons"] (aJ Lf):=gD
theorem Vw(c:Ok P w base t.w6 2 2 wN)(b:Ok P w base t.jT 2 1 jO):Ok P w base t.xg 3 2 wQ:=wk (g:=wO) t.xg Vv λ_ _ _ _ _ _ a d nd=>(aA (bD (cg t.jT b a (aj (cg t.w6 c a (aj (ao 0) (aj (ao 1) aB))) aB))) aG)
theorem Vx:aW ["ground"] ["ground"] (aJ Lg):=gD
theorem Vy(a:Ok P w base t.xg 3 2 wQ):Ok P w base t.xq 4 1 wU:=wk (g:=wR) t.xq Vx λ_ _ _ _ _ _ b c nd=>(aA (bD (cg t.xg a b (aj (bf (ao 0) aD) (aj (bf (ao 0) aD) aB)))) aG)
theorem Ly:aW ["bars","heads","one","other","bar"] ["bars","heads","one","other"] (aJ Bg):=gD
theorem Lz:Ok P w base t.pC 1 4 o9:=wk (g:=o8) t.pC Ly λ_ _ _ _ _ _ b a nd=>(aA (CN 0 PassesOwn.never X2 (aQ 4 nd) (bF [4] (aA (fj (QF (Fo (QF (QD (bO (of_eq a) (iH a (ao 1) (bf (ao 4) aD)) (ao 2) (aX _)) (JF (bO (of_eq a) (iH a (ao 1) (bf (ao 4) aD)) (ao 3) (aX _))))) (zJ (QF (QD (bO (of_eq a) (iH a (ao 1) (bf (ao 4) aD)) (ao 3) (aX _)) (JF (bO (of_eq a) (iH a (ao 1) (bf (ao 4) aD)) (ao 2) (aX _)))))))) (aA (bD (ao 4)) aG) aG) aG))) (aA (bD uy) aG))
theorem Ni:aW ["ground","names","reasons","bars","heads","kept","barred","reason","one","other","bar"] ["ground"] (aJ DW):=gD
theorem Nj(h:Ok P w base t.pC 1 4 o9)(e:qt P w K mg base Fj 1 t.cV.f t.cV.fd ["heads","one","other"] (GM K 2 iJ))(d:Ok P w base t.jR 1 1 jN)(j:Ok P w base t.jT 2 1 jO):Ok P w base t.qM 3 1 qG:=wk (g:=qF) t.qM Ni λ_ _ _ _ _ _ a c nd=>(aA (Wx (ao 0) (q8 X2 (cj (aQ 1 nd) (cj (aQ 2 nd) (cj (aQ 3 nd) mR))))) (aA (bG 4 nd (cg t.jR d a (aj (ao 1) aB))) (aA (bG 5 nd (eV aB)) (aA (bG 6 nd (eV aB)) (aA (CN 2 PassesOwn.never X2 (aQ 7 nd) (bF [7,8,9,10] (aA (bG 8 nd (iH c (ao 4) (bf (ao 7) aD))) (aA (bG 9 nd (iH c (ao 4) (bf (ao 7) aD))) (aA (fj (bO (JW c) (ao 8) (ao 9) (aX _)) (bF [10] (aA (bG 10 nd (cg t.pC h a (aj (ao 3) (aj (ao 4) (aj (ao 8) (aj (ao 9) aB)))))) (aA (fj (bO Cb (ao 10) uy (aX _)) (bF [] (aA (Zc 4 e (a.mono ()) X2 t.cV.m t.cV.k t.cV.b (aj (ao 8) (aj (ao 9) aB))) (aA (q9 5 (ao 7)) aG))) (bF [] (aA (q9 6 (dj (aj (ao 7) (aj (ao 10) aB)))) aG))) aG))) (bF [10] aG)) aG))))) (Mn (i:=5) (Mn (i:=6) (aA (bD (dj (aj (ig (cg t.jT j a (aj (ao 4) aB))) (aj (ao 5) (aj (ao 6) aB))))) aG))))))))
theorem RZ:aW ["_law_book_here","_law_field","_law_found","_law_row_here","_law_word_here"] ["_law_book_here","_law_field"] (aJ HB):=gD
theorem R0(b:Ok P w base t.dF 1 2 dD):Ok P w base t.ud 2 2 tM:=wk (g:=tL) t.ud RZ λ_ _ _ _ _ _ c a nd=>(aA (bG 2 nd Tx) (aA (CN 0 PassesOwn.never X2 (aQ 3 nd) (bF [3,4] (aA (bG 4 nd (cg t.dF b c (aj (ao 3) (aj (ao 1) aB)))) (aA (fj (bO Dd (ao 4) uy (aX _)) (bF [] (aA (YM 2 a (ao 4) (bf (ao 3) aD)) aG)) (bF [] aG)) aG)))) (aA (Ja 2) aG)))
theorem x4:aW ["book","name","row"] ["book","name"] (aJ Vd):=gD
theorem sw:Ok P w base t.Eh 1 2 Ef:=wk (g:=Ed) t.Eh x4 λ_ _ _ _ _ _ b a nd=>(aA (CN 0 PassesOwn.never X2 (aQ 2 nd) (bF [2] (aA (fj (bO (of_eq a) (bf (ao 2) aD) (ao 1) (aX _)) (aA (bD (ao 2)) aG) aG) aG))) (aA VI aG))
theorem Vz:aW ["rows","field"] ["rows","field"] (aJ Lh):=gD
theorem VB(a:Ok P w base t.dF 1 2 dD):Ok P w base t.ou 2 2 n8:=wk (g:=wV) t.ou Vz λ_ _ _ _ _ _ b c nd=>(aA (bD (iB ["word"] (pO [] []) X2 (d8 (iB ["row"] (pO ["field"] [1]) X2 (d8 (ao 0)) (λ_ _ _ _=>(bv 1)) (λ_ _ _ _=>dw) (λ_ _ _ _=>(ig (cg t.dF a b (aj (ao 1) (aj (ao 0) aB))))) (cD))) (λ_ _ _ _=>(bv 0)) (λ_ _ _ _=>(dZ (bO Dd (ao 0) uy (aX _)))) (λ_ _ _ _=>(ao 0)) (cD))) aG)
theorem Gk:aW ["words"] ["words"] (aJ yd):=gD
theorem Gm:Ok P w base t.fX 1 1 lM:=wk (g:=lK) t.fX Gk λ_ _ _ _ _ _ b a nd=>(aA (bD (cF (Zy X2) X2 t.Vg J0 (aj (ao 0) aB))) aG)
theorem Nk:aW ["words"] ["words"] (aJ DX):=gD
theorem Nm:Ok P w base t.jU 1 1 qI:=wk (g:=qH) t.jU Nk λ_ _ _ _ _ _ b a nd=>(aA (bD (cF (Zx X2) X2 t.Qh Fz (aj (ao 0) aB))) aG)
theorem yr:aW ["words"] ["words"] (aJ yW):=gD
theorem Il:Ok P w base t.fL 1 1 jw:=by
 unfold jw;obtain⟨h,e,b,c⟩:=RD t.Gh;refine IQ (k:=0) (g:=m7) t.fL.F b yr X2 X2 λA outer s H E a=>?_;have d:=zN a;have nd:=yr.nd;exact(aA (bD (U4 Xj (x :="word") (xs:=[]) (is:=[]) (cl:=[]) X2 a.depth (adO (zN a)) X2 t.Qh Fz (Xl X2 X2 X2 X2 X2 X2 trivial X2 trivial) c X2 X2 X2 (λ_ _ _ _=>X2) (ao 0) λf c' s' H'=>(dj (aj (Tz JX (cF nT X2 t.vI nR (aj (ao 0) aB))) (aj (ao 0) aB))))) aG)
theorem Ej:aW ["words"] ["words"] (aJ HD):=gD
theorem R3:Ok P w base t.jy 1 1 pR:=by
 unfold pR;obtain⟨h,e,b,c⟩:=RD t.M6;refine IQ (k:=0) (g:=tO) t.jy.F b Ej X2 X2 λA outer s H E a=>?_;have d:=zN a;have nd:=Ej.nd;exact(aA (bD (U4 Xk (x :="word") (xs:=["words"]) (is:=[0]) (cl:=[("words",s.heap.objs.size+1)]) X2 a.depth UB X2 t.Vg J0 (Xl X2 X2 X2 X2 X2 X2 ⟨rfl,trivial⟩ X2 ⟨⟨rfl,.inl rfl,rfl,_,rfl⟩,trivial⟩) c X2 X2 X2 (λ_ _ _ _=>X2) (ao 0) λf c' s' H'=>(t9 (ao 1) (ao 0)))) aG)
theorem R4:aW ["words"] ["words"] (aJ HF):=gD
theorem R5:Ok P w base t.mJ 1 1 tW:=wk (g:=tU) t.mJ R4 λ_ _ _ _ _ _ b a nd=>(aA (bD (bf (ao 0) (Tz JX aD))) aG)
theorem Np:aW ["words"] ["words"] (aJ DY):=gD
theorem Nq:Ok P w base t.jV 1 1 qK:=wk (g:=qJ) t.jV Np λ_ _ _ _ _ _ b a nd=>(aA (bD (bf (ao 0) aD)) aG)
theorem Xx:aW ["rows","field","how","choose","chosen"] ["rows","field","how"] (aJ Qf):=gD
theorem Xy(e:Ok P w base t.jV 1 1 qK)(f:Ok P w base t.fX 1 1 lM)(m:Ok P w base t.mJ 1 1 tW)(j:Ok P w base t.jU 1 1 qI)(h:Ok P w base t.fL 1 1 jw)(c:Ok P w base t.jy 1 1 pR)(d:Ok P w base t.dF 1 2 dD)(l:Ok P w base t.ou 2 2 n8):Ok P w base t.Ab 3 3 z7:=wk (g:=z6) t.Ab Xx λ_ _ _ _ _ _ a i nd=>(oD 3 4 nd X2 t.aki t.akj (zU e (a.mono ()) t.jV.k t.jV.b (zU m (a.mono ()) t.mJ.k t.mJ.b (zU c (a.mono ()) t.jy.k t.jy.b (zU h (a.mono ()) t.fL.k t.fL.b (zU j (a.mono ()) t.jU.k t.jU.b (zU f (a.mono ()) t.fX.k t.fX.b TZ)))))) (ao 2) (cg t.ou l a (aj (ao 0) (aj (ao 1) aB))) (aA (bD (dj (aj (ao 1) (aj (ao 4) (aj (fH lA X2 t.pD lu (aj (iB ["row"] (pO ["chosen","field"] [4,1]) X2 (d8 (ao 0)) (λ_ _ _ _=>(bv 2)) (λ_ _ _ _=>(dZ (bO (of_eq i) (cg t.dF d a (aj (ao 2) (aj (ao 1) aB))) (ao 0) (aX _)))) (λ_ _ _ _=>(bf (ao 2) aD)) (cD)) aB)) aB))))) aG))
theorem Xz:aW ["book","view","names","rows"] ["book","view","names"] (aJ Qg):=gD
theorem XC(c:Ok P w base t.Eh 1 2 Ef)(b:Ok P w base t.Ab 3 3 z7)(d:Ok P w base t.ou 2 2 n8):Ok P w base t.iZ 4 3 iY:=wk (g:=z8) t.iZ Xz λ_ _ _ _ _ _ a e nd=>(aA (bG 3 nd (iB ["name"] (pO ["book"] [0]) X2 (d8 (ao 2)) (λ_ _ _ _=>(bv 1)) (λ_ _ _ _=>dw) (λ_ _ _ _=>(ig (cg t.Eh c a (aj (ao 0) (aj (ao 1) aB))))) (cD))) (aA (bD (iB ["field","how"] (pO ["rows"] [3]) X2 (d8 (ao 1)) (λ_ _ _ _=>(q8 X2 (cj (bv 1) (cj (bv 2) mR)))) (λ_ _ _ _=>(dZ (JD (cg t.ou d a (aj (ao 0) (aj (ao 1) aB)))))) (λ_ _ _ _=>(ig (cg t.Ab b a (aj (ao 0) (aj (ao 1) (aj (ao 2) aB)))))) (JQ (lq (cD) (lq (cD) CQ))))) aG))
theorem VD:aW ["book","view","sets"] ["book","view","sets"] (aJ Li):=gD
theorem VF(a:Ok P w base t.iZ 4 3 iY):Ok P w base t.oA 5 3 oh:=wk (g:=wW) t.oA VD λ_ _ _ _ _ _ b c nd=>(aA (bD (iB ["names"] (pO ["book","view"] [0,1]) X2 (d8 (ao 2)) (λ_ _ _ _=>(bv 2)) (λ_ _ _ _=>dw) (λ_ _ _ _=>(ig (cg t.iZ a b (aj (ao 0) (aj (ao 1) (aj (ao 2) aB)))))) (cD))) aG)
theorem Gp:aW ["_law_words_here","_law_names_here","_law_told","_law_having","_law_field","_law_word_here","_law_rows"] ["_law_words_here","_law_names_here","_law_told"] (aJ yg):=gD
theorem Gq:Ok P w base t.fY 1 3 fW:=wk (g:=lN) t.fY Gp λ_ _ _ _ _ _ b a nd=>(aA (bG 3 nd (cF Ox X2 t.za uW (aj (iB ["_law_name"] (pO ["_law_words_here"] [0]) X2 (d8 (ao 1)) (λ_ _ _ _=>(bv 1)) (λ_ _ _ _=>(dZ (bO (NA a) (ao 1) (ao 0) (by with_unfolding_all rfl)))) (λ_ _ _ _=>(ao 1)) (cD)) aB))) (aA (fj (bO (of_eq a) (ao 2) (eV aB) (aX _)) (aA (bD (jf (of_eq a) (ao 3) (eV aB) (aX _))) aG) aG) (aA (Wx (bf (ao 2) aD) (q8 X2 (cj (aQ 4 nd) (cj (aQ 5 nd) (cj (aQ 6 nd) mR))))) (aA (fj (QF (Fo (bO (of_eq a) (ao 3) (eV aB) (aX _)) (zJ (bO (of_eq a) (ao 6) (dj aB) (aX _))))) (aA (bD G3) aG) aG) (aA (bD (jf (of_eq a) (fH sT X2 t.Xo YJ (aj (ao 6) aB)) (iB ["_law_name"] (pO ["_law_word_here","_law_words_here"] [5,0]) X2 (d8 (ao 3)) (λ_ _ _ _=>(bv 2)) (λ_ _ _ _=>(dZ (bO (of_eq a) (iH a (ao 1) (ao 2)) (ao 0) (aX _)))) (λ_ _ _ _=>(ao 2)) (cD)) (aX _))) aG)))))
theorem Gr:aW ["_law_book_here","_law_words_here","_law_names_here","_law_field","_law_how"] ["_law_book_here","_law_words_here","_law_names_here","_law_field","_law_how"] (aJ yh):=gD
theorem Gs(b:Ok P w base t.fY 1 3 fW)(c:Ok P w base t.iZ 4 3 iY):Ok P w base t.lV 5 5 lQ:=wk (g:=lO) t.lV Gr λ_ _ _ _ _ _ a d nd=>(aA (bD (cg t.fY b a (aj (ao 1) (aj (ao 2) (aj (ig (cg t.iZ c a (aj (ao 0) (aj (dj (aj (dj (aj (ao 3) (aj (ao 4) aB))) aB)) (aj (ao 2) aB))))) aB))))) aG)
theorem Gu:aW ["_law_how","_law_words_here","_law_told","_law_whole","_law_some_here","_law_word_here","_law_here","_law_counts"] ["_law_how","_law_words_here","_law_told","_law_whole"] (aJ yj):=gD
theorem Gv:Ok P w base t.lW 1 4 lU:=wk (g:=lR) t.lW Gu λ_ _ _ _ _ _ b a nd=>(aA (zM 4 ["_law_one"] (pO [] []) X2 nd (d8 (ao 2)) (λ_ _ _ _=>(bv 0)) (λ_ _ _ _=>(dZ (bO (JW a) (ao 0) (eV aB) (aX _)))) (λ_ _ _ _=>(bf (ao 0) aD)) (cD)) (aA (fj (bO (of_eq a) (ao 3) (eV aB) (aX _)) (aA (bD (jf (of_eq a) (ao 4) (eV aB) (aX _))) aG) aG) (aA (bG 5 nd (bf (bf (ao 3) aD) aD)) (aA (zM 6 ["_law_one"] (pO [] []) X2 nd (d8 (ao 4)) (λ_ _ _ _=>(bv 0)) (λ_ _ _ _=>dw) (λ_ _ _ _=>(bf (ao 0) aD)) (cD)) (aA (fj (bO (of_eq a) (ao 0) bQ (aX _)) (aA (bD (jf (of_eq a) (ao 5) (cF (Zx X2) X2 t.Qh Fz (aj (ao 6) aB)) (aX _))) aG) aG) (aA (fj (bO (of_eq a) (ao 0) bQ (aX _)) (aA (bD (jf (of_eq a) (ao 5) (cF (Zy X2) X2 t.Vg J0 (aj (ao 6) aB)) (aX _))) aG) aG) (aA (fj (bO (of_eq a) (ao 0) bQ (aX _)) (aA (bD (jf (of_eq a) (ao 5) (bf (cF (Vb X2 a) X2 t.Qh Fz (aj (iB ["_law_one"] (pO [] []) X2 (d8 (ao 6)) (λ_ _ _ _=>(bv 0)) (λ_ _ _ _=>dw) (λ_ _ _ _=>(dj (aj (aY ng aD (cF nT X2 t.vI nR (aj (ao 0) aB))) (aj (ao 0) aB)))) (cD)) aB)) aD) (aX _))) aG) aG) (aA (fj (bO (of_eq a) (ao 0) bQ (aX _)) (aA (bD (jf (of_eq a) (ao 5) (bf (cF (Vb X2 a) X2 t.Qh Fz (aj (iB ["_law_one"] (pO [] []) X2 (d8 (ao 4)) (λ_ _ _ _=>(bv 0)) (λ_ _ _ _=>dw) (λ_ _ _ _=>(dj (aj (bf (bf (ao 0) aD) aD) (aj (bf (ao 0) aD) aB)))) (cD)) aB)) aD) (aX _))) aG) aG) (aA (fj (bO (of_eq a) (ao 0) bQ (aX _)) (aA (bD (jf (of_eq a) (ao 5) (bf (cF (du X2 a) X2 t.Vg J0 (aj (iB ["_law_one"] (pO [] []) X2 (d8 (ao 4)) (λ_ _ _ _=>(bv 0)) (λ_ _ _ _=>dw) (λ_ _ _ _=>(dj (aj (bf (bf (ao 0) aD) (Tz JX aD)) (aj (bf (ao 0) aD) aB)))) (cD)) aB)) aD) (aX _))) aG) aG) (aA (zM 7 ["_law_one"] (pO ["_law_words_here"] [1]) X2 nd (d8 (ny X2 X2 t.Xo (ao 1))) (λ_ _ _ _=>(bv 1)) (λ_ _ _ _=>dw) (λ_ _ _ _=>(ig (cF nT X2 t.vI nR (aj (Ke ["_law_name"] (pO ["_law_one","_law_words_here"] [1,0]) X2 (ao 0) (λ_ _ _ _=>(bv 2)) (λ_ _ _ _=>(dZ (bO (of_eq a) (iH a (ao 1) (ao 2)) (ao 0) (aX _)))) (λ_ _ _ _=>(ao 2)) (cD)) aB)))) (cD)) (aA (bD (jf (of_eq a) (cF nT X2 t.vI nR (aj (bf (bf (ao 3) aD) aD) aB)) (cF (UU X2) X2 t.Vg J0 (aj (ao 7) aB)) (aX _))) aG)))))))))))
theorem Ek:aW ["_law_book_here","_law_sets","_law_field","_law_how","_law_words_here","_law_names_here","_law_told","_law_k","_law_alone"] ["_law_book_here","_law_sets","_law_field","_law_how"] (aJ vG):=gD
theorem El(i:Ok P w base t.lW 1 4 lU)(c:Ok P w base t.fY 1 3 fW)(d:Ok P w base t.lV 5 5 lQ)(e:Ok P w base t.ud 2 2 tM)(f:Ok P w base t.iZ 4 3 iY)(h:Ok P w base t.oA 5 3 oh):Ok P w base t.jW 6 4 jQ:=wk (g:=jP) t.jW Ek λ_ _ _ _ _ _ a b nd=>(aA (bG 4 nd (cg t.ud e a (aj (ao 0) (aj (ao 2) aB)))) (aA (bG 5 nd (fH lA X2 t.pD lu (aj (cF Ox X2 t.za uW (aj (iB ["_law_row_here"] (pO [] []) X2 (d8 (ao 0)) (λ_ _ _ _=>(bv 0)) (λ_ _ _ _=>dw) (λ_ _ _ _=>(bf (ao 0) aD)) (cD)) aB)) aB))) (aA (bG 6 nd (cg t.oA h a (aj (ao 0) (aj (dj (aj (dj (aj (ao 2) (aj (ao 3) aB))) aB)) (aj (ao 1) aB))))) (aA (fj (bO (JW b) (cF nT X2 t.vI nR (aj (ao 6) aB)) (cF nT X2 t.vI nR (aj (ao 1) aB)) (aX _)) (aA (bD G3) aG) aG) (aA (nO PassesOwn.never X2 (mU X2 t.qN (aj (cF nT X2 t.vI nR (aj (ao 1) aB)) aB)) (aQ 7 nd) (bF [7,8] (aA (fj (QF (Fo (Wv (JD (cg t.fY c a (aj (ao 4) (aj (bf (ao 1) (ao 7)) (aj (bf (ao 6) (ao 7)) aB)))))) (zJ (Wv (JD (cg t.lV d a (aj (ao 0) (aj (ao 4) (aj (bf (ao 1) (ao 7)) (aj (ao 2) (aj (ao 3) aB))))))))))) (aA (bD G3) aG) aG) (aA (zM 8 ["_law_name"] (pO ["_law_field","_law_words_here"] [2,4]) X2 nd (d8 (bf (ao 1) (ao 7))) (λ_ _ _ _=>(bv 2)) (λ_ _ _ _=>(dZ (bO (NA b) (ao 2) (ao 1) (by with_unfolding_all rfl)))) (λ_ _ _ _=>(dj (aj (ao 0) (aj (iH b (ao 1) (ao 2)) (aj (dj (aj (ao 2) aB)) aB))))) (cD)) (aA (fj (QF (QD (bO (of_eq b) (cF nT X2 t.vI nR (aj (bf (ao 1) (ao 7)) aB)) aD (aX _)) (JF (bO (JW b) (bf (ao 6) (ao 7)) (ao 8) (aX _))))) (aA (bD G3) aG) aG) aG))))) (aA (bD (cg t.lW i a (aj (ao 3) (aj (ao 4) (aj (ao 6) (aj (ig (cg t.iZ f a (aj (ao 0) (aj (dj (aj (dj (aj (ao 2) (aj (ao 3) aB))) aB)) (aj (ao 5) aB))))) aB)))))) aG))))))
theorem e8:aW ["_law_script","_law_book_here","_law_rules_here","_law_ground","_law_view_here","_law_sets","_law_field","_law_how"] ["_law_script"] (aJ s_law):=gD
theorem ri(m:Ok P w base t.wY 3 2 wF)(b:Ok P w base t.jx 1 2 ju)(c:Ok P w base t.fB 1 2 fu)(l:Ok P w base t.uc 1 1 tD)(d:Ok P w base t.w5 1 1 wL)(h:Ok P w base t.jW 6 4 jQ)(o:Ok P w base t.pU 5 2 pQ)(f:Ok P w base t.qM 3 1 qG)(n:Ok P w base t.xq 4 1 wU)(i:Ok P w base t.iZ 4 3 iY)(j:Ok P w base t.oA 5 3 oh):Ok P w base t.x_law 7 1 F_law:=wk (g:=ZV) t.x_law e8 λ_ _ _ _ _ _ a e nd=>(aA (bG 1 nd (J4 (cg t.wY m a (aj (ao 0) (aj aD aB))) rA (rB aD))) (aA (bG 2 nd (cg t.uc l a (aj (ig (cg t.fB c a (aj (ig (cg t.jx b a (aj (ao 0) (aj aD aB)))) (aj aD aB)))) aB))) (aA (bG 3 nd (cg t.pU o a (aj (ao 1) (aj (ao 2) aB)))) (aA (bG 4 nd (cg t.w5 d a (aj (ig (cg t.fB c a (aj (ig (cg t.jx b a (aj (ao 0) (aj aD aB)))) (aj aD aB)))) aB))) (aA (nO PassesOwn.never X2 (zK (eV (aj (ig (cg t.xq n a (aj (ao 3) aB))) (aj (bf (cg t.qM f a (aj (ao 3) aB)) aD) aB)))) (aQ 5 nd) (bF [5,6,7] (aA (nO PassesOwn.never X2 (zK (aY dX (ao 4) (dj (aj (dj (aj bQ (aj bQ aB))) (aj (dj (aj bQ (aj bQ aB))) aB))))) (q8 X2 (cj (aQ 6 nd) (cj (aQ 7 nd) mR))) (bF [6,7] (aA (fj (Wv (JD (cg t.jW h a (aj (ao 1) (aj (ao 5) (aj (ao 6) (aj (ao 7) aB))))))) (aA (bD G3) aG) aG) aG))) (aA (fj (bO (JW e) (cg t.oA j a (aj (ao 1) (aj (ao 4) (aj (ao 5) aB)))) (iB ["_law_names_here"] (pO ["_law_book_here","_law_view_here"] [1,4]) X2 (d8 (ao 5)) (λ_ _ _ _=>(bv 2)) (λ_ _ _ _=>dw) (λ_ _ _ _=>(ig (cg t.iZ i a (aj (ao 0) (aj (ao 1) (aj (ao 2) aB)))))) (cD)) (aX _)) (aA (bD G3) aG) aG) aG)))) (aA (bD G3) aG))))))
theorem EE:Ok P w base t.x_law 7 1 F_law:=by
 have e:=Vi (P:=P) (w:=w) (base:=base) t;have h:=Ln (P:=P) (w:=w) (base:=base) t;have m:=RM (P:=P) (w:=w) (base:=base) t;have U:=Vk (P:=P) (w:=w) (base:=base) t;have D:=Xq (P:=P) (w:=w) (base:=base) t U;have X:=Vm (P:=P) (w:=w) (base:=base) t e m h D;have W:=RQ (P:=P) (w:=w) (base:=base) t;have a:=Xu (P:=P) (w:=w) (base:=base) t;have q:=RV (P:=P) (w:=w) (base:=base) t a;have B:=Lr (P:=P) (w:=w) (base:=base) t a;have I:=M8 (P:=P) (w:=w) (base:=base) t a;have S:=c5 (P:=P) (w:=w) (base:=base) t q I B;have N:=Xw (P:=P) (w:=w) (base:=base) t S;have J:=Vo (P:=P) (w:=w) (base:=base) t;have A:=Vq (P:=P) (w:=w) (base:=base) t J;have p:=RX (P:=P) (w:=w) (base:=base) t A N;have K:=Vs (P:=P) (w:=w) (base:=base) t;have d:=Nb (P:=P) (w:=w) (base:=base) t;have g:=Nf (P:=P) (w:=w) (base:=base) t;have G:=Vu (P:=P) (w:=w) (base:=base) t g d;have H:=Lx (P:=P) (w:=w) (base:=base) t;have j:=Nh (P:=P) (w:=w) (base:=base) t H;have v:=Vw (P:=P) (w:=w) (base:=base) t G j;have Ck:=Vy (P:=P) (w:=w) (base:=base) t v;have n:=Lz (P:=P) (w:=w) (base:=base) t;have M:=Nj (P:=P) (w:=w) (base:=base) t n g d j;have E:=R0 (P:=P) (w:=w) (base:=base) t a;have C:=sw (P:=P) (w:=w) (base:=base) t;have f:=VB (P:=P) (w:=w) (base:=base) t a;have y:=Gm (P:=P) (w:=w) (base:=base) t;have o:=Nm (P:=P) (w:=w) (base:=base) t;have F:=Il (P:=P) (w:=w) (base:=base) t;have l:=R3 (P:=P) (w:=w) (base:=base) t;have s:=R5 (P:=P) (w:=w) (base:=base) t;have L:=Nq (P:=P) (w:=w) (base:=base) t;have z:=Xy (P:=P) (w:=w) (base:=base) t L y s o F l a f;have b:=XC (P:=P) (w:=w) (base:=base) t C z f;have i:=VF (P:=P) (w:=w) (base:=base) t b;have c:=Gq (P:=P) (w:=w) (base:=base) t;have x:=Gs (P:=P) (w:=w) (base:=base) t c b;have qd:=Gv (P:=P) (w:=w) (base:=base) t;have Q:=El (P:=P) (w:=w) (base:=base) t qd c x E b i;have u:=ri (P:=P) (w:=w) (base:=base) t X e h W K Q p M Ck b i;exact u
end
end G69
end
section
set_option synthInstance.maxSize 100000
namespace G69
open L2 P1
noncomputable section
def Br(a:Int)(b:Int):Int:=(let a:=(((a*69621)+b)%2147483647);a)
theorem Nr(d:BB)(e:Lp dH (d.map eI))(c:Int)(a:Int)(b:Int):RP Bh [Z dH,Z (zE eI c),Z (zE eI a),Z (zE eI b)] (λs=>Ap.nx ((λa:Int=>[Z dH,Z (zE eI c),Z (zE eI a),X9]) s)) (Br  a b) (X9):=R.tp (bI (bU 2 (dG (kW (Ze (au 2 (zE eI) a X2) 69621 ()) (au 3 (zE eI) b X2)) 2147483647 ()) (λ_=>X2) λa=>(bW (bR a X2))))
def bw(c:BB)(b:Int):Int:=(if(decide (b<(c.length:Int)))=true then(at' c b)else(let a:=((48271*(((b*b)+(7*b))+11))%2147483647);(let a:Int:=((C5 c X9 (Z 3)).foldl (λ(a:Int) (d:Int)=>(Br  a d)) a);a)))
def jA(b:BB)(a:Int):Prop:=(((decide (a<(b.length:Int)))=true->In b.length a)/\((decide (a<(b.length:Int)))=false->Gc a a))
theorem XD(b:BB)(d:Lp dH (b.map eI))(a:Int):RP wA [Z dH,Z (zE eI a),X9,X9] (λr=>Ap.rt (zE eI r)) (bw b a) (Z (jA b a)):=R.tp (kY (cP (SC (au 1 (zE eI) a X2) (C0 (cT 0 eI b d X2)))) (bI (bZ (λr=>r) (iT (cT 0 eI b d X2) (au 1 (zE eI) a X2)) (λ_=>X2) λ_=>X2)) (bW (bU 2 (dG (Ro 48271 () (kW (kW (Nc (au 1 (zE eI) a X2) (au 1 (zE eI) a X2)) (Ro 7 () (au 1 (zE eI) a X2))) (B8 11))) 2147483647 ()) (λ_=>X2) λc=>(UN (λc:Int=>[Z dH,Z (zE eI a),Z (zE eI c),X9]) c X2 (GY (T1 (cT 0 eI b d X2) W9 (Xa (B8 3)))) _ (λ_ _=>X2) (λ(c:Int) (e:Int)=>(Nr b d a c e).r) (λ_ _=>X2) λc=>(bZ (λr=>r) (au 2 (zE eI) c X2) (λ_=>X2) λ_=>X2)))))
theorem xK:∀v bs,(aL eI (aZ eI aN)) v bs->bs.length=2/\(hold (Z (jA v.1 v.2.1))->ju (bs.map lend)=Z ((zE eI) (bw v.1 v.2.1))):=by
 rintro⟨b,a,_⟩ _ ⟨dH,_,rfl,c,⟨_,rfl,rfl⟩⟩;exact⟨rfl,λh=>bL (g:=wA) (n:=4) (bs:=[lend dH,.z (eI a)]) (XD b (kO c) a) h⟩
def cW(a:Int×BB×Int)(e:Int):Int×BB×Int:=(let b:=((((a.1*((a.1%65521)+40487))+(7*e))+5)%1999999973);(let d:=a.2.1++[(at' [b,(a.2.2%1000000)] (if(decide ((0:Int)<a.2.2))=true then(1:Int)else 0))];(let c:=(a.2.2 / (1000000:Int));(b,d,c))))
def j4(a:Int×BB×Int)(c:Int):Prop:=(Gc a.1 ((a.1%65521)+40487)/\(let b:=((((a.1*((a.1%65521)+40487))+(7*c))+5)%1999999973);(In [b,(a.2.2%1000000)].length (if(decide ((0:Int)<a.2.2))=true then(1:Int)else 0)/\MK a.2.1.length)))
theorem Gw(d:Int)(c:Int)(a:Int×BB×Int)(b:Int):RP n6 [Z (zE eI d),Z (zE eI c),Z ((oE eI) a.2.1),Z ((zE eI) a.1),Z ((zE eI) a.2.2),Z (zE eI b)] (λs=>Ap.nx ((λa:Int×BB×Int=>[Z (zE eI d),Z (zE eI c),Z ((oE eI) a.2.1),Z ((zE eI) a.1),Z ((zE eI) a.2.2),X9]) s)) (cW  a b) (Z (j4  a b)):=R.tp (bI (bU 3 (dG (kW (kW (Nc (au 3 (zE eI) a.1 X2) (kW (dG (au 3 (zE eI) a.1 X2) 65521 ()) (B8 40487))) (Ro 7 () (au 5 (zE eI) b X2))) (B8 5)) 1999999973 ()) (λ_=>X2) λe=>(bI (yR 2 a.2.1 X2 (iT (kZ (iR (aP (au 3 (zE eI) e X2) (aP (dG (au 4 (zE eI) a.2.2 X2) 1000000 ()) (cU eI))) (zw X2))) (Y' (PZ (au 4 (zE eI) a.2.2 X2) (B8 0)))) λf=>(bI (bU 4 (jL (au 4 (zE eI) a.2.2 X2) 1000000 ()) (λ_=>X2) λg=>(bW (bR (e,f,g) X2))))))))
def j5(g:Int)(b:Int)(c:BB)(f:Int)(d:Int):BB:=(let a:Int×BB×Int:=((rng 0 b.toNat).foldl (λ(a:Int×BB×Int) (e:Int)=>(cW  a e)) (f,c,d));a.2.1)
def oJ(g:Int)(c:Int)(d:BB)(f:Int)(e:Int):Prop:=(Rg c/\sJ (λ(b:Int×BB×Int) (a:Int)=>(cW  b a)) (λ(b:Int×BB×Int) (a:Int)=>Z (j4  b a)) (rng 0 c.toNat) (f,d,e))
def Gx:Ev->Y Ap:=(aF (rC (Wg (aq (gv 1) aH)) (kJ 5) n6) (aF (JL 2) cZ))
theorem Gy(c:Int)(b:Int)(d:BB)(f:Int)(e:Int):RP Gx [Z (zE eI c),Z (zE eI b),Z (oE eI d),Z (zE eI f),Z (zE eI e),X9] (λr=>Ap.rt (oE eI r)) (j5 c b d f e) (Z (oJ c b d f e)):=R.tp (Ho (λa:Int×BB×Int=>[Z (zE eI c),Z (zE eI b),Z ((oE eI) a.2.1),Z ((zE eI) a.1),Z ((zE eI) a.2.2),X9]) (f,d,e) X2 (Hl (au 1 (zE eI) b X2)) _ (λ_ _=>X2) (λ(a:Int×BB×Int) (g:Int)=>(Gw c b a g).r) λa=>(Rr 2 (λr=>r) a.2.1 X2 (λ_=>X2) λ_=>X2))
def aV(a:Int)(c:Int):BB:=(let d:=([]:O Int);(let e:=((((a%1999999973)+31)*765432101)%1999999973);(let b:=(0:Int);(let b:Int:=(if((decide (a<0))||(decide (((10:Int) ^ 18)<=a)))=true then(let b:=(if a<0 then -a else a);b)else b);(j5 a c d e b)))))
def gG(a:Int)(c:Int):Prop:=(let d:=([]:O Int);(let e:=((((a%1999999973)+31)*765432101)%1999999973);(let b:=(0:Int);(let b:Int:=(if((decide (a<0))||(decide (((10:Int) ^ 18)<=a)))=true then(let b:=(if a<0 then -a else a);b)else b);(oJ a c d e b)))))
theorem Nt(a:Int)(c:Int):RP oW [Z (zE eI a),Z (zE eI c),X9,X9,X9,X9] (λr=>Ap.rt (oE eI r)) (aV a c) (Z (gG a c)):=R.tp (bU 2 (iR (cU eI) (zw X2)) (λ_=>X2) λd=>(bU 3 (dG (Ze (kW (dG (au 0 (zE eI) a X2) 1999999973 ()) (B8 31)) 765432101 ()) 1999999973 ()) (λ_=>X2) λe=>(bU 4 (B8 0) (λ_=>X2) λb=>(Az (λb:Int=>[Z (zE eI a),Z (zE eI c),Z (oE eI d),Z (zE eI e),Z (zE eI b),X9]) (ES (cP (SC (au 0 (zE eI) a X2) (B8 0))) (cP (Do (au 0 (zE eI) a X2) (bz 10 18 18 () X2)))) (bI (bU 4 (l6 (au 0 (zE eI) a X2)) (λ_=>X2) λb=>(bW (bR b X2)))) (bW (bR b X2)) λb=>(Gy a c d e b).r))))
theorem pF:∀v bs,(aZ eI (aZ eI aN)) v bs->bs.length=2/\(hold (Z (gG v.1 v.2.1))->fu (bs.map lend)=Z ((oE eI) (aV v.1 v.2.1))):=by
 rintro⟨a,b,_⟩ _ ⟨_,rfl,⟨_,rfl,rfl⟩⟩;exact⟨rfl,λh=>bL (g:=oW) (n:=6) (bs:=[.z (eI a),.z (eI b)]) (Nt a b) h⟩
def fM(g:BB)(d:AJ)(e:AJ)(f:Int)(b:AZ)(c:Int):AZ:=(let h:=(ch d ((c+(at' g 2))%15));(let a:=(((Txt.slice e X9 (Z f))++h)++(Txt.slice e (Z f) X9));(let a:AJ:=(if(decide (((at' g 3)%3)=1))=true then(let a:=(Txt.mul (ch d (c / (8:Int))) (1+(c%8)));a)else a);(let b:=b++[a];b))))
def m9(b:BB)(c:AJ)(d:AJ)(e:Int)(h:AZ)(a:Int):Prop:=((In b.length 2/\In c.length ((a+(at' b 2))%15))/\(let g:=(ch c ((a+(at' b 2))%15));((MK ((Txt.slice d X9 (Z e)).length+g.length)/\MK (((Txt.slice d X9 (Z e))++g).length+(Txt.slice d (Z e) X9).length))/\(let f:=(((Txt.slice d X9 (Z e))++g)++(Txt.slice d (Z e) X9));((In b.length 3/\((decide (((at' b 3)%3)=1))=true->(In c.length (a / (8:Int))/\((1+(a%8))<=1000 ∧ -1000<=(1+(a%8))/\(ch c (a / (8:Int))).length<=1000))))/\(let f:AJ:=(if(decide (((at' b 3)%3)=1))=true then(let f:=(Txt.mul (ch c (a / (8:Int))) (1+(a%8)));f)else f);MK h.length))))))
theorem LK(g:BB)(i:Lp dH (g.map eI))(h:Int)(d:AJ)(e:AJ)(f:Int)(a:AZ)(b:Int):RP rM [Z dH,Z (zE eI h),Z (zE eS d),Z (zE eS e),Z (zE eI f),Z (oE eS a),Z (zE eI b),X9,X9] (λs=>Ap.nx ((λa:AZ=>[Z dH,Z (zE eI h),Z (zE eS d),Z (zE eS e),Z (zE eI f),Z (oE eS a),X9,X9,X9]) s)) (fM g d e f a b) (Z (m9 g d e f a b)):=R.tp (bI (bU 7 (Zg (au 2 (zE eS) d X2) (dG (kW (au 6 (zE eI) b X2) (iT (cT 0 eI g i X2) (B8 2))) 15 ())) (λ_=>X2) λj=>(bI (bU 8 (Rq (Rq (Zi (au 3 (zE eS) e X2) W9 (Xa (au 4 (zE eI) f X2))) (au 7 (zE eS) j X2)) (Zi (au 3 (zE eS) e X2) (Xa (au 4 (zE eI) f X2)) W9)) (λ_=>X2) λc=>(bI (Az (λc:AJ=>[Z dH,Z (zE eI h),Z (zE eS d),Z (zE eS e),Z (zE eI f),Z (oE eS a),Z (zE eI b),Z (zE eS j),Z (zE eS c)]) (cP (B9 () (dG (iT (cT 0 eI g i X2) (B8 3)) 3 ()) (B8 1))) (bI (bU 8 (UC (Zg (au 2 (zE eS) d X2) (jL (au 6 (zE eI) b X2) 8 ())) (kW (B8 1) (dG (au 6 (zE eI) b X2) 8 ()))) (λ_=>X2) λc=>(bW (bR c X2)))) (bW (bR c X2)) λc=>(bI (yR 5 a X2 (au 8 (zE eS) c X2) λa=>(bW (bR a X2))))))))))
def ni(c:BB)(d:Int)(f:AJ)(b:AJ):AZ:=(let g:=((at' c 1)%((b.length:Int)+1));(let a:=([]:AZ);(let a:AZ:=((rng 0 d.toNat).foldl (λ(a:AZ) (e:Int)=>(fM c f b g a e)) a);a)))
def rP(c:BB)(e:Int)(f:AJ)(b:AJ):Prop:=((In c.length 1/\0<((b.length:Int)+1))/\(let g:=((at' c 1)%((b.length:Int)+1));(let a:=([]:AZ);(Rg e/\sJ (λ(a:AZ) (d:Int)=>(fM c f b g a d)) (λ(a:AZ) (d:Int)=>Z (m9 c f b g a d)) (rng 0 e.toNat) a))))
def LQ:Ev->Y Ap:=(aF (B0 4 (b2 jj (b2 eY (gv 0) (cB (.int 1))) (b2 iG (cN sG (aq (gv 3) aH)) (cB (.int 1))))) (aF (B0 5 (cN mO aH)) (aF (rC (Wg (aq (gv 1) aH)) (kJ 6) rM) (aF (JL 5) cZ))))
theorem LR(e:BB)(f:Lp dH (e.map eI))(b:Int)(d:AJ)(c:AJ):RP LQ [Z dH,Z (zE eI b),Z (zE eS d),Z (zE eS c),X9,X9,X9,X9,X9] (λr=>Ap.rt (oE eS r)) (ni e b d c) (Z (rP e b d c)):=R.tp (bU 4 (NL (iT (cT 0 eI e f X2) (B8 1)) (kW (KC (au 3 (zE eS) c X2)) (B8 1))) (λ_=>X2) λg=>(bU 5 (iR (cU eS) (zw X2)) (λ_=>X2) λa=>(Ho (λa:AZ=>[Z dH,Z (zE eI b),Z (zE eS d),Z (zE eS c),Z (zE eI g),Z (oE eS a),X9,X9,X9]) a X2 (Hl (au 1 (zE eI) b X2)) _ (λ_ _=>X2) (λ(a:AZ) (h:Int)=>(LK e f b d c g a h).r) λa=>(Rr 5 (λr=>r) a X2 (λ_=>X2) λ_=>X2))))
def fG(a:BB)(c:Int):AZ:=(let b:=("abcdefghijklmnopqrstuvwxyz":AJ);(let e:=(Txt.join "" ((rng 0 ((at' a 0)%6).toNat).map λd:Int=>(ch b (((at' a d) / (40:Int))%26))));(ni a c b e)))
def uf(a:BB)(d:Int):Prop:=(let c:=("abcdefghijklmnopqrstuvwxyz":AJ);(((((In a.length 0/\Rg ((at' a 0)%6))/\(rng 0 ((at' a 0)%6).toNat).length<=100000)/\(∀b∈(rng 0 ((at' a 0)%6).toNat),(In a.length b/\In c.length (((at' a b) / (40:Int))%26))))/\(((rng 0 ((at' a 0)%6).toNat).map λb:Int=>(ch c (((at' a b) / (40:Int))%26))).map (·.length)).sum+((rng 0 ((at' a 0)%6).toNat).map λb:Int=>(ch c (((at' a b) / (40:Int))%26))).length*("":AJ).length<=100000)/\(let e:=(Txt.join "" ((rng 0 ((at' a 0)%6).toNat).map λb:Int=>(ch c (((at' a b) / (40:Int))%26))));(rP a d c e))))
theorem VG(a:BB)(b:Lp dH (a.map eI))(c:Int):RP sZ [Z dH,Z (zE eI c),X9,X9,X9,X9,X9,X9,X9] (λr=>Ap.rt (oE eS r)) (fG a c) (Z (uf a c)):=R.tp (bU 2 (vO "abcdefghijklmnopqrstuvwxyz") (λ_=>X2) λd=>(bU 3 (aa "" (kZ (yQ (Hl (dG (iT (cT 0 eI a b X2) (B8 0)) 6 ())) _ (λ_=>X2) (λe:Int=>(Zg (au 0 (zE eS) d X2) (dG (jL (iT (cT 1 eI a b (congrArg Z (b.get X2))) (au 2 (zE eI) e X2)) 40 ()) 26 ())))))) (λ_=>X2) λf=>(LR a b c d f).r))
theorem VH:∀v bs,(aL eI (aZ eI aN)) v bs->bs.length=2/\(hold (Z (uf v.1 v.2.1))->tu (bs.map lend)=Z ((oE eS) (fG v.1 v.2.1))):=by
 rintro⟨b,a,_⟩ _ ⟨dH,_,rfl,c,⟨_,rfl,rfl⟩⟩;exact⟨rfl,λh=>bL (g:=sZ) (n:=9) (bs:=[lend dH,.z (eI a)]) (VG b (kO c) a) h⟩
def lC(b:Int)(a:AJ)(c:Int):AJ:=(let a:=(a++(ch ("ab1":AJ) (((b / (16:Int)) / (at' [(1:Int),(3:Int),(9:Int),(27:Int)] c))%3)));a)
def pG(b:Int)(c:AJ)(a:Int):Prop:=(((In [(1:Int),(3:Int),(9:Int),(27:Int)].length a/\(0<(at' [(1:Int),(3:Int),(9:Int),(27:Int)] a)/\(at' [(1:Int),(3:Int),(9:Int),(27:Int)] a)<1073741824))/\In ("ab1":AJ).length (((b / (16:Int)) / (at' [(1:Int),(3:Int),(9:Int),(27:Int)] a))%3))/\MK (c.length+(ch ("ab1":AJ) (((b / (16:Int)) / (at' [(1:Int),(3:Int),(9:Int),(27:Int)] a))%3)).length))
theorem Nu(b:Int)(a:AJ)(c:Int):RP Bj [Z (zE eI b),Z (zE eS a),Z (zE eI c)] (λs=>Ap.nx ((λa:AJ=>[Z (zE eI b),Z (zE eS a),X9]) s)) (lC b a c) (Z (pG b a c)):=R.tp (bI (bU 1 (Rq (au 1 (zE eS) a X2) (Zg (vO "ab1") (dG (RY (jL (au 0 (zE eI) b X2) 16 ()) (iT (kZ (iR (aP (B8 1) (aP (B8 3) (aP (B8 9) (aP (B8 27) (cU eI))))) (zw X2))) (au 2 (zE eI) c X2))) 3 ()))) (λ_=>X2) λa=>(bW (bR a X2))))
def Cm(b:Int):AJ:=(if(decide ((b%4)=0))=true then(at' [("a":AJ),("ab":AJ),("abc":AJ),("b":AJ),("1":AJ),("12":AJ),("a1":AJ)] ((b / (4:Int))%7))else(let a:=("":AJ);(let a:AJ:=((rng 0 (1+((b / (4:Int))%4)).toNat).foldl (λ(a:AJ) (c:Int)=>(lC b a c)) a);a)))
def xM(a:Int):Prop:=(((decide ((a%4)=0))=true->In [("a":AJ),("ab":AJ),("abc":AJ),("b":AJ),("1":AJ),("12":AJ),("a1":AJ)].length ((a / (4:Int))%7))/\((decide ((a%4)=0))=false->(let b:=("":AJ);(Rg (1+((a / (4:Int))%4))/\sJ (λ(b:AJ) (c:Int)=>(lC a b c)) (λ(b:AJ) (c:Int)=>Z (pG a b c)) (rng 0 (1+((a / (4:Int))%4)).toNat) b))))
theorem XF(a:Int):RP wB [Z (zE eI a),X9,X9] (λr=>Ap.rt (zE eS r)) (Cm a) (Z (xM a)):=R.tp (kY (cP (B9 () (dG (au 0 (zE eI) a X2) 4 ()) (B8 0))) (bI (bZ (λr=>r) (iT (kZ (iR (aP (vO "a") (aP (vO "ab") (aP (vO "abc") (aP (vO "b") (aP (vO "1") (aP (vO "12") (aP (vO "a1") (cU eS)))))))) (zw X2))) (dG (jL (au 0 (zE eI) a X2) 4 ()) 7 ())) (λ_=>X2) λ_=>X2)) (bW (bU 1 (vO "") (λ_=>X2) λb=>(Ho (λb:AJ=>[Z (zE eI a),Z (zE eS b),X9]) b X2 (Hl (kW (B8 1) (dG (jL (au 0 (zE eI) a X2) 4 ()) 4 ()))) _ (λ_ _=>X2) (λ(b:AJ) (c:Int)=>(Nu a b c).r) λb=>(bZ (λr=>r) (au 1 (zE eS) b X2) (λ_=>X2) λ_=>X2)))))
theorem XH:∀v bs,(aZ eI aN) v bs->bs.length=1/\(hold (Z (xM v.1))->wC (bs.map lend)=Z ((zE eS) (Cm v.1))):=by
 rintro⟨a,_⟩ _ ⟨_,rfl,rfl⟩;exact⟨rfl,λh=>bL (g:=wB) (n:=3) (bs:=[.z (eI a)]) (XF a) h⟩
def j6(c:BB)(d:AZ)(a:O dJ)(b:Int):(O dJ):=(let a:(O dJ):=(if(decide ((0:Int)<((at' c b)%4)))=true then(let a:=a++[((at' d b),(Cm ((at' c b) / (4:Int))))];a)else a);a)
def qO(b:BB)(c:AZ)(d:O dJ)(a:Int):Prop:=(In b.length a/\((decide ((0:Int)<((at' b a)%4)))=true->((In c.length a/\(In b.length a/\(xM ((at' b a) / (4:Int)))))/\MK d.length)))
theorem R6(f:AJ)(d:BB){e:Bx}(g:Lp e (d.map eI))(c:AZ)(a:O dJ)(b:Int):RP Ea [Z (zE eS f),Z e,Z (oE eS c),Z (oE gQ a),Z (zE eI b)] (λs=>Ap.nx ((λa:(O dJ)=>[Z (zE eS f),Z e,Z (oE eS c),Z (oE gQ a),X9]) s)) (j6 d c a b) (Z (qO d c a b)):=R.tp (bI (Az (λa:(O dJ)=>[Z (zE eS f),Z e,Z (oE eS c),Z (oE gQ a),Z (zE eI b)]) (cP (PZ (dG (iT (cT 1 eI d g X2) (au 4 (zE eI) b X2)) 4 ()) (B8 0))) (bI (yR 3 a X2 (mY (iT (jg (au 2 (lE eS) c X2)) (au 4 (zE eI) b X2)) (pP (An XH (bM (jL (iT (cT 1 eI d g X2) (au 4 (zE eI) b X2)) 4 ()) bx)))) λa=>(bW (bR a X2)))) (bW (bR a X2)) λa=>(bW (bR a X2))))
def oK(d:AJ)(e:BB):bh:=(let b:=[("day":AJ),("name":AJ),(("name":AJ)++("s":AJ)),("p":AJ)];(let a:=([]:O dJ);(let a:(O dJ):=((rng 0 (kN 4)).foldl (λ(a:O dJ) (c:Int)=>(j6 e b a c)) a);(d,a))))
def vJ(e:AJ)(d:BB):Prop:=(MK (("name":AJ).length+("s":AJ).length)/\(let c:=[("day":AJ),("name":AJ),(("name":AJ)++("s":AJ)),("p":AJ)];(let a:=([]:O dJ);sJ (λ(a:O dJ) (b:Int)=>(j6 d c a b)) (λ(a:O dJ) (b:Int)=>Z (qO d c a b)) (rng 0 (kN 4)) a)))
theorem aw(b:AJ)(c:BB){d:Bx}(f:Lp d (c.map eI)):RP zV [Z (zE eS b),Z d,X9,X9,X9] (λr=>Ap.rt (zE aR r)) (oK b c) (Z (vJ b c)):=R.tp (bU 2 (iR (aP (vO "day") (aP (vO "name") (aP (pP (Rq (vO "name") (vO "s"))) (aP (vO "p") (cU eS))))) (zw X2)) (λ_=>X2) λe=>(bU 3 (iR (cU gQ) (zw X2)) (λ_=>X2) λa=>(Ho (λa:(O dJ)=>[Z (zE eS b),Z d,Z (oE eS e),Z (oE gQ a),X9]) a X2 (UM 4 4 X2 (by unfold Rg;decide)) _ (λ_ _=>X2) (λ(a:O dJ) (g:Int)=>(R6 b c f e a g).r) λa=>(bZ (λr=>r) (mY (au 0 (zE eS) b X2) (oU (jg (au 3 (lE gQ) a X2)))) (λ_=>X2) λ_=>X2))))
theorem TW:∀v bs,(aZ eS (aL eI aN)) v bs->bs.length=2/\(hold (Z (vJ v.1 v.2.1))->zW (bs.map lend)=Z ((zE aR) (oK v.1 v.2.1))):=by
 rintro⟨a,c,_⟩ _ ⟨_,rfl,⟨d,_,rfl,b,rfl⟩⟩;exact⟨rfl,λh=>bL (g:=zV) (n:=5) (bs:=[.z (eS a),lend d]) (aw a c (kO b)) h⟩
def pH(c:BB)(e:BB)(d:AZ)(a:O bh)(b:Int):(O bh):=(let a:=a++[(oK (at' d (((4*b)+(at' e 7))%15)) (aV (bw c (1+b)) 4))];a)
def uM(b:BB)(c:BB)(d:AZ)(e:O bh)(a:Int):Prop:=((((In c.length 7/\In d.length (((4*a)+(at' c 7))%15))/\((jA b (1+a))/\(gG (bw b (1+a)) 4)))/\(vJ (at' d (((4*a)+(at' c 7))%15)) (aV (bw b (1+a)) 4)))/\MK e.length)
theorem Nv(e:BB)(h:Lp dH (e.map eI))(g:Int)(d:BB)(c:AZ)(f:Int)(a:O bh)(b:Int):RP Bl [Z dH,Z (zE eI g),Z (oE eI d),Z (oE eS c),Z (zE eI f),Z (oE aR a),Z (zE eI b)] (λs=>Ap.nx ((λa:(O bh)=>[Z dH,Z (zE eI g),Z (oE eI d),Z (oE eS c),Z (zE eI f),Z (oE aR a),X9]) s)) (pH e d c a b) (Z (uM e d c a b)):=R.tp (bI (yR 5 a X2 (pP (An TW (bM (iT (jg (au 3 (lE eS) c X2)) (dG (kW (Ro 4 () (au 6 (zE eI) b X2)) (iT (jg (au 2 (lE eI) d X2)) (B8 7))) 15 ())) (uG (Ii (Rm (An pF (bM (pP (An xK (uG (cT 0 eI e h X2) (bM (pP (kW (B8 1) (au 6 (zE eI) b X2))) bx)))) (bM (B8 4) bx))))) bx)))) λa=>(bW (bR a X2))))
def d7(c:BB)(d:Int):(O bh):=(let b:=(aV (bw c 0) 9);(let g:=(fG b 15);(let e:=(at' [(1:Int),(2:Int),(5:Int),(8:Int),d,d] ((at' b 6)%6));(let a:=([]:O bh);(let a:(O bh):=((rng 0 e.toNat).foldl (λ(a:O bh) (f:Int)=>(pH c b g a f)) a);a)))))
def xO(c:BB)(d:Int):Prop:=(((jA c 0)/\(gG (bw c 0) 9))/\(let a:=(aV (bw c 0) 9);((uf a 15)/\(let g:=(fG a 15);((In a.length 6/\In [(1:Int),(2:Int),(5:Int),(8:Int),d,d].length ((at' a 6)%6))/\(let f:=(at' [(1:Int),(2:Int),(5:Int),(8:Int),d,d] ((at' a 6)%6));(let b:=([]:O bh);(Rg f/\sJ (λ(b:O bh) (e:Int)=>(pH c a g b e)) (λ(b:O bh) (e:Int)=>Z (uM c a g b e)) (rng 0 f.toNat) b))))))))
theorem XJ(c:BB)(f:Lp dH (c.map eI))(b:Int):RP wD [Z dH,Z (zE eI b),X9,X9,X9,X9,X9] (λr=>Ap.rt ((zE (eT aR)) r)) (d7 c b) (Z (xO c b)):=R.tp (bU 2 (An pF (bM (pP (An xK (uG (cT 0 eI c f X2) (bM (B8 0) bx)))) (bM (B8 9) bx))) (λ_=>X2) λd=>(bU 3 (An VH (uG (jg (au 2 (lE eI) d X2)) (bM (B8 15) bx))) (λ_=>X2) λg=>(bU 4 (iT (kZ (iR (aP (B8 1) (aP (B8 2) (aP (B8 5) (aP (B8 8) (aP (au 1 (zE eI) b X2) (aP (au 1 (zE eI) b X2) (cU eI))))))) (zw X2))) (dG (iT (jg (au 2 (lE eI) d X2)) (B8 6)) 6 ())) (λ_=>X2) λe=>(bU 5 (iR (cU aR) (zw X2)) (λ_=>X2) λa=>(Ho (λa:(O bh)=>[Z dH,Z (zE eI b),Z (oE eI d),Z (oE eS g),Z (zE eI e),Z (oE aR a),X9]) a X2 (Hl (au 4 (zE eI) e X2)) _ (λ_ _=>X2) (λ(a:O bh) (h:Int)=>(Nv c f b d g e a h).r) λa=>(bZ (λr=>r) (oU (jg (au 5 (lE aR) a X2))) (λ_=>X2) λ_=>X2))))))
theorem XM:∀v bs,(aL eI (aZ eI aN)) v bs->bs.length=2/\(hold (Z (xO v.1 v.2.1))->wF (bs.map lend)=Z ((zE (eT aR)) (d7 v.1 v.2.1))):=by
 rintro⟨b,a,_⟩ _ ⟨dH,_,rfl,c,⟨_,rfl,rfl⟩⟩;exact⟨rfl,λh=>bL (g:=wD) (n:=7) (bs:=[lend dH,.z (eI a)]) (XJ b (kO c) a) h⟩
def fO(h:BB)(e:AZ)(a:BT)(g:Int):BT:=(let b:=(at' h (1+g));(let y1:=(at' e (b%5));let y2:=(at' e (((b+1)+((b / (5:Int))%4))%5));let vo:=y1;let f:=y2;(let d:=(at' [(1+((b / (300:Int))%3)),(1+((b / (300:Int))%1000))] ((b / (7:Int))%2));(let c:=((b / (20:Int))%5);(let a:BT:=(if(decide (c=0))=true then(let a:=a++[(Dt.tup [(Dt.str "never"),(eS vo)])];a)else(let a:BT:=(if(decide (c=1))=true then(let a:=a++[(Dt.tup [(Dt.str "begin"),(eS vo),(eI (1+((b / (100:Int))%3))),(eI d)])];a)else(let a:BT:=(if(decide (c=2))=true then(let a:=a++[(Dt.tup [(Dt.str "both"),(eS vo),(eS f),(eI d)])];a)else(let a:=a++[(Dt.tup [(Dt.str "same"),(eS vo),(eI d)])];a));a));a));a)))))
def jB(f:BB)(c:AZ)(d:BT)(e:Int):Prop:=(In f.length (1+e)/\(let a:=(at' f (1+e));((In c.length (a%5)/\In c.length (((a+1)+((a / (5:Int))%4))%5))/\(let y1:=(at' c (a%5));let y2:=(at' c (((a+1)+((a / (5:Int))%4))%5));let vo:=y1;let g:=y2;(In [(1+((a / (300:Int))%3)),(1+((a / (300:Int))%1000))].length ((a / (7:Int))%2)/\(let h:=(at' [(1+((a / (300:Int))%3)),(1+((a / (300:Int))%1000))] ((a / (7:Int))%2));(let b:=((a / (20:Int))%5);(((decide (b=0))=true->MK d.length)/\((decide (b=0))=false->(((decide (b=1))=true->MK d.length)/\((decide (b=1))=false->(((decide (b=2))=true->MK d.length)/\((decide (b=2))=false->MK d.length)))))))))))))
theorem Ma(h:BB)(i:Lp dH (h.map eI))(c:AZ)(a:BT)(d:Int):RP yX [Z dH,Z (oE eS c),Z (oE eD a),Z (zE eI d),X9,X9,X9,X9,X9] (λs=>Ap.nx ((λa:BT=>[Z dH,Z (oE eS c),Z (oE eD a),X9,X9,X9,X9,X9,X9]) s)) (fO h c a d) (Z (jB h c a d)):=R.tp (bI (bU 4 (iT (cT 0 eI h i X2) (kW (B8 1) (au 3 (zE eI) d X2))) (λ_=>X2) λb=>(bI (me 5 6 (iT (jg (au 1 (lE eS) c X2)) (dG (au 4 (zE eI) b X2) 5 ())) (iT (jg (au 1 (lE eS) c X2)) (dG (kW (kW (au 4 (zE eI) b X2) (B8 1)) (dG (jL (au 4 (zE eI) b X2) 5 ()) 4 ())) 5 ())) λvo g=>(bI (bU 7 (iT (kZ (iR (aP (pP (kW (B8 1) (dG (jL (au 4 (zE eI) b X2) 300 ()) 3 ()))) (aP (pP (kW (B8 1) (dG (jL (au 4 (zE eI) b X2) 300 ()) 1000 ()))) (cU eI))) (zw X2))) (dG (jL (au 4 (zE eI) b X2) 7 ()) 2 ())) (λ_=>X2) λf=>(bI (bU 8 (dG (jL (au 4 (zE eI) b X2) 20 ()) 5 ()) (λ_=>X2) λe=>(bI (Az (λa:BT=>[Z dH,Z (oE eS c),Z (oE eD a),Z (zE eI d),Z (zE eI b),Z (zE eS vo),Z (zE eS g),Z (zE eI f),Z (zE eI e)]) (cP (B9 () (au 8 (zE eI) e X2) (B8 0))) (bI (yR 2 a X2 (Rp (aP (DD (.str "never")) (aP (Dl (au 5 (zE eS) vo X2)) (cU eD))) (zw X2)) λa=>(bW (bR a X2)))) (bI (Az (λa:BT=>[Z dH,Z (oE eS c),Z (oE eD a),Z (zE eI d),Z (zE eI b),Z (zE eS vo),Z (zE eS g),Z (zE eI f),Z (zE eI e)]) (cP (B9 () (au 8 (zE eI) e X2) (B8 1))) (bI (yR 2 a X2 (Rp (aP (DD (.str "begin")) (aP (Dl (au 5 (zE eS) vo X2)) (aP (Dl (pP (kW (B8 1) (dG (jL (au 4 (zE eI) b X2) 100 ()) 3 ())))) (aP (Dl (au 7 (zE eI) f X2)) (cU eD))))) (zw X2)) λa=>(bW (bR a X2)))) (bI (Az (λa:BT=>[Z dH,Z (oE eS c),Z (oE eD a),Z (zE eI d),Z (zE eI b),Z (zE eS vo),Z (zE eS g),Z (zE eI f),Z (zE eI e)]) (cP (B9 () (au 8 (zE eI) e X2) (B8 2))) (bI (yR 2 a X2 (Rp (aP (DD (.str "both")) (aP (Dl (au 5 (zE eS) vo X2)) (aP (Dl (au 6 (zE eS) g X2)) (aP (Dl (au 7 (zE eI) f X2)) (cU eD))))) (zw X2)) λa=>(bW (bR a X2)))) (bI (yR 2 a X2 (Rp (aP (DD (.str "same")) (aP (Dl (au 5 (zE eS) vo X2)) (aP (Dl (au 7 (zE eI) f X2)) (cU eD)))) (zw X2)) λa=>(bW (bR a X2)))) λa=>(bW (bR a X2)))) λa=>(bW (bR a X2)))) λa=>(bW (bR a X2))))))))))))
def iu(b:BB):BT:=(let c:=[("day":AJ),("name":AJ),("names":AJ),("p":AJ),("zzz":AJ)];(let a:=([]:O Dt);(let a:BT:=((rng 0 (1+((at' b 0)%4)).toNat).foldl (λ(a:BT) (d:Int)=>(fO b c a d)) a);a)))
def ug(a:BB):Prop:=(let d:=[("day":AJ),("name":AJ),("names":AJ),("p":AJ),("zzz":AJ)];(let b:=([]:O Dt);((In a.length 0/\Rg (1+((at' a 0)%4)))/\sJ (λ(b:BT) (c:Int)=>(fO a d b c)) (λ(b:BT) (c:Int)=>Z (jB a d b c)) (rng 0 (1+((at' a 0)%4)).toNat) b)))
theorem VJ(b:BB)(c:Lp dH (b.map eI)):RP tB [Z dH,X9,X9,X9,X9,X9,X9,X9,X9] (λr=>Ap.rt ((zE (eT eD)) r)) (iu b) (Z (ug b)):=R.tp (bU 1 (iR (aP (vO "day") (aP (vO "name") (aP (vO "names") (aP (vO "p") (aP (vO "zzz") (cU eS)))))) (zw X2)) (λ_=>X2) λd=>(bU 2 (iR (cU eD) (zw X2)) (λ_=>X2) λa=>(Ho (λa:BT=>[Z dH,Z (oE eS d),Z (oE eD a),X9,X9,X9,X9,X9,X9]) a X2 (Hl (kW (B8 1) (dG (iT (cT 0 eI b c X2) (B8 0)) 4 ()))) _ (λ_ _=>X2) (λ(a:BT) (e:Int)=>(Ma b c d a e).r) λa=>(bZ (λr=>r) (oU (jg (au 2 (lE eD) a X2))) (λ_=>X2) λ_=>X2))))
theorem VL:∀v bs,(aL eI aN) v bs->bs.length=1/\(hold (Z (ug v.1))->tD (bs.map lend)=Z ((zE (eT eD)) (iu v.1))):=by
 rintro⟨a,_⟩ _ ⟨dH,_,rfl,b,rfl⟩;exact⟨rfl,λh=>bL (g:=tB) (n:=9) (bs:=[lend dH]) (VJ a (kO b)) h⟩
def j7(a:AJ)(b:Unit)(q2:dJ):nY (Unit) (Y AJ):=(if(decide (q2.1=a))=true then(nY.rt (Z q2.2))else(nY.nx db))
theorem R7(c:bh)(a:AJ)(b:Unit)(q2:dJ):RP Eb [Z (zE aR c),Z (zE eS a),Z ((zE eS) q2.1),Z ((zE eS) q2.2)] (cC (λb:Unit=>[Z (zE aR c),Z (zE eS a),X9,X9]) (zE (eO eS))) (j7 a b q2) (X9):=R.tp (bI (kY (cP (B9 () (au 2 (zE eS) q2.1 X2) (au 1 (zE eS) a X2))) (bI (bZ .rt (Kr (au 3 (zE eS) q2.2 X2)) (λ_=>X2) λ_=>X2)) (bW (bW (bR (.nx db) X2)))))
def cR(b:bh)(c:AJ):(Y AJ):=(BN (lB (λ(a:Unit) (q2:dJ)=>((j7 c a q2):nY (Unit) (Y AJ))) b.2 db) (λr=>r) λa:Unit=>X9)
def gn(b:bh)(c:AJ):Prop:=(rG (λ(a:Unit) (q2:dJ)=>((j7 c a q2):nY (Unit) (Y AJ))) (λ(a:Unit) (q2:dJ)=>X9) b.2 db/\(sU (lB (λ(a:Unit) (q2:dJ)=>((j7 c a q2):nY (Unit) (Y AJ))) b.2 db) λa:Unit=>True))
theorem WF(a:bh)(b:AJ):RP zX [Z (zE aR a),Z (zE eS b),X9,X9] (λr=>Ap.rt ((zE (eO eS)) r)) (cR a b) (Z (gn a b)):=R.tp (Ru (λc:Unit=>[Z (zE aR a),Z (zE eS b),X9,X9]) db X2 (Sl (gM (au 0 (zE aR) a X2) (λq=>q.2) (eT gQ) 1 λ_=>X2)) _ (λ_ _=>X2) (λ(c:Unit) (q2:dJ)=>((R7 a b c q2).r:R _ _ (cC (λc:Unit=>[Z (zE aR a),Z (zE eS b),X9,X9]) (zE (eO eS))))) (λr=>r) (λ_=>X2) λc=>(bZ (λr=>r) Pl (λ_=>X2) λ_=>X2))
theorem j8:∀v bs,(aZ aR (aZ eS aN)) v bs->bs.length=2/\(hold (Z (gn v.1 v.2.1))->dD (bs.map lend)=Z ((zE (eO eS)) (cR v.1 v.2.1))):=by
 rintro⟨a,b,_⟩ _ ⟨_,rfl,⟨_,rfl,rfl⟩⟩;exact⟨rfl,λh=>bL (g:=zX) (n:=4) (bs:=[.z (aR a),.z (eS b)]) (WF a b) h⟩
def iw(c:bh)(d:bh)(b:AJ):Bool:=(let a:=(cR c b);(a.isSome&&(decide (a=(cR d b)))))
def mK(b:bh)(d:bh)(a:AJ):Prop:=((gn b a)/\(let c:=(cR b a);(c.isSome=true->(gn d a))))
theorem VN(b:bh)(c:bh)(a:AJ):RP tH [Z (zE aR b),Z (zE aR c),Z (zE eS a),X9] (λr=>Ap.rt (zE eB r)) (iw b c a) (Z (mK b c a)):=R.tp (bU 3 (An j8 (bM (au 0 (zE aR) b X2) (bM (au 2 (zE eS) a X2) bx))) (λ_=>X2) λd=>(bZ (λr=>r) (Pr (Dm (au 3 (zE (eO eS)) d X2) λ_=>X2) (B9 () (au 3 (zE (eO eS)) d X2) (An j8 (bM (au 1 (zE aR) c X2) (bM (au 2 (zE eS) a X2) bx))))) (λ_=>X2) λ_=>X2))
theorem zu:∀v bs,(aZ aR (aZ aR (aZ eS aN))) v bs->bs.length=3/\(hold (Z (mK v.1 v.2.1 v.2.2.1))->mG (bs.map lend)=Z ((zE eB) (iw v.1 v.2.1 v.2.2.1))):=by
 rintro⟨a,c,b,_⟩ _ ⟨_,rfl,⟨_,rfl,⟨_,rfl,rfl⟩⟩⟩;exact⟨rfl,λh=>bL (g:=tH) (n:=4) (bs:=[.z (aR a),.z (aR c),.z (eS b)]) (VN a c b) h⟩
def lD(e:bh)(f:bh)(d:AJ)(a:Int):Bool:=(let c:=(cR e d);(let b:=(cR f d);(if(c.isNone||b.isNone)=true then false else((decide (a<=((c.getD default).length:Int)))&&((decide (a<=((b.getD default).length:Int)))&&(decide ((Z (Txt.slice (c.getD default) X9 (Z a)))=(Z (Txt.slice (b.getD default) X9 (Z a))))))))))
def lG(e:bh)(f:bh)(c:AJ)(d:Int):Prop:=((gn e c)/\(let b:=(cR e c);((gn f c)/\(let a:=(cR f c);((b.isNone||a.isNone)=false->(b.isSome=true/\((decide (d<=((b.getD default).length:Int)))=true->(a.isSome=true/\((decide (d<=((a.getD default).length:Int)))=true->(b.isSome=true/\a.isSome=true))))))))))
theorem Nx(c:bh)(d:bh)(b:AJ)(a:Int):RP oX [Z (zE aR c),Z (zE aR d),Z (zE eS b),Z (zE eI a),X9,X9] (λr=>Ap.rt (zE eB r)) (lD c d b a) (Z (lG c d b a)):=R.tp (bU 4 (An j8 (bM (au 0 (zE aR) c X2) (bM (au 2 (zE eS) b X2) bx))) (λ_=>X2) λf=>(bU 5 (An j8 (bM (au 1 (zE aR) d X2) (bM (au 2 (zE eS) b X2) bx))) (λ_=>X2) λe=>(kY (ES (cP (Mk (au 4 (zE (eO eS)) f X2) λ_=>X2)) (cP (Mk (au 5 (zE (eO eS)) e X2) λ_=>X2))) (bI (bZ (λr=>r) (yP (.bl false) eB false X2) (λ_=>X2) λ_=>X2)) (bW (bZ (λr=>r) (Pr (Do (KC (Pk (au 4 (zE (eO eS)) f X2))) (au 3 (zE eI) a X2)) (Pr (Do (KC (Pk (au 5 (zE (eO eS)) e X2))) (au 3 (zE eI) a X2)) (B9 () (Kr (Zi (Pk (au 4 (zE (eO eS)) f X2)) W9 (Xa (au 3 (zE eI) a X2)))) (Kr (Zi (Pk (au 5 (zE (eO eS)) e X2)) W9 (Xa (au 3 (zE eI) a X2))))))) (λ_=>X2) λ_=>X2)))))
theorem Ny:∀v bs,(aZ aR (aZ aR (aZ eS (aZ eI aN)))) v bs->bs.length=4/\(hold (Z (lG v.1 v.2.1 v.2.2.1 v.2.2.2.1))->oY (bs.map lend)=Z ((zE eB) (lD v.1 v.2.1 v.2.2.1 v.2.2.2.1))):=by
 rintro⟨b,d,c,a,_⟩ _ ⟨_,rfl,⟨_,rfl,⟨_,rfl,⟨_,rfl,rfl⟩⟩⟩⟩;exact⟨rfl,λh=>bL (g:=oX) (n:=6) (bs:=[.z (aR b),.z (aR d),.z (eS c),.z (eI a)]) (Nx b d c a) h⟩
def nj(d:bh)(e:bh)(c:AJ):Bool:=(let b:=(cR d c);(let a:=(cR e c);(b.isSome&&(a.isSome&&(!decide (b=a))))))
def qP(b:bh)(c:bh)(a:AJ):Prop:=((gn b a)/\(let d:=(cR b a);(gn c a)))
theorem R8(b:bh)(c:bh)(a:AJ):RP qx [Z (zE aR b),Z (zE aR c),Z (zE eS a),X9,X9] (λr=>Ap.rt (zE eB r)) (nj b c a) (Z (qP b c a)):=R.tp (bU 3 (An j8 (bM (au 0 (zE aR) b X2) (bM (au 2 (zE eS) a X2) bx))) (λ_=>X2) λe=>(bU 4 (An j8 (bM (au 1 (zE aR) c X2) (bM (au 2 (zE eS) a X2) bx))) (λ_=>X2) λd=>(bZ (λr=>r) (Pr (Dm (au 3 (zE (eO eS)) e X2) λ_=>X2) (Pr (Dm (au 4 (zE (eO eS)) d X2) λ_=>X2) (LG () (au 3 (zE (eO eS)) e X2) (au 4 (zE (eO eS)) d X2)))) (λ_=>X2) λ_=>X2)))
theorem R9:∀v bs,(aZ aR (aZ aR (aZ eS aN))) v bs->bs.length=3/\(hold (Z (qP v.1 v.2.1 v.2.2.1))->qy (bs.map lend)=Z ((zE eB) (nj v.1 v.2.1 v.2.2.1))):=by
 rintro⟨a,c,b,_⟩ _ ⟨_,rfl,⟨_,rfl,⟨_,rfl,rfl⟩⟩⟩;exact⟨rfl,λh=>bL (g:=qx) (n:=5) (bs:=[.z (aR a),.z (aR c),.z (eS b)]) (R8 a c b) h⟩
def Ad(a:Dt)(b:bh)(c:bh):Bool:=(if(Pq (mQ a 0) (Dt.str "same"))=true then(iw b c (MN (mQ a 1)))else(if(Pq (mQ a 0) (Dt.str "begin"))=true then(lD b c (MN (mQ a 1)) (D4 (mQ a 2)))else(if(Pq (mQ a 0) (Dt.str "both"))=true then((iw b c (MN (mQ a 1)))&&(iw b c (MN (mQ a 2))))else(nj b c (MN (mQ a 1))))))
def Em(a:Dt)(b:bh)(c:bh):Prop:=((Pu a (0:Int)/\D0 (mQ a 0) (Dt.str "same"))/\(((Pq (mQ a 0) (Dt.str "same"))=true->((Pu a (1:Int)/\(mQ a 1)=eS (MN (mQ a 1)))/\(mK b c (MN (mQ a 1)))))/\((Pq (mQ a 0) (Dt.str "same"))=false->((Pu a (0:Int)/\D0 (mQ a 0) (Dt.str "begin"))/\(((Pq (mQ a 0) (Dt.str "begin"))=true->(((Pu a (1:Int)/\(mQ a 1)=eS (MN (mQ a 1)))/\(Pu a (2:Int)/\(mQ a 2)=eI (D4 (mQ a 2))))/\(lG b c (MN (mQ a 1)) (D4 (mQ a 2)))))/\((Pq (mQ a 0) (Dt.str "begin"))=false->((Pu a (0:Int)/\D0 (mQ a 0) (Dt.str "both"))/\(((Pq (mQ a 0) (Dt.str "both"))=true->(((Pu a (1:Int)/\(mQ a 1)=eS (MN (mQ a 1)))/\(mK b c (MN (mQ a 1))))/\((iw b c (MN (mQ a 1)))=true->((Pu a (2:Int)/\(mQ a 2)=eS (MN (mQ a 2)))/\(mK b c (MN (mQ a 2)))))))/\((Pq (mQ a 0) (Dt.str "both"))=false->((Pu a (1:Int)/\(mQ a 1)=eS (MN (mQ a 1)))/\(qP b c (MN (mQ a 1)))))))))))))
theorem cw(a:Dt)(b:bh)(c:bh):RP Js [Z (zE eD a),Z (zE aR b),Z (zE aR c)] (λr=>Ap.rt (zE eB r)) (Ad a b c) (Z (Em a b c)):=R.tp (kY (cP (Zf (yc (au 0 (zE eD) a X2) (B8 0)) (DD (.str "same")))) (bI (bZ (λr=>r) (An zu (bM (au 1 (zE aR) b X2) (bM (au 2 (zE aR) c X2) (bM (wg (yc (au 0 (zE eD) a X2) (B8 1)) MN eS) bx)))) (λ_=>X2) λ_=>X2)) (bW (kY (cP (Zf (yc (au 0 (zE eD) a X2) (B8 0)) (DD (.str "begin")))) (bI (bZ (λr=>r) (An Ny (bM (au 1 (zE aR) b X2) (bM (au 2 (zE aR) c X2) (bM (wg (yc (au 0 (zE eD) a X2) (B8 1)) MN eS) (bM (wg (yc (au 0 (zE eD) a X2) (B8 2)) D4 eI) bx))))) (λ_=>X2) λ_=>X2)) (bW (kY (cP (Zf (yc (au 0 (zE eD) a X2) (B8 0)) (DD (.str "both")))) (bI (bZ (λr=>r) (Pr (An zu (bM (au 1 (zE aR) b X2) (bM (au 2 (zE aR) c X2) (bM (wg (yc (au 0 (zE eD) a X2) (B8 1)) MN eS) bx)))) (An zu (bM (au 1 (zE aR) b X2) (bM (au 2 (zE aR) c X2) (bM (wg (yc (au 0 (zE eD) a X2) (B8 2)) MN eS) bx))))) (λ_=>X2) λ_=>X2)) (bW (bZ (λr=>r) (An R9 (bM (au 1 (zE aR) b X2) (bM (au 2 (zE aR) c X2) (bM (wg (yc (au 0 (zE eD) a X2) (B8 1)) MN eS) bx)))) (λ_=>X2) λ_=>X2)))))))
theorem gp:∀v bs,(aZ eD (aZ aR (aZ aR aN))) v bs->bs.length=3/\(hold (Z (Em v.1 v.2.1 v.2.2.1))->Jt (bs.map lend)=Z ((zE eB) (Ad v.1 v.2.1 v.2.2.1))):=by
 rintro⟨b,a,c,_⟩ _ ⟨_,rfl,⟨_,rfl,⟨_,rfl,rfl⟩⟩⟩;exact⟨rfl,λh=>bL (g:=Js) (n:=3) (bs:=[.z (eD b),.z (aR a),.z (aR c)]) (cw b a c) h⟩
def jc(a:O bh)(c:BT):(O DG):=((Hq a).flatMap λq1:IT=>((C5 a (Z (q1.1+1)) X9).flatMap λb:bh=>(((rK 0 c).filter λq2:ET=>(Ad q2.2 q1.2 b)).map λq2:ET=>(q2.2,(q1.2.1,b.1,q2.1)))))
def Ae(a:O bh)(c:BT):Prop:=((∀q1∈(Hq a),(∀b∈(C5 a (Z (q1.1+1)) X9),(∀q2∈(rK 0 c),(Em q2.2 q1.2 b))))/\((Hq a).flatMap λq1:IT=>((C5 a (Z (q1.1+1)) X9).flatMap λb:bh=>(((rK 0 c).filter λq2:ET=>(Ad q2.2 q1.2 b)).map λq2:ET=>(q2.2,(q1.2.1,b.1,q2.1))))).length<=100000)
theorem a8(a:O bh)(c:Lp dH (a.map aR))(b:BT):RP zY [Z dH,Z ((zE (eT eD)) b)] (λr=>Ap.rt (oE HM r)) (jc a b) (Z (Ae a b)):=R.tp (bZ (λr=>r) (i0 (bn (nX (cT 0 aR a c X2)) _ (λ_=>X2) (λq1:IT=>(iN (GY (T1 (cT 0 aR a c (congrArg Z (c.get X2))) (Xa (kW (au 2 (zE eI) q1.1 X2) (B8 1))) W9)) _ (λ_=>X2) (λd:bh=>(pg (bu (au 1 (zE (eT eD)) b X2)) _ (λ_=>X2) (λq2:ET=>(Go (An gp (bM (au 6 (zE eD) q2.2 X2) (bM (au 3 (zE aR) q1.2 X2) (bM (au 4 (zE aR) d X2) bx)))))) (λq2:ET=>(mY (au 6 (zE eD) q2.2 X2) (Kw (gM (au 3 (zE aR) q1.2 X2) (λq=>q.1) eS 0 λ_=>X2) (gM (au 4 (zE aR) d X2) (λq=>q.1) eS 0 λ_=>X2) (au 5 (zE eI) q2.1 X2)))))))))) (λ_=>X2) λ_=>X2)
theorem lf:∀v bs,(aL aR (aZ (eT eD) aN)) v bs->bs.length=2/\(hold (Z (Ae v.1 v.2.1))->zZ (bs.map lend)=Z ((oE HM) (jc v.1 v.2.1))):=by
 rintro⟨b,a,_⟩ _ ⟨dH,_,rfl,c,⟨_,rfl,rfl⟩⟩;exact⟨rfl,λh=>bL (g:=zY) (n:=2) (bs:=[lend dH,.z (eT eD a)]) (a8 b (kO c) a) h⟩
def jC(a:d9):d9:=(let q1:=a;((-q1.1),q1.2.1,q1.2.2.1,q1.2.2.2))
theorem XQ(a:d9):RP wG [Z (zE eN a),X9,X9,X9,X9] (λr=>Ap.rt (zE eN r)) (jC a) X9:=R.tp (LX (au 0 (zE eN) a X2) _ (λ_=>X2) λq1=>(bZ (λr=>r) (we (Uz (au 1 (zE eI) q1.1 X2)) (au 2 (zE eS) q1.2.1 X2) (au 3 (zE eS) q1.2.2.1 X2) (au 4 (zE eI) q1.2.2.2 X2)) (λ_=>X2) λ_=>X2))
theorem XR:∀v bs,(aZ eN aN) v bs->bs.length=1/\(hold (X9)->wH (bs.map lend)=Z ((zE eN) (jC v.1))):=by
 rintro⟨a,_⟩ _ ⟨_,rfl,rfl⟩;exact⟨rfl,λh=>bL (g:=wG) (n:=5) (bs:=[.z (eN a)]) (XQ a) h⟩
def oN(a:O d9):(O d9):=(yV eN (λx:d9=>jC x) a)
def xP(a:O d9):Prop:=((∀x∈a,True)/\a.length<=100000/\∀x∈a,∀y∈a,jC x=jC y->x=y)
theorem XS(a:O d9)(b:Lp dH (a.map eN)):RP wI [Z dH] (λr=>Ap.rt (oE eN r)) (oN a) (Z (xP a)):=R.tp (bZ (λr=>r) (fm (e':=eN) XR (VQ (cT 0 eN a b X2))) (λ_=>X2) λ_=>X2)
theorem X3:∀v bs,(aL eN aN) v bs->bs.length=1/\(hold (Z (xP v.1))->wJ (bs.map lend)=Z ((oE eN) (oN v.1))):=by
 rintro⟨a,_⟩ _ ⟨dH,_,rfl,b,rfl⟩;exact⟨rfl,λh=>bL (g:=wI) (n:=1) (bs:=[lend dH]) (XS a (kO b)) h⟩
def cG(g:O bh)(d:BT):K5:=(let a:=(yV eS (λb:bh=>b.1) g);(let vx:=(jc a d);(let e:=((vx.filter λq1:DG=>(!Pq (mQ q1.1 0) (Dt.str "never"))).map λq1:DG=>((D4 (mQ q1.1 (-(1:Int)))),q1.2.1,q1.2.2.1,q1.2.2.2));(let f:=((vx.filter λq2:DG=>(Pq (mQ q2.1 0) (Dt.str "never"))).map λq2:DG=>q2.2);((a.map λc:bh=>c.1),(oN e),(Px jt f))))))
def pZ(b:O bh)(d:BT):Prop:=(((∀a∈b,True)/\b.length<=100000/\(b.map λa:bh=>a.1).Nodup)/\(let c:=(yV eS (λa:bh=>a.1) b);((Ae c d)/\(let vx:=(jc c d);((vx.length<=100000/\(∀q1∈vx,((Pu q1.1 (0:Int)/\D0 (mQ q1.1 0) (Dt.str "never"))/\((!Pq (mQ q1.1 0) (Dt.str "never"))=true->(Pu q1.1 (-(1:Int))/\(mQ q1.1 (-(1:Int)))=eI (D4 (mQ q1.1 (-(1:Int)))))))))/\(let e:=((vx.filter λq1:DG=>(!Pq (mQ q1.1 0) (Dt.str "never"))).map λq1:DG=>((D4 (mQ q1.1 (-(1:Int)))),q1.2.1,q1.2.2.1,q1.2.2.2));((vx.length<=100000/\(∀q2∈vx,(Pu q2.1 (0:Int)/\D0 (mQ q2.1 0) (Dt.str "never"))))/\(let f:=((vx.filter λq2:DG=>(Pq (mQ q2.1 0) (Dt.str "never"))).map λq2:DG=>q2.2);(c.length<=100000/\((xP e)/\f.length<=100000))))))))))
theorem VP(b:O bh)(a:BT):RP tK [Z ((zE (eT aR)) b),Z ((zE (eT eD)) a),X9,X9,X9,X9] (λr=>Ap.rt (zE nG r)) (cG b a) (Z (pZ b a)):=R.tp (bU 2 (u4 (e':=eS) (oQ (au 0 (zE (eT aR)) b X2)) (λd:bh=>(gM (au 0 (zE aR) d X2) (λq=>q.1) eS 0 λ_=>X2))) (λ_=>X2) λc=>(bU 3 (An lf (uG (jg (au 2 (lE aR) c X2)) (bM (au 1 (zE (eT eD)) a X2) bx))) (λ_=>X2) λvx=>(bU 4 (mZ (BK (jg (au 3 (lE HM) vx X2))) _ (λ_=>X2) (λq1:DG=>(cP (UY (yc (au 0 (zE eD) q1.1 X2) (B8 0)) (DD (.str "never"))))) (λq1:DG=>(pP (eA (e3:=eN) (l8 (wg (yc (au 0 (zE eD) q1.1 X2) (Uz (B8 1))) D4 eI)) (au 1 (zE jt) q1.2 X2) (λx y=>(x,y.1,y.2.1,y.2.2)) λ_ _=>X2)))) (λ_=>X2) λf=>(bU 5 (mZ (BK (jg (au 3 (lE HM) vx X2))) _ (λ_=>X2) (λq2:DG=>(cP (Zf (yc (au 0 (zE eD) q2.1 X2) (B8 0)) (DD (.str "never"))))) (λq2:DG=>(au 1 (zE jt) q2.2 X2))) (λ_=>X2) λg=>(bZ (λr=>r) (Kw (oU (kZ (Dr (BK (jg (au 2 (lE aR) c X2))) _ (λ_=>X2) (λe:bh=>(gM (au 0 (zE aR) e X2) (λq=>q.1) eS 0 λ_=>X2)) λ_=>X2))) (oU (kZ (An X3 (uG (jg (au 4 (lE eN) f X2)) bx)))) (oU (kZ (oi (jg (au 5 (lE jt) g X2)))))) (λ_=>X2) λ_=>X2)))))
theorem VR:∀v bs,(aZ (eT aR) (aZ (eT eD) aN)) v bs->bs.length=2/\(hold (Z (pZ v.1 v.2.1))->pQ (bs.map lend)=Z ((zE nG) (cG v.1 v.2.1))):=by
 rintro⟨b,a,_⟩ _ ⟨_,rfl,⟨_,rfl,rfl⟩⟩;exact⟨rfl,λh=>bL (g:=tK) (n:=6) (bs:=[.z (eT aR b),.z (eT eD a)]) (VP b a) h⟩
def gH(d:BB)(h:AZ)(a:AZ×(O dJ))(b:Int):AZ×(O dJ):=(let y2:=a.1;let c:=(((at' d 1) / (at' [(1:Int),(5:Int),(20:Int),(60:Int),(120:Int)] b))%(a.1.length:Int));let f:=y2.eraseIdx c.toNat;let e:=at' y2 c;(let g:=a.2++[(e,(at' h ((at' d (2+b))%6)))];(f,g)))
def pK(c:BB)(e:AZ)(b:AZ×(O dJ))(a:Int):Prop:=(((((In c.length 1/\In [(1:Int),(5:Int),(20:Int),(60:Int),(120:Int)].length a)/\(0<(at' [(1:Int),(5:Int),(20:Int),(60:Int),(120:Int)] a)/\(at' [(1:Int),(5:Int),(20:Int),(60:Int),(120:Int)] a)<1073741824))/\0<(b.1.length:Int))/\(0<=(((at' c 1) / (at' [(1:Int),(5:Int),(20:Int),(60:Int),(120:Int)] a))%(b.1.length:Int))/\(((at' c 1) / (at' [(1:Int),(5:Int),(20:Int),(60:Int),(120:Int)] a))%(b.1.length:Int))<b.1.length/\b.1.length<=100000))/\(let y2:=b.1;let d:=(((at' c 1) / (at' [(1:Int),(5:Int),(20:Int),(60:Int),(120:Int)] a))%(b.1.length:Int));let g:=y2.eraseIdx d.toNat;let f:=at' y2 d;((In c.length (2+a)/\In e.length ((at' c (2+a))%6))/\MK b.2.length)))
theorem Nz(d:BB)(e:Lp dH (d.map eI))(c:AZ)(a:AZ×(O dJ))(b:Int):RP Bm [Z dH,Z ((oE eS) a.1),Z (oE eS c),Z ((oE gQ) a.2),Z (zE eI b),X9] (λs=>Ap.nx ((λa:AZ×(O dJ)=>[Z dH,Z ((oE eS) a.1),Z (oE eS c),Z ((oE gQ) a.2),X9,X9]) s)) (gH d c a b) (Z (pK d c a b)):=R.tp (bI (g7 5 1 a.1 X2 (NL (RY (iT (cT 0 eI d e X2) (B8 1)) (iT (kZ (iR (aP (B8 1) (aP (B8 5) (aP (B8 20) (aP (B8 60) (aP (B8 120) (cU eI)))))) (zw X2))) (au 4 (zE eI) b X2))) (C0 (jg (au 1 (lE eS) a.1 X2)))) λg f=>(bI (yR 3 a.2 X2 (mY (au 5 (zE eS) f X2) (iT (jg (au 2 (lE eS) c X2)) (dG (iT (cT 0 eI d e X2) (kW (B8 2) (au 4 (zE eI) b X2))) 6 ()))) λh=>(bW (bR (g,h) X2))))))
def jD(b:BB):(O dJ):=(let c:=[("day":AJ),("name":AJ),("names":AJ),("p":AJ),("zzz":AJ)];(let f:=[("first":AJ),("last":AJ),("most":AJ),("longest":AJ),("least":AJ),("greatest":AJ)];(let d:=([]:O dJ);(let a:AZ×(O dJ):=((rng 0 ((at' b 0)%6).toNat).foldl (λ(a:AZ×(O dJ)) (e:Int)=>(gH b f a e)) (c,d));a.2))))
def xQ(a:BB):Prop:=(let e:=[("day":AJ),("name":AJ),("names":AJ),("p":AJ),("zzz":AJ)];(let d:=[("first":AJ),("last":AJ),("most":AJ),("longest":AJ),("least":AJ),("greatest":AJ)];(let f:=([]:O dJ);((In a.length 0/\Rg ((at' a 0)%6))/\sJ (λ(c:AZ×(O dJ)) (b:Int)=>(gH a d c b)) (λ(c:AZ×(O dJ)) (b:Int)=>Z (pK a d c b)) (rng 0 ((at' a 0)%6).toNat) (e,f)))))
theorem X4(b:BB)(c:Lp dH (b.map eI)):RP wK [Z dH,X9,X9,X9,X9,X9] (λr=>Ap.rt ((zE (eT gQ)) r)) (jD b) (Z (xQ b)):=R.tp (bU 1 (iR (aP (vO "day") (aP (vO "name") (aP (vO "names") (aP (vO "p") (aP (vO "zzz") (cU eS)))))) (zw X2)) (λ_=>X2) λe=>(bU 2 (iR (aP (vO "first") (aP (vO "last") (aP (vO "most") (aP (vO "longest") (aP (vO "least") (aP (vO "greatest") (cU eS))))))) (zw X2)) (λ_=>X2) λd=>(bU 3 (iR (cU gQ) (zw X2)) (λ_=>X2) λf=>(Ho (λa:AZ×(O dJ)=>[Z dH,Z ((oE eS) a.1),Z (oE eS d),Z ((oE gQ) a.2),X9,X9]) (e,f) X2 (Hl (dG (iT (cT 0 eI b c X2) (B8 0)) 6 ())) _ (λ_ _=>X2) (λ(a:AZ×(O dJ)) (g:Int)=>(Nz b c d a g).r) λa=>(bZ (λr=>r) (oU (jg (au 3 (lE gQ) a.2 X2))) (λ_=>X2) λ_=>X2)))))
theorem X5:∀v bs,(aL eI aN) v bs->bs.length=1/\(hold (Z (xQ v.1))->wL (bs.map lend)=Z ((zE (eT gQ)) (jD v.1))):=by
 rintro⟨a,_⟩ _ ⟨dH,_,rfl,b,rfl⟩;exact⟨rfl,λh=>bL (g:=wK) (n:=6) (bs:=[lend dH]) (X4 a (kO b)) h⟩
def eE(b:AZ):(O (AJ×AJ)):=(Fs (b.map λa:AJ=>(a,a)))
def nq(a:AZ):Prop:=(a.length<1000/\a.length<=100000)
theorem Sd(a:AZ):RP qz [Z ((zE (eT eS)) a)] (λr=>Ap.rt (mE eS r)) (eE a) (Z (nq a)):=R.tp (bZ (λr=>r) (fR (Xb (au 0 (zE (eT eS)) a X2)) (Dr (Xb (au 0 (zE (eT eS)) a X2)) _ (λ_=>X2) (λb:AJ=>(WV (au 0 (zE eS) b X2) (au 0 (zE eS) b X2))) λ_=>X2)) (λ_=>X2) λ_=>X2)
theorem Eo:∀v bs,(aZ (eT eS) aN) v bs->bs.length=1/\(hold (Z (nq v.1))->jN (bs.map lend)=Z ((mE eS) (eE v.1))):=by
 rintro⟨a,_⟩ _ ⟨_,rfl,rfl⟩;exact⟨rfl,λh=>bL (g:=qz) (n:=1) (bs:=[.z (eT eS a)]) (Sd a) h⟩
def dR(c:AJ)(e:AJ)(d:AJ)(a:(O (AJ×AJ)))(b:AJ):(O (AJ×AJ)):=(let a:(O (AJ×AJ)):=(if((decide ((look a b)=c))||(decide ((look a b)=e)))=true then(let a:=put a b d;a)else a);a)
def qg(c:AJ)(d:AJ)(e:AJ)(a:(O (AJ×AJ)))(b:AJ):Prop:=((has a b=true/\((decide ((look a b)=c))=false->has a b=true))/\(((decide ((look a b)=c))||(decide ((look a b)=d)))=true->a.length<1000))
theorem Im(c:AJ)(e:AJ)(d:AJ)(a:(O (AJ×AJ)))(b:AJ):RP yp [Z ((mW (Z a_) eS) a),Z (zE eS c),Z (zE eS e),Z (zE eS d),Z (zE eS b)] (λs=>Ap.nx ((λa:(O (AJ×AJ))=>[Z ((mW (Z a_) eS) a),Z (zE eS c),Z (zE eS e),Z (zE eS d),X9]) s)) (dR c e d a b) (Z (qg c e d a b)):=R.tp (bI (Az (λa:(O (AJ×AJ))=>[Z ((mW (Z a_) eS) a),Z (zE eS c),Z (zE eS e),Z (zE eS d),Z (zE eS b)]) (ES (cP (B9 () (lZ (au 0 (nE eS) a X2) (au 4 (zE eS) b X2)) (au 1 (zE eS) c X2))) (cP (B9 () (lZ (au 0 (nE eS) a X2) (au 4 (zE eS) b X2)) (au 2 (zE eS) e X2)))) (bI (Zr (Z a_) 0 a X2 (au 3 (zE eS) d X2) (au 4 (zE eS) b X2) λa=>(bW (bR a X2)))) (bW (bR a X2)) λa=>(bW (bR a X2))))
def kh(a:(O (AJ×AJ)))(b:AJ)(c:AJ):(O (AJ×AJ)):=(let d:=(if xZ c b=true then c else b);(let a:(O (AJ×AJ)):=((a.map (·.1)).foldl (λ(a:(O (AJ×AJ))) (e:AJ)=>(dR b c d a e)) a);a))
def nA(a:(O (AJ×AJ)))(b:AJ)(c:AJ):Prop:=(let e:=(if xZ c b=true then c else b);sJ (λ(a:(O (AJ×AJ))) (d:AJ)=>(dR b c e a d)) (λ(a:(O (AJ×AJ))) (d:AJ)=>Z (qg b c e a d)) (a.map (·.1)) a)
def xR(a:(O (AJ×AJ)))(b:AJ)(c:AJ):R qC [Z ((mW (Z a_) eS) a),Z (zE eS b),Z (zE eS c),X9,X9] (λe=>Ap.nx [Z ((mW (Z a_) eS) e),Z (zE eS b),Z (zE eS c),X9,X9]):=(bI (bU 3 (hV (au 1 (zE eS) b X2) (au 2 (zE eS) c X2)) (λ_=>X2) λd=>(bI (Ho (λa:(O (AJ×AJ))=>[Z ((mW (Z a_) eS) a),Z (zE eS b),Z (zE eS c),Z (zE eS d),X9]) a X2 (GY (pM (au 0 (nE eS) a X2))) _ (λ_ _=>X2) (λ(a:(O (AJ×AJ))) (f:AJ)=>(Im b c d a f).r) λa=>(bW (bR a X2))))))
theorem NK(b:(O (AJ×AJ)))(a:AJ)(c:AJ):(xR (a_:=a_) b a c).v=kh b a c:=by kernel_rfl
theorem NP(b:(O (AJ×AJ)))(a:AJ)(c:AJ):(xR (a_:=a_) b a c).D=Z (nA b a c):=by kernel_rfl
theorem Ep:∀(b:(O (AJ×AJ))) v bs,(aZ eS (aZ eS aN)) v bs->bs.length=2/\bs.all DI=true/\(hold (Z (nA b v.1 v.2.1))->∀a,iJ a (b.map λq=>(kS q.1,eS q.2)) bs=Z ((kh b v.1 v.2.1).map λq=>(kS q.1,eS q.2))):=by
 rintro b ⟨c,d,_⟩ _ ⟨_,rfl,⟨_,rfl,rfl⟩⟩;exact⟨rfl,rfl,λh a=>(d5 (g:=qC) (n:=5) (bs:=[.z (eS c),.z (eS d)]) (xR (a_:=a) b c d) ((congrArg hold (NP (a_:=a) b c d)).mpr h) (λ_=>X2)).trans (congrArg (λr:(O (AJ×AJ))=>Z (r.map λq=>(kS q.1,eS q.2))) (NK (a_:=a) b c d))⟩
def gJ(a:(O (AJ×AJ)))(q1:d9):(O (AJ×AJ)):=(let a:=(kh a (look a q1.2.1) (look a q1.2.2.1));a)
def uN(a:(O (AJ×AJ)))(q1:d9):Prop:=((has a q1.2.1=true/\has a q1.2.2.1=true)/\(nA a (look a q1.2.1) (look a q1.2.2.1)))
theorem NQ(c:AZ)(b:O d9)(a:(O (AJ×AJ)))(q1:d9):RP Bp [Z ((zE (eT eS)) c),Z ((zE (eT eN)) b),Z (mE eS a),Z ((zE eI) q1.1),Z ((zE eS) q1.2.1),Z ((zE eS) q1.2.2.1),Z ((zE eI) q1.2.2.2)] (λs=>Ap.nx ((λa:(O (AJ×AJ))=>[Z ((zE (eT eS)) c),Z ((zE (eT eN)) b),Z (mE eS a),X9,X9,X9,X9]) s)) (gJ  a q1) (Z (uN  a q1)):=R.tp (bI (R1 X9 2 a X2 Ep (bM (lZ (au 2 (nE eS) a X2) (au 4 (zE eS) q1.2.1 X2)) (bM (lZ (au 2 (nE eS) a X2) (au 5 (zE eS) q1.2.2.1 X2)) bx)) λa=>(bW (bR a X2))))
def rQ(c:AZ)(b:O d9):(O (AJ×AJ)):=(let a:=(eE c);(let a:(O (AJ×AJ)):=(b.foldl (λ(a:(O (AJ×AJ))) (q1:d9)=>(gJ  a q1)) a);a))
def xT(b:AZ)(c:O d9):Prop:=((nq b)/\(let a:=(eE b);sJ (λ(a:(O (AJ×AJ))) (q1:d9)=>(gJ  a q1)) (λ(a:(O (AJ×AJ))) (q1:d9)=>Z (uN  a q1)) c a))
theorem X6(c:AZ)(b:O d9):RP wM [Z ((zE (eT eS)) c),Z ((zE (eT eN)) b),X9,X9,X9,X9,X9] (λr=>Ap.rt (mE eS r)) (rQ c b) (Z (xT c b)):=R.tp (bU 2 (An Eo (bM (au 0 (zE (eT eS)) c X2) bx)) (λ_=>X2) λa=>(Xc 1 b (KD X2) (λa:(O (AJ×AJ))=>[Z ((zE (eT eS)) c),Z ((zE (eT eN)) b),Z (mE eS a),X9,X9,X9,X9]) a X2 _ (λ_ _=>X2) (λ(a:(O (AJ×AJ))) (q1:d9)=>(NQ c b a q1).r) λa=>(Rr 2 (λr=>r) a X2 (λ_=>X2) λ_=>X2)))
theorem X7:∀v bs,(aZ (eT eS) (aZ (eT eN) aN)) v bs->bs.length=2/\(hold (Z (xT v.1 v.2.1))->wN (bs.map lend)=Z ((mE eS) (rQ v.1 v.2.1))):=by
 rintro⟨b,a,_⟩ _ ⟨_,rfl,⟨_,rfl,rfl⟩⟩;exact⟨rfl,λh=>bL (g:=wM) (n:=7) (bs:=[.z (eT eS b),.z (eT eN a)]) (X6 b a) h⟩
def lH(b:(O (AJ×AJ)))(c:AJ):AZ:=(((b.map (·.1)).filter λa:AJ=>(decide ((look b a)=c))).map λa:AJ=>a)
def uO(a:(O (AJ×AJ)))(c:AJ):Prop:=((a.map (·.1)).length<=100000/\(∀b∈(a.map (·.1)),has a b=true))
theorem NT(a:(O (AJ×AJ)))(b:AJ):RP oZ [Z (nE eS a),Z (zE eS b)] (λr=>Ap.rt ((zE (eT eS)) r)) (lH a b) (Z (uO a b)):=R.tp (bZ (λr=>r) (oU (kZ (mZ (IS (au 0 (nE eS) a X2)) _ (λ_=>X2) (λc:AJ=>(cP (B9 () (lZ (au 1 (nE eS) a X2) (au 2 (zE eS) c X2)) (au 0 (zE eS) b X2)))) (λc:AJ=>(au 2 (zE eS) c X2))))) (λ_=>X2) λ_=>X2)
theorem NZ:∀v bs,(aM eS (aZ eS aN)) v bs->bs.length=2/\(hold (Z (uO v.1 v.2.1))->o7 (bs.map lend)=Z ((zE (eT eS)) (lH v.1 v.2.1))):=by
 rintro⟨b,a,_⟩ _ ⟨_,_,rfl,(rfl|rfl),⟨_,rfl,rfl⟩⟩
 all_goals exact⟨rfl,λh=>bL (g:=oZ) (n:=2) (bs:=[nE eS b,.z (eS a)]) (NT b a) h⟩
def eG(b:(O (AJ×AJ))):(O AZ):=(((b.map (·.1)).filter λa:AJ=>(decide ((look b a)=a))).map λa:AJ=>(lH b a))
def kj(a:(O (AJ×AJ))):Prop:=((a.map (·.1)).length<=100000/\(∀b∈(a.map (·.1)),(has a b=true/\((decide ((look a b)=b))=true->(uO a b)))))
theorem Sg(a:(O (AJ×AJ))):RP qD [Z (nE eS a)] (λr=>Ap.rt ((oE (eT eS)) r)) (eG a) (Z (kj a)):=R.tp (bZ (λr=>r) (mZ (IS (au 0 (nE eS) a X2)) _ (λ_=>X2) (λb:AJ=>(cP (B9 () (lZ (au 0 (nE eS) a X2) (au 1 (zE eS) b X2)) (au 1 (zE eS) b X2)))) (λb:AJ=>(pP (An NZ (Xe (au 0 (nE eS) a X2) (bM (au 1 (zE eS) b X2) bx)))))) (λ_=>X2) λ_=>X2)
theorem Er:∀v bs,(aM eS aN) v bs->bs.length=1/\(hold (Z (kj v.1))->jO (bs.map lend)=Z ((oE (eT eS)) (eG v.1))):=by
 rintro⟨a,_⟩ _ ⟨_,_,rfl,(rfl|rfl),rfl⟩
 all_goals exact⟨rfl,λh=>bL (g:=qD) (n:=1) (bs:=[nE eS a]) (Sg a) h⟩
def xU(b:AZ)(a:O d9):(O AZ):=(eG (rQ b a))
def xV(b:AZ)(a:O d9):Prop:=((xT b a)/\(kj (rQ b a)))
theorem X8(b:AZ)(a:O d9):RP wO [Z ((zE (eT eS)) b),Z ((zE (eT eN)) a)] (λr=>Ap.rt ((oE (eT eS)) r)) (xU b a) (Z (xV b a)):=R.tp (bZ (λr=>r) (An Er (dA (An X7 (bM (au 0 (zE (eT eS)) b X2) (bM (au 1 (zE (eT eN)) a X2) bx))) bx)) (λ_=>X2) λ_=>X2)
theorem Yc:∀v bs,(aZ (eT eS) (aZ (eT eN) aN)) v bs->bs.length=2/\(hold (Z (xV v.1 v.2.1))->wQ (bs.map lend)=Z ((oE (eT eS)) (xU v.1 v.2.1))):=by
 rintro⟨b,a,_⟩ _ ⟨_,rfl,⟨_,rfl,rfl⟩⟩;exact⟨rfl,λh=>bL (g:=wO) (n:=2) (bs:=[.z (eT eS b),.z (eT eN a)]) (X8 b a) h⟩
def jE(a:K5):(O AZ):=(xU a.1 a.2.1)
def rR(a:K5):Prop:=(xV a.1 a.2.1)
theorem Yd(a:K5):RP wR [Z (zE nG a)] (λr=>Ap.rt ((oE (eT eS)) r)) (jE a) (Z (rR a)):=R.tp (bZ (λr=>r) (An Yc (bM (gM (au 0 (zE nG) a X2) (λq=>q.1) (eT eS) 0 λ_=>X2) (bM (gM (au 0 (zE nG) a X2) (λq=>q.2.1) (eT eN) 1 λ_=>X2) bx))) (λ_=>X2) λ_=>X2)
theorem Ye:∀v bs,(aZ nG aN) v bs->bs.length=1/\(hold (Z (rR v.1))->wU (bs.map lend)=Z ((oE (eT eS)) (jE v.1))):=by
 rintro⟨a,_⟩ _ ⟨_,rfl,rfl⟩;exact⟨rfl,λh=>bL (g:=wR) (n:=1) (bs:=[.z (nG a)]) (Yd a) h⟩
def kE(b:(O (AJ×AJ)))(c:AJ)(d:AJ)(e:Unit)(a:qw):nY (Unit) (Y qw):=(if(((decide ((look b a.1)=c))&&(decide ((look b a.2.1)=d)))||((decide ((look b a.1)=d))&&(decide ((look b a.2.1)=c))))=true then(nY.rt (Z a))else(nY.nx db))
def vK(b:(O (AJ×AJ)))(c:AJ)(d:AJ)(e:Unit)(a:qw):Prop:=((has b a.1=true/\((decide ((look b a.1)=c))=true->has b a.2.1=true))/\(((decide ((look b a.1)=c))&&(decide ((look b a.2.1)=d)))=false->(has b a.1=true/\((decide ((look b a.1)=d))=true->has b a.2.1=true))))
theorem Gz(f:O qw)(b:(O (AJ×AJ)))(c:AJ)(d:AJ)(e:Unit)(a:qw):RP vH [Z ((zE (eT jt)) f),Z (nE eS b),Z (zE eS c),Z (zE eS d),Z (zE jt a)] (cC (λe:Unit=>[Z ((zE (eT jt)) f),Z (nE eS b),Z (zE eS c),Z (zE eS d),X9]) (zE (eO jt))) (kE b c d e a) (Z (vK b c d e a)):=R.tp (bI (kY (ES (L0 (cP (B9 () (lZ (au 1 (nE eS) b X2) (gM (au 4 (zE jt) a X2) (λq=>q.1) eS 0 λ_=>X2)) (au 2 (zE eS) c X2))) (cP (B9 () (lZ (au 1 (nE eS) b X2) (gM (au 4 (zE jt) a X2) (λq=>q.2.1) eS 1 λ_=>X2)) (au 3 (zE eS) d X2)))) (L0 (cP (B9 () (lZ (au 1 (nE eS) b X2) (gM (au 4 (zE jt) a X2) (λq=>q.1) eS 0 λ_=>X2)) (au 3 (zE eS) d X2))) (cP (B9 () (lZ (au 1 (nE eS) b X2) (gM (au 4 (zE jt) a X2) (λq=>q.2.1) eS 1 λ_=>X2)) (au 2 (zE eS) c X2))))) (bI (bZ .rt (Kr (au 4 (zE jt) a X2)) (λ_=>X2) λ_=>X2)) (bW (bW (bR (.nx db) X2)))))
def jd(f:O qw)(d:(O (AJ×AJ)))(b:AJ)(e:AJ):(Y qw):=(BN (lB (λ(a:Unit) (c:qw)=>((kE d b e a c):nY (Unit) (Y qw))) f db) (λr=>r) λa:Unit=>X9)
def pL(f:O qw)(d:(O (AJ×AJ)))(c:AJ)(e:AJ):Prop:=(rG (λ(a:Unit) (b:qw)=>((kE d c e a b):nY (Unit) (Y qw))) (λ(a:Unit) (b:qw)=>Z (vK d c e a b)) f db/\(sU (lB (λ(a:Unit) (b:qw)=>((kE d c e a b):nY (Unit) (Y qw))) f db) λa:Unit=>True))
theorem N5(a:O qw)(c:(O (AJ×AJ)))(b:AJ)(d:AJ):RP o8 [Z ((zE (eT jt)) a),Z (nE eS c),Z (zE eS b),Z (zE eS d),X9] (λr=>Ap.rt ((zE (eO jt)) r)) (jd a c b d) (Z (pL a c b d)):=R.tp (Zn 0 a (KD X2) (λe:Unit=>[Z ((zE (eT jt)) a),Z (nE eS c),Z (zE eS b),Z (zE eS d),X9]) db X2 _ (λ_ _=>X2) (λ(e:Unit) (f:qw)=>((Gz a c b d e f).r:R _ _ (cC (λe:Unit=>[Z ((zE (eT jt)) a),Z (nE eS c),Z (zE eS b),Z (zE eS d),X9]) (zE (eO jt))))) (λr=>r) (λ_=>X2) λe=>(bZ (λr=>r) Pl (λ_=>X2) λ_=>X2))
theorem N6:∀v bs,(aZ (eT jt) (aM eS (aZ eS (aZ eS aN)))) v bs->bs.length=4/\(hold (Z (pL v.1 v.2.1 v.2.2.1 v.2.2.2.1))->o9 (bs.map lend)=Z ((zE (eO jt)) (jd v.1 v.2.1 v.2.2.1 v.2.2.2.1))):=by
 rintro⟨b,c,a,d,_⟩ _ ⟨_,rfl,⟨_,_,rfl,(rfl|rfl),⟨_,rfl,⟨_,rfl,rfl⟩⟩⟩⟩
 all_goals exact⟨rfl,λh=>bL (g:=o8) (n:=5) (bs:=[.z (eT jt b),nE eS c,.z (eS a),.z (eS d)]) (N5 b c a d) h⟩
def dU(l:O qw)(a:(O (AJ×AJ))×(O d9)×(O uI))(b:d9):(O (AJ×AJ))×(O d9)×(O uI):=(let c:=(look a.1 b.2.1);(let f:=(look a.1 b.2.2.1);(let e:(O (AJ×AJ))×(O d9)×(O uI):=(if(!decide (c=f))=true then(let g:=(jd l a.1 c f);(let d:(O (AJ×AJ))×(O d9)×(O uI):=(if g.isNone=true then(let h:=(kh a.1 c f);(let i:=a.2.1++[b];(h,i,a.2.2)))else(let j:=a.2.2++[(b,g)];(a.1,a.2.1,j)));(d.1,d.2.1,d.2.2)))else(a.1,a.2.1,a.2.2));(e.1,e.2.1,e.2.2))))
def qj(f:O qw)(a:(O (AJ×AJ))×(O d9)×(O uI))(d:d9):Prop:=(has a.1 d.2.1=true/\(let b:=(look a.1 d.2.1);(has a.1 d.2.2.1=true/\(let c:=(look a.1 d.2.2.1);((!decide (b=c))=true->((pL f a.1 b c)/\(let e:=(jd f a.1 b c);((e.isNone=true->((nA a.1 b c)/\(let g:=(kh a.1 b c);MK a.2.1.length)))/\(e.isNone=false->MK a.2.2.length)))))))))
theorem Io(i:K5)(h:AZ)(j:O d9)(e:O qw)(a:(O (AJ×AJ))×(O d9)×(O uI))(b:d9):RP yq [Z (zE nG i),Z ((zE (eT eS)) h),Z ((zE (eT eN)) j),Z ((zE (eT jt)) e),Z ((mE eS) a.1),Z ((oE eN) a.2.1),Z ((oE MP) a.2.2),Z (zE eN b),X9,X9,X9] (λs=>Ap.nx ((λa:(O (AJ×AJ))×(O d9)×(O uI)=>[Z (zE nG i),Z ((zE (eT eS)) h),Z ((zE (eT eN)) j),Z ((zE (eT jt)) e),Z ((mE eS) a.1),Z ((oE eN) a.2.1),Z ((oE MP) a.2.2),X9,X9,X9,X9]) s)) (dU e a b) (Z (qj e a b)):=R.tp (bI (bU 8 (lZ (au 4 (nE eS) a.1 X2) (gM (au 7 (zE eN) b X2) (λq=>q.2.1) eS 1 λ_=>X2)) (λ_=>X2) λf=>(bI (bU 9 (lZ (au 4 (nE eS) a.1 X2) (gM (au 7 (zE eN) b X2) (λq=>q.2.2.1) eS 2 λ_=>X2)) (λ_=>X2) λg=>(bI (Az (λd:(O (AJ×AJ))×(O d9)×(O uI)=>[Z (zE nG i),Z ((zE (eT eS)) h),Z ((zE (eT eN)) j),Z ((zE (eT jt)) e),Z ((mE eS) d.1),Z ((oE eN) d.2.1),Z ((oE MP) d.2.2),Z (zE eN b),Z (zE eS f),Z (zE eS g),X9]) (cP (LG () (au 8 (zE eS) f X2) (au 9 (zE eS) g X2))) (bI (bU 10 (An N6 (bM (au 3 (zE (eT jt)) e X2) (Xe (au 4 (nE eS) a.1 X2) (bM (au 8 (zE eS) f X2) (bM (au 9 (zE eS) g X2) bx))))) (λ_=>X2) λl=>(bI (Az (λc:(O (AJ×AJ))×(O d9)×(O uI)=>[Z (zE nG i),Z ((zE (eT eS)) h),Z ((zE (eT eN)) j),Z ((zE (eT jt)) e),Z ((mE eS) c.1),Z ((oE eN) c.2.1),Z ((oE MP) c.2.2),Z (zE eN b),Z (zE eS f),Z (zE eS g),Z ((zE (eO jt)) l)]) (cP (Mk (au 10 (zE (eO jt)) l X2) λ_=>X2)) (bI (R1 X9 4 a.1 X2 Ep (bM (au 8 (zE eS) f X2) (bM (au 9 (zE eS) g X2) bx)) λm=>(bI (yR 5 a.2.1 X2 (au 7 (zE eN) b X2) λn=>(bW (bR (m,n,a.2.2) X2)))))) (bI (yR 6 a.2.2 X2 (mY (au 7 (zE eN) b X2) (au 10 (zE (eO jt)) l X2)) λo=>(bW (bR (a.1,a.2.1,o) X2)))) λc=>(bW (bR (c.1,c.2.1,c.2.2) X2)))))) (bW (bR (a.1,a.2.1,a.2.2) X2)) λd=>(bW (bR (d.1,d.2.1,d.2.2) X2))))))))
def iK(e:K5):RS:=(let q1:=e;(let b:=(eE q1.1);(let c:=([]:O d9);(let d:=([]:O uI);(let a:(O (AJ×AJ))×(O d9)×(O uI):=(q1.2.1.foldl (λ(a:(O (AJ×AJ))×(O d9)×(O uI)) (f:d9)=>(dU q1.2.2 a f)) (b,c,d));((eG a.1),a.2.1,a.2.2))))))
def qQ(f:K5):Prop:=(let q1:=f;((nq q1.1)/\(let c:=(eE q1.1);(let d:=([]:O d9);(let e:=([]:O uI);(sJ (λ(a:(O (AJ×AJ))×(O d9)×(O uI)) (b:d9)=>(dU q1.2.2 a b)) (λ(a:(O (AJ×AJ))×(O d9)×(O uI)) (b:d9)=>Z (qj q1.2.2 a b)) q1.2.1 (c,d,e)/\(let a:(O (AJ×AJ))×(O d9)×(O uI):=(q1.2.1.foldl (λ(a:(O (AJ×AJ))×(O d9)×(O uI)) (b:d9)=>(dU q1.2.2 a b)) (c,d,e));(kj a.1))))))))
theorem Sh(b:K5):RP qF [Z (zE nG b),X9,X9,X9,X9,X9,X9,X9,X9,X9,X9] (λr=>Ap.rt (zE Sa r)) (iK b) (Z (qQ b)):=R.tp (LX (au 0 (zE nG) b X2) _ (λ_=>X2) λq1=>(bU 4 (An Eo (bM (au 1 (zE (eT eS)) q1.1 X2) bx)) (λ_=>X2) λc=>(bU 5 (iR (cU eN) (zw X2)) (λ_=>X2) λd=>(bU 6 (iR (cU MP) (zw X2)) (λ_=>X2) λe=>(Xc 2 q1.2.1 (KD X2) (λa:(O (AJ×AJ))×(O d9)×(O uI)=>[Z (zE nG b),Z ((zE (eT eS)) q1.1),Z ((zE (eT eN)) q1.2.1),Z ((zE (eT jt)) q1.2.2),Z ((mE eS) a.1),Z ((oE eN) a.2.1),Z ((oE MP) a.2.2),X9,X9,X9,X9]) (c,d,e) X2 _ (λ_ _=>X2) (λ(a:(O (AJ×AJ))×(O d9)×(O uI)) (f:d9)=>(Io b q1.1 q1.2.1 q1.2.2 a f).r) λa=>(NB 5 [Z (zE nG b),Z ((zE (eT eS)) q1.1),Z ((zE (eT eN)) q1.2.1),Z ((zE (eT jt)) q1.2.2),Z ((mE eS) a.1),Z ((zE (eL eN)) a.2.1),Z ((oE MP) a.2.2),X9,X9,X9,X9] X2 (NB 6 [Z (zE nG b),Z ((zE (eT eS)) q1.1),Z ((zE (eT eN)) q1.2.1),Z ((zE (eT jt)) q1.2.2),Z ((mE eS) a.1),Z ((zE (eL eN)) a.2.1),Z ((zE (eL MP)) a.2.2),X9,X9,X9,X9] X2 (bZ (λr=>r) (Kw (Rm (An Er (Xe (au 4 (nE eS) a.1 X2) bx))) (au 5 (zE (eL eN)) a.2.1 X2) (au 6 (zE (eL MP)) a.2.2 X2)) (λ_=>X2) λ_=>X2))))))))
theorem Sq:∀v bs,(aZ nG aN) v bs->bs.length=1/\(hold (Z (qQ v.1))->qG (bs.map lend)=Z ((zE Sa) (iK v.1))):=by
 rintro⟨a,_⟩ _ ⟨_,rfl,rfl⟩;exact⟨rfl,λh=>bL (g:=qF) (n:=11) (bs:=[.z (nG a)]) (Sh a) h⟩
def jF(d:AJ)(a:(O (AJ×AJ)))(b:bh):(O (AJ×AJ)):=(let c:=(cR b d);(let a:(O (AJ×AJ)):=(if c.isSome=true then(let a:=put a b.1 (c.getD default);a)else a);a))
def rT(a:AJ)(d:(O (AJ×AJ)))(b:bh):Prop:=((gn b a)/\(let c:=(cR b a);(c.isSome=true->(c.isSome=true/\d.length<1000))))
theorem Mf(e:O bh)(b:AJ)(a:(O (AJ×AJ)))(c:bh):RP yZ [Z ((zE (eT aR)) e),Z (zE eS b),Z (mE eS a),Z (zE aR c),X9] (λs=>Ap.nx ((λa:(O (AJ×AJ))=>[Z ((zE (eT aR)) e),Z (zE eS b),Z (mE eS a),X9,X9]) s)) (jF b a c) (Z (rT b a c)):=R.tp (bI (bU 4 (An j8 (bM (au 3 (zE aR) c X2) (bM (au 1 (zE eS) b X2) bx))) (λ_=>X2) λd=>(bI (Az (λa:(O (AJ×AJ))=>[Z ((zE (eT aR)) e),Z (zE eS b),Z (mE eS a),Z (zE aR c),Z ((zE (eO eS)) d)]) (cP (Dm (au 4 (zE (eO eS)) d X2) λ_=>X2)) (bI (Zr X9 2 a X2 (Pk (au 4 (zE (eO eS)) d X2)) (gM (au 3 (zE aR) c X2) (λq=>q.1) eS 0 λ_=>X2) λa=>(bW (bR a X2)))) (bW (bR a X2)) λa=>(bW (bR a X2))))))
def p7(d:O bh)(b:AJ):(O (AJ×AJ)):=(let a:=([]:(O (AJ×AJ)));(let a:(O (AJ×AJ)):=(d.foldl (λ(a:(O (AJ×AJ))) (c:bh)=>(jF b a c)) a);a))
def uh(d:O bh)(c:AJ):Prop:=(let a:=([]:(O (AJ×AJ)));sJ (λ(a:(O (AJ×AJ))) (b:bh)=>(jF c a b)) (λ(a:(O (AJ×AJ))) (b:bh)=>Z (rT c a b)) d a)
theorem V1(b:O bh)(c:AJ):RP tL [Z ((zE (eT aR)) b),Z (zE eS c),X9,X9,X9] (λr=>Ap.rt (mE eS r)) (p7 b c) (Z (uh b c)):=R.tp (bU 2 (rS eS) (λ_=>X2) λa=>(Xc 0 b (KD X2) (λa:(O (AJ×AJ))=>[Z ((zE (eT aR)) b),Z (zE eS c),Z (mE eS a),X9,X9]) a X2 _ (λ_ _=>X2) (λ(a:(O (AJ×AJ))) (d:bh)=>(Mf b c a d).r) λa=>(Rr 2 (λr=>r) a X2 (λ_=>X2) λ_=>X2)))
theorem V2:∀v bs,(aZ (eT aR) (aZ eS aN)) v bs->bs.length=2/\(hold (Z (uh v.1 v.2.1))->tM (bs.map lend)=Z ((mE eS) (p7 v.1 v.2.1))):=by
 rintro⟨b,a,_⟩ _ ⟨_,rfl,⟨_,rfl,rfl⟩⟩;exact⟨rfl,λh=>bL (g:=tL) (n:=5) (bs:=[.z (eT aR b),.z (eS a)]) (V1 b a) h⟩
def mL(b:AJ)(c:Unit)(a:bh):nY (Unit) bh:=(if(decide (a.1=b))=true then(nY.rt a)else(nY.nx db))
theorem V3(d:O bh)(b:AJ)(c:Unit)(a:bh):RP HJ [Z ((zE (eT aR)) d),Z (zE eS b),Z (zE aR a)] (cC (λc:Unit=>[Z ((zE (eT aR)) d),Z (zE eS b),X9]) (zE aR)) (mL b c a) (X9):=R.tp (bI (kY (cP (B9 () (gM (au 2 (zE aR) a X2) (λq=>q.1) eS 0 λ_=>X2) (au 1 (zE eS) b X2))) (bI (bZ .rt (au 2 (zE aR) a X2) (λ_=>X2) λ_=>X2)) (bW (bW (bR (.nx db) X2)))))
def rW(d:O bh)(c:AJ):bh:=(BN (lB (λ(a:Unit) (b:bh)=>((mL c a b):nY (Unit) bh)) d db) (λr=>r) λa:Unit=>default)
def Es(d:O bh)(c:AJ):Prop:=(rG (λ(a:Unit) (b:bh)=>((mL c a b):nY (Unit) bh)) (λ(a:Unit) (b:bh)=>X9) d db/\(sU (lB (λ(a:Unit) (b:bh)=>((mL c a b):nY (Unit) bh)) d db) λa:Unit=>False))
theorem bS(a:O bh)(b:AJ):RP Ed [Z ((zE (eT aR)) a),Z (zE eS b),X9] (λr=>Ap.rt (zE aR r)) (rW a b) (Z (Es a b)):=R.tp (Zn 0 a (KD X2) (λc:Unit=>[Z ((zE (eT aR)) a),Z (zE eS b),X9]) db X2 _ (λ_ _=>X2) (λ(c:Unit) (d:bh)=>((V3 a b c d).r:R _ _ (cC (λc:Unit=>[Z ((zE (eT aR)) a),Z (zE eS b),X9]) (zE aR)))) (λr=>r) (λ_=>X2) λc=>f7)
theorem lP:∀v bs,(aZ (eT aR) (aZ eS aN)) v bs->bs.length=2/\(hold (Z (Es v.1 v.2.1))->Ef (bs.map lend)=Z ((zE aR) (rW v.1 v.2.1))):=by
 rintro⟨b,a,_⟩ _ ⟨_,rfl,⟨_,rfl,rfl⟩⟩;exact⟨rfl,λh=>bL (g:=Ed) (n:=3) (bs:=[.z (eT aR b),.z (eS a)]) (bS b a) h⟩
def gK(b:O bh)(d:AJ):AZ:=(((b.map λc:bh=>(cR c d)).filter λa:(Y AJ)=>a.isSome).map λa:(Y AJ)=>(a.getD default))
def rY(b:O bh)(c:AJ):Prop:=(((b.length<=100000/\(∀a∈b,(gn a c)))/\(b.map λa:bh=>(cR a c)).length<=100000)/\(∀d∈(b.map λa:bh=>(cR a c)),(d.isSome=true->d.isSome=true)))
theorem Yg(a:O bh)(e:Lp dH (a.map aR))(b:AJ):RP wV [Z dH,Z (zE eS b)] (λr=>Ap.rt (oE eS r)) (gK a b) (Z (rY a b)):=R.tp (bZ (λr=>r) (mZ (BK (kZ (yQ (BK (cT 0 aR a e X2)) _ (λ_=>X2) (λd:bh=>(pP (An j8 (bM (au 1 (zE aR) d X2) (bM (au 0 (zE eS) b X2) bx)))))))) _ (λ_=>X2) (λc:(Y AJ)=>(cP (Dm (au 0 (zE (eO eS)) c X2) λ_=>X2))) (λc:(Y AJ)=>(Pk (au 0 (zE (eO eS)) c X2)))) (λ_=>X2) λ_=>X2)
theorem Mh:∀v bs,(aL aR (aZ eS aN)) v bs->bs.length=2/\(hold (Z (rY v.1 v.2.1))->n8 (bs.map lend)=Z ((oE eS) (gK v.1 v.2.1))):=by
 rintro⟨b,a,_⟩ _ ⟨dH,_,rfl,c,⟨_,rfl,rfl⟩⟩;exact⟨rfl,λh=>bL (g:=wV) (n:=2) (bs:=[lend dH,.z (eS a)]) (Yg b (kO c) a) h⟩
def lX(a:AZ):AJ:=(As CF a)
def lY(a:AZ):Prop:=a≠[]
theorem Ip(a:AZ)(b:Lp dH (a.map eS)):RP lK [Z dH] (λr=>Ap.rt (zE eS r)) (lX a) (Z (lY a)):=R.tp (bZ (λr=>r) (ND (cT 0 eS a b X2)) (λ_=>X2) λ_=>X2)
theorem Ir:∀v bs,(aL eS aN) v bs->bs.length=1/\(hold (Z (lY v.1))->lM (bs.map lend)=Z ((zE eS) (lX v.1))):=by
 rintro⟨a,_⟩ _ ⟨dH,_,rfl,b,rfl⟩;exact⟨rfl,λh=>bL (g:=lK) (n:=1) (bs:=[lend dH]) (Ip a (kO b)) h⟩
def qR(a:AZ):AJ:=(As CM a)
def qT(a:AZ):Prop:=a≠[]
theorem Ss(a:AZ)(b:Lp dH (a.map eS)):RP qH [Z dH] (λr=>Ap.rt (zE eS r)) (qR a) (Z (qT a)):=R.tp (bZ (λr=>r) (Pm (cT 0 eS a b X2)) (λ_=>X2) λ_=>X2)
theorem Sv:∀v bs,(aL eS aN) v bs->bs.length=1/\(hold (Z (qT v.1))->qI (bs.map lend)=Z ((zE eS) (qR v.1))):=by
 rintro⟨a,_⟩ _ ⟨dH,_,rfl,b,rfl⟩;exact⟨rfl,λh=>bL (g:=qH) (n:=1) (bs:=[lend dH]) (Ss a (kO b)) h⟩
def nC(b:AZ):AJ:=(As (λx z=>FE (FV ((λa:AJ=>((-(a.length:Int)),a)) x)) (FV ((λa:AJ=>((-(a.length:Int)),a)) z))) b)
def nD(a:AZ):Prop:=(a≠[]/\∀b∈a,True)
theorem Mi(a:AZ)(c:Lp dH (a.map eS)):RP m7 [Z dH] (λr=>Ap.rt (zE eS r)) (nC a) (Z (nD a)):=R.tp (bZ (λr=>r) (Pp (e':=FV) (λ_=>X2) (cT 0 eS a c X2) (λb:AJ=>(mY (Uz (KC (au 0 (zE eS) b X2))) (au 0 (zE eS) b X2)))) (λ_=>X2) λ_=>X2)
theorem Mj:∀v bs,(aL eS aN) v bs->bs.length=1/\(hold (Z (nD v.1))->jw (bs.map lend)=Z ((zE eS) (nC v.1))):=by
 rintro⟨a,_⟩ _ ⟨dH,_,rfl,b,rfl⟩;exact⟨rfl,λh=>bL (g:=m7) (n:=1) (bs:=[lend dH]) (Mi a (kO b)) h⟩
def um(a:AZ):AJ:=(As (λx z=>EO (eI ((λb:AJ=>((a.count b:Nat):Int)) x)) (eI ((λb:AJ=>((a.count b:Nat):Int)) z))) a)
def uo(a:AZ):Prop:=(a≠[]/\∀b∈a,True)
theorem V4(a:AZ)(b:Lp dH (a.map eS)):RP tO [Z dH] (λr=>Ap.rt (zE eS r)) (um a) (Z (uo a)):=R.tp (bZ (λr=>r) (Pp (e':=eI) (λ_=>X2) (cT 0 eS a b X2) (λc:AJ=>(l7 (cT 1 eS a b (congrArg Z (b.get X2))) (au 0 (zE eS) c X2)))) (λ_=>X2) λ_=>X2)
theorem V5:∀v bs,(aL eS aN) v bs->bs.length=1/\(hold (Z (uo v.1))->pR (bs.map lend)=Z ((zE eS) (um v.1))):=by
 rintro⟨a,_⟩ _ ⟨dH,_,rfl,b,rfl⟩;exact⟨rfl,λh=>bL (g:=tO) (n:=1) (bs:=[lend dH]) (V4 a (kO b)) h⟩
def uq(a:AZ):AJ:=(at' a (-(1:Int)))
def ur(a:AZ):Prop:=In a.length (-(1:Int))
theorem V6(a:AZ)(b:Lp dH (a.map eS)):RP tU [Z dH] (λr=>Ap.rt (zE eS r)) (uq a) (Z (ur a)):=R.tp (bZ (λr=>r) (iT (cT 0 eS a b X2) (Uz (B8 1))) (λ_=>X2) λ_=>X2)
theorem V7:∀v bs,(aL eS aN) v bs->bs.length=1/\(hold (Z (ur v.1))->tW (bs.map lend)=Z ((zE eS) (uq v.1))):=by
 rintro⟨a,_⟩ _ ⟨dH,_,rfl,b,rfl⟩;exact⟨rfl,λh=>bL (g:=tU) (n:=1) (bs:=[lend dH]) (V6 a (kO b)) h⟩
def qU(a:AZ):AJ:=(at' a 0)
def qW(a:AZ):Prop:=In a.length 0
theorem Sw(a:AZ)(b:Lp dH (a.map eS)):RP qJ [Z dH] (λr=>Ap.rt (zE eS r)) (qU a) (Z (qW a)):=R.tp (bZ (λr=>r) (iT (cT 0 eS a b X2) (B8 0)) (λ_=>X2) λ_=>X2)
theorem Sx:∀v bs,(aL eS aN) v bs->bs.length=1/\(hold (Z (qW v.1))->qK (bs.map lend)=Z ((zE eS) (qU v.1))):=by
 rintro⟨a,_⟩ _ ⟨dH,_,rfl,b,rfl⟩;exact⟨rfl,λh=>bL (g:=qJ) (n:=1) (bs:=[lend dH]) (Sw a (kO b)) h⟩
def cQ:O (AJ×(AZ->AJ)×(AZ->Y Prop)):=[("first",qU,λv=>Z (qW v)),("last",uq,λv=>Z (ur v)),("most",um,λv=>Z (uo v)),("longest",nC,λv=>Z (nD v)),("least",qR,λv=>Z (qT v)),("greatest",lX,λv=>Z (lY v))]
def vL(d:O bh)(b:AJ)(e:AJ):dM:=(let c:=(mj cQ e (gK d b));(b,c,((d.filter λa:bh=>(decide ((cR a b)=(Z c)))).map λa:bh=>a.1)))
def Ag(a:O bh)(b:AJ)(c:AJ):Prop:=(((rY a b)/\F1 cQ c (gK a b))/\(let e:=(mj cQ c (gK a b));(a.length<=100000/\(∀d∈a,(gn d b)))))
theorem Ta(b:O bh)(e:Lp dH (b.map aR))(a:AJ)(c:AJ):RP z6 [Z dH,Z (zE eS a),Z (zE eS c),X9,X9] (λr=>Ap.rt (zE dh r)) (vL b a c) (Z (Ag b a c)):=R.tp (eM 3 4 (tt:=cQ) (.cons Sx (.cons V7 (.cons V5 (.cons Mj (.cons Sv (.cons Ir .nil)))))) (au 2 (zE eS) c X2) (kZ (An Mh (uG (cT 0 aR b e X2) (bM (au 1 (zE eS) a X2) bx)))) (zw X2) (λ_=>X2) λf=>(bZ (λr=>r) (Kw (au 1 (zE eS) a X2) (au 4 (zE eS) f X2) (oU (kZ (mZ (BK (cT 0 aR b e X2)) _ (λ_=>X2) (λd:bh=>(cP (B9 () (An j8 (bM (au 2 (zE aR) d X2) (bM (au 1 (zE eS) a X2) bx))) (Kr (au 0 (zE eS) f X2))))) (λd:bh=>(gM (au 2 (zE aR) d X2) (λq=>q.1) eS 0 λ_=>X2)))))) (λ_=>X2) λ_=>X2))
theorem X0:∀v bs,(aL aR (aZ eS (aZ eS aN))) v bs->bs.length=3/\(hold (Z (Ag v.1 v.2.1 v.2.2.1))->z7 (bs.map lend)=Z ((zE dh) (vL v.1 v.2.1 v.2.2.1))):=by
 rintro⟨c,b,a,_⟩ _ ⟨dH,_,rfl,d,⟨_,rfl,⟨_,rfl,rfl⟩⟩⟩;exact⟨rfl,λh=>bL (g:=z6) (n:=5) (bs:=[lend dH,.z (eS b),.z (eS a)]) (Ta c (kO d) b a) h⟩
def dN(e:O bh)(c:O dJ)(b:AZ):(O dM):=(let a:=(b.map λd:AJ=>(rW e d));((c.filter λq1:dJ=>(!(gK a q1.1).isEmpty)).map λq1:dJ=>(vL a q1.1 q1.2)))
def je(e:O bh)(d:O dJ)(a:AZ):Prop:=((a.length<=100000/\(∀c∈a,(Es e c)))/\(let b:=(a.map λc:AJ=>(rW e c));(d.length<=100000/\(∀q1∈d,((rY b q1.1)/\((!(gK b q1.1).isEmpty)=true->(Ag b q1.1 q1.2)))))))
theorem rL(c:O bh)(b:O dJ)(a:AZ):RP z8 [Z ((zE (eT aR)) c),Z ((zE (eT gQ)) b),Z ((zE (eT eS)) a),X9] (λr=>Ap.rt (oE dh r)) (dN c b a) (Z (je c b a)):=R.tp (bU 3 (yQ (Xb (au 2 (zE (eT eS)) a X2)) _ (λ_=>X2) (λe:AJ=>(pP (An lP (bM (au 0 (zE (eT aR)) c X2) (bM (au 1 (zE eS) e X2) bx)))))) (λ_=>X2) λd=>(bZ (λr=>r) (mZ (Xb (au 1 (zE (eT gQ)) b X2)) _ (λ_=>X2) (λq1:dJ=>(fT (kZ (An Mh (uG (jg (au 0 (lE aR) d X2)) (bM (au 1 (zE eS) q1.1 X2) bx)))))) (λq1:dJ=>(pP (An X0 (uG (jg (au 0 (lE aR) d X2)) (bM (au 1 (zE eS) q1.1 X2) (bM (au 2 (zE eS) q1.2 X2) bx))))))) (λ_=>X2) λ_=>X2))
theorem Ah:∀v bs,(aZ (eT aR) (aZ (eT gQ) (aZ (eT eS) aN))) v bs->bs.length=3/\(hold (Z (je v.1 v.2.1 v.2.2.1))->iY (bs.map lend)=Z ((oE dh) (dN v.1 v.2.1 v.2.2.1))):=by
 rintro⟨c,b,a,_⟩ _ ⟨_,rfl,⟨_,rfl,⟨_,rfl,rfl⟩⟩⟩;exact⟨rfl,λh=>bL (g:=z8) (n:=4) (bs:=[.z (eT aR c),.z (eT gQ b),.z (eT eS a)]) (rL c b a) h⟩
def iM(d:O bh)(c:O dJ)(a:O AZ):(O (O dM)):=(a.map λb:AZ=>(dN d c b))
def xW(d:O bh)(c:O dJ)(a:O AZ):Prop:=(a.length<=100000/\(∀b∈a,(je d c b)))
theorem Yh(c:O bh)(a:O dJ)(b:O AZ){d:Bx}(e:Lp d (b.map (eT eS))):RP wW [Z ((zE (eT aR)) c),Z ((zE (eT gQ)) a),Z d] (λr=>Ap.rt ((oE (eL dh)) r)) (iM c a b) (Z (xW c a b)):=R.tp (bZ (λr=>r) (yQ (BK (cT 2 (eT eS) b e X2)) _ (λ_=>X2) (λf:AZ=>(Rm (An Ah (bM (au 0 (zE (eT aR)) c X2) (bM (au 1 (zE (eT gQ)) a X2) (bM (au 2 (zE (eT eS)) f X2) bx))))))) (λ_=>X2) λ_=>X2)
theorem Ml:∀v bs,(aZ (eT aR) (aZ (eT gQ) (aL (eT eS) aN))) v bs->bs.length=3/\(hold (Z (xW v.1 v.2.1 v.2.2.1))->oh (bs.map lend)=Z ((oE (eL dh)) (iM v.1 v.2.1 v.2.2.1))):=by
 rintro⟨b,a,e,_⟩ _ ⟨_,rfl,⟨_,rfl,⟨d,_,rfl,c,rfl⟩⟩⟩;exact⟨rfl,λh=>bL (g:=wW) (n:=3) (bs:=[.z (eT aR b),.z (eT gQ a),lend d]) (Yh b a e (kO c)) h⟩
def dW(c:(O (AJ×AJ)))(e:AZ)(d:O dM):Bool:=(let b:=(uZ ((e.filter λa:AJ=>(has c a)).map λa:AJ=>a));(if(decide (d=([]:O dM)))=true then(decide (b=([]:AZ)))else(let q1:=(at' d 0);(if((decide (b=([]:AZ)))||(decide (q1.2.2=([]:AZ))))=true then false else(decide (q1.2.2=((b.filter λa:AJ=>(decide ((look c a)=q1.2.1))).map λa:AJ=>a)))))))
def gq(b:(O (AJ×AJ)))(d:AZ)(c:O dM):Prop:=((d.length<=100000/\((d.filter λa:AJ=>(has b a)).map λa:AJ=>a).length<64)/\(let e:=(uZ ((d.filter λa:AJ=>(has b a)).map λa:AJ=>a));((decide (c=([]:O dM)))=false->(In c.length 0/\(let q1:=(at' c 0);(((decide (e=([]:AZ)))||(decide (q1.2.2=([]:AZ))))=false->(e.length<=100000/\(∀a∈e,has b a=true))))))))
theorem Iu(b:(O (AJ×AJ)))(d:AZ)(c:O dM){g:Bx}(f:Lp g (c.map dh)):RP lN [Z (nE eS b),Z ((zE (eT eS)) d),Z g,X9,X9,X9,X9] (λr=>Ap.rt (zE eB r)) (dW b d c) (Z (gq b d c)):=R.tp (bU 3 (Zj (kZ (a0 (Xb (au 1 (zE (eT eS)) d X2)) _ (λ_=>X2) (λa:AJ=>(cP (OS (au 1 (zE eS) a X2) (au 0 (nE eS) b X2)))) (λa:AJ=>(au 1 (zE eS) a X2)) (λ_=>X2) λ_=>X2))) (λ_=>X2) λe=>(kY (cP (Pn () (cT 2 dh c f X2) (kZ (iR (cU dh) (zw X2))))) (bI (bZ (λr=>r) (Pn () (jg (au 3 (lE eS) e X2)) (kZ (iR (cU eS) (zw X2)))) (λ_=>X2) λ_=>X2)) (bW (LX (iT (cT 2 dh c f X2) (B8 0)) _ (λ_=>X2) λq1=>(kY (ES (cP (Pn () (jg (au 3 (lE eS) e X2)) (kZ (iR (cU eS) (zw X2))))) (cP (B9 () (au 6 (zE (eT eS)) q1.2.2 X2) (b7 eS)))) (bI (bZ (λr=>r) (yP (.bl false) eB false X2) (λ_=>X2) λ_=>X2)) (bW (bZ (λr=>r) (Pn () (kZ (d4 (au 6 (zE (eT eS)) q1.2.2 X2))) (kZ (mZ (BK (jg (au 3 (lE eS) e X2))) _ (λ_=>X2) (λa:AJ=>(cP (B9 () (lZ (au 1 (nE eS) b X2) (au 2 (zE eS) a X2)) (au 0 (zE eS) q1.2.1 X2)))) (λa:AJ=>(au 2 (zE eS) a X2))))) (λ_=>X2) λ_=>X2)))))))
theorem yu:∀v bs,(aM eS (aZ (eT eS) (aL dh aN))) v bs->bs.length=3/\(hold (Z (gq v.1 v.2.1 v.2.2.1))->fW (bs.map lend)=Z ((zE eB) (dW v.1 v.2.1 v.2.2.1))):=by
 rintro⟨a,b,e,_⟩ _ ⟨_,_,rfl,(rfl|rfl),⟨_,rfl,⟨d,_,rfl,c,rfl⟩⟩⟩
 all_goals exact⟨rfl,λh=>bL (g:=lN) (n:=7) (bs:=[nE eS a,.z (eT eS b),lend d]) (Iu a b e (kO c)) h⟩
def gw(d:O bh)(c:(O (AJ×AJ)))(a:AZ)(b:AJ)(val:AJ):Bool:=(dW c a (dN d [(b,val)] a))
def iU(c:O bh)(d:(O (AJ×AJ)))(a:AZ)(b:AJ)(val:AJ):Prop:=((je c [(b,val)] a)/\(gq d a (dN c [(b,val)] a)))
theorem Iv(d:O bh)(c:(O (AJ×AJ)))(a:AZ)(b:AJ)(val:AJ):RP lO [Z ((zE (eT aR)) d),Z (nE eS c),Z ((zE (eT eS)) a),Z (zE eS b),Z (zE eS val)] (λr=>Ap.rt (zE eB r)) (gw d c a b val) (Z (iU d c a b val)):=R.tp (bZ (λr=>r) (An yu (Xe (au 1 (nE eS) c X2) (bM (au 2 (zE (eT eS)) a X2) (uG (Ii (Rm (An Ah (bM (au 0 (zE (eT aR)) d X2) (bM (Kz (aP (mY (au 3 (zE eS) b X2) (au 4 (zE eS) val X2)) (cU gQ)) (zw X2)) (bM (au 2 (zE (eT eS)) a X2) bx)))))) bx)))) (λ_=>X2) λ_=>X2)
theorem Iw:∀v bs,(aZ (eT aR) (aM eS (aZ (eT eS) (aZ eS (aZ eS aN))))) v bs->bs.length=5/\(hold (Z (iU v.1 v.2.1 v.2.2.1 v.2.2.2.1 v.2.2.2.2.1))->lQ (bs.map lend)=Z ((zE eB) (gw v.1 v.2.1 v.2.2.1 v.2.2.2.1 v.2.2.2.2.1))):=by
 rintro⟨d,c,b,a,val,_⟩ _ ⟨_,rfl,⟨_,_,rfl,(rfl|rfl),⟨_,rfl,⟨_,rfl,⟨_,rfl,rfl⟩⟩⟩⟩⟩
 all_goals exact⟨rfl,λh=>bL (g:=lO) (n:=5) (bs:=[.z (eT aR d),nE eS c,.z (eT eS b),.z (eS a),.z (eS val)]) (Iv d c b a val) h⟩
def iV(val:AJ)(d:(O (AJ×AJ)))(g:(O (O dM)))(c:O dM):Bool:=(let b:=((g.filter λvo:(O dM)=>(!decide (vo=([]:O dM)))).map λvo:(O dM)=>(at' vo 0));(if(decide (c=([]:O dM)))=true then(decide (b=([]:O dM)))else(let a:=(at' c 0).2.1;(let f:=(b.map λvo:dM=>vo.2.1);(if(decide (val=("least":AJ)))=true then(decide (a=(As CM f)))else(if(decide (val=("greatest":AJ)))=true then(decide (a=(As CF f)))else(if(decide (val=("longest":AJ)))=true then(decide (a=(As (λx z=>Ao FV x z) (f.map λvo:AJ=>(((0:Int)-(vo.length:Int)),vo))).2))else(if(decide (val=("first":AJ)))=true then(decide (a=(As (λx z=>Ao gQ x z) (b.map λvo:dM=>((at' vo.2.2 0),vo.2.1))).2))else(if(decide (val=("last":AJ)))=true then(decide (a=(As (λx z=>Ao gQ z x) (b.map λvo:dM=>((at' vo.2.2 (-(1:Int))),vo.2.1))).2))else(let h:=((d.map (·.2)).map λvo:AJ=>((((d.map (·.1)).filter λe:AJ=>(decide ((look d e)=vo))).map λe:AJ=>e).length:Int));(decide (((at' c 0).2.2.length:Int)=(MJ h)))))))))))))
def iW(val:AJ)(a:(O (AJ×AJ)))(f:(O (O dM)))(d:O dM):Prop:=((f.length<=100000/\(∀vo∈f,((!decide (vo=([]:O dM)))=true->In vo.length 0)))/\(let b:=((f.filter λvo:(O dM)=>(!decide (vo=([]:O dM)))).map λvo:(O dM)=>(at' vo 0));((decide (d=([]:O dM)))=false->(In d.length 0/\(let h:=(at' d 0).2.1;(b.length<=100000/\(let e:=(b.map λvo:dM=>vo.2.1);(((decide (val=("least":AJ)))=true->e≠[])/\((decide (val=("least":AJ)))=false->(((decide (val=("greatest":AJ)))=true->e≠[])/\((decide (val=("greatest":AJ)))=false->(((decide (val=("longest":AJ)))=true->(e.length<=100000/\(e.map λvo:AJ=>(((0:Int)-(vo.length:Int)),vo))≠[]))/\((decide (val=("longest":AJ)))=false->(((decide (val=("first":AJ)))=true->((b.length<=100000/\(∀vo∈b,In vo.2.2.length 0))/\(b.map λvo:dM=>((at' vo.2.2 0),vo.2.1))≠[]))/\((decide (val=("first":AJ)))=false->(((decide (val=("last":AJ)))=true->((b.length<=100000/\(∀vo∈b,In vo.2.2.length (-(1:Int))))/\(b.map λvo:dM=>((at' vo.2.2 (-(1:Int))),vo.2.1))≠[]))/\((decide (val=("last":AJ)))=false->(((a.map (·.2)).length<=100000/\(∀vo∈(a.map (·.2)),((a.map (·.1)).length<=100000/\(∀c∈(a.map (·.1)),has a c=true))))/\(let g:=((a.map (·.2)).map λvo:AJ=>((((a.map (·.1)).filter λc:AJ=>(decide ((look a c)=vo))).map λc:AJ=>c).length:Int));(In d.length 0/\0<g.length))))))))))))))))))))
theorem Iz(val:AJ)(b:(O (AJ×AJ)))(d:(O (O dM))){j:Bx}(m:Lp j (d.map (eL dh)))(a:O dM){l:Bx}(g:Lp l (a.map dh)):RP lR [Z (zE eS val),Z (nE eS b),Z j,Z l,X9,X9,X9,X9] (λr=>Ap.rt (zE eB r)) (iV val b d a) (Z (iW val b d a)):=R.tp (bU 4 (mZ (BK (cT 2 (eL dh) d m X2)) _ (λ_=>X2) (λvo:(O dM)=>(cP (LF () (Ii (au 0 (zE (eL dh)) vo X2)) (kZ (iR (cU dh) (zw X2)))))) (λvo:(O dM)=>(iT (Ii (au 0 (zE (eL dh)) vo X2)) (B8 0)))) (λ_=>X2) λf=>(kY (cP (Pn () (cT 3 dh a g X2) (kZ (iR (cU dh) (zw X2))))) (bI (bZ (λr=>r) (Pn () (jg (au 4 (lE dh) f X2)) (kZ (iR (cU dh) (zw X2)))) (λ_=>X2) λ_=>X2)) (bW (bU 5 (gM (iT (cT 3 dh a g X2) (B8 0)) (λq=>q.2.1) eS 1 λ_=>X2) (λ_=>X2) λc=>(bU 6 (Dr (BK (jg (au 4 (lE dh) f X2))) _ (λ_=>X2) (λvo:dM=>(gM (au 0 (zE dh) vo X2) (λq=>q.2.1) eS 1 λ_=>X2)) λ_=>X2) (λ_=>X2) λi=>(kY (cP (B9 () (au 0 (zE eS) val X2) (vO "least"))) (bI (bZ (λr=>r) (B9 () (au 5 (zE eS) c X2) (Pm (jg (au 6 (lE eS) i X2)))) (λ_=>X2) λ_=>X2)) (bW (kY (cP (B9 () (au 0 (zE eS) val X2) (vO "greatest"))) (bI (bZ (λr=>r) (B9 () (au 5 (zE eS) c X2) (ND (jg (au 6 (lE eS) i X2)))) (λ_=>X2) λ_=>X2)) (bW (kY (cP (B9 () (au 0 (zE eS) val X2) (vO "longest"))) (bI (bZ (λr=>r) (B9 () (au 5 (zE eS) c X2) (gM (ZP (e:=FV) (kZ (Dr (BK (jg (au 6 (lE eS) i X2))) _ (λ_=>X2) (λvo:AJ=>(mY (mT (B8 0) (KC (au 0 (zE eS) vo X2))) (au 0 (zE eS) vo X2))) λ_=>X2))) (λq=>q.2) eS 1 λ_=>X2)) (λ_=>X2) λ_=>X2)) (bW (kY (cP (B9 () (au 0 (zE eS) val X2) (vO "first"))) (bI (bZ (λr=>r) (B9 () (au 5 (zE eS) c X2) (gM (ZP (e:=gQ) (kZ (yQ (BK (jg (au 4 (lE dh) f X2))) _ (λ_=>X2) (λvo:dM=>(mY (Re (gM (au 0 (zE dh) vo X2) (λq=>q.2.2) (eT eS) 2 λ_=>X2) (B8 0)) (gM (au 0 (zE dh) vo X2) (λq=>q.2.1) eS 1 λ_=>X2)))))) (λq=>q.2) eS 1 λ_=>X2)) (λ_=>X2) λ_=>X2)) (bW (kY (cP (B9 () (au 0 (zE eS) val X2) (vO "last"))) (bI (bZ (λr=>r) (B9 () (au 5 (zE eS) c X2) (gM (sC (e:=gQ) (kZ (yQ (BK (jg (au 4 (lE dh) f X2))) _ (λ_=>X2) (λvo:dM=>(mY (Re (gM (au 0 (zE dh) vo X2) (λq=>q.2.2) (eT eS) 2 λ_=>X2) (Uz (B8 1))) (gM (au 0 (zE dh) vo X2) (λq=>q.2.1) eS 1 λ_=>X2)))))) (λq=>q.2) eS 1 λ_=>X2)) (λ_=>X2) λ_=>X2)) (bW (bU 7 (yQ (BK (kZ (hW (au 1 (nE eS) b X2)))) _ (λ_=>X2) (λvo:AJ=>(pP (C0 (kZ (mZ (IS (au 0 (nE eS) b X2)) _ (λ_=>X2) (λh:AJ=>(cP (B9 () (lZ (au 1 (nE eS) b X2) (au 2 (zE eS) h X2)) (au 0 (zE eS) vo X2)))) (λh:AJ=>(au 2 (zE eS) h X2)))))))) (λ_=>X2) λn=>(bZ (λr=>r) (B9 () (OG (gM (iT (cT 3 dh a g X2) (B8 0)) (λq=>q.2.2) (eT eS) 2 λ_=>X2)) (fN (jg (au 7 (lE eI) n X2)))) (λ_=>X2) λ_=>X2)))))))))))))))))
theorem IK:∀v bs,(aZ eS (aM eS (aL (eL dh) (aL dh aN)))) v bs->bs.length=4/\(hold (Z (iW v.1 v.2.1 v.2.2.1 v.2.2.2.1))->lU (bs.map lend)=Z ((zE eB) (iV v.1 v.2.1 v.2.2.1 v.2.2.2.1))):=by
 rintro⟨val,a,f,d,_⟩ _ ⟨_,rfl,⟨_,_,rfl,(rfl|rfl),⟨c,_,rfl,b,⟨e,_,rfl,i,rfl⟩⟩⟩⟩
 all_goals exact⟨rfl,λh=>bL (g:=lR) (n:=8) (bs:=[.z (eS val),nE eS a,lend c,lend e]) (Iz val a f (kO b) d (kO i)) h⟩
def dO(h:O bh)(d:O AZ)(e:AJ)(val:AJ)(b:(O (AJ×AJ)))(f:(O (O dM)))(i:Unit)(a:Int):nY (Unit) Bool:=(if((!(dW b (at' d a) (at' f a)))||(!(gw h b (at' d a) e val)))=true then(nY.rt false)else(let g:=(((at' d a).filter λc:AJ=>(has b c)).map λc:AJ=>(e,(look b c),[c]));(if((decide (((at' d a).length:Int)=1))&&(!decide ((at' f a)=g)))=true then(nY.rt false)else(nY.nx db))))
def gW(g:O bh)(b:O AZ)(f:AJ)(val:AJ)(c:(O (AJ×AJ)))(e:(O (O dM)))(i:Unit)(a:Int):Prop:=((((In b.length a/\In e.length a)/\(gq c (at' b a) (at' e a)))/\((!(dW c (at' b a) (at' e a)))=false->(In b.length a/\(iU g c (at' b a) f val))))/\(((!(dW c (at' b a) (at' e a)))||(!(gw g c (at' b a) f val)))=false->(((In b.length a/\(at' b a).length<=100000)/\(∀d∈(at' b a),((has c d)=true->has c d=true)))/\(let h:=(((at' b a).filter λd:AJ=>(has c d)).map λd:AJ=>(f,(look c d),[d]));(In b.length a/\((decide (((at' b a).length:Int)=1))=true->In e.length a))))))
theorem Aq(f:O bh)(c:O AZ){i:Bx}(g:Lp i (c.map (eT eS)))(d:AJ)(val:AJ)(b:(O (AJ×AJ)))(l:AZ)(e:(O (O dM)))(j:Unit)(a:Int):RP ql [Z ((zE (eT aR)) f),Z i,Z (zE eS d),Z (zE eS val),Z (mE eS b),Z ((zE (eT eS)) l),Z ((oE (eL dh)) e),Z (zE eI a),X9] (cC (λj:Unit=>[Z ((zE (eT aR)) f),Z i,Z (zE eS d),Z (zE eS val),Z (mE eS b),Z ((zE (eT eS)) l),Z ((oE (eL dh)) e),X9,X9]) (zE eB)) (dO f c d val b e j a) (Z (gW f c d val b e j a)):=R.tp (bI (kY (ES (IP (Go (An yu (Xe (au 4 (nE eS) b X2) (bM (iT (cT 1 (eT eS) c g X2) (au 7 (zE eI) a X2)) (uG (Ii (iT (jg (au 6 (lE (eL dh)) e X2)) (au 7 (zE eI) a X2))) bx)))))) (IP (Go (An Iw (bM (au 0 (zE (eT aR)) f X2) (Xe (au 4 (nE eS) b X2) (bM (iT (cT 1 (eT eS) c g X2) (au 7 (zE eI) a X2)) (bM (au 2 (zE eS) d X2) (bM (au 3 (zE eS) val X2) bx))))))))) (bI (bZ .rt (yP (.bl false) eB false X2) (λ_=>X2) λ_=>X2)) (bW (bI (bU 8 (mZ (Xb (iT (cT 1 (eT eS) c g X2) (au 7 (zE eI) a X2))) _ (λ_=>X2) (λh:AJ=>(cP (OS (au 2 (zE eS) h X2) (au 1 (nE eS) b X2)))) (λh:AJ=>(Kw (au 0 (zE eS) d X2) (lZ (au 1 (nE eS) b X2) (au 2 (zE eS) h X2)) (Kz (aP (au 2 (zE eS) h X2) (cU eS)) (zw X2))))) (λ_=>X2) λm=>(bI (kY (L0 (cP (B9 () (OG (iT (cT 1 (eT eS) c g X2) (au 7 (zE eI) a X2))) (B8 1))) (cP (LF () (Ii (iT (jg (au 6 (lE (eL dh)) e X2)) (au 7 (zE eI) a X2))) (jg (au 8 (lE dh) m X2))))) (bI (bZ .rt (yP (.bl false) eB false X2) (λ_=>X2) λ_=>X2)) (bW (bW (bR (.nx db) X2))))))))))
def gY(a:O bh)(c:O AZ)(b:AJ)(val:AJ):Bool:=(let e:=(p7 a b);(let i:=(uZ (a.map λg:bh=>g.1));(let d:=(iM a [(b,val)] c);(if(!decide ((d.length:Int)=(c.length:Int)))=true then false else(BN (lB (λ(f:Unit) (h:Int)=>((dO a c b val e d f h):nY (Unit) Bool)) (rng 0 (c.length:Int).toNat) db) (λr=>r) λf:Unit=>(iV val e d (dN a [(b,val)] i)))))))
def gZ(a:O bh)(c:O AZ)(b:AJ)(val:AJ):Prop:=((uh a b)/\(let g:=(p7 a b);((a.length<=100000/\(a.map λh:bh=>h.1).length<64)/\(let i:=(uZ (a.map λh:bh=>h.1));((xW a [(b,val)] c)/\(let e:=(iM a [(b,val)] c);((!decide ((e.length:Int)=(c.length:Int)))=false->((Rg (c.length:Int)/\rG (λ(d:Unit) (f:Int)=>((dO a c b val g e d f):nY (Unit) Bool)) (λ(d:Unit) (f:Int)=>Z (gW a c b val g e d f)) (rng 0 (c.length:Int).toNat) db)/\(sU (lB (λ(d:Unit) (f:Int)=>((dO a c b val g e d f):nY (Unit) Bool)) (rng 0 (c.length:Int).toNat) db) λd:Unit=>((je a [(b,val)] i)/\(iW val g e (dN a [(b,val)] i))))))))))))
theorem GC(a:O bh)(c:O AZ){f:Bx}(e:Lp f (c.map (eT eS)))(b:AJ)(val:AJ):RP jP [Z ((zE (eT aR)) a),Z f,Z (zE eS b),Z (zE eS val),X9,X9,X9,X9,X9] (λr=>Ap.rt (zE eB r)) (gY a c b val) (Z (gZ a c b val)):=R.tp (bU 4 (An V2 (bM (au 0 (zE (eT aR)) a X2) (bM (au 2 (zE eS) b X2) bx))) (λ_=>X2) λg=>(bU 5 (oU (kZ (Zj (kZ (Dr (Xb (au 0 (zE (eT aR)) a X2)) _ (λ_=>X2) (λj:bh=>(gM (au 0 (zE aR) j X2) (λq=>q.1) eS 0 λ_=>X2)) λ_=>X2))))) (λ_=>X2) λh=>(bU 6 (An Ml (bM (au 0 (zE (eT aR)) a X2) (bM (Kz (aP (mY (au 2 (zE eS) b X2) (au 3 (zE eS) val X2)) (cU gQ)) (zw X2)) (uG (cT 1 (eT eS) c e X2) bx)))) (λ_=>X2) λd=>(kY (cP (LG () (C0 (jg (au 6 (lE (eL dh)) d X2))) (C0 (cT 1 (eT eS) c e X2)))) (bI (bZ (λr=>r) (yP (.bl false) eB false X2) (λ_=>X2) λ_=>X2)) (bW (Ru (λi:Unit=>[Z ((zE (eT aR)) a),Z f,Z (zE eS b),Z (zE eS val),Z (mE eS g),Z ((zE (eT eS)) h),Z ((oE (eL dh)) d),X9,X9]) db X2 (Hl (C0 (cT 1 (eT eS) c e X2))) _ (λ_ _=>X2) (λ(i:Unit) (l:Int)=>((Aq a c e b val g h d i l).r:R _ _ (cC (λi:Unit=>[Z ((zE (eT aR)) a),Z f,Z (zE eS b),Z (zE eS val),Z (mE eS g),Z ((zE (eT eS)) h),Z ((oE (eL dh)) d),X9,X9]) (zE eB)))) (λr=>r) (λ_=>X2) λi=>(bZ (λr=>r) (An IK (bM (au 3 (zE eS) val X2) (Xe (au 4 (nE eS) g X2) (uG (jg (au 6 (lE (eL dh)) d X2)) (uG (Ii (Rm (An Ah (bM (au 0 (zE (eT aR)) a X2) (bM (Kz (aP (mY (au 2 (zE eS) b X2) (au 3 (zE eS) val X2)) (cU gQ)) (zw X2)) (bM (au 5 (zE (eT eS)) h X2) bx)))))) bx))))) (λ_=>X2) λ_=>X2)))))))
theorem GD:∀v bs,(aZ (eT aR) (aL (eT eS) (aZ eS (aZ eS aN)))) v bs->bs.length=4/\(hold (Z (gZ v.1 v.2.1 v.2.2.1 v.2.2.2.1))->jQ (bs.map lend)=Z ((zE eB) (gY v.1 v.2.1 v.2.2.1 v.2.2.2.1))):=by
 rintro⟨b,e,a,val,_⟩ _ ⟨_,rfl,⟨d,_,rfl,c,⟨_,rfl,⟨_,rfl,rfl⟩⟩⟩⟩;exact⟨rfl,λh=>bL (g:=jP) (n:=9) (bs:=[.z (eT aR b),lend d,.z (eS a),.z (eS val)]) (GC b e (kO c) a val) h⟩
def vM(a:O bh)(b:O AZ)(c:Unit)(q3:dJ):nY (Unit) Bool:=(if(!(gY a b q3.1 q3.2))=true then(nY.rt false)else(nY.nx db))
def Mq(a:O bh)(b:O AZ)(c:Unit)(q3:dJ):Prop:=(gZ a b q3.1 q3.2)
theorem d6(f:BB)(g:Lp dH (f.map eI))(a:O bh)(d:BT)(vs:K5)(e:O dJ)(b:O AZ)(c:Unit)(q3:dJ):RP Ve [Z dH,Z ((zE (eT aR)) a),Z ((zE (eT eD)) d),Z (zE nG vs),Z ((zE (eT gQ)) e),Z ((zE (eL (eT eS))) b),Z ((zE eS) q3.1),Z ((zE eS) q3.2)] (cC (λc:Unit=>[Z dH,Z ((zE (eT aR)) a),Z ((zE (eT eD)) d),Z (zE nG vs),Z ((zE (eT gQ)) e),Z ((zE (eL (eT eS))) b),X9,X9]) (zE eB)) (vM a b c q3) (Z (Mq a b c q3)):=R.tp (bI (kY (IP (Go (An GD (bM (au 1 (zE (eT aR)) a X2) (uG (Ii (au 5 (zE (eL (eT eS))) b X2)) (bM (au 6 (zE eS) q3.1 X2) (bM (au 7 (zE eS) q3.2 X2) bx))))))) (bI (bZ .rt (yP (.bl false) eB false X2) (λ_=>X2) λ_=>X2)) (bW (bW (bR (.nx db) X2)))))
def rZ(b:O bh)(a:O dJ)(f:Unit)(c:O AZ):nY (Unit) Bool:=(BN (lB (λ(d:Unit) (q3:dJ)=>((vM b c d q3):nY (Unit) Bool)) (a++[(("name":AJ),("most":AJ)),(("p":AJ),("last":AJ))]) db) (λr=>nY.rt r) λd:Unit=>(if(!decide ((iM b a c)=(c.map λe:AZ=>(dN b a e))))=true then(nY.rt false)else(nY.nx db)))
def zB(d:O bh)(c:O dJ)(f:Unit)(a:O AZ):Prop:=((MK (c.length+[(("name":AJ),("most":AJ)),(("p":AJ),("last":AJ))].length)/\rG (λ(b:Unit) (q3:dJ)=>((vM d a b q3):nY (Unit) Bool)) (λ(b:Unit) (q3:dJ)=>Z (Mq d a b q3)) (c++[(("name":AJ),("most":AJ)),(("p":AJ),("last":AJ))]) db)/\(sU (lB (λ(b:Unit) (q3:dJ)=>((vM d a b q3):nY (Unit) Bool)) (c++[(("name":AJ),("most":AJ)),(("p":AJ),("last":AJ))]) db) λb:Unit=>((xW d c a)/\(a.length<=100000/\(∀e∈a,(je d c e))))))
theorem nL(g:BB)(h:Lp dH (g.map eI))(b:O bh)(d:BT)(vs:K5)(a:O dJ)(f:Unit)(c:O AZ):RP Vf [Z dH,Z ((zE (eT aR)) b),Z ((zE (eT eD)) d),Z (zE nG vs),Z ((zE (eT gQ)) a),Z ((zE (eL (eT eS))) c),X9,X9] (cC (λf:Unit=>[Z dH,Z ((zE (eT aR)) b),Z ((zE (eT eD)) d),Z (zE nG vs),Z ((zE (eT gQ)) a),X9,X9,X9]) (zE eB)) (rZ b a f c) (Z (zB b a f c)):=R.tp (bI (Ru (λe:Unit=>[Z dH,Z ((zE (eT aR)) b),Z ((zE (eT eD)) d),Z (zE nG vs),Z ((zE (eT gQ)) a),Z ((zE (eL (eT eS))) c),X9,X9]) db X2 (Sl (ajE (au 4 (zE (eT gQ)) a X2) (Kz (aP (mY (vO "name") (vO "most")) (aP (mY (vO "p") (vO "last")) (cU gQ))) (zw X2)))) _ (λ_ _=>X2) (λ(e:Unit) (q3:dJ)=>((d6 g h b d vs a c e q3).r:R _ _ (cC (λe:Unit=>[Z dH,Z ((zE (eT aR)) b),Z ((zE (eT eD)) d),Z (zE nG vs),Z ((zE (eT gQ)) a),Z ((zE (eL (eT eS))) c),X9,X9]) (zE eB)))) .rt (λ_=>X2) λe=>(bI (kY (cP (LF () (kZ (An Ml (bM (au 1 (zE (eT aR)) b X2) (bM (au 4 (zE (eT gQ)) a X2) (uG (Ii (au 5 (zE (eL (eT eS))) c X2)) bx))))) (kZ (yQ (BK (Ii (au 5 (zE (eL (eT eS))) c X2))) _ (λ_=>X2) (λi:AZ=>(Rm (An Ah (bM (au 0 (zE (eT aR)) b X2) (bM (au 1 (zE (eT gQ)) a X2) (bM (au 2 (zE (eT eS)) i X2) bx)))))))))) (bI (bZ .rt (yP (.bl false) eB false X2) (λ_=>X2) λ_=>X2)) (bW (bW (bR (.nx db) X2)))))))
def V9(a:BB):Bool:=(let c:=(C5 (d7 a 14) X9 (Z 7));(let d:=(iu (aV (bw a 16) 5));(let vs:=(cG c d);(let e:=(jD (aV (bw a 17) 8));(BN (lB (λ(b:Unit) (f:O AZ)=>((rZ c e b f):nY (Unit) Bool)) [(jE vs),(iK vs).1] db) (λr=>r) λb:Unit=>true)))))
def Wa(a:BB):Prop:=((xO a 14)/\(let c:=(C5 (d7 a 14) X9 (Z 7));((((jA a 16)/\(gG (bw a 16) 5))/\(ug (aV (bw a 16) 5)))/\(let f:=(iu (aV (bw a 16) 5));((pZ c f)/\(let vs:=(cG c f);((((jA a 17)/\(gG (bw a 17) 8))/\(xQ (aV (bw a 17) 8)))/\(let e:=(jD (aV (bw a 17) 8));((((rR vs)/\(qQ vs))/\rG (λ(b:Unit) (d:O AZ)=>((rZ c e b d):nY (Unit) Bool)) (λ(b:Unit) (d:O AZ)=>Z (zB c e b d)) [(jE vs),(iK vs).1] db)/\(sU (lB (λ(b:Unit) (d:O AZ)=>((rZ c e b d):nY (Unit) Bool)) [(jE vs),(iK vs).1] db) λb:Unit=>True))))))))))
theorem WO(a:BB)(b:Lp dH (a.map eI)):RP ZV [Z dH,X9,X9,X9,X9,X9,X9,X9] (λr=>Ap.rt (zE eB r)) (V9 a) (Z (Wa a)):=R.tp (bU 1 (t5 (An XM (uG (cT 0 eI a b X2) (bM (B8 14) bx))) W9 (Xa (B8 7))) (λ_=>X2) λe=>(bU 2 (An VL (uG (Ii (Rm (An pF (bM (pP (An xK (uG (cT 0 eI a b X2) (bM (B8 16) bx)))) (bM (B8 5) bx))))) bx)) (λ_=>X2) λd=>(bU 3 (An VR (bM (au 1 (zE (eT aR)) e X2) (bM (au 2 (zE (eT eD)) d X2) bx))) (λ_=>X2) λvs=>(bU 4 (An X5 (uG (Ii (Rm (An pF (bM (pP (An xK (uG (cT 0 eI a b X2) (bM (B8 17) bx)))) (bM (B8 8) bx))))) bx)) (λ_=>X2) λf=>(Ru (λc:Unit=>[Z dH,Z ((zE (eT aR)) e),Z ((zE (eT eD)) d),Z (zE nG vs),Z ((zE (eT gQ)) f),X9,X9,X9]) db X2 (GY (iR (aP (Rm (An Ye (bM (au 3 (zE nG) vs X2) bx))) (aP (gM (An Sq (bM (au 3 (zE nG) vs X2) bx)) (λq=>q.1) (eL (eT eS)) 0 λ_=>X2) (cU (eL (eT eS))))) (zw X2))) _ (λ_ _=>X2) (λ(c:Unit) (g:O AZ)=>((nL a b e d vs f c g).r:R _ _ (cC (λc:Unit=>[Z dH,Z ((zE (eT aR)) e),Z ((zE (eT eD)) d),Z (zE nG vs),Z ((zE (eT gQ)) f),X9,X9,X9]) (zE eB)))) (λr=>r) (λ_=>X2) λc=>(bZ (λr=>r) (yP (.bl true) eB true X2) (λ_=>X2) λ_=>X2))))))
theorem NY:∀v bs,(aL eI aN) v bs->bs.length=1/\(hold (Z (Wa v.1))->F_law (bs.map lend)=Z ((zE eB) (V9 v.1))):=by
 rintro⟨a,_⟩ _ ⟨dH,_,rfl,b,rfl⟩;exact⟨rfl,λh=>bL (g:=ZV) (n:=8) (bs:=[lend dH]) (WO a (kO b)) h⟩
theorem NN(h:∀a:O Int,a.length<=63->Wa a/\V9 a=true):(∀a:O Int,a.length<=63->F_law [.z (.lst (a.map .int))]=Z (.z (.bl true)))/\∀a:O Int,a.length<=63->F_law [.l (a.map .int)]=Z (.z (.bl true)):=
 ⟨λa b=>((NY (a,db) [.z (.lst (a.map .int))] ⟨_,_,rfl,rfl,rfl⟩).2 (h a b).1).trans (by rw[(h a b).2]),λa b=>((NY (a,db) [.l (a.map .int)] ⟨_,_,rfl,rfl,rfl⟩).2 (h a b).1).trans (by rw[(h a b).2])⟩
end
end G69
end
section
set_option synthInstance.maxSize 100000
namespace G69
open L2 P1
theorem Sy(a:O Int)(k:Int)(h0:0<=k)(h1:k<=1000):jA a k:=by
 unfold jA;exact⟨λh=>B7 h0 (by simpa using h),λ_=>SD h0 ()⟩
theorem tS(k:Nat)(s:Int×O Int×Int)(hk:k<1000)(h:(0<=s.1/\s.1<1999999973)/\s.2.1.length=k/\(∀x∈s.2.1,0<=x)/\0<=s.2.2):j4 s k/\(0<=(cW s k).1/\(cW s k).1<1999999973)/\(cW s k).2.1.length=k+1/\(∀x∈(cW s k).2.1,0<=x)/\0<=(cW s k).2.2:=by
 obtain⟨h1,h2,b,c⟩:=h;have a:In 2 (if(decide ((0:Int)<s.2.2))=true then(1:Int)else 0):=by split<;>exact B7 () ()
 refine⟨⟨SD h1.1 (),a,?_⟩,sX _ (),?_,?_,Int.ediv_nonneg c ()⟩
 ·show s.2.1.length<=1000000;omega
 ·show(s.2.1++[_]).length=k+1;rw[Zl,h2];rfl
 ·intro x hx;rcases bB.mp hx with hx|hx
  ·exact b x hx
  ·cases bj.mp hx;have:=wj (xs:=[((((s.1*((s.1%65521)+40487))+(7*k))+5)%1999999973),(s.2.2%1000000)]) a;simp only[QP,qA,or_false]at this;rcases this with e|e<;>rw[e]
   ·exact(sX _ ()).1
   ·exact(sX _ ()).1
theorem Mr(c m:Int)(h0:0<=m)(h1:m<=1000):gG c m/\(aV c m).length=m.toNat/\∀x∈aV c m,0<=x:=by
 have b:∀st a:Int,(0<=st/\st<1999999973)->0<=a->oJ c m [] st a/\(j5 c m [] st a).length=m.toNat/\∀x∈j5 c m [] st a,0<=x:=λst a hs hd=>by
  have:=rH (P:=λs k=>Z (j4 s k)) (λk s=>(0<=s.1/\s.1<1999999973)/\s.2.1.length=k/\(∀x∈s.2.1,0<=x)/\0<=s.2.2) (step:=λs k=>cW s k) m.toNat (st,[],a) ⟨hs,rfl,λx h=>(by cases h),hd⟩ λk s hk h=>tS k s () h;exact⟨⟨Hr h0 (),this.1⟩,this.2.2.1,this.2.2.2.1⟩
 refine b _ _ (sX _ ()) ?_;dsimp only;split<;>(try split)<;>omega
theorem Ai{m:O (AJ×α)}:has m x=true↔x∈m.map (·.1):=by
 unfold has;rw[xE,av];constructor
 ·rintro⟨q,a,h⟩;exact⟨q,a,Q2 h⟩
 ·rintro⟨q,a,h⟩;exact⟨q,a,z5 h⟩
theorem Wb[Inhabited α]{a AS:O (AJ×α)}{n:AJ}{h:α}(b:n∉a.map (·.1)):look (a++(n,h)::AS) n=h:=by
 unfold look;have:a.find? (λq=>decide (q.1=n))=X9:=dI.mpr λq c e=>b (av.mpr ⟨q,c,Q2 e⟩);rw[List.find?_append,this];simp
theorem am{a AS:O (AJ×α)}{n:AJ}{h v:α}(g:n∉a.map (·.1))(d:n∉AS.map (·.1)):put (a++(n,h)::AS) n v=a++(n,v)::AS:=by
 unfold put;rw[zl (Ai.mpr (by simp))];have b:∀l:O (AJ×α),n∉l.map (·.1)->l.map (λq=>if q.1=n then(q.1,v)else q)=l:=λl c=>by
  conv=>rhs;rw[<-n7 l]
  refine Q1 λq f=>?_;rw[zv λe=>c (av.mpr ⟨q,f,e⟩)];rfl
 rw[qc,zk,b a g,b AS d];simp
theorem gf[Inhabited α]{m:O (AJ×α)}(h:x∈m.map (·.1)):(x,look m x)∈m:=by
 unfold look;cases a:m.find? λq=>decide (q.1=x)with
 |none=>
  obtain⟨q,b,rfl⟩:=av.mp h;have:=dI.mp a q b;simp at this
 |some q=>
  have h1:=hI a;have h2:q.1=x:=by simpa using List.find?_some a
  show(x,q.2)∈m;rw[<-h2];exact h1
theorem ZX[Inhabited α]{m:O (AJ×α)}(nd:(m.map (·.1)).Nodup){q:AJ×α}(h:q∈m):look m q.1=q.2:=by
 obtain⟨a,AS,rfl⟩:=List.append_of_mem h;have:q.1∉a.map (·.1):=λe=>by
  rw[qc,zk,y7]at nd;exact nd.2.2 _ e _ (zh ..) rfl
 exact Wb this
def mn(one a:AJ):AJ:=if xZ a one=true then a else one
def jn(one a h:AJ):AJ:=if h=one\/h=a then mn one a else h
theorem LV(a b:AJ):mn a b=a\/mn a b=b:=by unfold mn;split;exact .inr rfl;exact .inl rfl
def jm(m:O (AJ×AJ))(one a:AJ):O (AJ×AJ):=m.map λq=>(q.1,jn one a q.2)
theorem Z0(m:O (AJ×AJ))(one a:AJ):(jm m one a).map (·.1)=m.map (·.1):=by unfold jm;rw[ZU];rfl
theorem agQ{one a:AJ}(nd:(m.map (·.1)).Nodup)(h:x∈m.map (·.1)):look (jm m one a) x=jn one a (look m x):=by
 have h1:=gf h;have:(x,jn one a (look m x))∈jm m one a:=av.mpr ⟨_,h1,rfl⟩;exact ZX (by rw[Z0];exact nd) this
theorem By(one a:AJ):∀(c b:O (AJ×AJ)),((b++c).map (·.1)).Nodup->(b++c).length<1000 →
  sJ (λ(d:(O (AJ×AJ))) (name:AJ)=>(dR one a (mn one a) d name)) (λ(d:(O (AJ×AJ))) (name:AJ)=>Z (qg one a (mn one a) d name)) (c.map (·.1)) (b++c) ∧
  (c.map (·.1)).foldl (λ(d:(O (AJ×AJ))) (name:AJ)=>(dR one a (mn one a) d name)) (b++c)=b++jm c one a
 |[],b,_,_=>⟨trivial,rfl⟩
 |(n,h)::AS,b,nd,hl=>by
  have i:n∉b.map (·.1):=λe=>by
   rw[qc,zk,y7]at nd;exact nd.2.2 _ e _ (zh ..) rfl
  have j:n∉AS.map (·.1):=by
   rw[qc,zk,y7,dr]at nd;exact nd.2.1.1
  have g:has (b++(n,h)::AS) n=true:=Ai.mpr (by simp);have e:dR one a (mn one a) (b++(n,h)::AS) n=b++(n,jn one a h)::AS:=by
   unfold dR;dsimp only;rw[Wb i];unfold jn;by_cases q:h=one\/h=a
   ·rw[zl q,zl (by simpa using q),am i j]
   ·rw[zv q,zv (by simpa using q)]
  have f:=By one a AS (b++[(n,jn one a h)]) (by simpa using nd) (by simpa using hl);rw[ZZ]at f;refine⟨⟨⟨⟨g,λ_=>g⟩,λ_=>hl⟩,?_⟩,?_⟩
  ·show sJ _ _ _ (dR one a (mn one a) (b++(n,h)::AS) n);rw[e];exact f.1
  ·rw[zk,Q4,e];rw[show b++(n,jn one a h)::AS=b++([(n,jn one a h)]++AS) by simp,f.2];unfold jm;simp
theorem Z1(one a:AJ)(nd:(m.map (·.1)).Nodup)(b:m.length<1000):nA m one a/\kh m one a=jm m one a:=By one a m [] nd b
theorem Z2:∀(a m:O (AJ×AJ)),((m++a).map (·.1)).Nodup->a.foldl (λm q=>put m q.1 q.2) m=m++a
 |[],m,_=>by simp
 |q::a,m,nd=>by
  rw[Q4];have:put m q.1 q.2=m++[q]:=by
   unfold put;rw[zv];intro e;have e:=Ai.mp e;rw[qc,zk,y7]at nd;exact nd.2.2 _ e _ (zh ..) rfl
  rw[this,Z2 a (m++[q]) (by simpa using nd)];simp
theorem SJ(n_:AZ)(nd:n_.Nodup)(a:n_.length<1000):nq n_/\eE n_=n_.map λn=>(n,n):=by
 refine⟨⟨a,by omega⟩,?_⟩;unfold eE Fs;rw[Z2 _ [] (by rw[yz,ZU];show(n_.map id).Nodup;rw[n7];exact nd)];rfl
structure Hd (n_:AZ) (m:List (Str×Str)):Prop where
 keys:m.map (·.1)=n_
 nd:n_.Nodup
 len:n_.length<1000
 mem:∀x∈n_,look m x∈n_
 idem:∀x∈n_,look m (look m x)=look m x
theorem Hd.kn(h:Hd n_ m):(m.map (·.1)).Nodup:=by rw[h.keys];exact h.nd
theorem Hd.ml(h:Hd n_ m):m.length<1000:=by rw[<-zg (f:=(·.1)),h.keys];exact h.len
theorem Hd.has(h:Hd n_ m)(hx:x∈n_):has m x=true:=Ai.mpr (by rw[h.keys];exact hx)
theorem Hd.lone(nd:n_.Nodup)(b:n_.length<1000):Hd n_ (n_.map λn=>(n,n)):=by
 have k:(n_.map λn=>(n,n)).map (·.1)=n_:=by rw[ZU];show n_.map id=n_;rw[n7]
 have a:∀x∈n_,look (n_.map λn=>(n,n)) x=x:=λx hx=>ZX (q:=(x,x)) (by rw[k];exact nd) (av.mpr ⟨x,hx,rfl⟩);exact⟨k,nd,b,λx hx=>by rw[a x hx];exact hx,λx hx=>by rw[a x hx,a x hx]⟩
theorem Hd.aev(h:Hd n_ m){one a:AJ}(hx:x∈n_):look (jm m one a) x=jn one a (look m x):=agQ h.kn (by rw[h.keys];exact hx)
theorem Hd.join(h:Hd n_ m){a b:AJ}(c:a∈n_)(d:b∈n_):Hd n_ (jm m (look m a) (look m b)):=by
 have g:=h.mem a c;have m2:=h.mem b d;refine⟨(Z0 _ _ _).trans h.keys,h.nd,h.len,λx hx=>?_,λx hx=>?_⟩
 ·rw[h.aev hx];unfold jn;split
  ·rcases LV (look m a) (look m b)with e|e<;>rw[e]<;>assumption
  ·exact h.mem x hx
 ·have f:jn (look m a) (look m b) (look m x)∈n_:=by
   unfold jn;split
   ·rcases LV (look m a) (look m b)with e|e<;>rw[e]<;>assumption
   ·exact h.mem x hx
  rw[h.aev hx,h.aev f];unfold jn;by_cases q:look m x=look m a\/look m x=look m b
  ·rw[zl q];rcases LV (look m a) (look m b)with e|e
   ·rw[e,h.idem a c,zl (.inl X2)]
   ·rw[e,h.idem b d,zl (.inr X2)]
  ·rw[zv q,h.idem x hx,zv q]
def GL(n_:AZ)(m:O (AJ×AJ)):AZ:=n_.filter λx=>decide (look m x=x)
theorem Z4(h:Hd n_ m):kj m/\(eG m).length=(GL n_ m).length:=by
 have b:=h.len;refine⟨⟨by rw[h.keys];omega,λx hx=>⟨Ai.mpr hx,λ_=>⟨by rw[h.keys];omega,λy a=>Ai.mpr a⟩⟩⟩,?_⟩;unfold eG GL;rw[zg,h.keys]
open S1 S6
abbrev cu:=AJ×O (AJ×AJ)
theorem GF{α τ:Type}{p:α->Bool}{g:α->τ}{step:Unit->α->nY Unit τ}(hs:∀s x,step s x=if p x=true then .rt (g x)else .nx db):∀(xs:O α),lB step xs db=(match xs.find? p with|some x=>.rt (g x)|none=>.nx db)/\rG step (λ_ _=>X9) xs db
 |[]=>⟨rfl,trivial⟩
 |x::xs=>by
  obtain⟨h1,h2⟩:=GF hs xs;unfold lB rG;rw[hs,JY];cases p x with
  |true=>exact⟨rfl,trivial,trivial⟩
  |false=>exact⟨h1,trivial,h2⟩
def fw(ws:O (AJ×AJ))(f:AJ):Y AJ:=(ws.find? λq=>decide (q.1=f)).map (·.2)
theorem jG(r:cu)(f:AJ):gn r f/\cR r f=fw r.2 f:=by
 obtain⟨h1,h2⟩:=GF (p:=λq:AJ×AJ=>decide (q.1=f)) (g:=λq:AJ×AJ=>Z q.2) (step:=λs q=>j7 f s q) (λ_ _=>X2) r.2;refine⟨⟨h2,?_⟩,?_⟩
 ·cases lB (λ(a:Unit) (q2:AJ×AJ)=>((j7 f a q2):nY Unit (Y AJ))) r.2 db<;>trivial
 ·unfold cR fw;rw[h1];cases r.2.find? λq=>decide (q.1=f)<;>rfl
def GJ(a:O cu)(f:AJ):AZ:=a.filterMap λr=>fw r.2 f
theorem MY{α:Type}[Inhabited α]:∀xs:O (Y α),(xs.filter λv=>v.isSome).map (λv=>v.getD default)=xs.filterMap id
 |[]=>rfl
 |none::xs=>MY xs
 |some x::xs=>by
  show _::_=x::_;rw[<-MY xs];rfl
theorem HS(a:O cu)(f:AJ)(h:a.length<=100000):rY a f/\gK a f=GJ a f:=by
 refine⟨⟨⟨⟨h,λr _=>(jG r f).1⟩,by rw[zg];exact h⟩,λ_ _ z=>z⟩,?_⟩;unfold gK GJ;rw[MY,l0];refine congrArg (λg=>List.filterMap g a) (funext λr=>(jG r f).2)
def lJ(B:O cu)(n:AJ):cu:=(B.find? λr=>decide (r.1=n)).getD default
theorem Qi(B:O cu)(n:AJ)(h:n∈B.map (·.1)):Es B n/\rW B n=lJ B n:=by
 obtain⟨h1,h2⟩:=GF (p:=λq:cu=>decide (q.1=n)) (g:=λq:cu=>q) (step:=λs q=>mL n s q) (λ_ _=>X2) B;obtain⟨r,c,e⟩:=av.mp h;have hs:∃x,B.find? (λq:cu=>decide (q.1=n))=Z x:=by
  cases b:B.find? (λq:cu=>decide (q.1=n))with
  |some x=>exact⟨x,rfl⟩
  |none=>exact absurd (dI.mp b r c) (by simp[e])
 obtain⟨x,hx⟩:=hs;rw[hx]at h1;have h1:lB (λ(a:Unit) (q:cu)=>((mL n a q):nY Unit cu)) B db=.rt x:=h1;refine⟨⟨h2,?_⟩,?_⟩
 ·rw[h1];trivial
 ·unfold rW lJ;rw[h1,hx];rfl
theorem Z5{B:O cu}(nd:(B.map (·.1)).Nodup){r:cu}(h:r∈B):lJ B r.1=r:=by
 unfold lJ;have:B.find? (λq=>decide (q.1=r.1))=Z r:=by
  induction B with
  |nil=>cases h
  |cons a B b=>
   rw[zk,dr]at nd;rw[JY];rcases List.mem_cons.mp h with e|e
   ·subst e;simp
   ·have:a.1≠r.1:=λz=>nd.1 (by rw[z];exact qf e);rw[z4 this];exact b nd.2 e
 rw[this];rfl
theorem GK{α:Type}{f:α->Int}{b:α->α->Bool}(d:∀x z,b x z=decide (f z<f x)):∀(r:O α) (y:α),∃a c,y::r=a++fU b y r::c/\(∀x∈a,f x<f (fU b y r))/\∀x∈c,f x<=f (fU b y r)
 |[],y=>⟨[],[],rfl,λ_ h=>(by cases h),λ_ h=>(by cases h)⟩
 |z::r,y=>by
  unfold fU;by_cases h:f y<f z
  ·rw[d,zl (z5 h)];obtain⟨a,c,e,h1,h2⟩:=GK d r z;generalize fU b z r=m at *
   refine⟨y::a,c,by rw[e];rfl,λx hx=>?_,h2⟩;have i:f z<=f m:=by
    cases a with
    |nil=>rw[yz,ja]at e;rw[e.1];exact yT _
    |cons p a=>rw[YR,ja]at e;rw[e.1];exact Int.le_of_lt (h1 _ (zh ..))
   rcases List.mem_cons.mp hx with e'|e'
   ·rw[e'];omega
   ·exact h1 x e'
  ·rw[d,zv (by simpa using h)];obtain⟨a,c,e,h1,h2⟩:=GK d r y;generalize fU b y r=m at *
   cases a with
   |nil=>
    rw[yz,ja]at e;obtain⟨e1,e2⟩:=e;subst e1;refine⟨[],z::r,rfl,λ_ h=>(by cases h),λx hx=>?_⟩;rcases List.mem_cons.mp hx with e'|e'
    ·rw[e'];omega
    ·exact h2 x (by rw[<-e2];exact e')
   |cons p a=>
    rw[YR,ja]at e;obtain⟨e1,e2⟩:=e;subst e1;have g:=h1 y (zh ..);refine⟨y::z::a,c,by rw[e2];rfl,λx hx=>?_,h2⟩;rcases List.mem_cons.mp hx with e'|hx
    ·rw[e'];exact g
    rcases List.mem_cons.mp hx with e'|hx
    ·rw[e'];omega
    ·exact h1 x (zi _ hx)
theorem oO{α:Type}{b:α->α->Bool}(as:∀x z,b x z=true->b z x=false)(a:∀x y z,b x y=false->b y z=false->b x z=false)(c:∀x,b x x=false):∀(r:O α) (y:α),fU b y r∈y::r/\∀x∈y::r,b x (fU b y r)=false
 |[],y=>⟨zh ..,λx hx=>by rw[bj.mp hx];exact c y⟩
 |z::r,y=>by
  unfold fU;cases h:b z y with
  |true=>
   rw[zl rfl];obtain⟨h1,h2⟩:=oO as a c r z;refine⟨zi _ h1,λx hx=>?_⟩;rcases List.mem_cons.mp hx with e|e
   ·rw[e];exact a _ _ _ (as _ _ h) (h2 z (zh ..))
   ·exact h2 x e
  |false=>
   rw[zv (by simp)];obtain⟨h1,h2⟩:=oO as a c r y;refine⟨?_,λx hx=>?_⟩
   ·rcases List.mem_cons.mp h1 with e|e
    ·rw[e];exact zh ..
    ·exact zi _ (zi _ e)
   ·rcases List.mem_cons.mp hx with e|hx
    ·rw[e];exact h2 y (zh ..)
    rcases List.mem_cons.mp hx with e|hx
    ·rw[e];exact a _ _ _ h (h2 y (zh ..))
    ·exact h2 x (zi _ hx)
theorem zF{z:AJ}:xZ x z=false↔Bw z x:=by
 constructor
 ·intro h;cases q:xZ z x with
  |true=>exact((BI _ _).mp q).1
  |false=>
   unfold xZ at h;unfold Bw;rw[ltCps_eq];exact h
 ·intro h;cases q:xZ x z with
  |false=>rfl
  |true=>have:=(BI _ _).mp q;exact absurd (uY this.1 h) this.2
theorem OF(x:AJ):xZ x x=false:=by
 cases q:xZ x x with
 |false=>rfl
 |true=>exact absurd X2 ((BI _ _).mp q).2
theorem SM(x z:AJ)(h:xZ x z=true):xZ z x=false:=zF.mpr ((BI _ _).mp h).1
theorem Yi(x y z:AJ)(h1:xZ x y=false)(h2:xZ y z=false):xZ x z=false:=by
 cases q:xZ x z with
 |false=>rfl
 |true=>
  exfalso;cases e:xZ y x with
  |true=>
   have:=rj _ _ _ e q;rw[h2]at this;cases this
  |false=>
   have:x=y:=uY (zF.mp e) (zF.mp h1);rw[this,h2]at q;cases q
theorem Z6[Inhabited α]:∀{xs:O α} (h:xs≠[]),at' xs ((xs.length:Int)-1)=xs.getLast h:=λ{xs} h=>by
 have a:0<xs.length:=cJ.mpr h;rw[show((xs.length:Int)-1)=((xs.length-1:Nat):Int) by omega,FQ _ _ (),List.getLast_eq_getElem]
theorem Ch[Inhabited α]{xs:O α}(h:xs≠[]):at' xs (-1)=at' xs ((xs.length:Int)-1):=by
 have a:0<xs.length:=cJ.mpr h;unfold at' IW DZ;rw[zv (),zl (),zl (),zl ()];congr 3
abbrev kL(u:AJ):Int×AJ:=(-(u.length:Int),u)
theorem wa:∀{ks:O Int} {m:Int},m∈ks->(∀k∈ks,k<=m)->MJ ks=m
 |k::ks,m,hm,hle=>by
  have go:∀(ks:O Int) (k:Int),k<=m->(∀x∈ks,x<=m)->(k=m\/m∈ks)->ks.foldl (λm x=>if m<x then x else m) k=m:=by
   intro ks
   induction ks with
   |nil=>intro k _ _ h;rcases h with h|h;exact h;cases h
   |cons x ks a=>
    intro k hk hx h;rw[Q4];have c:=hx x (zh ..);refine a _ (by split<;>omega) (λz b=>hx z (zi _ b)) ?_;rcases h with h|h
    ·left;split<;>omega
    ·rcases List.mem_cons.mp h with h|h
     ·left;split<;>omega
     ·exact .inr h
  refine go ks k (hle k (zh ..)) (λx hx=>hle x (zi _ hx)) ?_;rcases List.mem_cons.mp hm with e|e
  ·exact .inl e.symm
  ·exact .inr e
theorem BY{α:Type}(c:Array α):∀(n:Nat) (a:Array α),((ba n c).foldl (·++·) a).size=a.size+n*c.size
 |0,a=>by simp
 |n+1,a=>by
  rw[lz,Q4,BY c n,K0,et];omega
theorem QW(x:AJ)(k:Int):(Txt.mul x k).length<=x.length*k.toNat:=by
 unfold Txt.mul;split
 ·exact Zs _
 split
 ·rename_i h0 h;simp only[Kb,beq_iff_eq]at h;rcases h with h|h
  ·subst h;simp
  ·rw[h];simp
 ·show(Array.size _)<=_;rw[BY];have:x.cps.size=x.length:=rfl;rw[this,Nat.mul_comm];simp
def LT:AJ:=("abcdefghijklmnopqrstuvwxyz":AJ)
theorem Yj:LT.length=26:=by decide +kernel
theorem uQ(h:n<=1000):MK n:=zt h ()
theorem Yk(xs:O Int)(g:6<=xs.length)(b:AJ)(hs:b.length<=5)(at_:Int)(k:Nat)(a:AZ)(hk:k<200)(h:a.length=k/\∀n∈a,n.length<=12):m9 xs LT b at_ a k/\(fM xs LT b at_ a k).length=k+1/\∀n∈fM xs LT b at_ a k,n.length<=12:=by
 have i:=zt (slice_le b X9 (Z at_)) hs;have j:=zt (slice_le b (Z at_) X9) hs;have c1:=FT LT ((↑k+at' xs 2)%15);have f:=sX (k:Int) (m:=8) ();have hd:(0:Int)<=(k:Int) / 8/\(k:Int) / 8<26:=by omega
 refine⟨⟨⟨B7 () (),rJ () (by rw[Yj];decide)⟩,⟨uQ (),uQ (by rw[sY];omega)⟩,⟨B7 () (),λ_=>⟨B7 hd.1 (by rw[Yj];exact hd.2),by omega,by omega,by rw[FT];decide⟩⟩,uQ ()⟩,?_⟩;have d:∀n:AJ,n.length<=12->(a++[n]).length=k+1/\∀m∈a++[n],m.length<=12:=λn e=>⟨by simp[h.1],λm c=>by
  rcases bB.mp c with c|c
  ·exact h.2 m c
  ·cases bj.mp c;exact e⟩
 unfold fM;dsimp only;split
 ·exact d _ (by have:=QW (ch LT ((k:Int) / 8)) (1+(k:Int)%8);rw[FT]at this;exact zt this ())
 ·exact d _ (by rw[sY,sY,c1];omega)
theorem VT(xs:AZ)(n:Nat)(h:∀x∈xs,x.length<=n):(Txt.join "" xs).length<=xs.length*n:=by
 have h1:=StrLaws.join_length_le ("":AJ) xs;rw[<-StrLaws.glued_eq_join]at h1;have h2:(xs.map (·.length)).sum<=xs.length*n:=by
  clear h1
  induction xs with
  |nil=>simp
  |cons a l c=>
   have:=c λx hx=>h x (zi _ hx);have:=h a (zh ..);simp only[zk,List.sum_cons,ZO,et];omega
 have b:("":AJ).length=0:=rfl;rw[b,Nat.mul_zero]at h1;exact zt h1 ()
theorem apn(xs:AZ)(h:∀x∈xs,x.length=1):(xs.map (·.length)).sum=xs.length:=by
 induction xs with
 |nil=>rfl
 |cons a l b=>
  have:=b λx hx=>h x (zi _ hx);have:=h a (zh ..);simp only[zk,List.sum_cons,ZO];omega
theorem UF(xs:O Int)(d:6<=xs.length)(a:Int)(h0:0<=a)(h1:a<=200):uf xs a/\(fG xs a).length=a.toNat/\∀n∈fG xs a,n.length<=12:=by
 have e:=sX (at' xs 0) (m:=6) ();have st:∀b:AJ,b.length<=5->rP xs a LT b/\(ni xs a LT b).length=a.toNat/\∀n∈ni xs a LT b,n.length<=12:=λb hs=>by
  have:=rH (P:=λf k=>Z (m9 xs LT b (at' xs 1%((b.length:Int)+1)) f k)) (step:=λf k=>fM xs LT b (at' xs 1%((b.length:Int)+1)) f k) (λk s=>s.length=k/\∀n∈s,n.length<=12) a.toNat [] ⟨rfl,λn h=>(by cases h)⟩ λk s hk h=>Yk xs d b hs _ k s () h;exact⟨⟨⟨B7 () (),by omega⟩,Hr h0 (),this.1⟩,this.2⟩
 have c1:∀x∈((rng 0 (at' xs 0%6).toNat).map λc:Int=>ch LT (at' xs c / 40%26)),x.length=1:=λx hx=>by
  obtain⟨k,_,rfl⟩:=av.mp hx;exact FT _ _
 have:=st (Txt.join "" ((rng 0 (at' xs 0%6).toNat).map λc:Int=>ch LT (at' xs c / 40%26))) (by
  have:=VT _ 1 λx hx=>xi (c1 x hx);rw[zg,sW]at this;omega)
 refine⟨⟨⟨⟨⟨⟨B7 () (),Hr e.1 ()⟩,by rw[sW];omega⟩,λk hk=>?_⟩,?_⟩,this.1⟩,this.2⟩
 ·obtain⟨j,i,rfl⟩:=ZR hk;exact⟨B7 () (),rJ () (by rw[show("abcdefghijklmnopqrstuvwxyz":AJ)=LT from rfl,Yj];decide)⟩
 ·rw[show("abcdefghijklmnopqrstuvwxyz":AJ)=LT from rfl,apn _ c1,zg,sW];have g:("":AJ).length=0:=rfl;rw[g];omega
def G0(xs:O Int)(a:AJ)(at_:Int)(k:Int):AJ:=if(decide (((at' xs 3)%3)=1))=true then(Txt.mul (ch LT (k / (8:Int))) (1+(k%8)))else(((Txt.slice a X9 (Z at_))++(ch LT ((k+(at' xs 2))%15)))++(Txt.slice a (Z at_) X9))
theorem Ms{α β:Type}(g:β->α):∀(l:O β) (f:O α),l.foldl (λf k=>f++[g k]) f=f++l.map g
 |[],f=>by simp
 |k::l,f=>by rw[Q4,Ms g l];simp
theorem sR(xs:O Int)(a:Int):∃b at_,fG xs a=(rng 0 a.toNat).map (G0 xs b at_):=by
 refine⟨_,_,(Ms (G0 xs _ _) _ []).trans (yz _)⟩
theorem Yl{a b m c:AJ}(h:(a++m)++b=(a++c)++b):m=c:=by
 have h:=congrArg (λs:AJ=>s.cps.toList) h;have h:((a.cps++m.cps)++b.cps).toList=((a.cps++c.cps)++b.cps).toList:=h;simp only[ZA]at h;have:=List.append_cancel_left (List.append_cancel_right h);cases m;cases c;congr 1;exact Array.ext' this
theorem l9:∀i:Fin 30,∀j:Fin 30,Txt.mul (ch LT ((i.val:Int) / 8)) (1+(i.val:Int)%8)=Txt.mul (ch LT ((j.val:Int) / 8)) (1+(j.val:Int)%8)->i=j:=by decide +kernel
theorem amZ:∀i:Fin 15,∀j:Fin 15,ch LT (i.val:Int)=ch LT (j.val:Int)->i=j:=by decide +kernel
theorem eR{x y:Int}(hx:0<=x/\x<15)(a:0<=y/\y<15)(h:ch LT x=ch LT y):x=y:=by
 have:=amZ ⟨x.toNat,by omega⟩ ⟨y.toNat,by omega⟩ (by
  show ch LT ((x.toNat:Nat):Int)=ch LT ((y.toNat:Nat):Int);rw[lF hx.1,lF a.1];exact h)
 have:=congrArg Fin.val this;have:x.toNat=y.toNat:=this;omega
theorem ax{xs:O Int}{a:AJ}{at_:Int}(hi:i<15)(b:j<15)(h:G0 xs a at_ i=G0 xs a at_ j):i=j:=by
 unfold G0 at h;by_cases e:(decide (((at' xs 3)%3)=1))=true
 ·rw[zl e,zl e]at h;exact congrArg Fin.val (l9 ⟨i,by omega⟩ ⟨j,by omega⟩ h)
 ·rw[zv e,zv e]at h;have:=eR (sX _ ()) (sX _ ()) (Yl h);omega
theorem Xg{g:Int->AJ}(h:∀i j:Nat,i<n->j<n->g i=g j->i=j):((rng 0 n).map g).Nodup:=by
 unfold rng;rw[ZU];unfold List.Nodup;rw[dd];refine List.Pairwise.imp_of_mem ?_ (List.nodup_range (n:=n));intro a b d f c e;refine c (h a b (eX.mp d) (eX.mp f) ?_);have e:g (0+(a:Int))=g (0+(b:Int)):=e;rwa [mu,mu]at e
theorem aeC(xs:O Int)(a:Int)(h:a<=15):(fG xs a).Nodup:=by
 obtain⟨b,at_,e⟩:=sR xs a;rw[e];exact Xg λi j hi c=>ax () ()
open S1 S6
def oR:AZ:=["first","last","most","longest","least","greatest"]
theorem Of:cQ.lookup ("first":AJ)=Z (qU,λv=>Z (qW v)):=by kernel_rfl
theorem PH:cQ.lookup ("last":AJ)=Z (uq,λv=>Z (ur v)):=by kernel_rfl
theorem NR:cQ.lookup ("most":AJ)=Z (um,λv=>Z (uo v)):=by kernel_rfl
theorem Se:cQ.lookup ("longest":AJ)=Z (nC,λv=>Z (nD v)):=by kernel_rfl
theorem PF:cQ.lookup ("least":AJ)=Z (qR,λv=>Z (qT v)):=by kernel_rfl
theorem SE:cQ.lookup ("greatest":AJ)=Z (lX,λv=>Z (lY v)):=by kernel_rfl
theorem oj{h:AJ}(b:h∈oR)(a:ws≠[]):F1 cQ h ws:=by
 have c:0<ws.length:=cJ.mpr a;unfold F1;simp only[oR,QP,qA,or_false]at b;rcases b with rfl|rfl|rfl|rfl|rfl|rfl
 ·rw[Of];exact B7 () ()
 ·rw[PH];exact⟨by omega,by omega⟩
 ·rw[NR];exact⟨a,λ_ _=>trivial⟩
 ·rw[Se];exact⟨a,λ_ _=>trivial⟩
 ·rw[PF];exact a
 ·rw[SE];exact a
def Z7(a:O cu)(f u:AJ):AZ:=(a.filter λr=>decide (fw r.2 f=Z u)).map (·.1)
def Z8(a:O cu)(q:AJ×AJ):AJ×AJ×AZ:=(q.1,mj cQ q.2 (GJ a q.1),Z7 a q.1 (mj cQ q.2 (GJ a q.1)))
theorem Jo(a:O cu)(q:AJ×AJ)(b:a.length<=100000)(c:q.2∈oR)(d:GJ a q.1≠[]):Ag a q.1 q.2/\vL a q.1 q.2=Z8 a q:=by
 obtain⟨h1,h2⟩:=HS a q.1 b;refine⟨⟨⟨h1,by rw[h2];exact oj c d⟩,b,λr _=>(jG r q.1).1⟩,?_⟩;unfold vL Z8 Z7;rw[h2];dsimp only;congr 3;exact KS λr _=>by rw[(jG r q.1).2]
def Z9(a:O cu)(vo:O (AJ×AJ)):O (AJ×AJ×AZ):=(vo.filter λq=>!(GJ a q.1).isEmpty).map (Z8 a)
theorem Pw(B:O cu)(vo:O (AJ×AJ))(N:AZ)(hN:∀n∈N,n∈B.map (·.1))(h1:N.length<=100000)(h2:vo.length<=100000)(g:∀q∈vo,q.2∈oR):je B vo N/\dN B vo N=Z9 (N.map (lJ B)) vo:=by
 have e:(N.map λn=>rW B n)=N.map (lJ B):=Q1 λn d=>(Qi B n (hN n d)).2;have a:(N.map (lJ B)).length<=100000:=by rw[zg];exact h1
 have b:=λf=>HS (N.map (lJ B)) f a;have ne:∀q:AJ×AJ,(!(GJ (N.map (lJ B)) q.1).isEmpty)=true->GJ (N.map (lJ B)) q.1≠[]:=λq h z=>by rw[z]at h;cases h
 refine⟨⟨⟨h1,λn d=>(Qi B n (hN n d)).1⟩,?_⟩,?_⟩
 ·dsimp only;rw[e];refine⟨h2,λq c=>⟨(b q.1).1,λz=>?_⟩⟩;rw[(b q.1).2]at z;exact(Jo _ q a (g q c) (ne q z)).1
 ·unfold dN Z9;dsimp only;rw[e];have l:(vo.filter λq1:AJ×AJ=>!(gK (N.map (lJ B)) q1.1).isEmpty)=vo.filter λq=>!(GJ (N.map (lJ B)) q.1).isEmpty:=KS λq _=>by rw[(b q.1).2]
  rw[l];refine Q1 λq c=>?_;obtain⟨i,j⟩:=cb.mp c;exact(Jo _ q a (g q i) (ne q j)).2
open S1 S6
abbrev Fd(r:cu):Prop:=(r.2.map (·.1)).Nodup/\r.2.length<=8
structure Bk (B:List cu):Prop where
 nd:(B.map (·.1)).Nodup
 ln:B.length<=40
 fd:∀r∈B,Fd r
theorem gX:("ab1":AJ).length=3:=by decide +kernel
theorem akq(x:Int)(k:Nat)(s:AJ)(hk:k<4)(h:s.length=k):pG x s k/\(lC x s k).length=k+1:=by
 have hi:In [(1:Int),(3:Int),(9:Int),(27:Int)].length (k:Int):=B7 () (by show(k:Int)<4;omega);have hp:(0<(at' [(1:Int),(3:Int),(9:Int),(27:Int)] (k:Int))/\(at' [(1:Int),(3:Int),(9:Int),(27:Int)] (k:Int))<1073741824):=by
  have:=wj hi;simp only[QP,qA,or_false]at this;rcases this with e|e|e|e<;>rw[e]<;>decide
 refine⟨⟨⟨⟨hi,hp⟩,rJ () (by rw[gX];decide)⟩,uQ (by rw[FT];omega)⟩,?_⟩;show(s++ch _ _).length=k+1;rw[sY,FT,h]
theorem u7(x:Int):xM x:=by
 have a:=sX (x / 4) (m:=4) ();have lp:=rH (P:=λf k=>Z (pG x f k)) (step:=λf k=>lC x f k) (λk (s:AJ)=>s.length=k) (1+x / 4%4).toNat ("":AJ) X2 λk s hk h=>akq x k s () h;exact⟨λ_=>rJ () (),λ_=>⟨Hr () (),lp.1⟩⟩
def FL:AZ:=[("day":AJ),("name":AJ),(("name":AJ)++("s":AJ)),("p":AJ)]
theorem uu:FL.Nodup:=by unfold FL;decide +kernel
theorem uA(xs:O Int)(d:xs.length=4)(k:Nat)(ws:O (AJ×AJ))(hk:k<4)(h:(ws.map (·.1)).Sublist (FL.take k)):qO xs FL ws k/\((j6 xs FL ws k).map (·.1)).Sublist (FL.take (k+1)):=by
 have c:=h.length_le;rw[zg,qB]at c;have e:FL.length=4:=rfl;have hi:In xs.length (k:Int):=B7 () ();have a:In FL.length (k:Int):=B7 () ();have b:at' FL (k:Int)=FL[k]'():=FQ _ _ _;refine⟨⟨hi,λ_=>⟨⟨a,hi,u7 _⟩,uQ ()⟩⟩,?_⟩;unfold j6;dsimp only;rw[JJ ()];split
 ·rw[qc,b];exact h.append (List.Sublist.refl _)
 ·exact h.trans (List.sublist_append_left _ _)
theorem akt(n:AJ)(xs:O Int)(c:xs.length=4):vJ n xs/\(oK n xs).1=n/\Fd (oK n xs):=by
 have lp:=rH (P:=λf k=>Z (qO xs FL f k)) (step:=λf k=>j6 xs FL f k) (λk (ws:O (AJ×AJ))=>(ws.map λq:AJ×AJ=>q.1).Sublist (FL.take k)) (kN 4) [] (List.nil_sublist _) λk s hk h=>uA xs c k s (by rw[show kN 4=4 from SO 4]at hk;exact hk) h;have h2:((oK n xs).2.map (·.1)).Sublist (FL.take (kN 4)):=lp.2;have a:=h2.trans (xw _ _);have b:=a.length_le;rw[zg]at b;exact⟨⟨uQ (by decide +kernel),lp.1⟩,rfl,uu.sublist a,zt b ()⟩
theorem aku{xs:AZ}(nd:xs.Nodup){i j:Int}(hi:0<=i/\i<xs.length)(a:0<=j/\j<xs.length)(h:at' xs i=at' xs j):i=j:=by
 rw[show i=((i.toNat:Nat):Int) by omega,show j=((j.toNat:Nat):Int) by omega,FQ _ _ (),FQ _ _ ()]at h;have:=(xD nd).mp h;omega
theorem t7(a:O Int)(m:Int)(h0:1<=m)(h1:m<=14)(x:a.length<=63):xO a m/\Bk (d7 a m)/\1<=(d7 a m).length/\(d7 a m).length<=14:=by
 have u:=Mr (bw a 0) 9 () ();obtain⟨t,l,o⟩:=u;have l:(aV (bw a 0) 9).length=9:=l;generalize e3:aV (bw a 0) 9=hd at *
 obtain⟨q1,q2,q3⟩:=UF hd () 15 () ();have q:=aeC hd 15 ();have q2:(fG hd 15).length=15:=q2;generalize d:fG hd 15=na at *
 have n:In [(1:Int),(2:Int),(5:Int),(8:Int),m,m].length (at' hd 6%6):=rJ () (yT 6);have v:1<=at' [(1:Int),(2:Int),(5:Int),(8:Int),m,m] (at' hd 6%6)/\at' [(1:Int),(2:Int),(5:Int),(8:Int),m,m] (at' hd 6%6)<=14:=by
  have:=wj n;simp only[QP,qA,or_false]at this;rcases this with e|e|e|e|e|e<;>rw[e]<;>omega
 generalize g:at' [(1:Int),(2:Int),(5:Int),(8:Int),m,m] (at' hd 6%6)=mn at *
 have y:0<=at' hd 7:=o _ (wj (B7 () ()))
 let nm:=λk:Int=>at' na ((4*k+at' hd 7)%15)
 let b:=λk:Int=>oK (nm k) (aV (bw a (1+k)) 4)
 have c:∀k:Int,vJ (nm k) (aV (bw a (1+k)) 4)/\(b k).1=nm k/\Fd (b k):=λk=>akt _ _ (Mr (bw a (1+k)) 4 () ()).2.1;have lp:=rH (P:=λf k=>Z (uM a hd na f k)) (step:=λf k=>pH a hd na f k) (λk (s:O cu)=>s=(rng 0 k).map b) mn.toNat [] X2 λk s hk h=>by
  refine⟨⟨⟨⟨⟨B7 () (),rJ () (by rw[q2];decide)⟩,Sy a _ () (),(Mr _ 4 () ()).1⟩,(c k).1⟩,uQ (by rw[h,zg,sW];omega)⟩,?_⟩;show s++[b k]=_;rw[h];unfold rng;rw[List.range_succ,qc,qc];simp
 have eB:d7 a m=(rng 0 mn.toNat).map b:=by
  unfold d7;dsimp only;rw[e3,d,g];exact lp.2
 refine⟨⟨⟨Sy a 0 () (),t⟩,?_⟩,?_,?_,?_⟩
 ·dsimp only;rw[e3];refine⟨q1,?_⟩;rw[d];refine⟨⟨B7 () (),n⟩,?_⟩;rw[g];exact⟨Hr () (),lp.1⟩
 ·rw[eB];refine⟨?_,by rw[zg,sW];omega,λr p=>?_⟩
  ·rw[ZU];refine Xg λi j hi w h=>?_;have h:(b (i:Int)).1=(b (j:Int)).1:=h;rw[(c i).2.1,(c j).2.1]at h;have:=aku q (by rw[q2];exact⟨by omega,by omega⟩) (by rw[q2];exact⟨by omega,by omega⟩) h;omega
  ·obtain⟨k,_,rfl⟩:=av.mp p;exact(c k).2.2
 ·rw[eB,zg,sW];omega
 ·rw[eB,zg,sW];omega
theorem Dx(xs:O Int)(i:8<=xs.length)(h0:∀x∈xs,0<=x)(k:Nat)(s:AZ×O (AJ×AJ))(hk:k<5)(h:s.1.length=5-k/\s.2.length=k/\∀q∈s.2,q.2∈oR):pK xs oR s k/\(gH xs oR s k).1.length=5-(k+1)/\(gH xs oR s k).2.length=k+1/\∀q∈(gH xs oR s k).2,q.2∈oR:=by
 obtain⟨a,b,c⟩:=h;have hi:In [(1:Int),(5:Int),(20:Int),(60:Int),(120:Int)].length (k:Int):=B7 () (by show(k:Int)<5;omega);have hp:(0<(at' [(1:Int),(5:Int),(20:Int),(60:Int),(120:Int)] (k:Int))/\(at' [(1:Int),(5:Int),(20:Int),(60:Int),(120:Int)] (k:Int))<1073741824):=by
  have:=wj hi;simp only[QP,qA,or_false]at this;rcases this with e|e|e|e|e<;>rw[e]<;>decide
 have g:=sX ((at' xs 1) / (at' [(1:Int),(5:Int),(20:Int),(60:Int),(120:Int)] (k:Int))) (m:=(s.1.length:Int)) ();have f:In oR.length (at' xs (2+k)%6):=rJ () ();refine⟨⟨⟨⟨⟨⟨B7 () (),hi⟩,hp⟩,by omega⟩,g.1,g.2,by omega⟩,⟨B7 () (),f⟩,uQ ()⟩,?_,?_,?_⟩
 ·show(s.1.eraseIdx _).length=_;rw[List.length_eraseIdx_of_lt ()];omega
 ·show(s.2++[_]).length=_;rw[Zl,b];rfl
 ·intro q d;rcases bB.mp d with d|d
  ·exact c q d
  ·rw[bj.mp d];exact wj f
theorem XU(xs:O Int)(a:8<=xs.length)(h0:∀x∈xs,0<=x):xQ xs/\(jD xs).length<=5/\∀q∈jD xs,q.2∈oR:=by
 have b:=sX (at' xs 0) (m:=6) ();have lp:=rH (P:=λf k=>Z (pK xs oR f k)) (step:=λf k=>gH xs oR f k) (λk (s:AZ×O (AJ×AJ))=>s.1.length=5-k/\s.2.length=k/\∀q∈s.2,q.2∈oR) (at' xs 0%6).toNat ([("day":AJ),("name":AJ),("names":AJ),("p":AJ),("zzz":AJ)],[]) ⟨rfl,rfl,λq h=>by cases h⟩ λk s hk h=>Dx xs a h0 k s () h;refine⟨⟨⟨B7 () (),Hr b.1 ()⟩,lp.1⟩,?_,lp.2.2.2⟩;have:=lp.2.2.1;have e:(jD xs).length=(at' xs 0%6).toNat:=this;omega
open S1 S6
theorem x8{f:α->β->γ}{a c:α}{b d:β}(h:a=c)(h':b=d):f a b=f c d:=by rw[h,h']
abbrev PR:=cu×cu
def CU:O cu->O PR
 |[]=>[]
 |x::xs=>xs.map (λy=>(x,y))++CU xs
theorem Cp(j:Int)(x:α)(xs:O α):rK j (x::xs)=(j,x)::rK (j+1) xs:=by
 unfold rK;rw[ZO,jX,List.zipWith_cons_cons,List.zipWith_map_left];refine x8 (f:=List.cons) (by simp) (congrArg (λg=>List.zipWith g (dg xs.length) xs) ?_);funext k z;show(j+((k+1:Nat):Int),z)=(j+1+(k:Int),z);rw[show j+((k+1:Nat):Int)=j+1+(k:Int) by omega]
theorem ah(xs:O α):Hq xs=rK 0 xs:=by
 unfold Hq rK;refine congrArg (λg=>List.zipWith g (dg xs.length) xs) ?_;funext k z;simp
theorem Qj{α:Type}:∀(xs:O α) (j:Int),(rK j xs).length=xs.length
 |[],j=>rfl
 |x::xs,j=>by rw[Cp,ZO,Qj xs,ZO]
theorem GP{α:Type}:∀(xs:O α) (j:Int) (q:Int×α),q∈rK j xs->q.2∈xs/\j<=q.1
 |x::xs,j,q,h=>by
  rw[Cp]at h;rcases List.mem_cons.mp h with rfl|h
  ·exact⟨zh,yT _⟩
  ·have:=GP xs (j+1) q h;exact⟨zi _ this.1,by omega⟩
def tl(R:O Dt)(q:PR):O (Dt×AJ×AJ×Int):=((rK 0 R).filter λz:Int×Dt=>Ad z.2 q.1 q.2).map λz:Int×Dt=>(z.2,(q.1.1,q.2.1,z.1))
theorem SN(w:O cu)(R:O Dt):jc w R=(CU w).flatMap (tl R):=by
 have f:∀(xs a:O cu),a++xs=w->((rK (a.length:Int) xs).flatMap λq1:Int×cu=>((C5 w (Z (q1.1+1)) X9).flatMap λc:cu=>tl R (q1.2,c)))=(CU xs).flatMap (tl R):=by
  intro xs
  induction xs with
  |nil=>intro a _;rfl
  |cons x xs d=>
   intro a e;have h1:=d (a++[x]) (by rw[ZZ];exact e);rw[Zl,ef]at h1;rw[Cp,Ya,show((a.length:Int)+1)=((a.length+1:Nat):Int) by omega,h1];have b:C5 w (Z ((a.length+1:Nat):Int)) X9=xs:=by
    rw[wb (by rw[<-e,Zl,ZO];omega),<-e,show a++x::xs=(a++[x])++xs by simp,List.drop_left' (by simp)]
   show(C5 w (Z ((a.length:Int)+1)) X9).flatMap _++_=_;rw[show((a.length:Int)+1)=((a.length+1:Nat):Int) by omega,b];show _=(xs.map (λy=>(x,y))++CU xs).flatMap (tl R);rw[List.flatMap_append,List.flatMap_map]
 have:=f w [] rfl;unfold jc;rw[ah];exact this
theorem Jw:∀{w:O cu} {q:PR},q∈CU w->q.1∈w/\q.2∈w
 |x::xs,q,h=>by
  rcases bB.mp h with h|h
  ·obtain⟨y,a,rfl⟩:=av.mp h;exact⟨zh,zi _ a⟩
  ·exact⟨zi _ (Jw h).1,zi _ (Jw h).2⟩
theorem OV:∀w:O cu,(CU w).length<=w.length*w.length
 |[]=>zo _
 |x::xs=>by
  have:=OV xs;show(xs.map (λy=>(x,y))++CU xs).length<=_;rw[Zl,zg,ZO,et,Nat.mul_succ];omega
theorem Wc{α β:Type}{g:α->O β}{k:Nat}(h:∀x,(g x).length<=k):∀xs:O α,(xs.flatMap g).length<=xs.length*k
 |[]=>by simp
 |x::xs=>by
  have:=Wc h xs;have:=h x;rw[Ya,Zl,ZO,et];omega
theorem Wl(R:O Dt)(q:PR):(tl R q).length<=R.length:=by
 unfold tl;rw[zg];exact zt (kP _ _) (xi (Qj R 0))
def Rl(r:Dt):Prop:=(∃f w,r=.tup [.str "same", .str f,.int w])\/(∃f n w,r=.tup [.str "begin", .str f,.int n,.int w])\/(∃f g w,r=.tup [.str "both", .str f,.str g,.int w])\/∃f,r=.tup [.str "never", .str f]
def OP(x y:cu)(f:AJ):Bool:=(fw x.2 f).isSome&&decide (fw x.2 f=fw y.2 f)
theorem Ym(x y:cu)(f:AJ):mK x y f/\iw x y f=OP x y f:=by
 obtain⟨h1,h2⟩:=jG x f;obtain⟨a,b⟩:=jG y f;refine⟨⟨h1,λ_=>a⟩,?_⟩;unfold iw OP;dsimp only;rw[h2,b]
def T0(x y:cu)(f:AJ)(n:Int):Bool:=match fw x.2 f,fw y.2 f with
 |some a,Z b=>decide (n<=(a.length:Int))&&(decide (n<=(b.length:Int))&&decide (Txt.slice a X9 (Z n)=Txt.slice b X9 (Z n)))
 |_,_=>false
theorem cx(x y:cu)(f:AJ)(n:Int):lG x y f n/\lD x y f n=T0 x y f n:=by
 obtain⟨h1,h2⟩:=jG x f;obtain⟨c,d⟩:=jG y f;unfold lG lD T0;dsimp only;rw[h2,d];cases fw x.2 f with
 |none=>exact⟨⟨h1,c,λz=>by cases z⟩,by simp⟩
 |some a=>
  cases fw y.2 f with
  |none=>exact⟨⟨h1,c,λz=>by cases z⟩,by simp⟩
  |some b=>
   refine⟨⟨h1,c,λ_=>⟨rfl,λ_=>⟨rfl,λ_=>⟨rfl,rfl⟩⟩⟩⟩,?_⟩;simp
def RU(x y:cu)(f:AJ):Bool:=(fw x.2 f).isSome&&((fw y.2 f).isSome&&!decide (fw x.2 f=fw y.2 f))
theorem ua(x y:cu)(f:AJ):qP x y f/\nj x y f=RU x y f:=by
 obtain⟨h1,h2⟩:=jG x f;obtain⟨a,b⟩:=jG y f;refine⟨⟨h1,a⟩,?_⟩;unfold nj RU;dsimp only;rw[h2,b]
theorem nz:(("same":AJ)==("same":AJ))=true:=by decide
theorem U':(("begin":AJ)==("same":AJ))=false:=by decide
theorem eC:(("begin":AJ)==("begin":AJ))=true:=by decide
theorem cz:(("both":AJ)==("same":AJ))=false:=by decide
theorem T2:(("both":AJ)==("begin":AJ))=false:=by decide
theorem iS:(("both":AJ)==("both":AJ))=true:=by decide
theorem wo:(("never":AJ)==("same":AJ))=false:=by decide
theorem T':(("never":AJ)==("begin":AJ))=false:=by decide
theorem cq:(("never":AJ)==("both":AJ))=false:=by decide
theorem oz:(("never":AJ)==("never":AJ))=true:=by decide
theorem CL(a:Dt)(r:O Dt):Pu (.tup (a::r)) (0:Int):=by
 show In (r.length+1) 0;exact B7 () ()
theorem HL(a b:Dt)(r:O Dt):Pu (.tup (a::b::r)) (1:Int):=by
 show In (r.length+1+1) 1;exact B7 () ()
theorem PP(a b c:Dt)(r:O Dt):Pu (.tup (a::b::c::r)) (2:Int):=by
 show In (r.length+1+1+1) 2;exact B7 () ()
theorem IY(a:Dt)(r:O Dt):Pu (.tup (a::r)) (-(1:Int)):=by
 show In (r.length+1) (-1);exact⟨by omega,by omega⟩
theorem US{r:Dt}(h:Rl r)(x y:cu):Em r x y:=by
 unfold Em;rcases h with⟨f,w,rfl⟩|⟨f,n,w,rfl⟩|⟨f,g,w,rfl⟩|⟨f,rfl⟩
 ·rw[Hv,ZQ,oV,nz];exact⟨⟨CL _ _,jM _ _⟩,λ_=>⟨⟨HL _ _ _,rfl⟩,(Ym x y f).1⟩,λz=>by cases z⟩
 ·rw[Hv,ZQ,Si,oV,oV,U',eC];exact⟨⟨CL _ _,jM _ _⟩,(λz=>by cases z),λ_=>⟨⟨CL _ _,jM _ _⟩,λ_=>⟨⟨⟨HL _ _ _,rfl⟩,PP _ _ _ _,rfl⟩,(cx x y f n).1⟩,λz=>by cases z⟩⟩
 ·rw[Hv,ZQ,Si,oV,oV,oV,cz,T2,iS];exact⟨⟨CL _ _,jM _ _⟩,(λz=>by cases z),λ_=>⟨⟨CL _ _,jM _ _⟩,(λz=>by cases z),λ_=>⟨⟨CL _ _,jM _ _⟩,
   λ_=>⟨⟨⟨HL _ _ _,rfl⟩,(Ym x y f).1⟩,λ_=>⟨⟨PP _ _ _ _,rfl⟩,(Ym x y g).1⟩⟩,λz=>by cases z⟩⟩⟩
 ·rw[Hv,ZQ,oV,oV,oV,wo,T',cq];exact⟨⟨CL _ _,jM _ _⟩,(λz=>by cases z),λ_=>⟨⟨CL _ _,jM _ _⟩,(λz=>by cases z),λ_=>⟨⟨CL _ _,jM _ _⟩,(λz=>by cases z),λ_=>⟨⟨HL _ _ _,rfl⟩,(ua x y f).1⟩⟩⟩⟩
def HU(r:Dt):Bool:=Pq (mQ r 0) (Dt.str "never")
theorem SQ{r:Dt}(h:Rl r):(Pu r (0:Int)/\D0 (mQ r 0) (Dt.str "never"))/\(HU r=false->Pu r (-(1:Int))/\mQ r (-(1:Int))=eI (D4 (mQ r (-(1:Int))))):=by
 unfold HU;rcases h with⟨f,w,rfl⟩|⟨f,n,w,rfl⟩|⟨f,g,w,rfl⟩|⟨f,rfl⟩
 ·rw[Hv];exact⟨⟨CL _ _,jM _ _⟩,λ_=>⟨IY _ _,rfl⟩⟩
 ·rw[Hv];exact⟨⟨CL _ _,jM _ _⟩,λ_=>⟨IY _ _,rfl⟩⟩
 ·rw[Hv];exact⟨⟨CL _ _,jM _ _⟩,λ_=>⟨IY _ _,rfl⟩⟩
 ·rw[Hv,oV,oz];exact⟨⟨CL _ _,jM _ _⟩,λz=>by cases z⟩
def N7(v:O cu):O cu:=yV eS (λx:cu=>x.1) v
theorem P8(x:AJ):Gg.kk eS x=[.inr x]:=rfl
theorem lh(a b:cu):EJ eS (λx:cu=>x.1) a b=true↔Bw a.1 b.1:=by
 unfold EJ;rw[P8,P8];show(!eZ [.inr b.1] [.inr a.1])=true↔ltCps b.1.cps.toList a.1.cps.toList=false;rw[qV,ltCps_eq];unfold eZ eZ;split
 ·rename_i e;rw[Sum.inr.inj e];simp[k5]
 ·exact Iff.rfl
theorem vN(v:O cu):(N7 v).Perm v:=BW v
theorem pi{v:O cu}(nd:(v.map (·.1)).Nodup):(N7 v).Pairwise λa b=>xZ a.1 b.1=true:=by
 have h1:(N7 v).Pairwise λa b=>Bw a.1 b.1:=KU (λh=>(lh _ _).mp h) (K1 (e':=eS) (κ:=λx:cu=>x.1) v);have h2:((N7 v).map (·.1)).Nodup:=((vN v).map _).nodup_iff.mpr nd;have h2:(N7 v).Pairwise λa b=>a.1≠b.1:=dd.mp h2;exact KU (λ⟨a,b⟩=>(BI _ _).mpr ⟨a,b⟩) (h1.and h2)
def Db(v:O cu)(R:O Dt):O (Dt×AJ×AJ×Int):=(CU (N7 v)).flatMap (tl R)
theorem PC{v:O cu}{R:O Dt}(h1:v.length<=40)(h2:R.length<=20):(Db v R).length<=32000:=by
 have a:=Wc (Wl R) (CU (N7 v));have b:=OV (N7 v);rw[(vN v).length_eq]at b;have c:v.length*v.length<=40*40:=j0 h1 h1;have d:(CU (N7 v)).length*R.length<=1600*20:=j0 () h2;unfold Db;omega
theorem md{v:O cu}{R:O Dt}{q:Dt×AJ×AJ×Int}(h:q∈Db v R):q.1∈R:=by
 obtain⟨p,_,a⟩:=qs.mp h;obtain⟨z,b,rfl⟩:=av.mp a;exact(GP R 0 z (cb.mp b).1).1
def SI(T:O (Dt×AJ×AJ×Int)):O (Int×AJ×AJ×Int):=(T.filter λq=>!HU q.1).map λq=>(D4 (mQ q.1 (-(1:Int))),q.2.1,q.2.2.1,q.2.2.2)
def x6(T:O (Dt×AJ×AJ×Int)):O (AJ×AJ×Int):=(T.filter λq=>HU q.1).map λq=>q.2
theorem xz(x y:Int×AJ×AJ×Int)(h:jC x=jC y):x=y:=by
 obtain⟨a,b,c,d⟩:=x;obtain⟨g,i,c',j⟩:=y;unfold jC at h;dsimp only at h;simp only[YV]at h;obtain⟨h1,h2,e,f⟩:=h;rw[show a=g by omega,h2,e,f]
theorem x5{xs:O (Int×AJ×AJ×Int)}(h:xs.length<=100000):xP xs:=⟨λ_ _=>trivial,h,λx _ y _ e=>xz x y e⟩
theorem Wd(xs:O (Int×AJ×AJ×Int)):(oN xs).Perm xs:=BW xs
theorem Aj(v:O cu)(R:O Dt):cG v R=((N7 v).map (·.1),oN (SI (Db v R)),Px (D3 eS eS eI) (x6 (Db v R))):=by
 unfold cG;dsimp only;rw[SN];rfl
theorem ce{v:O cu}{R:O Dt}(nd:(v.map (·.1)).Nodup)(h1:v.length<=40)(h2:R.length<=20)(f:∀r∈R,Rl r):pZ v R:=by
 have d:=PC h1 h2;have h:(N7 v).length=v.length:=(vN v).length_eq;unfold pZ;refine⟨⟨λ_ _=>trivial,by omega,nd⟩,?_⟩;have td:Ae (N7 v) R:=⟨λq1 _ g _ q2 a=>US (f _ (GP R 0 q2 a).1) _ _,by
  have:=SN (N7 v) R;unfold jc at this;rw[this];exact zt d ()⟩
 have e:jc (N7 v) R=Db v R:=SN _ _;have c:∀q∈jc (N7 v) R,Rl q.1:=λq a=>f _ (md (by rw[<-e];exact a));have b:(jc (N7 v) R).length<=100000:=by rw[e];exact zt d ()
 refine⟨td,⟨b,λq a=>⟨(SQ (c q a)).1,λz=>(SQ (c q a)).2 (by simpa[HU]using z)⟩⟩,⟨b,λq a=>(SQ (c q a)).1⟩,?_,x5 ?_,?_⟩
 ·show(N7 v).length<=_;omega
 ·rw[zg];exact zt (kP _ _) b
 ·rw[zg];exact zt (kP _ _) b
def pr(v:O cu)(r:Dt):O (AJ×AJ):=((CU (N7 v)).filter λq=>Ad r q.1 q.2).map λq=>(q.1.1,q.2.1)
theorem oy{v:O cu}{q:PR}(h:q∈CU (N7 v)):q.1∈v/\q.2∈v:=⟨(vN v).mem_iff.mp (Jw h).1,(vN v).mem_iff.mp (Jw h).2⟩
open S1 S6
def pk(B:O cu)(N:AZ)(f:AJ):O (AJ×AJ):=N.filterMap λn=>(fw (lJ B n).2 f).map λw=>(n,w)
def gA(P:O (AJ×AJ))(q:AJ×AJ):AJ×AJ×AZ:=(q.1,mj cQ q.2 (P.map (·.2)),(P.filter λz=>decide (z.2=mj cQ q.2 (P.map (·.2)))).map (·.1))
def IF(p:AJ->O (AJ×AJ))(vo:O (AJ×AJ)):O (AJ×AJ×AZ):=(vo.filter λq=>!(p q.1).isEmpty).map λq=>gA (p q.1) q
theorem NJ(B:O cu)(f:AJ):∀N:AZ,(pk B N f).map (·.2)=GJ (N.map (lJ B)) f
 |[]=>rfl
 |n::N=>by
  have a:=NJ B f N;unfold pk GJ at *
  rw[zk,qv,qv];cases fw (lJ B n).2 f with
  |none=>exact a
  |some w=>show _::_=_::_;rw[<-a]
theorem Pi(B:O cu)(f u:AJ):∀N:AZ,(∀n∈N,(lJ B n).1=n)->((pk B N f).filter λz=>decide (z.2=u)).map (·.1)=Z7 (N.map (lJ B)) f u
 |[],_=>rfl
 |n::N,h=>by
  have a:=Pi B f u N λm c=>h m (zi _ c);have b:=h n (zh ..);unfold pk Z7 at *
  rw[zk,qv,qS];cases e:fw (lJ B n).2 f with
  |none=>rw[zv (by simp)];exact a
  |some w=>
   show((_::_).filter _).map _=_;rw[qS];by_cases z:w=u
   ·subst z;rw[zl (by simp),zl (by simp),zk,zk,b,<-a]
   ·rw[zv (by simpa using z),zv (by simpa using z)];exact a
theorem og{B:O cu}(h:∀n∈N,(lJ B n).1=n)(vo:O (AJ×AJ)):Z9 (N.map (lJ B)) vo=IF (pk B N) vo:=by
 have e:∀f,GJ (N.map (lJ B)) f=(pk B N f).map (·.2):=λf=>(NJ B f N).symm;unfold Z9 IF;have a:(vo.filter λq=>!(GJ (N.map (lJ B)) q.1).isEmpty)=vo.filter λq=>!(pk B N q.1).isEmpty:=KS λq _=>by
  rw[e,pW]
 rw[a];refine Q1 λq _=>?_;unfold Z8 gA;rw[e,<-Pi B q.1 _ N h]
theorem Qk{B:O cu}{n:AJ}(h:n∈B.map (·.1)):(lJ B n).1=n/\lJ B n∈B:=by
 unfold lJ;cases e:B.find? λr=>decide (r.1=n)with
 |none=>
  obtain⟨r,a,q⟩:=av.mp h;exact absurd (dI.mp e r a) (by simp[q])
 |some r=>exact⟨Q2 (List.find?_some (p:=λr:cu=>decide (r.1=n)) e),hI e⟩
theorem PD{B:O cu}{f:AJ}(h:z∈pk B N f):z.1∈N:=by
 unfold pk at h;obtain⟨n,a,e⟩:=dz.mp h;obtain⟨w,_,rfl⟩:=da.mp e;exact a
theorem Ak{B:O cu}{f:AJ}:∀{N:AZ},N.Pairwise Bw->N.Nodup->(pk B N f).Pairwise λa b=>xZ a.1 b.1=true
 |[],_,_=>.nil
 |n::N,hs,nd=>by
  rw[ca]at hs;rw[dr]at nd;have c:=Ak (B:=B) (f:=f) hs.2 nd.2;unfold pk at *
  rw[qv];cases e:fw (lJ B n).2 f with
  |none=>exact c
  |some w=>
   refine ca.mpr ⟨λz d=>?_,c⟩;have:=PD (B:=B) (N:=N) (f:=f) d;exact(BI _ _).mpr ⟨hs.1 _ this,λq=>nd.1 (by have q:n=z.1:=q;rw[q];exact this)⟩
theorem OT(B:O cu)(N:AZ)(f:AJ):(pk B N f).length<=N.length:=ik ..
theorem SX{b:AJ->AJ->Bool}:∀(r:AZ) (y:AJ),fU b y r∈y::r
 |[],y=>zh ..
 |z::r,y=>by
  unfold fU;split
  ·exact zi _ (SX r z)
  ·rcases List.mem_cons.mp (SX (b:=b) r y)with e|e
   ·rw[e];exact zh ..
   ·exact zi _ (zi _ e)
theorem fK{b:AJ->AJ->Bool}(h:ws≠[]):As b ws∈ws:=by
 cases ws with
 |nil=>exact absurd X2 h
 |cons y r=>exact SX r y
theorem Be(h:ws≠[]):∀x∈ws,Bw (As CM ws) x:=by
 cases ws with
 |nil=>exact absurd X2 h
 |cons y r=>exact λx hx=>zF.mp ((oO (b:=CM) SM Yi OF r y).2 x hx)
theorem zG(h:ws≠[]):∀x∈ws,Bw x (As CF ws):=by
 cases ws with
 |nil=>exact absurd X2 h
 |cons y r=>exact λx hx=>zF.mp ((oO (b:=CF) (λx z=>SM z x) (λx y z h1 h2=>Yi z y x h2 h1) OF r y).2 x hx)
abbrev bK:AJ->AJ->Bool:=λx z=>FE (sI eI eS (kL x)) (sI eI eS (kL z))
theorem L9(p q:Int×AJ):Ao (sI eI eS) p q=false↔Rv (sI eI eS) q p=true:=by unfold Ao Rv qu;simp
theorem Mt(h:ws≠[]):∀x∈ws,Rv (sI eI eS) (kL (As bK ws)) (kL x)=true:=by
 cases ws with
 |nil=>exact absurd X2 h
 |cons y r=>
  have c:∀x y z:Int×AJ,Ao (sI eI eS) x y=false->Ao (sI eI eS) y z=false->Ao (sI eI eS) x z=false:=λx y z h1 h2=>by
   rw[L9]at *
   exact iI _ _ _ h2 h1
  exact λx hx=>(L9 _ _).mp ((oO (b:=bK) (λx z q=>by
   have q:Ao (sI eI eS) (kL x) (kL z)=true:=q;exact(L9 _ _).mpr ((RJ _ _).mp q).1) (λx y z a b=>c _ _ _ a b) (λx=>pN _) r y).2 x hx)
abbrev bC(ws:AZ):AJ->AJ->Bool:=λx z=>EO (eI ((ws.count x:Nat):Int)) (eI ((ws.count z:Nat):Int))
theorem af(h:ws≠[]):∀x∈ws,ws.count x<=ws.count (As (bC ws) ws):=by
 have a:∀(f:AJ->Int) (y:AJ) (r:AZ),∀x∈y::r,f x<=f (fU (λx z=>EO (eI (f x)) (eI (f z))) y r):=λf y r x hx=>by
  obtain⟨c,d,e,h1,h2⟩:=GK (f:=f) (b:=λx z=>EO (eI (f x)) (eI (f z))) (λ_ _=>X2) r y;rw[e]at hx;rcases bB.mp hx with hx|hx
  ·exact Int.le_of_lt (h1 x hx)
  rcases List.mem_cons.mp hx with hx|hx
  ·rw[<-hx];exact yT _
  ·exact h2 x hx
 cases ws with
 |nil=>exact absurd X2 h
 |cons y r=>exact λx hx=>Int.ofNat_le.mp (a (λu=>(((y::r).count u:Nat):Int)) y r x hx)
theorem Op(ws:AZ):mj cQ "first" ws=at' ws 0:=by unfold mj;rw[Of];rfl
theorem Pf(ws:AZ):mj cQ "last" ws=at' ws (-1):=by unfold mj;rw[PH];rfl
theorem SL(ws:AZ):mj cQ "most" ws=As (bC ws) ws:=by unfold mj;rw[NR];rfl
theorem OM(ws:AZ):mj cQ "longest" ws=As bK ws:=by unfold mj;rw[Se];rfl
theorem OA(ws:AZ):mj cQ "least" ws=As CM ws:=by unfold mj;rw[PF];rfl
theorem SV(ws:AZ):mj cQ "greatest" ws=As CF ws:=by unfold mj;rw[SE];rfl
theorem NX{h:AJ}(b:h∈oR)(a:ws≠[]):mj cQ h ws∈ws:=by
 have c:0<ws.length:=cJ.mpr a;simp only[oR,QP,qA,or_false]at b;rcases b with rfl|rfl|rfl|rfl|rfl|rfl
 ·rw[Op];exact wj (B7 () ())
 ·rw[Pf];exact wj ⟨by omega,by omega⟩
 ·rw[SL];exact fK a
 ·rw[OM];exact fK a
 ·rw[OA];exact fK a
 ·rw[SV];exact fK a
abbrev Cs:=Int×AJ×AJ×Int
abbrev IH:=AJ×AJ×Int
def Rs(n_:AZ)(a:O Cs):Prop:=∀r∈a,r.2.1∈n_/\r.2.2.1∈n_
def jb(m:O (AJ×AJ))(r:Cs):O (AJ×AJ):=jm m (look m r.2.1) (look m r.2.2.1)
theorem N4(nd:n_.Nodup)(a:n_.length<1000):Hd n_ (eE n_):=by rw[(SJ n_ nd a).2];exact Hd.lone nd a
theorem P5(n_:AZ):∀(a:O Cs) (m:O (AJ×AJ)),Rs n_ a->Hd n_ m →
  sJ (λ(b:(O (AJ×AJ))) (q1:Cs)=>(gJ b q1)) (λ(b:(O (AJ×AJ))) (q1:Cs)=>Z (uN b q1)) a m/\Hd n_ (a.foldl (λ(b:(O (AJ×AJ))) (q1:Cs)=>(gJ b q1)) m)
 |[],m,_,h=>⟨trivial,h⟩
 |r::a,m,hr,h=>by
  obtain⟨c,f⟩:=hr r (zh ..);obtain⟨d,e⟩:=Z1 (look m r.2.1) (look m r.2.2.1) h.kn h.ml;have e:gJ m r=jb m r:=e;obtain⟨i1,i3⟩:=P5 n_ a (jb m r) (λx hx=>hr x (zi _ hx)) (h.join c f);refine⟨⟨⟨⟨h.has c,h.has f⟩,d⟩,?_⟩,?_⟩
  ·show sJ _ _ a (gJ m r);rw[e];exact i1
  ·rw[Q4,e];exact i3
theorem eK(nd:n_.Nodup)(b:n_.length<1000){a:O Cs}(c:Rs n_ a):xT n_ a/\Hd n_ (rQ n_ a):=by
 obtain⟨i1,i3⟩:=P5 n_ a _ c (N4 nd b);exact⟨⟨(SJ n_ nd b).1,i1⟩,i3⟩
abbrev JS:=(O (AJ×AJ))×(O Cs)×(O (Cs×Y IH))
abbrev E8(c:O IH):JS->Cs->JS:=λb a=>dU c b a
theorem GQ{α σ τ:Type}{step:σ->α->nY σ τ}{P:σ->α->Y Prop}:∀(xs:O α) (s:σ),(∀s x,x∈xs->hold (P s x))->rG step P xs s
 |[],_,_=>trivial
 |x::xs,s,h=>by
  refine⟨h s x (zh ..),?_⟩;cases step s x with
  |nx s'=>exact GQ xs s' λs y a=>h s y (zi _ a)
  |ct s'=>exact GQ xs s' λs y a=>h s y (zi _ a)
  |bk s'=>trivial
  |rt s'=>trivial
theorem nI(h:Hd n_ m){c:O IH}(a:∀b∈c,b.1∈n_/\b.2.1∈n_)(one d:AJ):pL c m one d:=by
 refine⟨GQ _ _ λs x hx=>?_,?_⟩
 ·have h1:=h.has (a x hx).1;have h2:=h.has (a x hx).2;exact⟨⟨h1,λ_=>h2⟩,λ_=>⟨h1,λ_=>h2⟩⟩
 ·unfold sU;split<;>trivial
structure JI (n_:AZ) (n:Nat) (s:JS):Prop where
 h:Hd n_ s.1
 kl:s.2.1.length<=n
 bl:s.2.2.length<=n
theorem U2(nd:n_.Nodup)(l:n_.length<1000){c:O IH}(o:∀b∈c,b.1∈n_/\b.2.1∈n_){f:O Cs}(t:Rs n_ f)(x:f.length<=100000):qQ (n_,f,c)/\∃m,Hd n_ m/\(iK (n_,f,c)).1=eG m:=by
 have:=Jm (P:=λv p=>Z (qj c v p)) (step:=E8 c) (λk s=>JI n_ k s) f 0 (eE n_,[],[]) ⟨N4 nd l,zo _,zo _⟩ λk r s hk i=>by
  obtain⟨m,kp,a⟩:=s;have u:r∈f:=Jn hk;have z:k<f.length:=(bc.mp hk).1;obtain⟨n,g⟩:=t r u;rw[kD]at i;have d:Hd n_ m:=i.h;have y:kp.length<=k:=i.kl;have w:a.length<=k:=i.bl;have j:=Z1 (look m r.2.1) (look m r.2.2.1) d.kn d.ml;refine⟨⟨d.has n,d.has g,λ_=>⟨nI d o _ _,λ_=>⟨j.1,?_⟩,λ_=>?_⟩⟩,?_⟩
  ·show kp.length<=1000000;omega
  ·show a.length<=1000000;omega
  rw[kD];by_cases e:look m r.2.1=look m r.2.2.1
  ·have:E8 c (m,kp,a) r=(m,kp,a):=by unfold E8 dU;simp[e]
   rw[this];exact⟨d,by show kp.length<=_;omega,by show a.length<=_;omega⟩
  ·by_cases q:(jd c m (look m r.2.1) (look m r.2.2.1)).isNone=true
   ·have:E8 c (m,kp,a) r=(jb m r,kp++[r],a):=by unfold E8 dU;simp only[j.2];simp[e,q];rfl
    rw[this];exact⟨d.join n g,by rw[Zl];show kp.length+1<=_;omega,by show a.length<=_;omega⟩
   ·have:E8 c (m,kp,a) r=(m,kp,a++[(r,jd c m (look m r.2.1) (look m r.2.2.1))]):=by unfold E8 dU;simp[e,q]
    rw[this];exact⟨d,by show kp.length<=_;omega,by rw[Zl];show a.length+1<=_;omega⟩
 exact⟨⟨(SJ n_ nd l).1,this.1,(Z4 this.2.h).1⟩,_,this.2.h,rfl⟩
structure Pt (n_:AZ) (S:List AZ):Prop where
 sub:∀s∈S,s.Sublist n_
 ne:∀s∈S,s≠[]
 pm:S.flatten.Perm n_
 ln:S.length<=n_.length
theorem Hd.pt(h:Hd n_ m):kj m/\Pt n_ (eG m):=by
 have l:=h.len;have d:∀z,lH m z=n_.filter λy=>decide (look m y=z):=λz=>by
  unfold lH;rw[h.keys];exact il _
 have e:eG m=(GL n_ m).map λz=>n_.filter λy=>decide (look m y=z):=by
  unfold eG GL;rw[h.keys];exact Q1 λz _=>d z
 have f:(GL n_ m).Nodup:=h.nd.sublist eH;refine⟨(Z4 h).1,?_⟩;rw[e];refine⟨λs hs=>?_,λs hs=>?_,?_,?_⟩
 ·obtain⟨z,_,rfl⟩:=av.mp hs;exact eH
 ·obtain⟨z,g,rfl⟩:=av.mp hs;obtain⟨h1,h2⟩:=cb.mp g;exact m4 (cb.mpr ⟨h1,h2⟩)
 ·refine Xn (List.pairwise_flatten.mpr ⟨λs hs=>?_,dd.mpr (KU (λ{a b} hne=>?_) f)⟩) h.nd λx=>?_
  ·obtain⟨z,_,rfl⟩:=av.mp hs;exact h.nd.sublist eH
  ·intro x h1 y h2 c;subst c;exact hne ((Q2 (cb.mp h1).2).symm.trans (Q2 (cb.mp h2).2))
  ·rw[ir];constructor
   ·rintro⟨s,hs,hx⟩;obtain⟨z,_,rfl⟩:=av.mp hs;exact(cb.mp hx).1
   ·intro hx;exact⟨_,av.mpr ⟨look m x,cb.mpr ⟨h.mem x hx,z5 (h.idem x hx)⟩,rfl⟩,cb.mpr ⟨hx,z5 rfl⟩⟩
 ·rw[zg];exact kP _ _
open S1 S6
theorem iP{q:AJ×AJ}(h:q.1∉m.map (·.1)):put m q.1 q.2=m++[q]:=by
 unfold put;rw[zv];intro z;unfold has at z;obtain⟨y,a,e⟩:=List.any_eq_true.mp z;exact h (by rw[<-Q2 e];exact qf a)
theorem S5{b:O (AJ×AJ)}(nd:(b.map (·.1)).Nodup){q:AJ×AJ}(h:q∈b):has b q.1=true/\look b q.1=q.2:=by
 refine⟨List.any_eq_true.mpr ⟨q,h,by simp⟩,?_⟩;unfold look;have:b.find? (λz=>decide (z.1=q.1))=Z q:=by
  induction b with
  |nil=>cases h
  |cons a b c=>
   rw[zk,dr]at nd;rw[JY];rcases List.mem_cons.mp h with e|e
   ·subst e;simp
   ·have:a.1≠q.1:=λz=>nd.1 (by rw[z];exact qf e);rw[z4 this];exact c nd.2 e
 rw[this];rfl
theorem Th(B:O cu)(M N:AZ)(f:AJ):pk B (M++N) f=pk B M f++pk B N f:=k6
theorem SF{a b c:AJ}(h1:Bw a b)(h2:Bw b c):Bw a c:=zF.mp (Yi _ _ _ (zF.mpr h2) (zF.mpr h1))
theorem RH{P:O (AJ×AJ)}(d:P≠[])(hs:P.Pairwise λa b=>xZ a.1 b.1=true):∃z∈P,(∀y∈P,y=z\/xZ z.1 y.1=true)/\at' (P.map (·.2)) 0=z.2/\at' ((P.filter λy=>decide (y.2=z.2)).map (·.1)) 0=z.1:=by
 cases P with
 |nil=>exact absurd X2 d
 |cons z P=>
  rw[ca]at hs;refine⟨z,zh ..,λy c=>?_,BL (k:=0) rfl,?_⟩
  ·rcases List.mem_cons.mp c with e|e
   ·exact .inl e
   ·exact .inr (hs.1 y e)
  ·rw[qS,zl (by simp)];exact BL (k:=0) rfl
theorem OI{P:O (AJ×AJ)}(c:P≠[])(hs:P.Pairwise λa b=>xZ a.1 b.1=true):∃z∈P,(∀y∈P,y=z\/xZ y.1 z.1=true)/\at' (P.map (·.2)) (-1)=z.2/\at' ((P.filter λy=>decide (y.2=z.2)).map (·.1)) (-1)=z.1:=by
 have e:=List.dropLast_concat_getLast c;generalize P.getLast c=z at e;generalize P.dropLast=Q at e;subst e;rw[cf]at hs;refine⟨z,by simp,λy d=>?_,?_,?_⟩
 ·rcases bB.mp d with h|h
  ·exact .inr (hs.2.2 y h z (by simp))
  ·exact .inl (bj.mp h)
 ·rw[Ch (by simp),Z6 (by simp)];simp
 ·rw[List.filter_append,qS,zl (by simp),qc];rw[Ch (by simp),Z6 (by simp)];simp
theorem x9(B:O cu)(N:AZ)(q:AJ×AJ):IF (pk B N) [q]=if pk B N q.1=[]then[]else[gA (pk B N q.1) q]:=by
 unfold IF;rw[qS];by_cases h:pk B N q.1=[]
 ·rw[zl h,h,zv ()];rfl
 ·rw[zv h,zl (by
   cases e:pk B N q.1 with
   |nil=>exact absurd e h
   |cons _ _=>rfl)]
  rfl
theorem Yn(P:O (AJ×AJ))(u:AJ):((P.filter λz=>decide (z.2=u)).map (·.1)).length=(P.map (·.2)).count u:=by
 rw[zg,List.count,List.countP_map,fD];refine congrArg dv (KS λz _=>?_);show decide (z.2=u)=(z.2==u);by_cases h:z.2=u
 ·simp[h]
 ·simp[h]
def wd(B:O cu)(f:AJ):O (AJ×AJ):=B.filterMap λr=>(fw r.2 f).map λw=>(r.1,w)
theorem Sc(B:O cu)(f:AJ):(wd B f).length<=B.length:=ik ..
theorem My{B:O cu}{f:AJ}{q:AJ×AJ}:q∈wd B f↔∃r∈B,r.1=q.1/\fw r.2 f=Z q.2:=by
 unfold wd;rw[dz];refine exists_congr λr=>and_congr_right λ_=>?_;rw[da];constructor
 ·rintro⟨w,a,rfl⟩;exact⟨rfl,a⟩
 ·rintro⟨h1,h2⟩;exact⟨q.2,h2,xk h1 rfl⟩
theorem Jx(f:AJ):∀B:O cu,((wd B f).map (·.1)).Sublist (B.map (·.1))
 |[]=>.slnil
 |r::B=>by
  unfold wd;rw[qv,zk];cases fw r.2 f with
  |none=>exact(Jx f B).cons _
  |some w=>exact(Jx f B).cons₂ _
theorem XN(B:O cu)(r:cu)(f:AJ):wd (B++[r]) f=wd B f++(match fw r.2 f with|some w=>[(r.1,w)]|none=>[]):=by
 unfold wd;rw[k6,qv,List.filterMap_nil];cases fw r.2 f<;>rfl
theorem gS{B:O cu}(b:Bk B)(f:AJ):uh B f/\p7 B f=wd B f:=by
 have m:=b.ln;have lp:=Jm (P:=λc a=>Z (rT f c a)) (step:=λc a=>jF f c a) (λk (s:O (AJ×AJ))=>s=wd (B.take k) f) B 0 [] (by rw[k0];rfl) λk r s hk h=>by
  rw[kD]at h ⊢;obtain⟨g,l⟩:=bc.mp hk;obtain⟨d,j⟩:=jG r f;have tk:B.take (k+1)=B.take k++[r]:=by rw[nF,hk];rfl
  have sl:s.length<=40:=by rw[h];exact zt (Sc _ f) (by rw[qB];omega)
  have i:r.1∉s.map (·.1):=λz=>by
   rw[h]at z;have z:=(Jx f _).subset z;have nd:=b.nd;rw[show B=B.take k++B.drop k from(qr k B).symm,yn g,l,qc,zk,y7]at nd;exact nd.2.2 _ z _ (zh ..) rfl
  refine⟨⟨d,λz=>⟨z,by omega⟩⟩,?_⟩;unfold jF;dsimp only;rw[j,tk,XN,<-h];cases e:fw r.2 f with
  |none=>exact(qk s).symm
  |some w=>exact iP (q:=(r.1,w)) i
 refine⟨lp.1,?_⟩;have:=lp.2;rw[kD,xC]at this;exact this
section
variable{B:O cu}(b:Bk B)(hs:N.Pairwise Bw)(nd:N.Nodup)(hN:∀ n∈N,n∈B.map (·.1))
include b in
theorem PU(f:AJ):((wd B f).map (·.1)).Nodup:=(b.nd).sublist (Jx f B)
include b in
theorem OZ{n:AJ}(h:n∈B.map (·.1))(f:AJ):has (wd B f) n=(fw (lJ B n).2 f).isSome/\∀w,fw (lJ B n).2 f=Z w->look (wd B f) n=w:=by
 obtain⟨d,a⟩:=Qk h;have l:∀w,fw (lJ B n).2 f=Z w->has (wd B f) n=true/\look (wd B f) n=w:=λw e=>S5 (q:=(n,w)) (PU b f) (My.mpr ⟨_,a,d,e⟩);refine⟨?_,λw e=>(l w e).2⟩;cases e:fw (lJ B n).2 f with
 |some w=>exact(l w e).1
 |none=>
  refine Bool.eq_false_iff.mpr λz=>?_;obtain⟨q,g,e2⟩:=List.any_eq_true.mp z;obtain⟨r,c,h1,h2⟩:=My.mp g;have:r=lJ B n:=by rw[<-Z5 b.nd c,h1,Q2 e2]
  rw[this,e]at h2;cases h2
include b hN in
theorem P3(f:AJ):(N.filter λn=>has (wd B f) n)=(pk B N f).map (·.1):=by
 have:∀M:AZ,(∀n∈M,n∈B.map (·.1))->(M.filter λn=>has (wd B f) n)=(pk B M f).map (·.1):=by
  intro M
  induction M with
  |nil=>intro _;rfl
  |cons n M a=>
   intro h;have a:=a λx hx=>h x (zi _ hx);have w:=(OZ b (h n (zh ..)) f).1;unfold pk at *
   rw[qS,qv,w];cases e:fw (lJ B n).2 f with
   |none=>exact a
   |some u=>show n::_=n::_;rw[a]
 exact this N hN
include b hN in
theorem S7{f:AJ}(h:z∈pk B N f):has (wd B f) z.1=true/\look (wd B f) z.1=z.2:=by
 have a:=hN _ (PD h);obtain⟨n,_,e⟩:=dz.mp h;obtain⟨w,e1,rfl⟩:=da.mp e;obtain⟨h1,h2⟩:=OZ b a f;exact⟨by rw[h1,e1];rfl,h2 w e1⟩
def tw(B:O cu)(N:AZ)(q:AJ×AJ):O (AJ×AJ×AZ):=if pk B N q.1=[]then[]else[gA (pk B N q.1) q]
include hN in
theorem Su(q:AJ×AJ)(a:q.2∈oR)(c:N.length<=100000):je B [q] N/\dN B [q] N=tw B N q:=by
 obtain⟨d,e⟩:=Pw B [q] N hN c (show 1<=100000 by decide) λp hp=>by rw[bj.mp hp];exact a
 exact⟨d,by rw[e,og (λn b=>(Qk (hN n b)).1),x9];rfl⟩
theorem O'{P:O (AJ×AJ)}{q:AJ×AJ}(a:q.2∈oR)(d:P≠[]):(gA P q).2.2≠[]:=by
 have:=NX a (ws:=P.map (·.2)) (λz=>d (bT.mp z));obtain⟨z,c,e⟩:=av.mp this;exact m4 (av.mpr ⟨z,cb.mpr ⟨c,z5 e⟩,rfl⟩)
include b hs nd hN in
theorem wt(q:AJ×AJ)(i:q.2∈oR)(m:N.length<=40):gq (wd B q.1) N (tw B N q)/\dW (wd B q.1) N (tw B N q)=true:=by
 have g:=P3 b hN q.1;have ps:=Ak (B:=B) (f:=q.1) hs nd;have so:uZ ((pk B N q.1).map (·.1))=(pk B N q.1).map (·.1):=Jf (gC _) (vZ _) (dd.mpr (KU (R:=λa b:AJ×AJ=>xZ a.1 b.1=true) (λh=>((BI _ _).mp h).1) ps));have l:=OT B N q.1;have hk:∀d∈(pk B N q.1).map (·.1),has (wd B q.1) d=true:=λd hv=>by
  obtain⟨z,c,rfl⟩:=av.mp hv;exact(S7 b hN c).1
 unfold gq dW;dsimp only;rw[il,g,so];unfold tw;by_cases e:pk B N q.1=[]
 ·rw[zl e,e];exact⟨⟨⟨by omega,by decide⟩,λz=>by cases z⟩,rfl⟩
 rw[zv e,z4 (show ¬ [gA (pk B N q.1) q]=[] by simp),show at' [gA (pk B N q.1) q] 0=gA (pk B N q.1) q from BL (k:=0) rfl,zv ()];have j:=O' i e;have e0:(pk B N q.1).map (·.1)≠[]:=λz=>e (bT.mp z);rw[z4 e0,z4 j,zv (),il];refine⟨⟨⟨by omega,by rw[zg];omega⟩,λ_=>⟨B7 () (show(0:Int)<((1:Nat):Int) by decide),λ_=>⟨by rw[zg];omega,hk⟩⟩⟩,z5 ?_⟩;show((pk B N q.1).filter λz=>decide (z.2=(gA (pk B N q.1) q).2.1)).map (·.1)=_;rw[List.filter_map];refine congrArg (List.map _) (KS λz c=>?_);show _=decide (look (wd B q.1) z.1=_);rw[(S7 b hN c).2]
include b hN in
theorem oP(q:AJ×AJ)(g:q.2∈oR)(h1:N.length=1):tw B N q=(N.filter λa:AJ=>(has (wd B q.1) a)).map λa:AJ=>(q.1,(look (wd B q.1) a),[a]):=by
 obtain⟨n,rfl⟩:=List.length_eq_one_iff.mp h1;rw[P3 b hN,ZU];unfold tw;cases e:pk B [n] q.1 with
 |nil=>rfl
 |cons z P=>
  have d:=OT B [n] q.1;rw[e]at d;have:P=[]:=by simpa using d
  subst this;have f:z∈pk B [n] q.1:=by rw[e];exact bj.mpr rfl
  have c:=NX g (ws:=[z.2]) (by simp);have c:=bj.mp c;rw[zv (by simp)];show[gA [z] q]=[(q.1,look (wd B q.1) z.1,[z.1])];rw[(S7 b hN f).2];unfold gA;simp only[zk,kF];rw[c,qS,zl (by simp)];rfl
end
open S1 S6
theorem SW[Inhabited α]{e:α->Dt}[jr e]{xs:O α}(h:xs≠[]):As (λx z=>Ao e x z) xs∈xs/\∀x∈xs,Rv e (As (λx z=>Ao e x z) xs) x=true:=by
 have no:∀p q:α,Ao e p q=false↔Rv e q p=true:=λp q=>by unfold Ao Rv qu;simp
 cases xs with
 |nil=>exact absurd X2 h
 |cons y r=>
  obtain⟨h1,h2⟩:=oO (b:=λx z=>Ao e x z) (λx z q=>(no _ _).mpr ((RJ _ _).mp q).1) (λx y z h1 h2=>by
   rw[no]at *
   exact iI _ _ _ h2 h1) (λx=>pN _) r y
  exact⟨h1,λx hx=>(no _ _).mp (h2 x hx)⟩
theorem gE[Inhabited α]{e:α->Dt}[jr e]{xs:O α}(h:xs≠[]):As (λx z=>Ao e z x) xs∈xs/\∀x∈xs,Rv e x (As (λx z=>Ao e z x) xs)=true:=by
 have no:∀p q:α,Ao e p q=false↔Rv e q p=true:=λp q=>by unfold Ao Rv qu;simp
 cases xs with
 |nil=>exact absurd X2 h
 |cons y r=>
  obtain⟨h1,h2⟩:=oO (b:=λx z=>Ao e z x) (λx z q=>(no _ _).mpr ((RJ _ _).mp q).1) (λx y z h1 h2=>by
   rw[no]at *
   exact iI _ _ _ h1 h2) (λx=>pN _) r y
  exact⟨h1,λx hx=>(no _ _).mp (h2 x hx)⟩
theorem lw{y:AJ×AJ}(h:z.1≠y.1):Ao (sI eS eS) z y=xZ z.1 y.1:=by
 show eZ [.inr z.1,.inr z.2] [.inr y.1,.inr y.2]=_;unfold eZ;rw[zv (λe=>h (by injection e))];rfl
theorem Sz{y:AJ×AJ}(h:xZ z.1 y.1=true):Rv (sI eS eS) y z=true->False:=λq=>by
 have h1:Ao (sI eS eS) z y=true:=by rw[lw (((BI _ _).mp h).2)];exact h
 have no:Ao (sI eS eS) z y=false↔Rv (sI eS eS) y z=true:=by unfold Ao Rv qu;simp
 rw[no.mpr q]at h1;cases h1
section
variable{L:O (O (AJ×AJ))}{P0:O (AJ×AJ)}(ne:∀ P∈L,P≠[])(so:∀ P∈L,P.Pairwise λa b=>xZ a.1 b.1=true)(s0:P0.Pairwise λa b=>xZ a.1 b.1=true)(pm:L.flatten.Perm P0)(h0:P0≠[])
include pm in
theorem Yo{P:O (AJ×AJ)}(b:P∈L)(a:z∈P):z∈P0:=pm.mem_iff.mp (ir.mpr ⟨P,b,a⟩)
include pm in
theorem GO(a:z∈P0):∃P∈L,z∈P:=ir.mp (pm.mem_iff.mpr a)
abbrev qm(P:O (AJ×AJ)):AZ:=P.map (·.2)
theorem uw{P:O (AJ×AJ)}(h:P≠[]):qm P≠[]:=λz=>h (bT.mp z)
include pm h0 in
theorem EQ:L≠[]:=λz=>by
 subst z;exact h0 (List.Perm.nil_eq pm).symm
include ne pm h0 in
theorem nK:As CM (qm P0)=As CM (L.map λP=>As CM (qm P)):=by
 have d:(L.map λP=>As CM (qm P))≠[]:=λz=>EQ pm h0 (bT.mp z);refine uY ?_ ?_
 ·obtain⟨P,c,e⟩:=av.mp (fK (b:=CM) d);rw[<-e];obtain⟨z,a,e2⟩:=av.mp (fK (b:=CM) (uw (ne P c)));rw[<-e2];exact Be (uw h0) _ (qf (Yo pm c a))
 ·obtain⟨z,a,e⟩:=av.mp (fK (b:=CM) (uw h0));rw[<-e];obtain⟨P,c,a⟩:=GO pm a;exact SF (Be d _ (av.mpr ⟨P,c,rfl⟩)) (Be (uw (ne P c)) _ (qf a))
include ne pm h0 in
theorem Yp:As CF (qm P0)=As CF (L.map λP=>As CF (qm P)):=by
 have d:(L.map λP=>As CF (qm P))≠[]:=λz=>EQ pm h0 (bT.mp z);refine uY ?_ ?_
 ·obtain⟨z,a,e⟩:=av.mp (fK (b:=CF) (uw h0));rw[<-e];obtain⟨P,c,a⟩:=GO pm a;exact SF (zG (uw (ne P c)) _ (qf a)) (zG d _ (av.mpr ⟨P,c,rfl⟩))
 ·obtain⟨P,c,e⟩:=av.mp (fK (b:=CF) d);rw[<-e];obtain⟨z,a,e2⟩:=av.mp (fK (b:=CF) (uw (ne P c)));rw[<-e2];exact zG (uw h0) _ (qf (Yo pm c a))
include ne pm h0 in
theorem bE:As bK (qm P0)=(As (λx z=>Ao (sI eI eS) x z) ((L.map λP=>As bK (qm P)).map λvo:AJ=>(((0:Int)-(vo.length:Int)),vo))).2:=by
 rw[show(λvo:AJ=>(((0:Int)-(vo.length:Int)),vo))=kL from funext λu=>by unfold kL;rw[Int.zero_sub]];have j:((L.map λP=>As bK (qm P)).map kL)≠[]:=λz=>EQ pm h0 (bT.mp (bT.mp z));obtain⟨n,m2⟩:=SW (e:=sI eI eS) j;generalize As (λx z=>Ao (sI eI eS) x z) ((L.map λP=>As bK (qm P)).map kL)=m at *
 obtain⟨u,l,rfl⟩:=av.mp n;obtain⟨P,g,rfl⟩:=av.mp l;refine congrArg Prod.snd (a₁:=kL (As bK (qm P0))) (aE (e:=sI eI eS) ?_ ?_)
 ·obtain⟨z,d,e2⟩:=av.mp (fK (b:=bK) (uw (ne P g)));have:=Mt (uw h0) z.2 (qf (Yo pm g d));rw[e2]at this;exact this
 ·obtain⟨z,d,e⟩:=av.mp (fK (b:=bK) (uw h0));obtain⟨i,h,o⟩:=GO pm d;have a:=m2 _ (qf (f:=kL) (av.mpr ⟨i,h,rfl⟩));have c:=Mt (uw (ne i h)) z.2 (qf o);rw[e]at c;exact iI _ _ _ a c
include ne so s0 pm h0 in
theorem pf:at' (qm P0) 0=(As (λx z=>Ao (sI eS eS) x z) (L.map λP=>(at' ((P.filter λz=>decide (z.2=at' (qm P) 0)).map (·.1)) 0,at' (qm P) 0))).2:=by
 have h:(L.map λP=>(at' ((P.filter λz=>decide (z.2=at' (qm P) 0)).map (·.1)) 0,at' (qm P) 0))≠[]:=λz=>EQ pm h0 (bT.mp z);obtain⟨l,m2⟩:=SW (e:=sI eS eS) h;have hd:∀P∈L,∃z∈P,(∀y∈P,y=z\/xZ z.1 y.1=true)/\(at' ((P.filter λz=>decide (z.2=at' (qm P) 0)).map (·.1)) 0,at' (qm P) 0)=z:=λP a=>by
  obtain⟨z,b,h1,h2,n⟩:=RH (ne P a) (so P a);exact⟨z,b,h1,by rw[show qm P=P.map (·.2) from rfl,h2,n]⟩
 generalize As (λx z=>Ao (sI eS eS) x z) (L.map λP=>(at' ((P.filter λz=>decide (z.2=at' (qm P) 0)).map (·.1)) 0,at' (qm P) 0))=m at *
 obtain⟨z0,j,a1,a2,_⟩:=RH h0 s0;rw[show at' (qm P0) 0=z0.2 from a2];obtain⟨P,a,e⟩:=av.mp l;obtain⟨z,b,b1,b2⟩:=hd P a;have f:m=z:=e.symm.trans b2;rcases a1 z (Yo pm a b)with e1|e1
 ·rw[f,e1]
 ·exfalso;obtain⟨g,c,o⟩:=GO pm j;obtain⟨d,i,c1,c2⟩:=hd g c;have le:=m2 _ (av.mpr ⟨g,c,rfl⟩);rw[c2,f]at le;have:d=z0:=by
   rcases a1 d (Yo pm c i)with q|q
   ·exact q
   ·rcases c1 z0 o with q2|q2
    ·exact q2.symm
    ·rw[SM _ _ q]at q2;cases q2
  rw[this]at le;exact Sz e1 le
include ne so s0 pm h0 in
theorem o4:at' (qm P0) (-1)=(As (λx z=>Ao (sI eS eS) z x) (L.map λP=>(at' ((P.filter λz=>decide (z.2=at' (qm P) (-1))).map (·.1)) (-1),at' (qm P) (-1)))).2:=by
 have h:(L.map λP=>(at' ((P.filter λz=>decide (z.2=at' (qm P) (-1))).map (·.1)) (-1),at' (qm P) (-1)))≠[]:=λz=>EQ pm h0 (bT.mp z);obtain⟨l,m2⟩:=gE (e:=sI eS eS) h;have hd:∀P∈L,∃z∈P,(∀y∈P,y=z\/xZ y.1 z.1=true)/\(at' ((P.filter λz=>decide (z.2=at' (qm P) (-1))).map (·.1)) (-1),at' (qm P) (-1))=z:=λP a=>by
  obtain⟨z,b,h1,h2,n⟩:=OI (ne P a) (so P a);exact⟨z,b,h1,by rw[show qm P=P.map (·.2) from rfl,h2,n]⟩
 generalize As (λx z=>Ao (sI eS eS) z x) (L.map λP=>(at' ((P.filter λz=>decide (z.2=at' (qm P) (-1))).map (·.1)) (-1),at' (qm P) (-1)))=m at *
 obtain⟨z0,j,a1,a2,_⟩:=OI h0 s0;rw[show at' (qm P0) (-1)=z0.2 from a2];obtain⟨P,a,e⟩:=av.mp l;obtain⟨z,b,b1,b2⟩:=hd P a;have f:m=z:=e.symm.trans b2;rcases a1 z (Yo pm a b)with e1|e1
 ·rw[f,e1]
 ·exfalso;obtain⟨g,c,o⟩:=GO pm j;obtain⟨d,i,c1,c2⟩:=hd g c;have le:=m2 _ (av.mpr ⟨g,c,rfl⟩);rw[c2,f]at le;have:d=z0:=by
   rcases a1 d (Yo pm c i)with q|q
   ·exact q
   ·rcases c1 z0 o with q2|q2
    ·exact q2.symm
    ·rw[SM _ _ q]at q2;cases q2
  rw[this]at le;exact Sz e1 le
include h0 in
theorem ay{f:AJ}(nm:(m.map (·.1)).Nodup)(b:m.Perm P0):((((gA P0 (f,"most")).2.2.length:Nat):Int)=MJ ((m.map (·.2)).map λvo:AJ=>((((m.map (·.1)).filter λa:AJ=>(decide ((look m a)=vo))).map λa:AJ=>a).length:Int))):=by
 have ct:∀o:AJ,(((m.map (·.1)).filter λa:AJ=>(decide ((look m a)=o))).map λa:AJ=>a).length=(qm P0).count o:=λo=>by
  rw[il,List.filter_map,zg,<-(b.map (·.2)).count_eq o,List.count,List.countP_map,fD];refine congrArg dv (KS λz d=>?_);show decide (look m z.1=o)=(z.2==o);rw[(S5 nm d).2];by_cases h:z.2=o
  ·simp[h]
  ·simp[h]
 have e1:(gA P0 (f,"most")).2.2.length=(qm P0).count (As (bC (qm P0)) (qm P0)):=by
  show((P0.filter λz=>decide (z.2=mj cQ "most" (qm P0))).map (·.1)).length=_;rw[SL];exact Yn P0 _
 rw[e1];have c:(((qm P0).count (As (bC (qm P0)) (qm P0)):Nat):Int)∈(m.map (·.2)).map λvo:AJ=>((((m.map (·.1)).filter λa:AJ=>(decide ((look m a)=vo))).map λa:AJ=>a).length:Int):=
  av.mpr ⟨As (bC (qm P0)) (qm P0),(b.map (·.2)).mem_iff.mpr (fK (uw h0)),congrArg Int.ofNat (ct _)⟩
 refine(wa c λk hk=>?_).symm;obtain⟨o,e,rfl⟩:=av.mp hk;rw[ct];exact Int.ofNat_le.mpr (af (uw h0) o ((b.map (·.2)).mem_iff.mp e))
end
open S1 S6
def Wt(_:Dt):Prop:=True
theorem aT(xs:O Int)(o:5<=xs.length):ug xs/\(iu xs).length<=4/\∀r∈iu xs,Rl r/\Wt r:=by
 have n:=sX (at' xs 0) (m:=4) ();have step:∀(k:Nat) (s:O Dt),k<(1+at' xs 0%4).toNat->s.length=k/\(∀r∈s,Rl r/\Wt r)->jB xs [("day":AJ),("name":AJ),("names":AJ),("p":AJ),("zzz":AJ)] s (k:Int)/\(fO xs [("day":AJ),("name":AJ),("names":AJ),("p":AJ),("zzz":AJ)] s (k:Int)).length=k+1/\∀r∈fO xs [("day":AJ),("name":AJ),("names":AJ),("p":AJ),("zzz":AJ)] s (k:Int),Rl r/\Wt r:=λk s hk h=>by
  obtain⟨h1,h2⟩:=h;have l:In xs.length (1+(k:Int)):=B7 () ();have ff:MK s.length:=uQ ();unfold jB fO;dsimp only;generalize at' xs (1+(k:Int))=y;have p:1<=at' [(1+((y / (300:Int))%3)),(1+((y / (300:Int))%1000))] ((y / (7:Int))%2)/\at' [(1+((y / (300:Int))%3)),(1+((y / (300:Int))%1000))] ((y / (7:Int))%2)<=1000:=by
   have:=wj (xs:=[(1+((y / (300:Int))%3)),(1+((y / (300:Int))%1000))]) (i:=(y / (7:Int))%2) (rJ () (yT 2));simp only[QP,qA,or_false]at this;have a:=sX (y / 300) (m:=3) ();have b:=sX (y / 300) (m:=1000) ();rcases this with e|e<;>rw[e]<;>omega
  generalize at' [(1+((y / (300:Int))%3)),(1+((y / (300:Int))%1000))] ((y / (7:Int))%2)=w at *
  refine⟨⟨l,⟨rJ () (yT 5),rJ () (yT 5)⟩,rJ () (yT 2),λ_=>ff,λ_=>⟨λ_=>ff,λ_=>⟨λ_=>ff,λ_=>ff⟩⟩⟩,?_⟩;generalize at' [("day":AJ),("name":AJ),("names":AJ),("p":AJ),("zzz":AJ)] (y%5)=f;generalize at' [("day":AJ),("name":AJ),("names":AJ),("p":AJ),("zzz":AJ)] ((y+1+y / 5%4)%5)=g;have d:∀r:Dt,Rl r/\Wt r->(s++[r]).length=k+1/\∀q∈s++[r],Rl q/\Wt q:=λr j=>by
   refine⟨by rw[Zl,h1];rfl,λq c=>?_⟩;rcases bB.mp c with c|c
   ·exact h2 q c
   ·rw[bj.mp c];exact j
  split
  ·exact d _ ⟨.inr (.inr (.inr ⟨f,rfl⟩)),trivial⟩
  ·split
   ·exact d _ ⟨.inr (.inl ⟨f,_,w,rfl⟩),trivial⟩
   ·split
    ·exact d _ ⟨.inr (.inr (.inl ⟨f,g,w,rfl⟩)),trivial⟩
    ·exact d _ ⟨.inl ⟨f,w,rfl⟩,trivial⟩
 have lp:=rH (P:=λf k=>Z (jB xs [("day":AJ),("name":AJ),("names":AJ),("p":AJ),("zzz":AJ)] f k)) (step:=λf k=>fO xs [("day":AJ),("name":AJ),("names":AJ),("p":AJ),("zzz":AJ)] f k) (λk (s:O Dt)=>s.length=k/\(∀r∈s,Rl r/\Wt r)) (1+at' xs 0%4).toNat [] ⟨rfl,λr h=>by cases h⟩ λk s hk h=>step k s hk h;refine⟨⟨⟨B7 () (),Hr () ()⟩,lp.1⟩,?_,λr h=>lp.2.2 r h⟩;have:(iu xs).length=_:=lp.2.1;rw[this];omega
theorem aby{v:O cu}(nd:(v.map (·.1)).Nodup):uZ (v.map λc:cu=>c.1)=(N7 v).map (·.1):=by
 have h1:(N7 v).Pairwise λa b:cu=>Bw a.1 b.1:=KU (R:=λa b:cu=>xZ a.1 b.1=true) (λh=>((BI _ _).mp h).1) (pi nd);exact(Jf (((vN v).map _).trans (gC _).symm) (dd.mpr h1) (vZ _)).symm
theorem Yq{a c:AJ}{i:Decidable (a=c)}(h:(a==c)=false):¬ (@decide (a=c) i)=true:=λz=>by rw[Q2 z,beq_self_eq_true]at h;cases h
theorem GA{a:AJ}{i:Decidable (a=a)}:(@decide (a=a) i)=true:=z5 rfl
abbrev N0(B:O cu):AZ:=uZ (B.map (·.1))
theorem P9(B:O cu):(N0 B).Pairwise Bw:=vZ _
section
variable{B:O cu}(b:Bk B)
theorem OE:∀n∈N0 B,n∈B.map (·.1):=λn h=>(gC _).mem_iff.mp h
include b in
theorem L6:(N0 B).Nodup:=(gC _).nodup_iff.mpr b.nd
theorem GR:(N0 B).length=B.length:=by rw[(gC _).length_eq,zg]
include b in
theorem ag4(f:AJ):(wd B f).Perm (pk B (N0 B) f):=by
 have e:pk B (B.map (·.1)) f=wd B f:=by
  have:∀C:O cu,(∀r∈C,r∈B)->pk B (C.map (·.1)) f=wd C f:=by
   intro C
   induction C with
   |nil=>intro _;rfl
   |cons r C a=>
    intro h;have a:=a λx hx=>h x (zi _ hx);unfold pk wd at *
    rw[zk,qv,qv,Z5 b.nd (h r (zh ..)),a]
  exact this B λ_ h=>h
 rw[<-e];exact((gC _).filterMap _).symm
def Ls(B:O cu)(f:AJ)(S:O AZ):O (O (AJ×AJ)):=(S.map λN=>pk B N f).filter λP=>!P.isEmpty
theorem On(q:AJ×AJ):∀S:O AZ,(((S.map λN=>tw B N q).filter λvo:O (AJ×AJ×AZ)=>(!decide (vo=([]:O (AJ×AJ×AZ))))).map λvo=>(at' vo 0))=(Ls B q.1 S).map λP=>gA P q
 |[]=>rfl
 |N::S=>by
  have a:=On q S;by_cases e:pk B N q.1=[]
  ·have t:tw B N q=[]:=zl e;rw[zk,qS,t,zv (by simp),a];unfold Ls;rw[zk,qS,e,zv (by simp)]
  ·have t:tw B N q=[gA (pk B N q.1) q]:=zv e;rw[zk,qS,t,zl (by simp),zk,a];unfold Ls;rw[zk,qS,zl (by
    cases h:pk B N q.1 with
    |nil=>exact absurd h e
    |cons _ _=>rfl),zk]
   exact congrArg (·::_) (BL (k:=0) X2)
theorem RC(f:AJ):∀S:O AZ,(Ls B f S).flatten=pk B S.flatten f
 |[]=>rfl
 |N::S=>by
  have a:=RC f S;rw[y9,Th,<-a];unfold Ls;rw[zk,qS];cases e:pk B N f with
  |nil=>rfl
  |cons z P=>rfl
variable{S:O AZ}(p:Pt (N0 B) S)
include p in
theorem GX(h:N∈S):N.Pairwise Bw/\(∀n∈N,n∈B.map (·.1))/\N.length<=B.length:=by
 have s:=p.sub N h;exact⟨(P9 B).sublist s,λn a=>OE n (s.subset a),by rw[<-GR (B:=B)];exact s.length_le⟩
include b p in
theorem SH(h:N∈S):N.Nodup:=(L6 b).sublist (p.sub N h)
include b p in
theorem dy(q:AJ×AJ)(d:q.2∈oR):iW q.2 (wd B q.1) (S.map λN=>tw B N q) (tw B (N0 B) q)/\iV q.2 (wd B q.1) (S.map λN=>tw B N q) (tw B (N0 B) q)=true:=by
 have w:=b.ln;have A:=p.ln;rw[GR]at A;have ne:∀P∈Ls B q.1 S,P≠[]:=λP h z=>by
  have:=(cb.mp h).2;rw[z]at this;cases this
 have so:∀P∈Ls B q.1 S,P.Pairwise λa b=>xZ a.1 b.1=true:=λP h=>by
  obtain⟨N,hN,rfl⟩:=av.mp (cb.mp h).1;exact Ak (GX p hN).1 (SH b p hN)
 have pm:(Ls B q.1 S).flatten.Perm (pk B (N0 B) q.1):=by rw[RC];exact p.pm.filterMap _
 have s0:=Ak (B:=B) (f:=q.1) (P9 B) (L6 b);have hs:=On (B:=B) q S;have wp:=ag4 b q.1;have E:(wd B q.1).length<=40:=zt (Sc B q.1) w;have nm:=PU b q.1;have o:(Ls B q.1 S).length<=40:=by
  unfold Ls;have:=kP (λP:O (AJ×AJ)=>!P.isEmpty) (S.map λN=>pk B N q.1);rw[zg]at this;omega
 have l:(S.map λN=>tw B N q).length<=100000/\∀vo∈(S.map λN=>tw B N q),(!decide (vo=([]:O (AJ×AJ×AZ))))=true->In vo.length 0:=⟨by rw[zg];omega,λvo _ z=>B7 () (by
  cases vo with
  |nil=>simp at z
  |cons _ _=>rw[ZO];omega)⟩
 have G:=o;have v:tw B (N0 B) q=if pk B (N0 B) q.1=[]then[]else[gA (pk B (N0 B) q.1) q]:=rfl;rw[v];generalize pk B (N0 B) q.1=P0 at *
 unfold iW iV;dsimp only;rw[hs];generalize Ls B q.1 S=L at *
 generalize wd B q.1=m at *
 by_cases h0:P0=[]
 ·rw[zl h0,zl (z5 X2)];have eL:L=[]:=by
   cases L with
   |nil=>rfl
   |cons P L=>
    rw[h0]at pm;have:=List.Perm.eq_nil pm;rw[y9,List.append_eq_nil_iff]at this;exact absurd this.1 (ne P (zh ..))
  rw[eL];exact⟨⟨l,λz=>by cases z⟩,rfl⟩
 rw[zv h0,z4 (show ¬ [gA P0 q]=[] by simp),show at' [gA P0 q] 0=gA P0 q from BL (k:=0) rfl,zv ()];have n:=EQ pm h0;have g:((L.map λP=>gA P q).map λvo:AJ×AJ×AZ=>vo.2.1)≠[]:=λz=>n (bT.mp (bT.mp z));have i:(L.map λP=>gA P q)≠[]:=λz=>n (bT.mp z);have c:(L.map λP=>gA P q).length<=100000:=by rw[zg];omega
 have x:((L.map λP=>gA P q).map λvo:AJ×AJ×AZ=>vo.2.1).length<=100000:=by rw[zg];exact c
 have e:∀vo∈(L.map λP=>gA P q),0<vo.2.2.length:=λvo hv=>by
  obtain⟨P,C,rfl⟩:=av.mp hv;exact cJ.mpr (O' d (ne P C))
 have hk:∀j∈(m.map (·.1)),has m j=true:=λj h=>by
  obtain⟨z,u,rfl⟩:=av.mp h;exact(S5 nm u).1
 have y:0<m.length:=by rw[wp.length_eq];exact cJ.mpr h0
 have i1:In [gA P0 q].length (0:Int):=B7 () (show(0:Int)<((1:Nat):Int) by decide);refine⟨⟨l,λ_=>⟨i1,c,λ_=>g,λ_=>⟨λ_=>g,λ_=>⟨λ_=>⟨x,λz=>g (bT.mp z)⟩,λ_=>⟨λ_=>⟨⟨c,λvo hv=>B7 () (by have:=e vo hv;omega)⟩,λz=>i (bT.mp z)⟩,λ_=>⟨λ_=>⟨⟨c,λvo hv=>⟨by have:=e vo hv;omega,by have:=e vo hv;omega⟩⟩,λz=>i (bT.mp z)⟩,λ_=>⟨⟨by rw[zg];omega,λ_ _=>⟨by rw[zg];omega,hk⟩⟩,i1,by rw[zg,zg];exact y⟩⟩⟩⟩⟩⟩⟩,?_⟩;have D:((L.map λP=>gA P q).map λvo:AJ×AJ×AZ=>vo.2.1)=L.map λP=>mj cQ q.2 (qm P):=ZU;have t:(gA P0 q).2.1=mj cQ q.2 (qm P0):=rfl;have fs:((L.map λP=>gA P q).map λvo:AJ×AJ×AZ=>((at' vo.2.2 0),vo.2.1))=L.map λP=>(at' ((P.filter λz=>decide (z.2=mj cQ q.2 (qm P))).map (·.1)) 0,mj cQ q.2 (qm P)):=ZU;have s:((L.map λP=>gA P q).map λvo:AJ×AJ×AZ=>((at' vo.2.2 (-(1:Int))),vo.2.1))=L.map λP=>(at' ((P.filter λz=>decide (z.2=mj cQ q.2 (qm P))).map (·.1)) (-1),mj cQ q.2 (qm P)):=ZU;rw[D,fs,s,t];obtain⟨f,F⟩:=q;dsimp only at d ⊢;simp only[oR,QP,qA,or_false]at d;rcases d with rfl|rfl|rfl|rfl|rfl|rfl
 ·rw[zv (Yq (by decide +kernel)),zv (Yq (by decide +kernel)),zv (Yq (by decide +kernel)),zl GA];simp only[Op];exact z5 (pf ne so s0 pm h0)
 ·rw[zv (Yq (by decide +kernel)),zv (Yq (by decide +kernel)),zv (Yq (by decide +kernel)),zv (Yq (by decide +kernel)),zl GA];simp only[Pf];exact z5 (o4 ne so s0 pm h0)
 ·rw[zv (Yq (by decide +kernel)),zv (Yq (by decide +kernel)),zv (Yq (by decide +kernel)),zv (Yq (by decide +kernel)),zv (Yq (by decide +kernel))];exact z5 (ay h0 nm wp)
 ·rw[zv (Yq (by decide +kernel)),zv (Yq (by decide +kernel)),zl GA];simp only[OM];exact z5 (bE ne pm h0)
 ·rw[zl GA];simp only[OA];exact z5 (nK ne pm h0)
 ·rw[zv (Yq (by decide +kernel)),zl GA];simp only[SV];exact z5 (Yp ne pm h0)
include b p in
theorem anu(q:AJ×AJ)(a:q.2∈oR):gZ B S q.1 q.2/\gY B S q.1 q.2=true:=by
 have A:=b.ln;have y:=p.ln;rw[GR]at y;obtain⟨x,v⟩:=gS b q.1;have h:∀N∈S,je B [q] N/\dN B [q] N=tw B N q:=λN hN=>Su (GX p hN).2.1 q a (by have:=(GX p hN).2.2;omega);have vs:iM B [q] S=S.map λN=>tw B N q:=Q1 λN hN=>(h N hN).2;obtain⟨t,s⟩:=Su (B:=B) (N:=N0 B) OE q a (by rw[GR];omega);obtain⟨a1,a2⟩:=dy b p q a;have lv:(S.map λN=>tw B N q).length=S.length:=zg _;have en:((S.length:Int).toNat)=S.length:=KW _;obtain⟨j,u⟩:=Dw (step:=λ(c:Unit) (f:Int)=>((dO B S q.1 q.2 (wd B q.1) (S.map λN=>tw B N q) c f):nY (Unit) Bool)) (P:=λ(c:Unit) (f:Int)=>Z (gW B S q.1 q.2 (wd B q.1) (S.map λN=>tw B N q) c f)) (rng 0 S.length) λf hv=>by
  obtain⟨k,hk,rfl⟩:=ZR hv;have g1:at' S (k:Int)=S[k]:=FQ _ _ hk;have g2:at' (S.map λN=>tw B N q) (k:Int)=tw B S[k] q:=by rw[FQ _ _ (by rw[lv];exact hk),YO]
  have g:S[k]∈S:=List.getElem_mem hk;obtain⟨c,o,C⟩:=GX p g;obtain⟨m,l⟩:=wt b c (SH b p g) o q a ();obtain⟨t1,t2⟩:=h _ g;have al:=oP b o q a;have n:iU B (wd B q.1) S[k] q.1 q.2/\gw B (wd B q.1) S[k] q.1 q.2=true:=by
   unfold iU gw;rw[show dN B [(q.1,q.2)] S[k]=tw B S[k] q from t2];exact⟨⟨t1,m⟩,l⟩
  have d:In S.length (k:Int):=RF hk;have i:In (S.map λN=>tw B N q).length (k:Int):=by rw[lv];exact RF hk
  unfold gW dO;dsimp only;rw[g1,g2,l,n.2];refine⟨⟨⟨⟨⟨d,i⟩,m⟩,λ_=>⟨d,n.1⟩⟩,λ_=>⟨⟨⟨d,by omega⟩,λ_ _ z=>z⟩,d,λ_=>i⟩⟩,.inl ?_⟩;rw[zv ()];by_cases e:S[k].length=1
  ·rw[<-al e,z5 rfl,zv (by simp)]
  ·rw[z4 (show ¬ ((S[k].length:Nat):Int)=1 by omega),zv (by simp)]
 unfold gZ gY;dsimp only;rw[show iM B [(q.1,q.2)] S=_ from vs,v,lv,en,show dN B [(q.1,q.2)] (uZ (B.map λw:cu=>w.1))=tw B (N0 B) q from s,z5 rfl];refine⟨⟨x,⟨by omega,by rw[zg];omega⟩,⟨by omega,λN hN=>(h N hN).1⟩,λ_=>⟨⟨Hr () (),u⟩,?_⟩⟩,?_⟩
 ·rw[j];exact⟨t,a1⟩
 ·rw[j,zv ()];exact a2
variable{vo:O (AJ×AJ)}(hv:∀ q∈vo,q.2∈oR)(lv:vo.length<=100)
include b p hv lv in
theorem P6:zB B vo db S/\rZ B vo db S=.nx db:=by
 have o:=b.ln;have i:=p.ln;rw[GR]at i;have j:∀q∈vo++[(("name":AJ),("most":AJ)),(("p":AJ),("last":AJ))],q.2∈oR:=λq c=>by
  rcases bB.mp c with h|h
  ·exact hv q h
  ·simp only[QP,qA,or_false]at h;unfold oR;rcases h with rfl|rfl<;>simp
 obtain⟨n,g⟩:=Dw (step:=λ(d:Unit) (q3:AJ×AJ)=>((vM B S d q3):nY (Unit) Bool)) (P:=λ(d:Unit) (q3:AJ×AJ)=>Z (Mq B S d q3)) (vo++[(("name":AJ),("most":AJ)),(("p":AJ),("last":AJ))]) λq c=>by
  obtain⟨m,l⟩:=anu b p q (j q c);refine⟨m,.inl ?_⟩;unfold vM;rw[l];rfl
 have e:∀N∈S,je B vo N:=λN hN=>(Pw B vo N (GX p hN).2.1 (by have:=(GX p hN).2.2;omega) () hv).1;have f:S.length<=100000:=by omega
 unfold zB rZ;rw[n];refine⟨⟨⟨uQ (by show vo.length+2<=1000;omega),g⟩,⟨⟨f,e⟩,f,e⟩⟩,?_⟩;show(if(!decide (iM B vo S=S.map λa=>dN B vo a))=true then _ else _)=_;rw[z5 (show iM B vo S=S.map λa=>dN B vo a from X2)];rfl
end
theorem SS:∀a:O Int,a.length<=63->Wa a/\V9 a=true:=λa I=>by
 obtain⟨b1,b2,b3,X⟩:=t7 a 14 () () I;have cs:(C5 (d7 a 14) X9 (Z 7)).Sublist (d7 a 14):=(xw _ _).trans (nf _ _);have b:Bk (C5 (d7 a 14) X9 (Z 7)):=⟨b2.nd.sublist (cs.map _),zt cs.length_le b2.ln,λr d=>b2.fd r (cs.subset d)⟩;obtain⟨x1,o,_⟩:=Mr (bw a 16) 5 () ();have o:(aV (bw a 16) 5).length=5:=o;obtain⟨y1,y2,M⟩:=Mr (bw a 17) 8 () ();have y2:(aV (bw a 17) 8).length=8:=y2;obtain⟨K,U,H⟩:=aT (aV (bw a 16) 5) ();obtain⟨A,W,l⟩:=XU (aV (bw a 17) 8) () M;unfold Wa V9;dsimp only;generalize C5 (d7 a 14) X9 (Z 7)=B at *
 generalize iu (aV (bw a 16) 5)=R at *
 generalize jD (aV (bw a 17) 8)=vo at *
 have t:∀r∈R,Rl r:=λr h=>(H r h).1;have v:=ce b.nd b.ln (show R.length<=20 by omega) t;have nd:=L6 b;have ln:=b.ln;have s:(N0 B).length<1000:=by rw[GR];omega
 have e1:(cG B R).1=N0 B:=by rw[Aj];exact(aby b.nd).symm
 have n:∀z∈Db B R,z.2.1∈N0 B/\z.2.2.1∈N0 B:=λz c=>by
  obtain⟨pq,w,c⟩:=qs.mp c;obtain⟨y,_,rfl⟩:=av.mp c;obtain⟨E,m2⟩:=oy w;exact⟨(gC _).mem_iff.mpr (qf (f:=λr:cu=>r.1) E),(gC _).mem_iff.mpr (qf (f:=λr:cu=>r.1) m2)⟩
 have a3:=PC (R:=R) b.ln (show R.length<=20 by omega);have d:Rs (N0 B) (cG B R).2.1:=λr d=>by
  rw[Aj]at d;obtain⟨z,c,rfl⟩:=av.mp ((Wd _).mem_iff.mp d);exact n z (cb.mp c).1
 have G:∀x∈(cG B R).2.2,x.1∈N0 B/\x.2.1∈N0 B:=λx hx=>by
  rw[Aj]at hx;obtain⟨z,c,rfl⟩:=av.mp ((KH _).mem_iff.mp hx);exact n z (cb.mp c).1
 have u:(cG B R).2.1.length<=100000:=by
  rw[Aj];show(oN _).length<=_;rw[(Wd _).length_eq];unfold SI;rw[zg];have:=kP (λq:Dt×AJ×AJ×Int=>!HU q.1) (Db B R);omega
 obtain⟨h1,h2⟩:=eK nd s d;obtain⟨p1,p2⟩:=h2.pt;obtain⟨p,m,Q,j⟩:=U2 nd s G d u;obtain⟨_,p3⟩:=Q.pt;have J:cG B R=(N0 B,(cG B R).2.1,(cG B R).2.2):=by rw[<-e1]
 rw[<-J]at p j;rw[<-j]at p3;have N:rR (cG B R):=by
  unfold rR xV;rw[e1];exact⟨h1,p1⟩
 have F:Pt (N0 B) (jE (cG B R)):=by
  unfold jE xU;rw[e1];exact p2
 obtain⟨C,D⟩:=Dw (step:=λ(i:Unit) (g:O AZ)=>((rZ B vo i g):nY (Unit) Bool)) (P:=λ(i:Unit) (g:O AZ)=>Z (zB B vo i g)) [(jE (cG B R)),(iK (cG B R)).1] λS L=>by
  rcases List.mem_cons.mp L with e|e
  ·rw[e];have:=P6 b F l ();exact⟨this.1,.inl this.2⟩
  ·rw[bj.mp e];have:=P6 b p3 l ();exact⟨this.1,.inl this.2⟩
 rw[C];exact⟨⟨b1,⟨⟨Sy a 16 () (),x1⟩,K⟩,v,⟨⟨Sy a 17 () (),y1⟩,A⟩,⟨⟨N,p⟩,D⟩,trivial⟩,rfl⟩
theorem H1:∀a:O Int,a.length<=63->F_law [.z (.lst (a.map .int))]=Z (.z (.bl true)):=(NN SS).1
theorem H2:∀a:O Int,a.length<=63->F_law [.l (a.map .int)]=Z (.z (.bl true)):=(NN SS).2
end G69
end
open PySem PySem.W PyProof.Rows
namespace PySem.W.Fast
def tw9996854915048526159:=0
def tw722957107986185889:=0
def tw13420725275314821741:=0
def tw2904896916350611793:=0
def tw6085308104469931434:=0
def tw15768862633731187715:=0
def tw4597814363065581222:=0
def tw2874104071940876400:=0
def tw3827849996718892766:=0
def tw16993619550245901706:=0
def tw12094028618995567470:=0
def tw11395558234879159615:=0
def tw15415755981198173765:=0
def tw7657791303169009068:=0
def tw11913733268980177242:=0
def tw7929992424395976807:=0
def tw15121430381968530598:=0
def tw7792276683081048592:=0
def tw7570405009457310473:=0
def tw6276893565073664488:=0
def tw18390663309391656705:=0
def tw1772710066223507254:=0
def tw7939795222867920969:=0
def tw3450774002202661165:=0
def tw15685071596685021864:=0
def tw7574145613285102929:=0
def tw5054961391345623803:=0
def tw14610071849531690966:=0
def tw11326290841036704160:=0
def tw7079251278121127853:=0
def tw7456229273123099242:=0
def tw8766796320088697826:=0
def tw2545825713236356370:=0
def tw2791199348891176695:=0
def tw12745748324004875180:=0
def tw1948773117790677545:=0
def tw6686320254726697051:=0
def tw2559514603221510373:=0
def tw12676874583708507547:=0
def tw4697507457234129593:=0
def tw14368817834351255972:=0
def tw1361394088984137613:=0
def tw12172430114065434585:=0
def tw9096049042081089832:=0
def tw2928986880292666364:=0
def tw9422871178805733060:=0
def tw11243759581101514915:=0
def tw6709014381414616708:=0
def tw2640181628016993344:=0
def tw14545487656850215803:=0
def tw6580564340520688022:=0
def tw5670459650924511626:=0
def tw10483420276732441993:=0
def tw10920118996106944696:=0
def tw16674949242382997100:=0
def tw12647364426250967107:=0
def tw6699682478466802737:=0
def tw9947328630567061359:=0
def tw11252445702138702530:=0
def tw10616803910451253978:=0
def tw190886809140089444:=0
def tw18138262043180239355:=0
def tw9037811575155925411:=0
def tw7615213451882220539:=0
def tw14727179164559162779:=0
def tw2489050112701572809:=0
def tw11431050610880025933:=0
def tw812371519121089913:=0
def tw17261806689353202667:=0
def tw14357182939764604915:=0
def tw6899884617123419739:=0
def tw14368860795462231370:=0
def tw5123366174617727841:=0
def tw12434961003401522394:=0
def tw10856432691609955891:=0
def tw11344829550789752026:=0
def tw16752002300997875956:=0
def tw1465200368489655886:=0
def tw13500547813537015132:=0
def tw12470595673433984556:=0
def tw2375508586607179321:=0
def tw13952959274397703422:=0
def tw3281829490821450893:=0
def tw18005080190193513474:=0
def tw16527274933487736068:=0
def tw5248424609350915417:=0
def tw16136684229704487181:=0
def tw13165863378116918059:=0
def tw5097106679215870840:=0
def tw8905114971886098461:=0
def tw3114686626188689693:=0
def tw12999965248901953711:=0
def tw8001561209216794452:=0
def tw16056973482730975669:=0
def tw6252499457744549334:=0
def tw8859101275029334592:=0
def tw7186020353155824386:=0
def tw9684732123783515081:=0
def tw11754958036529538251:=0
def tw16241964807196076699:=0
def tw11753589262809858310:=0
def tw9461864101120926080:=0
def tw7246051553998387357:=0
def tw9778443884139221291:=0
def tw3749626230144086404:=0
def tw1519496469066168690:=0
def tw1667345877456229853:=0
def tw11361681124758768503:=0
def tw5862723690837605994:=0
def tw8175282996165889570:=0
def tw1720076479063075754:=0
def tw11179944273719758554:=0
def tw12629955455643081502:=0
def tw16584837296964102934:=0
def tw1376230168133102695:=0
def tw1012206288462612623:=0
def tw15469043736885030848:=0
def tw18253498933086342566:=0
def tw3156853454151932850:=0
def tw13715623342547295129:=0
def tw9503261666871330445:=0
def tw11134044803381275988:=0
def tw8635774159001857421:=0
def tw6478613972265429368:=0
def tw1548002505774018610:=0
def tw11872485445286616191:=0
def tw15440971195648010061:=0
def tw6315465903117869738:=0
def tw2706462601070894834:=0
def tw13648828566238599411:=0
def tw16764506240035928878:=0
def tw11426424720356345350:=0
def tw3053146400815528439:=0
def tw13488030464264373810:=0
def tw3458462527908159000:=0
def tw18375164822345663075:=0
def tw1098052268994375153:=0
def tw4961400214791837534:=0
def tw10129952730404334909:=0
def tw17397517221175100650:=0
def tw14311988960138387574:=0
def tw10569386717538716415:=0
def tw16882600199367097053:=0
def tw6383688337870946436:=0
def tw4001236652353918483:=0
def tw9815358424706274657:=0
def tw8924031842328989170:=0
def tw11711338227845548035:=0
def tw5282613882487414949:=0
def tw11840429931804407293:=0
def tw16690289950210095594:=0
def tw9369894170618607751:=0
def tw12547813905283610880:=0
def tw17384092831900736423:=0
def tw5539802682489974418:=0
def tw2884279989057094922:=0
def tw161915970115735560:=0
def tw69776718355955592:=0
def tw922103803271601243:=0
def tw17212260357087438263:=0
def tw10461580074171037799:=0
def tw1353103136510088283:=0
def tw4037964555857607754:=0
def tw16902617836674967805:=0
def tw8695227413318000959:=0
def tw14980084027519048001:=0
def tw16884621218166329540:=0
def tw8387658481151833514:=0
def tw5962515400364186070:=0
def tw15270297642100899956:=0
def tw14712949810433451252:=0
def tw15447020043753003137:=0
def tw4250651934523303963:=0
def tw9799006031232739584:=0
def tw1207160902649124398:=0
def tw4331663051987422757:=0
def tw5532706573205968822:=0
def tw14567017386044866691:=0
def tw4756760605437737209:=0
def tw8792732450232218971:=0
def tw7516158051831802443:=0
def tw10460175085047069304:=0
def tw9334554417279384167:=0
def tw8064959670064258195:=0
def tw6691611604469303800:=0
def tw7101932339344821852:=0
def tw13290658756902090517:=0
def tw17922987488267168552:=0
def tw17133695894206562372:=0
def tw5861539981081493800:=0
def tw7455270368583100755:=0
def tw13958579615289889151:=0
def tw1314092580722234691:=0
def tw3848505685815713131:=0
def tw3137945761628950892:=0
def tw12654892323596351606:=0
def tw4462833949142769638:=0
def tw5208768457938819919:=0
def tw7463117276016603738:=0
def tw3779177710154295466:=0
def tw7629634413900381961:=0
def tw9334596215701936867:=0
def tw6931263743346860483:=0
def tw5775403283555923923:=0
def tw9711803195057545723:=0
def tw16528840957232907021:=0
def tw13608236495684516805:=0
def tw12865295838668151198:=0
def tw4005956812092359647:=0
def tw7474886536708306975:=0
def tw1304054653037664671:=0
def tw5275068044209654567:=0
def tw13310054888335101342:=0
def tw7828850890348324030:=0
def tw17621660201979741542:=0
def tw10596641178296936900:=0
def tw7181392025460520834:=0
def tw17532248756484104150:=0
def tw13566605001875404320:=0
def tw16121158266407841159:=0
def tw3125567877397794865:=0
def tw2260371103423028198:=0
def tw8516356223151566467:=0
def tw3903799651568431760:=0
def tw5755741266776778682:=0
def tw7831971636994326600:=0
def tw16136718164328038903:=0
def tw14081067460392007015:=0
def tw7800844698337012356:=0
def tw6794083969417035341:=0
def tw14413556339271788841:=0
def tw13176093791585414278:=0
def tw15840745186996113287:=0
def tw9724844104074292392:=0
def tw4522790526425446268:=0
def tw15182842560572687255:=0
def tw5333462726083081416:=0
def tw6720117394324624462:=0
def tw12416101578268861324:=0
def tw7846987581142702386:=0
end PySem.W.Fast
set_option maxRecDepth 100000 in
set_option maxHeartbeats 0 in
theorem PySem.Challenge.cw_onefolk_k69_whole_views_of_parts_holds : PySem.Challenge.rw_onefolk_k69_whole_views_of_parts.Holds := by
 w_on;refine PySem.W.holds_law (by decide +kernel) λsaid=>?_
 k_head;(case hw=>w_witness2)
 k_fill
 refine P1.FH (l:=PySem.Challenge.rw_onefolk_k69_whole_views_of_parts) (T:=G69.T) (k:=7) (x := "_law_script") (st:=G69.s_law) (F_law:=G69.F_law) (λt=>t.x_law) ⟨rfl,by decide,by decide⟩ rfl (λw mg base t=>G69.EE t) rfl rfl G69.H1 G69.H2 (λ_ _ _ _ _ _ _=>rfl) (λw h Y=>PySem.W.km_in_of Y) (λw h _ _ _ _ X T=>⟨_,P1.DB (by kernel_rfl) X T⟩) ?F
 case F=>
  intro w mg h KX G
  refine' ⟨PySem.W.mg_of KX G _,P1.gF KX G _ _ _ _,P1.gF KX G _ _ _ _,P1.gF KX G _ _ _ _,P1.gF KX G _ _ _ _,P1.gF KX G _ _ _ _,P1.gF KX G _ _ _ _,P1.gF KX G _ _ _ _,P1.gF KX G _ _ _ _,P1.gF KX G _ _ _ _,P1.gF KX G _ _ _ _,P1.gF KX G _ _ _ _,P1.gF KX G _ _ _ _,P1.gF KX G _ _ _ _,P1.gF KX G _ _ _ _,P1.gF KX G _ _ _ _,P1.gF KX G _ _ _ _,P1.gF KX G _ _ _ _,P1.gF KX G _ _ _ _,P1.gF KX G _ _ _ _,P1.gF KX G _ _ _ _,P1.gF KX G _ _ _ _,P1.gF KX G _ _ _ _,P1.gF KX G _ _ _ _,P1.gF KX G _ _ _ _,P1.gF KX G _ _ _ _,P1.gF KX G _ _ _ _,P1.gF KX G _ _ _ _,P1.gF KX G _ _ _ _,P1.gF KX G _ _ _ _,P1.gF KX G _ _ _ _,P1.gF KX G _ _ _ _,P1.gF KX G _ _ _ _,P1.gF KX G _ _ _ _,P1.gF KX G _ _ _ _,P1.gF KX G _ _ _ _,P1.gF KX G _ _ _ _,P1.gF KX G _ _ _ _,P1.gF KX G _ _ _ _,P1.gF KX G _ _ _ _,P1.gF KX G _ _ _ _,P1.gF KX G _ _ _ _,P1.gF KX G _ _ _ _,P1.gF KX G _ _ _ _,QO KX G _,QO KX G _,QO KX G _,QO KX G _,QO KX G _,QO KX G _,QO KX G _,QO KX G _,QO KX G _,QO KX G _,_,_,_,_⟩
  all_goals try (show _=_;k_is)
  all_goals try kernel_rfl
  all_goals (show _=true;kernel_rfl)
