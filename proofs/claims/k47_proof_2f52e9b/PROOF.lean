import PyProof.Rows.All
import Wide.All
import OpenK.AllK
import Wide.FinOn
import Lean
import PySem.Challenge.RW_onefolk_k47_joinings_behind_steps
open PySem.Heap renaming get?_push_of_some->zd,get?_push_size->zr,lt_size->zw,size_push->qk,get?_update_self->qB,get?_update_other->qV,get?_update_ne->KF,get?_none_of_le->ei,size_after_update->kn,get?_push_ne->l6,size_update->mr
open Nat renaming le_of_ble_eq_true->zg,le_refl->zl,ne_of_lt->ZE,le_trans->ZH,lt_of_lt_of_le->ZO,lt_succ_of_lt->qA,zero_le->QR,lt_irrefl->QU,lt_succ_self->QY,le_of_lt->Q1,le_succ->JI,lt_of_le_of_lt->JY,ne_of_gt->kl,min_le_right->y4,succ_le_succ->xb,le_of_not_lt->xc,not_lt->dw,lt_trans->eo,le_of_eq->ew,le_of_succ_le->ia,min_self->il,zero_add->ip,not_lt_zero->iR,min_le_left->iX,succ_mul->lx,le_succ_of_le->l7
open List renaming mem_cons_self->zh,mem_cons_of_mem->zi,length_map->zk,getElem?_eq_getElem->zo,size_toArray->zv,length_append->zC,map_cons->Zl,flatten_cons->Zp,getElem?_map->Zs,mem_append_right->ZI,mem_of_getElem?->ZN,getElem?_append_left->Z3,map_map->qa,length_singleton->qc,length_set->qi,map_append->qo,getElem?_append_right->qv,length_cons->Qr,map_congr_left->QE,all_eq_true->QI,append_assoc->QN,getElem?_set_self->QO,getElem?_eq_none->QP,mem_cons->ja,not_mem_nil->jv,getElem?_replicate->jI,getD_eq_getElem?_getD->JA,flatten_append->JE,find?_cons->JO,append_nil->JP,rel_of_pairwise_cons->JS,length_take->JU,map_id'->ka,getElem_of_mem->kg,length_drop->ko,getElem_mem->kq,mem_append_left->kz,getElem?_set_ne->kA,all_cons->kC,eraseIdx_cons_succ->kM,map_nil->kP,lookup_cons_self->k9,getElem?_set->Ki,filterMap_cons->KB,any_cons->KG,nil_append->KO,foldl_cons->KP,filter_cons_of_neg->yb,nodup_nil->yf,nodup_append->yo,take_succ_eq_append_getElem->yv,length_filter_le->yz,any_eq_true->y7,perm_cons_erase->y9,of_mem_zip->YA,replicate_succ->YI,zip_cons_cons->YU,drop_eq_getElem_cons->YV,reverse_cons->Y1,filter_cons->xf,pairwise_mergeSort->xm,getElem?_cons_succ->xn,mem_singleton->au,replicate->aw,mem_map->ax,getElem?_eq_some_iff->ay,mem_append->aJ,length_pos_iff->bc,length_eq_zero_iff->cb,nodup_cons->cc,mem_filter->cw,range->da,perm_append_comm->de,mem_range->dg,pairwise_cons->du,drop_eq_nil_of_le->eg,length_replicate->eh,any_map->eH,eq_nil_of_length_eq_zero->gz,getElem?_range->gG,length_reverse->gJ,mergeSort_perm->gP,filter_eq_self->gQ,exists_cons_of_ne_nil->hQ,perm_append_right_iff->hX,perm_append_singleton->hY,ext_getElem?->ib,flatMap_cons->ic,mem_or_eq_of_mem_set->ie,lookup_cons->ij,all_map->ik,flatten_nil->iq,take_length->ir,mem_flatten->iJ,pairwise_singleton->iK,length_nil->iP,range_succ_eq_map->je,flatten_singleton->kt,contains_iff_mem->ky,countP_mono_left->kG,mem_iff_getElem->kH,length_eraseIdx->k6,mem_of_mem_drop->k7,mem_of_mem_take->la,mem_erase_of_ne->lb,mem_filterMap->lu,findIdx?_cons->ly,find?_eq_none->lI,set_cons_zero->lP,set_cons_succ->lS,filter_append->l0,append_of_mem->l5,mapM_toArray->l8,length_range->md,pairwise_map->me,any_eq_false->mf,length->mh,getElem_map->ml,le_antisymm->mm,countP_cons->mu,cons_ne_nil->mw,map_id_fun'->mx,getElem_zip->my,cons_append->mB
open Bool renaming false_ne_true->zI,false_eq_true->zS,and_eq_true->ZZ,not_eq_true'->Jn,true_and->kb,false_and->kK,and_true->kX,eq_iff_iff->KU,not_false->YN,or_eq_true->eA,and_eq_true_iff->gi,and_false->hB,false_or->hH,not_true->hL,decide_and->iS
open Array renaming length_toList->Q4,getElem?_eq_getElem->kr,size_append->ku,getElem?_toList->yB,getElem?_eq_some_iff->dc,perm_iff_toList_perm->dz,toList_append->gR,getElem?_eq_none->jz,toList->lr,find?_toList->lM,toList_push->ma,toList_inj->mn,toList_map->mv
open Int renaming toNat_natCast->kc,emod_nonneg->eY,toNat_of_nonneg->gS,emod_lt_of_pos->hC,fdiv_eq_ediv_of_nonneg->hG,zero_add->lL
open Or renaming inr->ki,inl->Kj
open Unit renaming unit->io
local macro_rules|`(())=>`(by first|omega|decide)
open Option renaming bind_some->KA,getD_some->y3,isSome_some->YR,isSome_iff_exists->dV,map_eq_some_iff->ef,map_some->ez,getD_none->mi,map_map->mH
open PySem.SetTable renaming below->cf,grown->dq,leap->dA,bits->hO,fits->lh,runEnd->mE,fresh->mM
open Prod renaming ext->gW
open Option renaming some->Z,none->U
abbrev O:=List
abbrev Y:=Option
theorem S{α:Sort u}{a:α}:a=a:=rfl
open PySem renaming Value->A0,Addr->A1,Shared->A2,Program->A3,World->A4,Around->A5,Heap->A6,wpAny->A7,model->A8,starEach->A9,sizeLine->AA,Stmt->AB,Keyword->AC,backTo->AD,Obj->AE,codeAny->AF,compareOp->AG,bootBuiltins->AH,Paired->AI,Str->AJ
abbrev db(x:AJ):=(x==("__debug__":AJ))=false
open PyProof.Rows renaming envOfC->AK,wpS_bind->AL,arrOf->AM
open PySem.W (methodObj keepIn cellsFrom_some fnOf codeIn codeRec_of nsIn clsIn findIn specialIn takesIn mroIn InstAt findObj looks_findIn exmOne kitOne kia_one)
set_option maxRecDepth 100000
set_option maxHeartbeats 4000000
set_option linter.all false
set_option Elab.async false
open PySem PySem.Spec PyProof.Rows
variable{w:A4}{i:Nat}{x:AJ}{a:A1}{prog:A3}{us:O A0}{u:A0}{κ:Type}{o:AE}{h:A6}{items:Array A0}{P:A3}{α β:Type}{k:Nat}{e:Expr}{n:Nat}{mg:AJ->Y A0}{base:A6}{l:A1}{env:Env}{m:Nat}{AN:O (A1×AE)}{s:A2}{it:A1}{j:Nat}{M:Model}{A:A5}{v:A0}{Q:Y A0->A2->Prop}{hi:Y Int}{D:A1}{es:O Expr}{st:AB}{pos:Pos}{y:AJ}{c tg:Expr}{fp:O A1}{tn:Nat->A6->Prop}{iter:Expr}{lo:Y Int}{pl:O Nat}{body:O AB}{C:A1}{op:CmpOp}{AQ:O A0}{dx:Y A1}{name:AJ}{tpos:Pos}{outer:O Env}{fd:FuncData}{apos:Pos}{qual:AJ}{scope:Scope}{params:Arguments}{osl:Array (Y A0)}{p2 cpos:Pos}{XP:(AJ->Y A0)->A6->Prop}{YP:A4->A6->Prop}{cl:O (AJ×A1)}{is:O Nat}{ifs:O Expr}{elt tgt:Expr}{el:A1->Env->Sem Unit}{B:A5->Bool->Prop}{RR:A0->A1->Result->A2->Prop}{ep:Nat}{rk:A0->Nat}{kd:SortKind}{W:O Keyed}{elts:O Expr}{x1:Nat}{γ δ:Type}{e2:Expr}{bmB:O A0}{newId:String}{os:OsState}{initId:String}{suite:O AB}
abbrev AZ:=O PySem.Str
abbrev BA:=PySem.Value->PySem.Shared->Prop
abbrev B4:=PySem.W.Frag
abbrev BF:=O Int
abbrev zb:=@wpAny_bind
abbrev ze:=@wpAny_pure
abbrev zt:=@if_pos
abbrev ZA:=@if_neg
abbrev ZT:=@wpAny_newObj_type
abbrev ZU:=@decide_eq_false
abbrev ZY:=@wpAny_mono
abbrev qf:=@PySem.W.mg_none_of
abbrev qh:=@wpAny_field
abbrev qq:=@wpAny_holding
abbrev qr:=@if_false
abbrev qS:=@decide_eq_true
abbrev Qb:=@wpAny_call_entry
abbrev QA:=@decide_eq_true_eq
abbrev QQ:=@wpAny_callSpecial?_slot
abbrev Q2:=@Ne.symm
abbrev Q3:=@wpAny_isInstance
abbrev jb:=@if_true
abbrev jn:=@codeAny_builtin
abbrev js:=@Obj.data_mapFields
abbrev jS:=@wpAny_typeOf
abbrev j0:=@wpAny_truthy_bool
abbrev JJ:=@Option.some.inj
abbrev ke:=@decide_eq_false_iff_not
abbrev km:=@PySem.W.mg_of
abbrev kB:=@wpAny_rule
abbrev kD:=@PySem.mem_of_lookup
abbrev kF:=@Heap.SameBut.update
abbrev kL:=@PySem.F.plainAttrs_list
abbrev kQ:=@wpAny_Call_Name_kw
abbrev kR:=@wpAny_standAt
abbrev kU:=@wpAny_attempt
abbrev k8:=@Obj.isFreed_of_fields
abbrev Kb:=@wpAny_setState_of
abbrev Kk:=@List.Perm.refl
abbrev Kn:=@F.slot_tuple_iterator_next
abbrev Kt:=@decide_false
abbrev Kx:=@codeAny_mono
abbrev KI:=@wpAny_comprehension_free
abbrev KL:=@PySem.F.type_list_append
abbrev KM:=@PySem.F.slot_list_append
abbrev KS:=@List.Perm.trans
abbrev KW:=@wpAny_setField_rec
abbrev K0:=@wpAny_pyIter_tuple
abbrev K2:=@wpAny_of_eq
abbrev ya:=@wpAny_getItem_str_slice
abbrev ye:=@wpAny_setField
abbrev yi:=@wpAny_pyIter_list
abbrev ym:=@wpAny_loadPart_at
abbrev yn:=@of_decide_eq_true
abbrev yA:=@F.slot_enumerate_next
abbrev yT:=@wpAny_load
abbrev yY:=@wpAny_call
abbrev y0:=@wpAny_execs_cons
abbrev y8:=@decide_true
abbrev Ya:=@wpAny_passesOwn
abbrev Yf:=@wpAny_execs_nil
abbrev YE:=@List.cons.injEq
abbrev YO:=@PySem.W.callWith_K
abbrev YY:=@Calls.call_function_entry
abbrev Y2:=@wpAny_newList
abbrev Y3:=@PySem.F.args_tuple_add_2
abbrev xh:=@F.plain_sum_loop
abbrev xl:=@PySem.F.entry_tuple_add
abbrev xo:=@F.plain_set_update_loop
variable{ps:AZ}{K:B4}{L:O AZ}{N:AZ}{E:BA}{ys ts:AZ}{J:O AZ}{Ex:BA}
namespace L2
abbrev AY:=Sum Int AJ
def j7:AY->A0->Bool
 |.inl k,v=>Value.isInt k v
 |.inr x,v=>Value.isStrOf x v
def ap(w:A4):AY->Int
 |.inl k=>hashInt k
 |.inr x=>hashStr w x
theorem bW:∀{k:AY} {v:A0},j7 k v=true->(∃i t,k=Sum.inl i/\v=Value.int i t)\/(∃x t,k=Sum.inr x/\v=Value.str x t)
 |.inl i,v,h=>by
  obtain⟨t,e⟩:=Value.isInt_shape (k:=i) (v:=v) h;exact .inl ⟨i,t,rfl,e⟩
 |.inr x,v,h=>by
  obtain⟨t,e⟩:=Value.isStrOf_shape (x:=x) (v:=v) h;exact .inr ⟨x,t,rfl,e⟩
theorem T9(i:Int)(t:Tok):j7 (.inl i) (.int i t)=true:=by simp[j7,Value.isInt]
theorem Ua(x:AJ)(t:Tok):j7 (.inr x) (.str x t)=true:=by simp[j7,Value.isStrOf]
theorem Sa(a b:Int):decide ((Sum.inl a:AY)=Sum.inl b)=(a==b):=by
 by_cases e:a=b
 ·subst e;simp
 ·have h:¬ (Sum.inl a:AY)=Sum.inl b:=λq=>e (Sum.inl.inj q);rw[ZU h];exact(beq_eq_false_iff_ne.mpr e).symm
theorem Su(a b:AJ):decide ((Sum.inr a:AY)=Sum.inr b)=decide (a=b):=by
 by_cases e:a=b
 ·subst e;simp
 ·have h:¬ (Sum.inr a:AY)=Sum.inr b:=λq=>e (Sum.inr.inj q);rw[ZU h,ZU e]
theorem Sm(a:Int)(b:AJ):decide ((Sum.inl a:AY)=Sum.inr b)=false:=ZU (λq=>nomatch q)
theorem P5(a:AJ)(b:Int):decide ((Sum.inr a:AY)=Sum.inl b)=false:=ZU (λq=>nomatch q)
def eG(prog:A3)(w:A4):PySem.KeyKind prog w AY where
 is:=j7
 hash:=ap w
 inj:=λv a b g d=>by
  rcases bW g with⟨i,t,rfl,rfl⟩|⟨x,t,rfl,rfl⟩
  ·rcases bW d with⟨j,u,rfl,e⟩|⟨y,u,rfl,e⟩
   ·injection e with e1 _;rw[e1]
   ·exact nomatch e
  ·rcases bW d with⟨j,u,rfl,e⟩|⟨y,u,rfl,e⟩
   ·exact nomatch e
   ·injection e with e1 _;rw[e1]
 byValue:=λk v h=>by
  rcases bW h with⟨i,t,rfl,rfl⟩|⟨x,t,rfl,rfl⟩<;>rfl
 pyHash:=λc h=>by
  rcases bW c with⟨i,t,rfl,rfl⟩|⟨x,t,rfl,rfl⟩
  ·exact wpAny_pyHash_int h
  ·exact wpAny_pyHash_str h
 eqBool:=λf c h=>by
  rcases bW f with⟨i,t,rfl,rfl⟩|⟨x,t,rfl,rfl⟩
  ·rcases bW c with⟨j,u,rfl,rfl⟩|⟨y,u,rfl,rfl⟩
   ·rw[Sa]at h;exact wpAny_eqBool_int h
   ·rw[Sm]at h;exact SeqAt.EqAt.int_str i t y u _ _ _ _ h
  ·rcases bW c with⟨j,u,rfl,rfl⟩|⟨y,u,rfl,rfl⟩
   ·rw[P5]at h;exact SeqAt.EqAt.str_int x t j u _ _ _ _ h
   ·rw[Su]at h;exact wpAny_eqBool_str h
 «strs»:=λk x t v h=>by
  rcases bW h with⟨i,u,rfl,e⟩|⟨y,u,rfl,e⟩
  ·exact nomatch e
  ·injection e with e1 _;subst e1;cases v<;>rfl
theorem K4(prog:A3)(w:A4)(i:Int)(t:Tok):(eG prog w).is (.inl i) (.int i t)=true:=T9 i t
theorem K5(prog:A3)(w:A4)(x:AJ)(t:Tok):(eG prog w).is (.inr x) (.str x t)=true:=Ua x t
end L2
namespace L2
inductive V where
 |non|bl (b:Bool)|int (i:Int)|str (x:Str)|byt (b:Array UInt8)|flt (b:UInt64)|ref (a:Addr)|ty (n:String)
 deriving DecidableEq
def B0:V->A0->Prop
 |.non,u=>u=Value.none
 |.bl b,u=>u=Value.bool b
 |.int i,u=>∃t,u=Value.int i t
 |.str x,u=>∃t,u=Value.str x t
 |.byt b,u=>∃t,u=Value.bytes b t
 |.flt b,u=>∃t,u=Value.float b t
 |.ref a,u=>u=Value.ref a
 |.ty n,u=>u=Value.type n
abbrev AX:O V->O A0->Prop:=AI B0
theorem AX.length{xs:O V}{us:O A0}(r:AX xs us):xs.length=us.length:=Paired.length r
theorem AX.get:∀{xs:O V} {us:O A0} {i:Nat} {x:V},AX xs us->xs[i]?=Z x->∃u,us[i]?=Z u/\B0 x u
 |_,_,_,_,.nil,e=>by simp at e
 |_,_,0,_,.cons r _,e=>by simp at e;subst e;exact⟨_,rfl,r⟩
 |_,_,i+1,x,.cons _ t,e=>by
  obtain⟨u,h1,h2⟩:=AX.get (i:=i) (x:=x) t (by simpa using e);exact⟨u,by simpa using h1,h2⟩
theorem AX.set{x:V}{u:A0}(r:B0 x u):∀{xs:O V} {us:O A0} (i:Nat),AX xs us->AX (xs.set i x) (us.set i u)
 |_,_,_,.nil=>.nil
 |_,_,0,.cons _ t=>.cons r t
 |_,_,i+1,.cons q t=>.cons q (AX.set r i t)
theorem AX.append:∀{xs ys:O V} {us a:O A0},AX xs us->AX ys a->AX (xs++ys) (us++a)
 |_,_,_,_,.nil,s=>s
 |_,_,_,_,.cons r t,s=>.cons r (AX.append t s)
theorem AX.take:∀{xs:O V} {us:O A0} (n:Nat),AX xs us->AX (xs.take n) (us.take n)
 |_,_,0,_=>.nil
 |_,_,_+1,.nil=>.nil
 |_,_,n+1,.cons r t=>.cons r (AX.take n t)
theorem AX.drop:∀{xs:O V} {us:O A0} (n:Nat),AX xs us->AX (xs.drop n) (us.drop n)
 |_,_,0,r=>r
 |_,_,_+1,.nil=>.nil
 |_,_,n+1,.cons _ t=>AX.drop n t
def K6:Y V->Y A0->Prop
 |some v,Z u=>B0 v u
 |none,U=>True
 |_,_=>False
def KV:O (κ×V)->O (κ×A0)->Prop:=AI λ(p:κ×V) (q:κ×A0)=>p.1=q.1/\B0 p.2 q.2
def kV:AY->V
 |.inl i=>.int i
 |.inr x=>.str x
inductive HO where
 |lst (xs:List V)
 |tup (xs:List V)
 |dK (AO:List (AY×V))|dT (AO:List (List AY×V))
 |set (S:Int->Bool) (n:Nat)
 |ins (C dx:Addr) (fs:List (Str×V))
 |own (x:Addr)
 |xd (fs:List (Str×V))
 |met (f x:Addr)
 |rng (lo hi:Int)
 |jm (o:Obj) (u:HO)
 |IK (ps:Array Value)
 |ext (φ:Heap->Prop)
abbrev Hp:=A1->Y HO
def B1(H:Hp)(a:A1)(o:HO):Hp:=λb=>if b=a then Z o else H b
theorem aQ{H:Hp}{o:HO}:B1 H a o a=Z o:=by unfold B1;rw[zt rfl]
theorem aF{H:Hp}{b:A1}{o:HO}(h:b≠a):B1 H a o b=H b:=by unfold B1;rw[ZA h]
def qC(h:A6)(a:A1)(items:Array A0):Prop:=∃o,h.get? a=Z o/\o.cls=.type "tuple" ∧ (∃n,o.data=.seq items n)/\o.dict=U
theorem qC.weak(x:qC h a items):IsTup h a items:=let ⟨o,e,c,d,_⟩:=x;⟨o,e,c,d⟩
theorem qC.new(h:A6)(items:Array A0):qC (h.push { cls:=.type "tuple",data:=.seq items }) h.objs.size items:=⟨_,zr _ rfl,rfl,⟨_,rfl⟩,rfl⟩
theorem ji{H:Hp}{b:A1}{o u:HO}(h:H a=Z o)(h':H b=Z u)(d:o≠u):a≠b:=by
 intro e;subst e;rw[h]at h';exact d (JJ h')
theorem bf{H:Hp}{b:A1}{o:HO}(h:H a=Z o)(h':H b=U):a≠b:=by
 intro e;subst e;rw[h]at h';cases h'
def tq(ps:Array A0):AJ:=match ps[0]? with
 |some (Value.str q _)=>q
 |_ => ""
def tr(ps:Array A0):Array A0:=ps.extract 1 ps.size
def Mc:AZ:=["most_word","longest_word","ground_of","least_for","nearest_pair"]
def LB(K:B4)(P:A1)(q:AJ):Prop:=∃c o vs x t,K.lookup c=Z o/\o.data=.fields vs/\vs[1]?=Z (.str x t)/\x∈Mc/\vs[11]?=Z (.ref P)/\q=x++(".<locals>.<lambda>":AJ)
def Wj(o:AE):Bool:=match o.data with
 |.fields vs=>match vs[1]? with
  |some (Value.str x _)=>!Mc.contains x
  |_=>true
 |_=>true
def RM(K:B4):Bool:=K.all λp=>Wj p.2
theorem Bn:∀{K:B4} {a:A1} {o:AE},K.lookup a=Z o->∃b,(b,o)∈K
 |[],_,_,h=>by cases h
 |(b,u)::K,a,o,h=>by
  rw[ij]at h;split at h
  ·cases h;exact⟨b,zh ..⟩
  ·obtain⟨c,d⟩:=Bn h;exact⟨c,zi _ d⟩
theorem Pj(h:RM K=true){P:A1}{q:AJ}:¬ LB K P q:=λ⟨c,o,vs,x,t,e,d,v,m,_⟩=>by
 obtain⟨b,a⟩:=Bn e;have:=List.all_eq_true.mp h _ a;unfold Wj at this;simp only[d,v]at this;rw[show Mc.contains x=true from ky.mpr m]at this;cases this
def Bi(K:B4)(H:Hp):Prop:=∀P q,LB K P q->∃ps,H P=Z (.IK ps)/\tq ps=q/\0<ps.size
theorem Bi.go{H H':Hp}(x:Bi K H)(u:∀b ps,H b=Z (.IK ps)->∃more,H' b=Z (.IK (ps++more))):Bi K H':=λP q k=>by
 obtain⟨ps,e,h,z⟩:=x P q k;obtain⟨more,e'⟩:=u P ps e;refine⟨_,e',?_,by rw[ku];omega⟩;rw[<-h];unfold tq;rw[Array.getElem?_append_left z]
section
variable(P:A3)(w:A4)
def eU(H:Hp)(h:A6)(a:A1):HO->Prop
 |.lst xs=>xs.length<=AA/\∃(AQ:O A0) (n:Nat),AX xs AQ/\h.get? a=Z { cls:=.type "list",data:=.seq AQ.toArray n }
 |.tup xs=>xs.length<=AA/\∃AQ:O A0,AX xs AQ/\qC h a AQ.toArray
 |.dK AO=>AO.length<=AA/\(a==sysModules)=false/\∃vs,KV AO vs/\h.DictOf (eG P w) a vs
 |.dT AO=>AO.length<=AA/\(a==sysModules)=false/\∃xs:O (O AY×A1×A0),
   AI (λ(p:O AY×V) (q:O AY×A1×A0)=>p.1=q.1/\H q.2.1=Z (.tup (p.1.map kV))/\B0 p.2 q.2.2) AO xs ∧
   ∃o es ep,h.get? a=Z o/\o.ExactDict/\o.data=.dict es ep/\es.toList=xs.map (entryOfKey (tupleKind (eG P w)))/\(xs.map (·.1)).Nodup
 |.set S n=>h.SetOf (intKind P w) a S n
 |.ins C dx fs=>H dx=Z (.own a)/\fs.length<=1000/\dx≠a/\h.get? a=Z (PySem.W.instObj C dx) ∧
   ∃mA,h.Ns1 dx mA/\(∀f,K6 (fs.lookup f) (mA f))/\PySem.Within mA (fs.map (·.1))
 |.own _=>∃o,h.get? a=Z o
 |.xd fs=>∃mA,h.Ns1 a mA/\∀f,K6 (fs.lookup f) (mA f)
 |.rng lo hi=>∃t u v,h.get? a=Z { cls:=.type "range",data:=.fields #[.int lo t,.int hi u,.int 1 v] }
 |.jm o u=>h.get? a=Z o/\eU H h a u
 |.IK ps=>∃more,h.get? a=Z { cls:=.none,data:=.fields (tr ps++more) }/\TriplesOk (tr ps++more).toList ∧
   ∀pos d,codeAmong pos (tr ps++more).toList=Z d->∃c e vs t,d=.ref c/\H c=Z (.jm e (.ext λ_=>True))/\e.data=.fields vs/\vs[1]?=Z (.str (tq ps) t)
 |.met f x=>h.get? a=Z (methodObj (.ref f) (.ref x))
 |.ext b=>b h/\(∃o,h.get? a=Z o)/\∀h1 h2:A6,b h1->(∀o,h1.get? a=Z o->h2.get? a=Z o)->b h2
def vK(H:Hp)(h:A6):Prop:=∀a o,H a=Z o->eU P w H h a o
end
section
variable{H H':Hp}{h':A6}{o:HO}
theorem eU.lt(x:eU P w H h a o):a<h.objs.size:=by
 cases o with
 |lst xs=>obtain⟨_,_,_,_,e⟩:=x;exact zw e
 |tup xs=>obtain⟨_,_,_,p⟩:=x;exact p.weak.lt
 |dK AO=>obtain⟨_,_,_,_,o,_,_,e,_⟩:=x;exact zw e
 |dT AO=>obtain⟨_,_,_,_,o,_,_,e,_⟩:=x;exact zw e
 |set S n=>obtain⟨o,_,_,_,e,_⟩:=x;exact zw e
 |ins C dx fs=>obtain⟨_,_,_,e,_⟩:=x;exact zw e
 |own y=>obtain⟨_,e⟩:=x;exact zw e
 |xd fs=>obtain⟨_,⟨_,_,_,e,_⟩,_⟩:=x;exact zw e
 |rng lo hi=>obtain⟨_,_,_,e⟩:=x;exact zw e
 |jm c u=>obtain⟨e,_⟩:=x;exact zw e
 |IK ps=>obtain⟨_,e,_⟩:=x;exact zw e
 |met f y=>exact zw (show h.get? a=Z _ from x)
 |ext b=>obtain⟨_,⟨_,e⟩,_⟩:=x;exact zw e
theorem Paired.ado{α β:Type}{F G:α->β->Prop}:∀{d:O α} {c:O β},AI F d c->(∀a b,F a b->G a b)->AI G d c
 |_,_,.nil,_=>.nil
 |_,_,.cons r t,f=>.cons (f _ _ r) (Paired.ado t f)
theorem Paired.imp'{F G:α->β->Prop}(f:∀a b,F a b->G a b){d:O α}{c:O β}(r:AI F d c):AI G d c:=Paired.ado r f
theorem eU.stay(x:eU P w H h a o)(k:∀b u,(b=a\/H b=Z (.own a))->h.get? b=Z u->h'.get? b=Z u)
  (I:∀b,H b=Z (.own a)->H' b=Z (.own a)) (G:∀b xs,H b=Z (.tup xs)->H' b=Z (.tup xs)) (s:∀b o l,H b=Z (.jm o (.ext l))->H' b=Z (.jm o (.ext l))):eU P w H' h' a o:=by
 induction o with
 |lst xs=>obtain⟨z,AQ,n,r,e⟩:=x;exact⟨z,AQ,n,r,k _ _ (.inl rfl) e⟩
 |tup xs=>obtain⟨z,AQ,r,i,e,c⟩:=x;exact⟨z,AQ,r,i,k _ _ (.inl rfl) e,c⟩
 |dK AO=>obtain⟨z,y,vs,r,i,es,ep,e,c⟩:=x;exact⟨z,y,vs,r,i,es,ep,k _ _ (.inl rfl) e,c⟩
 |dT AO=>
  obtain⟨z,y,xs,r,i,es,ep,e,c⟩:=x;exact⟨z,y,xs,Paired.ado r λp q z=>⟨z.1,G _ _ z.2.1,z.2.2⟩,i,es,ep,k _ _ (.inl rfl) e,c⟩
 |set S n=>obtain⟨i,es,ep,t,e,c⟩:=x;exact⟨i,es,ep,t,k _ _ (.inl rfl) e,c⟩
 |ins C dx fs=>
  obtain⟨d,z,A,e,mA,⟨j,es,ep,e2,c⟩,r⟩:=x;exact⟨I _ d,z,A,k _ _ (.inl rfl) e,mA,⟨j,es,ep,k _ _ (.inr d) e2,c⟩,r⟩
 |own y=>obtain⟨i,e⟩:=x;exact⟨i,k _ _ (.inl rfl) e⟩
 |xd fs=>obtain⟨mA,⟨j,es,ep,e,c⟩,r⟩:=x;exact⟨mA,⟨j,es,ep,k _ _ (.inl rfl) e,c⟩,r⟩
 |rng lo hi=>obtain⟨t,u,v,e⟩:=x;exact⟨t,u,v,k _ _ (.inl rfl) e⟩
 |jm i u D=>obtain⟨e,q⟩:=x;exact⟨k _ _ (.inl rfl) e,D q⟩
 |IK ps=>
  obtain⟨more,e,F,B⟩:=x;refine⟨more,k a _ (.inl rfl) e,F,λpos E z=>?_⟩;obtain⟨c,m,vs,t,rfl,g,d,v⟩:=B pos E z;exact⟨c,m,vs,t,rfl,s c m _ g,d,v⟩
 |met f y=>
  have e:h.get? a=Z (methodObj (.ref f) (.ref y)):=x;show h'.get? a=Z (methodObj (.ref f) (.ref y));exact k a _ (.inl rfl) e
 |ext l=>obtain⟨p,⟨o,e⟩,st⟩:=x;exact⟨st _ _ p λo q=>k _ _ (.inl rfl) q,⟨o,k _ _ (.inl rfl) e⟩,st⟩
theorem vK.lt(x:vK P w H h)(e:H a=Z o):a<h.objs.size:=(x a o e).lt
theorem vK.fresh(x:vK P w H h)(e:h.objs.size<=a):H a=U:=by
 cases q:H a with
 |none=>rfl
 |some u=>exact absurd (ZO (x.lt q) e) (QU _)
theorem vK.kept(x:vK P w H h)(k:∀b u,h.get? b=Z u->h'.get? b=Z u):vK P w H h':=λa o e=>
 (x a o e).stay (λb u _ q=>k b u q) (λ_ q=>q) (λ_ _ q=>q) λ_ _ _ q=>q
theorem vK.laid(x:vK P w H h)(k:∀b u,h.get? b=Z u->h'.get? b=Z u)(hp:h.objs.size<=a)(new:eU P w (B1 H a o) h' a o):vK P w (B1 H a o) h':=λb u e=>by
 have d:=x.fresh hp;by_cases f:b=a
 ·subst f;rw[aQ]at e;cases e;exact new
 ·rw[aF f]at e;exact(x b u e).stay (λc v _ q=>k c v q) (λc q=>by rw[aF (bf q d)];exact q) (λc xs q=>by rw[aF (bf q d)];exact q) λc o' g q=>by rw[aF (bf q d)];exact q
end
def Rd(H:Hp)(a:A1)(u:HO):Prop:=H a=Z u\/∃o,H a=Z (.jm o u)
theorem Rd.ok{H:Hp}{u:HO}(r:Rd H a u)(x:vK P w H h):eU P w H h a u:=by
 rcases r with r|⟨o,r⟩
 ·exact x a u r
 ·obtain⟨_,q⟩:=x a _ r;exact q
def F0:Y HO->Prop
 |some (.lst _)=>True
 |some (.dK _)=>True
 |some (.dT _)=>True
 |some (.set _ _)=>True
 |some (.ins _ _ _)=>True
 |some (.ext _)=>True
 |_=>False
section
variable{H:Hp}{h':A6}{x e:A1}{o':HO}
theorem vK.write(ok:vK P w H h)(a:F0 (H x))(he:e=x\/H e=Z (.own x))(k:∀b u,b≠e->h.get? b=Z u->h'.get? b=Z u)(m:∃u,h'.get? e=Z u)
  (new:eU P w (B1 H x o') h' x o'):vK P w (B1 H x o') h':=λb u q=>by
 have j:∀c y,H c=Z (.own y)->c≠x:=λc y r z=>by subst z;rw[r]at a;exact a
 have n:∀c xs,H c=Z (.tup xs)->c≠x:=λc xs r z=>by subst z;rw[r]at a;exact a
 have p:∀c o' i,H c=Z (.jm o' i)->c≠x:=λc o' i r z=>by subst z;rw[r]at a;exact a
 by_cases d:b=x
 ·subst d;rw[aQ]at q;cases q;exact new
 ·rw[aF d]at q;by_cases g:b=e
  ·have l:H b=Z (.own x):=by
    rcases he with z|z
    ·exact absurd (g.trans z) d
    ·rw[g];exact z
   rw[q]at l;cases l;obtain⟨v,o⟩:=m;exact⟨v,by rw[g];exact o⟩
  ·refine(ok b u q).stay (λc v f r=>k c v ?_ r) (λc r=>by rw[aF (j c b r)];exact r) (λc xs r=>by rw[aF (n c xs r)];exact r) λc o' i r=>by rw[aF (p c o' _ r)];exact r
   rcases f with rfl|f
   ·exact g
   ·rintro rfl;rcases he with z|z
    ·exact j c b f z
    ·rw[f]at z;cases z;exact d rfl
end
structure Un (fs ex:List Addr) (H H':Hp) (h h':Heap):Prop where
 keep:∀b o,h.get? b=some o->H b=none->b∉fs->b∉ex->h'.get? b=some o
 slot:∀b o,h.get? b=some o->H b=none->b∈fs->b∉ex->∃sl,h'.get? b=some { o with slots:=sl }
 free:∀b o,h.get? b=some o->H b=none->b∉ex->H' b=none
 there:∀b o,h.get? b=some o->b∉ex->∃o',h'.get? b=some o'
 tups:∀b xs,H b=some (.tup xs)->H' b=some (.tup xs)
 nP:∀b o u,H b=some (.jm o u)->H' b=some (.jm o u)
 qD:∀b ps,H b=some (.IK ps)->∃more,H' b=some (.IK (ps++more))
section
variable{fs fs' ex ex':O A1}{H H1 H2:Hp}{h1 h2 h':A6}{x e:A1}{o:HO}
theorem Un.any(u:Un fs ex H H1 h h1){b:A1}{a:AE}(q:h.get? b=Z a)(n:H b=U)(hx:b∉ex):∃sl,h1.get? b=Z { a with slots:=sl }:=by
 by_cases c:b∈fs
 ·exact u.slot b a q n c hx
 ·exact⟨a.slots,u.keep b a q n c hx⟩
theorem Un.kept(k:∀b u,h.get? b=Z u->h'.get? b=Z u):Un fs ex H H h h':=
 ⟨λb a q _ _ _=>k b a q,λb a q _ _ _=>⟨a.slots,k b a q⟩,λ_ _ _ n _=>n,λb a q _=>⟨a,k b a q⟩,λ_ _ q=>q,λ_ _ _ q=>q,λ_ ps q=>⟨#[],by rw[q];simp⟩⟩
theorem Un.refl:Un fs ex H H h h:=Un.kept λ_ _ q=>q
theorem Un.laid(k:∀b u,h.get? b=Z u->h'.get? b=Z u)(hp:h.objs.size<=a)(c:H a=U):Un fs ex H (B1 H a o) h h' where
 keep:=λb u q _ _ _=>k b u q
 slot:=λb u q _ _ _=>⟨u.slots,k b u q⟩
 free:=λb u q n _=>by rw[aF (ZE (ZO (zw q) hp))];exact n
 there:=λb u q _=>⟨u,k b u q⟩
 tups:=λb xs q=>by rw[aF (bf q c)];exact q
 nP:=λb u xs q=>by rw[aF (bf q c)];exact q
 qD:=λb ps q=>⟨#[],by rw[aF (bf q c),q];simp⟩
theorem Un.write(a:F0 (H x))(he:e=x\/H e=Z (.own x))(k:∀b u,b≠e->h.get? b=Z u->h'.get? b=Z u)(g:∃u,h'.get? e=Z u):Un fs ex H (B1 H x o) h h':=by
 have hx:∀b,H b=U->b≠x:=λb n z=>by subst z;rw[n]at a;exact a
 have d:∀b,H b=U->b≠e:=λb n z=>by
  subst z;rcases he with r|r
  ·exact hx b n r
  ·rw[n]at r;cases r
 have c:∀b u,H b=Z u->¬ F0 (Z u)->b≠x:=λb u q nm z=>by subst z;rw[q]at a;exact nm a
 refine⟨λb u q n _ _=>k b u (d b n) q,λb u q n _ _=>⟨u.slots,k b u (d b n) q⟩,λb u q n _=>by rw[aF (hx b n)];exact n,λb u q _=>?_,
  λb xs q=>by rw[aF (c b _ q λz=>z)];exact q,λb u xs q=>by rw[aF (c b _ q λz=>z)];exact q,λb ps q=>⟨#[],by rw[aF (c b _ q λz=>z),q];simp⟩⟩
 by_cases f:b=e
 ·subst f;exact g
 ·exact⟨u,k b u f q⟩
end
def Fs(h:A6)(H:Hp):O A1:=(da h.objs.size).filter λa=>(H a).isSome
def IV(h:A6)(H:Hp):A6:=PySem.W.hideAll h (Fs h H)
theorem Ub(h:A6)(H:Hp):(IV h H).objs.size=h.objs.size:=PySem.W.hideAll_size _ _
theorem Wm{H:Hp}{b:A1}(e:h.get? b=Z o)(n:H b=U):(IV h H).get? b=Z o:=
 PySem.W.hideAll_get _ e λa=>by
  have q:(H b).isSome=true:=(cw.mp a).2;rw[n]at q;simp at q
theorem Pt{H:Hp}{b:A1}(e:(IV h H).get? b=Z o):h.get? b=Z o/\H b=U:=by
 have e':h.get? b=Z o:=PySem.W.of_hideAll (Fs h H) e;refine⟨e',?_⟩;cases q:H b with
 |none=>rfl
 |some x=>
  have a:b∈Fs h H:=cw.mpr ⟨dg.mpr (zw e'),by simp[q]⟩;have z:(IV h H).get? b=U:=PySem.W.hideAll_none (Fs h H) a;rw[z]at e;cases e
def aE(g h:A6)(L:A1):O (A1×AE):=(da h.objs.size).filterMap λa=>if a=L\/(g.get? a).isSome=true then U else(h.get? a).map λo=>(a,o)
def AS(g h:A6)(L d:A1):O (A1×AE):=(aE g h L).filter λp=>decide (p.1≠d)
end L2
namespace L2
structure Mod (K:B4) (mg:Str->Option Value) (base:Heap):Prop where
 kin:K.In base
 glob:base.Ns mainGlobals mg
 blt:∃mb,base.Ns builtinsNs mb/\∀x:Str,x ≠ "__name__" → mb x=bootBuiltins x
 nolimit:base.NoLimit
 bmain:∃bm ob,mg "__builtins__"=some (.ref bm)/\bm≠builtinsNs/\base.get? bm=some ob/\ob.cls=.type "module" ∧ ob.dict=some builtinsNs/\ob.data=.plain
structure Cx where
 prog:Program
 w:World
 K:B4
 mg:Str->Option Value
 base:Heap
 A:Around
 N:AZ
 s₀:Shared
 H₀:Hp
 env:Env
 outer:List Env
 stack:List Env
 ex:List Addr
 fn:Str->Bool
 calm:Bool
 pn:List (Addr×Obj)
 xe:BA
abbrev ii(X:Cx):=A8 X.prog X.w
def C1(l:O Env):O A1:=l.filterMap (·.frame)
abbrev Cx.fs(X:Cx):O A1:=C1 X.outer
def Z1(a:Scope)(x:AJ):Prop:=a.names.lookup x=Z .local\/a.names.lookup x=Z .cell\/a.names.lookup x=Z .free
def D1(a:Scope)(x:AJ):Prop:=a.names.lookup x=Z .local\/a.names.lookup x=Z .cell
def GY(env:Env)(h:A6)(m:AJ->Y A0)(x:AJ)(u:A0):Prop:=
 (env.kindOf x=Z .local/\m x=Z u)\/((env.kindOf x=Z .cell\/env.kindOf x=Z .free)/\∃c,env.cells.lookup x=Z c/\h.IsCell c (Z u))
structure Cx.Ok (X:Cx):Prop where
 mod:Mod X.K X.mg X.base
 kind:X.env.scope.kind=.function
 glob:X.env.globals=mainGlobals
 blt:X.env.builtins=builtinsNs
 above:X.s₀.heap.objs.size<=X.env.locals
 inj:∀x y c,X.env.cells.lookup x=some c->X.env.cells.lookup y=some c->x=y
 has:∀x,(X.env.kindOf x=some .cell\/X.env.kindOf x=some .free)->∃c,X.env.cells.lookup x=some c
 cab:∀x c,X.fn x=true->X.env.cells.lookup x=some c->X.s₀.heap.objs.size<=c
 hd:X.calm=true->X.A.handled=none
 frames:X.A.frames=some X.stack
 stk:X.stack=X.outer\/(X.stack=X.env::X.outer/\X.env.frame=some X.env.locals)
 exf:∀b∈X.ex,b≠X.env.locals/\∀x c,X.env.cells.lookup x=some c->c≠b
 bs:∀b o,X.base.get? b=some o->X.s₀.heap.get? b=some o/\X.H₀ b=none
 Wn:X.base.objs.size<=X.s₀.heap.objs.size
 Pk:∀b o,X.base.get? b=some o->b∉X.ex
 Uc:∀b∈X.ex,b∉X.fs
 vL:X.s₀.heap.FunFrames X.base X.outer
 frf:∀b∈X.fs,X.H₀ b=none
 tabs:Bi X.K X.H₀
structure AU (X:Cx) (AN:List (Addr×Obj)) (σ:List (Option V)) (H:Hp) (s:Shared):Prop where
 ok:X.Ok
 os:s.os=X.s₀.os
 bare:AllBare s.gens
 base:Un X.fs X.ex X.H₀ H X.s₀.heap s.heap
 loc:∃m,s.heap.Ns X.env.locals m/\∀(i:Nat) (x:Str) (v:V),X.N[i]?=some x->σ[i]?=some (some v)->Z1 X.env.scope x->∃u,B0 v u/\GY X.env s.heap m x u
 cell:∀x c,X.env.cells.lookup x=some c->∃v,s.heap.IsCell c v
 free:H X.env.locals=none
 jj:∀x c,X.env.cells.lookup x=some c->H c=none
 pin:∀p∈X.pn++AN,s.heap.get? p.1=some p.2/\H p.1=none/\p.1≠X.env.locals/\p.1∉X.fs/\∀v,p.2.data≠.cell v
 hok:vK X.prog X.w H s.heap
 len:σ.length=X.N.length
section
variable{X:Cx}{σ:O (Y V)}{H H':Hp}{h':A6}
theorem Cx.Ok.aiV(ok:X.Ok){b:A1}(e:X.base.get? b=Z o):b∉X.fs:=λa=>by
 have:=(ok.vL.mem a).1;rw[e]at this;cases this
theorem AU.bs(I:AU X AN σ H s):∀b o,X.base.get? b=Z o->s.heap.get? b=Z o/\H b=U:=λb o e=>
 ⟨I.base.keep b o (I.ok.bs b o e).1 (I.ok.bs b o e).2 (I.ok.aiV e) (I.ok.Pk b o e),I.base.free b o (I.ok.bs b o e).1 (I.ok.bs b o e).2 (I.ok.Pk b o e)⟩
theorem AU.bk(I:AU X AN σ H s):∀b o,X.base.get? b=Z o->s.heap.get? b=Z o:=λb o e=>(I.bs b o e).1
theorem AU.mod(I:AU X AN σ H s):Mod X.K X.mg X.base:=I.ok.mod
theorem AU.K7(I:AU X AN σ H s):X.K.In s.heap:=I.ok.mod.kin.keeps I.bk
theorem AU.lt(I:AU X AN σ H s):X.env.locals<s.heap.objs.size:=let ⟨_,hn,_⟩:=I.loc;hn.lt
theorem AU.sz(I:AU X AN σ H s):X.s₀.heap.objs.size<=s.heap.objs.size:=ZH I.ok.above (Q1 I.lt)
theorem AU.aiW(I:AU X AN σ H s)(h:s.heap.objs.size<=a):a∉X.fs:=λb=>by
 obtain⟨_,o,c,_⟩:=I.ok.vL.mem b;exact absurd (ZO (zw c) (ZH I.sz h)) (QU _)
theorem AU.cne(I:AU X AN σ H s):∀x c,X.env.cells.lookup x=Z c->c≠X.env.locals:=λx c e z=>by
 obtain⟨v,o,b,a⟩:=I.cell x c e;obtain⟨m,⟨o',es,ep,f,d,_⟩,_⟩:=I.loc;rw[z,f]at b;cases b;rw[d]at a;cases a
theorem AU.vL(I:AU X AN σ H s):s.heap.FunFrames X.base X.outer:=by
 have all:∀(l:O Env),(∀b∈C1 l,b∈X.fs)->X.s₀.heap.FunFrames X.base l->s.heap.FunFrames X.base l:=by
  intro l
  induction l with
  |nil=>intro _ _;trivial
  |cons env r h=>
   intro f k;obtain⟨hk,⟨L,o,a,g,m,i⟩,j⟩:=k;have d:L∈X.fs:=f L (by unfold C1;rw[KB,a];exact zh);obtain⟨sl,e⟩:=I.base.slot L o m (I.ok.frf L d) d λz=>I.ok.Uc L z d;exact⟨hk,⟨L,_,a,g,e,i⟩,h (λb c=>f b (by unfold C1;rw[KB,a];exact zi _ c)) j⟩
 exact all X.outer (λ_ c=>c) I.ok.vL
theorem AU.stack(I:AU X AN σ H s):s.heap.FunFrames X.base X.stack:=by
 rcases I.ok.stk with e|⟨e,a⟩
 ·rw[e];exact I.vL
 ·rw[e];obtain⟨m,b,_⟩:=I.loc;refine .cons (by rw[I.ok.kind];decide) a b ?_ I.vL;exact ei (ZH I.ok.Wn I.ok.above)
theorem AU.yO(I:AU X AN σ H s):∀b∈C1 X.stack,b∈X.env.locals::X.fs:=λb a=>by
 rcases I.ok.stk with e|⟨e,c⟩
 ·rw[e]at a;exact zi _ a
 ·rw[e]at a;unfold C1 at a;rw[KB,c]at a;exact a
theorem AU.Bk(I:AU X AN σ H s):∀b∈C1 X.stack,H b=U:=λb a=>by
 rcases List.mem_cons.mp (I.yO b a)with e|a
 ·rw[e];exact I.free
 ·obtain⟨_,o,c,_⟩:=I.ok.vL.mem a;exact I.base.free b o c (I.ok.frf b a) λz=>I.ok.Uc b z a
theorem AU.step{g':Array GenState}{t':Nat}{d':Drawn}{ch:O A1}(I:AU X AN σ H s)
  (g:∀b∈ch,(b∈X.ex\/X.s₀.heap.objs.size<=b)/\b≠X.env.locals/\(∀x c,X.env.cells.lookup x=Z c->c≠b)/\∀p∈X.pn++AN,p.1≠b)
  (keep:∀b o,b≠X.env.locals->b∉X.fs->b∉ch->s.heap.get? b=Z o->H b=U->h'.get? b=Z o)
  (slot:∀b o,b≠X.env.locals->b∈X.fs->b∉ch->s.heap.get? b=Z o->H b=U->∃sl,h'.get? b=Z { o with slots:=sl }) (free:∀b o,b∉ch->s.heap.get? b=Z o->H b=U->H' b=U)
  (J:∀b o,b∉ch->s.heap.get? b=Z o->∃o',h'.get? b=Z o')
  (N:∀b xs,H b=Z (.tup xs)->H' b=Z (.tup xs)) (nP:∀b o u,H b=Z (.jm o u)->H' b=Z (.jm o u)) (Q:∀b ps,H b=Z (.IK ps)->∃more,H' b=Z (.IK (ps++more)))
  (G:∀m,s.heap.Ns X.env.locals m->h'.Ns X.env.locals m) (P:vK X.prog X.w H' h') (L:AllBare g'):
  AU X AN σ H' { s with heap:=h',gens:=g',drawn:=d',toks:=t' }:=by
 have y:∀b o,X.s₀.heap.get? b=Z o->b≠X.env.locals:=λb o e=>ZE (ZO (zw e) I.ok.above);have j:∀b o,X.s₀.heap.get? b=Z o->b∉X.ex->b∉ch:=λb o e hx a=>by
  rcases(g b a).1 with z|z
  ·exact hx z
  ·exact absurd (ZO (zw e) z) (QU _)
 have D:∀x c,X.env.cells.lookup x=Z c->∀v,s.heap.IsCell c v->h'.IsCell c v:=λx c e v ⟨o,f,t⟩=>by
  have h:c∉ch:=λz=>(g c z).2.2.1 x c e rfl;by_cases C:c∈X.fs
  ·obtain⟨sl,q⟩:=slot c o (I.cne x c e) C h f (I.jj x c e);exact⟨_,q,t⟩
  ·exact⟨o,keep c o (I.cne x c e) C h f (I.jj x c e),t⟩
 refine⟨I.ok,I.os,L,⟨λb o e n a hx=>?_,λb o e n a hx=>?_,λb o e n hx=>?_,λb o e hx=>?_,λb xs e=>N b xs (I.base.tups b xs e),λb o xs e=>nP b o xs (I.base.nP b o xs e),λb ps e=>?_⟩,?_,λx c e=>?_,?_,λx c e=>?_,λp hp=>?_,P,I.len⟩
 ·exact keep b o (y b o e) a (j b o e hx) (I.base.keep b o e n a hx) (I.base.free b o e n hx)
 ·obtain⟨sl,e1⟩:=I.base.slot b o e n a hx;obtain⟨F,e2⟩:=slot b _ (y b o e) a (j b o e hx) e1 (I.base.free b o e n hx);exact⟨F,e2⟩
 ·obtain⟨o',e1⟩:=I.base.there b o e hx;exact free b o' (j b o e hx) e1 (I.base.free b o e n hx)
 ·obtain⟨o',e1⟩:=I.base.there b o e hx;exact J b o' (j b o e hx) e1
 ·obtain⟨K,e1⟩:=I.base.qD b ps e;obtain⟨m2,e2⟩:=Q b _ e1;exact⟨K++m2,by rw[e2,Array.append_assoc]⟩
 ·obtain⟨m,E,M⟩:=I.loc;refine⟨m,G m E,λi x v e1 e2 e3=>?_⟩;obtain⟨u,r,l⟩:=M i x v e1 e2 e3;refine⟨u,r,?_⟩;rcases l with l|⟨k,c,e,z⟩
  ·exact .inl l
  ·exact .inr ⟨k,c,e,D x c e _ z⟩
 ·obtain⟨v,z⟩:=I.cell x c e;exact⟨v,D x c e v z⟩
 ·obtain⟨m,⟨o,_,_,f,_⟩,_⟩:=I.loc;exact free _ o (λz=>(g _ z).2.1 S) f I.free
 ·obtain⟨v,o,f,t⟩:=I.cell x c e;exact free c o (λz=>(g c z).2.2.1 x c e S) f (I.jj x c e)
 ·obtain⟨e,n,B,A,d⟩:=I.pin p hp;have h:p.1∉ch:=λz=>(g p.1 z).2.2.2 p hp rfl;exact⟨keep p.1 p.2 B A h e n,free p.1 p.2 h e n,B,A,d⟩
theorem AU.un{t':Nat}(I:AU X AN σ H s)(u:Un X.fs [] H H' s.heap h')(f:vK X.prog X.w H' h'):AU X AN σ H' { s with heap:=h',toks:=t' }:=by
 obtain⟨m,⟨o,es,ep,d,r⟩,_⟩:=id I.loc;obtain⟨sl,k⟩:=u.any d I.free (by simp);exact I.step (g':=s.gens) (d':=s.drawn) (ch:=[]) (λ_ z=>nomatch z) (λb o _ a _ e n=>u.keep b o e n a (by simp)) (λb o _ a _ e n=>u.slot b o e n a (by simp)) (λb o _ e n=>u.free b o e n (by simp)) (λb o _ e=>u.there b o e (by simp)) u.tups u.nP u.qD (λl j=>by
  obtain⟨o',i,g,c,h⟩:=j;rw[d]at c;cases c;exact⟨_,i,g,k,h⟩) f I.bare
theorem AU.call{g':Array GenState}{t':Nat}{d':Drawn}{ch:O A1}(I:AU X AN σ H s)(u:Un (C1 X.stack) ch H H' s.heap h')(i:vK X.prog X.w H' h')(v:AllBare g')
  (f:∀b∈ch,(b∈X.ex\/X.s₀.heap.objs.size<=b)/\b≠X.env.locals/\(∀x c,X.env.cells.lookup x=Z c->c≠b)/\∀p∈X.pn++AN,p.1≠b):
  AU X AN σ H' { s with heap:=h',gens:=g',drawn:=d',toks:=t' }:=by
 obtain⟨m,⟨o,es,ep,h,r⟩,_⟩:=id I.loc;obtain⟨sl,d⟩:=u.any h I.free λz=>(f _ z).2.1 rfl;exact I.step (ch:=ch) f (λb o d j a e n=>u.keep b o e n (λz=>(List.mem_cons.mp (I.yO b z)).elim d j) a) (λb o _ _ a e n=>u.any e n a) (λb o a e n=>u.free b o e n a) (λb o a e=>u.there b o e a) u.tups u.nP u.qD (λy t=>by
  obtain⟨o',q,k,g,l⟩:=t;rw[h]at g;cases g;exact⟨_,q,k,d,l⟩) i v
theorem AU.turned{t':Nat}(I:AU X AN σ H s)(k:∀b o,b≠it->s.heap.get? b=Z o->h'.get? b=Z o)(g:H it=U)(d:it≠X.env.locals)(h1:it∈X.ex\/X.s₀.heap.objs.size<=it)(h2:∀x c,X.env.cells.lookup x=Z c->c≠it)(h:∀p∈X.pn++AN,p.1≠it):AU X AN σ H { s with heap:=h',toks:=t' }:=by
 have f:∀b u,H b=Z u->b≠it:=λb u e z=>by rw[z,g]at e;cases e
 refine I.step (g':=s.gens) (d':=s.drawn) (ch:=[it]) (λb i=>?_) (λb o _ _ a e _=>k b o (λz=>a (by simp[z])) e) (λb o _ _ a e _=>⟨o.slots,k b o (λz=>a (by simp[z])) e⟩) (λ_ _ _ _ n=>n)
  (λb o a e=>⟨o,k b o (λz=>a (by simp[z])) e⟩) (λ_ _ e=>e) (λ_ _ _ e=>e) (λb ps e=>⟨#[],by rw[e];simp⟩) (λm j=>?_) (λb u e=>?_) I.bare
 ·have e:b=it:=by simpa using i
  subst e;exact⟨h1,d,h2,h⟩
 ·obtain⟨o,es,ep,l,r⟩:=j;exact⟨o,es,ep,k _ o (Q2 d) l,r⟩
 ·refine(I.hok b u e).stay (λc v a q=>k c v ?_ q) (λ_ q=>q) (λ_ _ q=>q) λ_ _ _ q=>q;rcases a with z|z
  ·rw[z];exact f b u e
  ·exact f c _ z
theorem AU.tok(I:AU X AN σ H s)(t:Nat):AU X AN σ H { s with toks:=t }:=I.un (h':=s.heap) (t':=t) Un.refl I.hok
theorem AU.kept{t':Nat}(I:AU X AN σ H s)(k:∀b u,s.heap.get? b=Z u->h'.get? b=Z u):AU X AN σ H { s with heap:=h',toks:=t' }:=I.un (Un.kept k) (I.hok.kept k)
theorem AU.laid{a:A1}{o:HO}{t':Nat}(I:AU X AN σ H s)(k:∀b u,s.heap.get? b=Z u->h'.get? b=Z u)(hp:s.heap.objs.size<=a)(new:eU X.prog X.w (B1 H a o) h' a o):
  AU X AN σ (B1 H a o) { s with heap:=h',toks:=t' }:=I.un (Un.laid k hp (I.hok.fresh hp)) (I.hok.laid k hp new)
theorem AU.write{x e:A1}{o:HO}{t':Nat}(I:AU X AN σ H s)(c:F0 (H x))(he:e=x\/H e=Z (.own x))(k:∀b u,b≠e->s.heap.get? b=Z u->h'.get? b=Z u)(a:∃u,h'.get? e=Z u)
  (new:eU X.prog X.w (B1 H x o) h' x o):AU X AN σ (B1 H x o) { s with heap:=h',toks:=t' }:=I.un (Un.write c he k a) (I.hok.write c he k a new)
theorem AU.Bl{Wo:O (A1×AE)}(I:AU X AN σ H s)(h:∀p∈Wo,s.heap.get? p.1=Z p.2/\H p.1=U/\p.1≠X.env.locals/\p.1∉X.fs/\∀v,p.2.data≠.cell v):AU X Wo σ H s:=
 ⟨I.ok,I.os,I.bare,I.base,I.loc,I.cell,I.free,I.jj,λp hp=>(aJ.mp hp).elim (λz=>I.pin p (kz _ z)) (h p),I.hok,I.len⟩
theorem BZ(c:N.Nodup)(a:N[i]?=Z x)(b:N[j]?=Z x):i=j:=by
 obtain⟨h1,e1⟩:=ay.mp a;obtain⟨h2,e2⟩:=ay.mp b;exact(List.getElem_inj c).mp (e1.trans e2.symm)
theorem Ud{v:V}{Q:Unit->A2->Prop}(I:AU X AN σ H s)(hN:X.N.Nodup)(hi:X.N[i]?=Z x)(hx:D1 X.env.scope x)(r:B0 v u)(h:∀s',AU X AN (σ.set i (Z v)) H s'->(∃a,Heap.SameBut a s.heap s'.heap/\(a=X.env.locals\/X.env.cells.lookup x=Z a))->Q io s')(hf:X.fn x=true\/X.env.scope.names.lookup x=Z .local:=by first|exact .inl rfl|exact .inr rfl|assumption):A7 M A (storeName X.env x u) Q E s:=by
 obtain⟨m,D,hl⟩:=id I.loc;have b0:(X.env.scope.kind==.class||(X.env.scope.kind==.module&&X.env.locals !=X.env.globals))=false:=by rw[I.ok.kind];rfl
 have a4:i<σ.length:=by rw[I.len];exact(ay.mp hi).1
 have cne:=I.cne;have W:∀{a:A1} {h':A6},(∃o,s.heap.get? a=Z o/\H a=U)->Heap.SameBut a s.heap h'->vK X.prog X.w H h':=λ{a h'} ha f b ob e=>by
  obtain⟨_,_,a3⟩:=ha;refine(I.hok b ob e).stay (λc C g q=>(f.2 c ?_).trans q) (λ_ q=>q) (λ_ _ q=>q) λ_ _ _ q=>q;rintro rfl;rcases g with rfl|g
  ·rw[a3]at e;cases e
  ·rw[a3]at g;cases g
 rcases hx with hk|hk
 ·refine wpAny_storeName_local hk D (λh' b3 f=>?_) b0;obtain⟨oL,_,_,b4,_⟩:=id D;refine h _ ⟨I.ok,I.os,I.bare,⟨λb o e n l hx=>?_,λb o e n l hx=>?_,I.base.free,λb o e hx=>?_,I.base.tups,I.base.nP,I.base.qD⟩,⟨_,b3,λj y L e1 e2 e3=>?_⟩,λy c e=>?_,I.free,I.jj,λp hp=>?_,W ⟨oL,b4,I.free⟩ f,by simpa using I.len⟩ ⟨_,f,.inl rfl⟩
  ·exact(f.2 b (ZE (ZO (zw e) I.ok.above))).trans (I.base.keep b o e n l hx)
  ·obtain⟨sl,e1⟩:=I.base.slot b o e n l hx;exact⟨sl,(f.2 b (ZE (ZO (zw e) I.ok.above))).trans e1⟩
  ·obtain⟨o',e1⟩:=I.base.there b o e hx;exact⟨o',(f.2 b (ZE (ZO (zw e) I.ok.above))).trans e1⟩
  ·by_cases t:j=i
   ·subst t;rw[hi]at e1;cases e1;rw[QO a4]at e2;cases e2;exact⟨u,r,.inl ⟨hk,by simp⟩⟩
   ·rw[kA (Q2 t)]at e2;obtain⟨K,G,q⟩:=hl j y L e1 e2 e3;refine⟨K,G,?_⟩;rcases q with⟨k,e⟩|⟨k,c,e,z⟩
    ·refine .inl ⟨k,?_⟩;have:y≠x:=λe=>t (BZ hN e1 (e▸hi));simp[this,e]
    ·exact .inr ⟨k,c,e,z.sameBut f (cne y c e)⟩
  ·obtain⟨C,z⟩:=I.cell y c e;exact⟨C,z.sameBut f (cne y c e)⟩
  ·obtain⟨e,n,B,F,d⟩:=I.pin p hp;exact⟨(f.2 p.1 B).trans e,n,B,F,d⟩
 ·have J:X.fn x=true:=by
   rcases hf with z|z
   ·exact z
   ·rw[z]at hk;cases hk
  obtain⟨c,g⟩:=I.ok.has x (.inl hk);obtain⟨C,z⟩:=I.cell x c g;refine wpAny_storeName_cell I.ok.kind hk g z (λh' P f=>?_);obtain⟨oc,a6,a7⟩:=id z;refine h { s with heap:=h' } ⟨I.ok,I.os,I.bare,⟨λb o e n l hx=>?_,λb o e n l hx=>?_,I.base.free,λb o e hx=>?_,I.base.tups,I.base.nP,I.base.qD⟩,⟨m,D.sameBut f (Q2 (cne x c g)),λj y L e1 e2 e3=>?_⟩,λy c' e=>?_,I.free,I.jj,λp hp=>?_,W ⟨oc,a6,I.jj x c g⟩ f,by simpa using I.len⟩ ⟨c,f,.inr g⟩
  ·exact(f.2 b (ZE (ZO (zw e) (I.ok.cab x c J g)))).trans (I.base.keep b o e n l hx)
  ·obtain⟨sl,e1⟩:=I.base.slot b o e n l hx;exact⟨sl,(f.2 b (ZE (ZO (zw e) (I.ok.cab x c J g)))).trans e1⟩
  ·obtain⟨o',e1⟩:=I.base.there b o e hx;exact⟨o',(f.2 b (ZE (ZO (zw e) (I.ok.cab x c J g)))).trans e1⟩
  ·by_cases t:j=i
   ·subst t;rw[hi]at e1;cases e1;rw[QO a4]at e2;cases e2;exact⟨u,r,.inr ⟨.inl hk,c,g,P⟩⟩
   ·rw[kA (Q2 t)]at e2;obtain⟨K,G,q⟩:=hl j y L e1 e2 e3;refine⟨K,G,?_⟩;rcases q with q|⟨k,c',e,z'⟩
    ·exact .inl q
    ·refine .inr ⟨k,c',e,z'.sameBut f ?_⟩;rintro rfl;exact t (BZ hN e1 (I.ok.inj _ _ _ e g▸hi))
  ·by_cases a5:c'=c
   ·subst a5;exact⟨_,P⟩
   ·obtain⟨w2,z2⟩:=I.cell y c' e;exact⟨w2,z2.sameBut f a5⟩
  ·obtain⟨e,n,B,F,d⟩:=I.pin p hp;refine⟨(f.2 p.1 ?_).trans e,n,B,F,d⟩;intro q;rw[q,a6]at e;have q':oc=p.2:=JJ e;exact d C (by rw[<-q'];exact a7)
theorem sJ{v:V}{Q:Unit->A2->Prop}(I:AU X AN σ H s)(b:X.N.Nodup)(hi:X.N[i]?=Z x)(hx:D1 X.env.scope x)(r:B0 v u)(h:∀s',AU X AN (σ.set i (Z v)) H s'->Q io s')(a:X.fn x=true\/X.env.scope.names.lookup x=Z .local:=by first|exact .inl rfl|exact .inr rfl|assumption):A7 M A (storeName X.env x u) Q E s:=
 Ud I b hi hx r (λs' c _=>h s' c) a
theorem AU.call'{s':A2}{ch:O A1}(I:AU X AN σ H s)(g:s'.os=s.os)(u:Un (C1 X.stack) ch H H' s.heap s'.heap)(d:vK X.prog X.w H' s'.heap)(f:AllBare s'.gens)
  (a:∀b∈ch,(b∈X.ex\/X.s₀.heap.objs.size<=b)/\b≠X.env.locals/\(∀x c,X.env.cells.lookup x=Z c->c≠b)/\∀p∈X.pn++AN,p.1≠b):AU X AN σ H' s':=by
 obtain⟨h',g',d',t',o'⟩:=s';have e:o'=s.os:=g;subst e;exact I.call (g':=g') (t':=t') (d':=d') u d f a
end
abbrev XK:=A0->Y A1->Hp->Prop
abbrev St:=O (Y V)
abbrev VK:=V->Hp->Prop
abbrev TE:=St->Hp->VK->Prop
abbrev TT:=St->Hp->(Bool->Hp->Prop)->Prop
abbrev TA:=St->Hp->(O V->Hp->Prop)->Prop
structure BV where
 nx:St->Hp->Prop
 rt:VK
 bk:St->Hp->Prop:=λ_ _=>False
 ct:St->Hp->Prop:=λ_ _=>False
abbrev TS:=BV->St->Hp->Prop
def EP(X:Cx)(AN:O (A1×AE))(σ:St)(Q:VK)(u:A0)(s':A2):Prop:=∃v H',AU X AN σ H' s'/\B0 v u/\Q v H'
def TP(X:Cx)(AN:O (A1×AE))(σ:St)(Q:Bool->Hp->Prop)(b:Bool)(s':A2):Prop:=∃H',AU X AN σ H' s'/\Q b H'
def AP(X:Cx)(AN:O (A1×AE))(σ:St)(Q:O V->Hp->Prop)(us:O A0)(s':A2):Prop:=∃vs H',AU X AN σ H' s'/\AX vs us/\Q vs H'
def SP(X:Cx)(AN:O (A1×AE))(D:BV)(f:Flow)(s':A2):Prop:=
 match f with
 |.next=>∃ σ' H',AU X AN σ' H' s'/\D.nx σ' H'
 |.brk=>∃ σ' H',AU X AN σ' H' s'/\D.bk σ' H'
 |.cont=>∃ σ' H',AU X AN σ' H' s'/\D.ct σ' H'
 |.ret u=>∃v σ' H',AU X AN σ' H' s'/\B0 v u/\D.rt v H'
def PE(X:Cx)(e:Expr)(t:TE):Prop:=
 ∀(AN:O (A1×AE)) (s:A2) (σ:St) (H:Hp) (Q:VK),AU X AN σ H s->t σ H Q->A7 (ii X) X.A (eval e X.env) (EP X AN σ Q) X.xe s
def PT(X:Cx)(e:Expr)(t:TT):Prop:=
 ∀(AN:O (A1×AE)) (s:A2) (σ:St) (H:Hp) (Q:Bool->Hp->Prop),AU X AN σ H s->t σ H Q->A7 (ii X) X.A (isTrue e X.env (eval e X.env)) (TP X AN σ Q) X.xe s
def PW(X:Cx)(e:Expr)(t:TT):Prop:=
 ∀(a:Sem A0) (AN:O (A1×AE)) (s:A2) (σ:St) (H:Hp) (Q:Bool->Hp->Prop),AU X AN σ H s->t σ H Q->A7 (ii X) X.A (isTrue e X.env a) (TP X AN σ Q) X.xe s
theorem PW.pt{X:Cx}{t:TT}(h:PW X e t):PT X e t:=h _
def PA(X:Cx)(es:O Expr)(t:TA):Prop:=
 ∀(pos:Pos) (AN:O (A1×AE)) (s:A2) (σ:St) (H:Hp) (Q:O V->Hp->Prop),AU X AN σ H s->t σ H Q->A7 (ii X) X.A (spliced (AD pos (A9 es X.env))) (AP X AN σ Q) X.xe s
def PS(X:Cx)(st:AB)(t:TS):Prop:=
 ∀(AN:O (A1×AE)) (s:A2) (σ:St) (H:Hp) (D:BV),AU X AN σ H s->t D σ H->A7 (ii X) X.A (exec st X.env) (SP X AN D) X.xe s
def vZ(X:Cx)(st:O AB)(t:TS):Prop:=
 ∀(AN:O (A1×AE)) (s:A2) (σ:St) (H:Hp) (D:BV),AU X AN σ H s->t D σ H->A7 (ii X) X.A (execs st X.env) (SP X AN D) X.xe s
theorem ig{t:Sem α}{Q Q':α->A2->Prop}(h:A7 M A t Q E s)(b:∀a s,Q a s->Q' a s):A7 M A t Q' E s:=ZY h b λ_ _ x=>x
end L2
namespace L2
section
variable{X:Cx}
def vM(i:Nat):TE:=λσ H Q=>∃v,σ[i]?=Z (Z v)/\Q v H
def tC(v:V):TE:=λ_ H Q=>Q v H
theorem jE(j:X.N[i]?=Z x)(p:Z1 X.env.scope x)(b:db x:=by decide)(k:(x==("__classdict__":AJ))=false:=by decide):PE X (.Name x pos) (vM i):=by
 intro AN s σ H Q I h;obtain⟨v,e,h⟩:=h;obtain⟨m,g,n⟩:=I.loc;obtain⟨u,r,l⟩:=n i x v j e p;have a:EP X AN σ Q u s:=⟨v,H,I,r,h⟩;rcases l with⟨hk,o⟩|⟨hk,c,d,f⟩
 ·exact wpAny_Name (wpAny_loadName_local I.ok.kind hk g o a) b
 ·rcases hk with hk|hk
  ·exact wpAny_Name (wpAny_loadName_cell I.ok.kind hk d f a) b
  ·exact wpAny_Name (wpAny_loadName_free I.ok.kind hk d f a k) b
theorem Pn{i j pos}:PE X (.Constant (.int i) j pos) (tC (.int i)):=λ_ _ _ H _ I h=>wpAny_Constant_int ⟨.int i,H,I.tok _,⟨_,rfl⟩,h⟩
theorem PR{b j pos}:PE X (.Constant (.bool b) j pos) (tC (.bl b)):=λ_ _ _ H _ I h=>Constant_bool ⟨.bl b,H,I,rfl,h⟩
theorem Pq{j pos}:PE X (.Constant .none j pos) (tC .non):=λ_ _ _ H _ I h=>Constant_none ⟨.non,H,I,rfl,h⟩
theorem Wq{x j pos}:PE X (.Constant (.str x) j pos) (tC (.str x)):=λ_ _ _ H _ I h=>Calls.Constant_str ⟨.str x,H,I.tok _,⟨_,rfl⟩,h⟩
def Gl(X:Cx)(x:AJ):Prop:=X.env.kindOf x=Z .globalImplicit
theorem wZ{σ:St}{H:Hp}{Q:BA}(I:AU X AN σ H s)(a:Gl X x)(b:X.mg x=Z u)(h:Q u s)(c:db x:=by decide):A7 (ii X) X.A (eval (.Name x pos) X.env) Q E s:=
 Calls.Name_function_global I.ok.kind a (Calls.loadGlobal_global (by rw[I.ok.glob];exact I.mod.glob.keeps I.bk) b h) c
theorem wg{σ:St}{H:Hp}{Q:BA}(I:AU X AN σ H s)(c:Gl X x)(d:X.mg x=U)(e:AH x=Z u)(h:Q u s)(a:x ≠ "__name__":=by decide)(b:db x:=by decide):A7 (ii X) X.A (eval (.Name x pos) X.env) Q E s:=by
 obtain⟨f,h1,h2⟩:=I.mod.blt;exact Calls.Name_function_global I.ok.kind c (Calls.loadGlobal_builtin (by rw[I.ok.glob];exact I.mod.glob.keeps I.bk) d (by rw[I.ok.blt];exact h1.keeps I.bk) ((h2 x a).trans e) h) b
theorem jP{v:V}(a:Gl X x)(b:X.mg x=Z u)(r:B0 v u)(c:db x:=by decide):PE X (.Name x pos) (tC v):=
 λ_ _ _ H _ I h=>wZ I a b ⟨v,H,I,r,h⟩ c
theorem Bm{v:V}(c:Gl X x)(d:X.mg x=U)(e:AH x=Z u)(r:B0 v u)(a:x ≠ "__name__":=by decide)(b:db x:=by decide):PE X (.Name x pos) (tC v):=
 λ_ _ _ H _ I h=>wg I c d e ⟨v,H,I,r,h⟩ a b
variable{a b:Expr}{ta tb:TE}
def tB(t:TE):TT:=λσ H Q=>t σ H λx H1=>∃c,x=.bl c/\Q c H1
theorem VV{t:TE}(h:PE X e t)(he:∀a,isTrue e X.env a=(do let v <-a;standAt e.pos;holding [v] (truthy v)):=by intro _;rfl):PT X e (tB t):=by
 intro AN s σ H Q I b;refine isTrue_plain (ig (h AN s σ H _ I b) λv s1 ⟨x,H1,I1,r1,q1⟩=>?_) (he _);obtain⟨d,rfl,q⟩:=q1;cases r1;exact j0 ⟨H1,I1,q⟩
variable{tA tB':TT}{AS:O Expr}
def LY(t u:TT):TT:=λσ H Q=>t σ H λc H1=>if c=true then u σ H1 Q else Q false H1
def ML(t u:TT):TT:=λσ H Q=>t σ H λc H1=>if c=true then Q true H1 else u σ H1 Q
def f8(t:TT):TT:=λσ H Q=>t σ H λc H1=>Q (!c) H1
theorem gI(b:PT X a tA):PW X (.BoolOp .And [a] pos) tA:=by
 intro f AN s σ H Q I h;refine isTrue_and (ig (b AN s σ H Q I h) λc d e=>?_);cases c with
 |true=>exact isTrue_and_nil e
 |false=>exact e
theorem ft(b:PT X a tA):PW X (.BoolOp .Or [a] pos) tA:=by
 intro f AN s σ H Q I h;refine isTrue_or (ig (b AN s σ H Q I h) λc d e=>?_);cases c with
 |false=>exact isTrue_or_nil e
 |true=>exact e
theorem hW(e:PT X a tA)(f:PW X (.BoolOp .And (b::AS) pos) tB'):PW X (.BoolOp .And (a::b::AS) pos) (LY tA tB'):=by
 intro d AN s σ H Q I h;refine isTrue_and (ig (e AN s σ H _ I h) λc s1 ⟨H1,I1,q1⟩=>?_);cases c with
 |true=>exact f d AN s1 σ H1 Q I1 q1
 |false=>exact⟨H1,I1,q1⟩
theorem TH(e:PT X a tA)(f:PW X (.BoolOp .Or (b::AS) pos) tB'):PW X (.BoolOp .Or (a::b::AS) pos) (ML tA tB'):=by
 intro d AN s σ H Q I h;refine isTrue_or (ig (e AN s σ H _ I h) λc s1 ⟨H1,I1,q1⟩=>?_);cases c with
 |true=>exact⟨H1,I1,q1⟩
 |false=>exact f d AN s1 σ H1 Q I1 q1
theorem df(b:PT X a tA):PT X (.UnaryOp .Not a pos) (f8 tA):=by
 intro AN s σ H Q I h;exact isTrue_not (b AN s σ H (λc H1=>Q (!c) H1) I h)
def Sr(ta tb:TE):TE:=λσ H Q=>ta σ H λx H1=>∃c,x=.bl c/\if c=true then tb σ H1 Q else Q (.bl false) H1
theorem Wr{op}{t:TE}(h:PE X a t):PE X (.BoolOp op [a] pos) t:=λAN s σ H Q I b=>BoolOp_one (h AN s σ H Q I b)
theorem Pr(d:PE X a ta)(e:PE X (.BoolOp .And (b::AS) pos) tb):PE X (.BoolOp .And (a::b::AS) pos) (Sr ta tb):=by
 intro AN s σ H Q I h;refine BoolOp_and (ig (d AN s σ H _ I h) λv s1 ⟨x,H1,I1,r1,q1⟩=>?_);obtain⟨c,rfl,q1⟩:=q1;cases r1;refine j0 ?_;cases c with
 |true=>exact e AN s1 σ H1 Q I1 q1
 |false=>exact⟨.bl false,H1,I1,rfl,q1⟩
end
end L2
namespace L2
def sI(K:B4)(H:Hp)(a:A1)(xs:O V):Prop:=
 Rd H a (.lst xs) ∨
  ∃(o:AE) (AQ:Array A0) (n:Nat),K.lookup a=Z o/\o.cls=.type "list" ∧ o.dict=U/\o.data=.seq AQ n/\AQ.size<=AA/\AX xs AQ.toList
def sO(K:B4)(H:Hp)(a:A1)(xs:O V):Prop:=
 Rd H a (.tup xs) ∨
  ∃(o:AE) (AQ:Array A0) (n:Nat),K.lookup a=Z o/\(o.cls=.type "tuple" ∧ o.dict=U)/\o.data=.seq AQ n/\AQ.size<=AA/\AX xs AQ.toList
def IZ:A0->Y V
 |.none=>Z .non
 |.bool b=>Z (.bl b)
 |.int i _=>Z (.int i)
 |.str x _=>Z (.str x)
 |.bytes b _=>Z (.byt b)
 |.float b _=>Z (.flt b)
 |.ref a=>Z (.ref a)
 |.type n=>Z (.ty n)
 |_=>U
theorem B0.abs{x:V}(r:B0 x u):IZ u=Z x:=by
 cases x with
 |non=>cases r;rfl
 |bl _=>cases r;rfl
 |int _=>obtain⟨t,rfl⟩:=r;rfl
 |str _=>obtain⟨t,rfl⟩:=r;rfl
 |byt _=>obtain⟨t,rfl⟩:=r;rfl
 |flt _=>obtain⟨t,rfl⟩:=r;rfl
 |ref _=>cases r;rfl
 |ty _=>cases r;rfl
theorem B0.inj{x y:V}{u:A0}(r:B0 x u)(q:B0 y u):x=y:=JJ (r.abs.symm.trans q.abs)
theorem AX.inj:∀{xs ys:O V} {us:O A0},AX xs us->AX ys us->xs=ys
 |_,_,_,.nil,.nil=>rfl
 |_,_,_,.cons r t,.cons r' t'=>by rw[r.inj r',AX.inj t t']
section
variable{X:Cx}{σ:St}{H:Hp}{xs ys:O V}
theorem AU.list(I:AU X AN σ H s)(h:sI X.K H a xs):∃AQ:O A0,AX xs AQ/\PlainL s.heap a AQ.toArray/\xs.length<=AA:=by
 rcases h with h|⟨o,AQ,n,hk,b,c,d,f,r⟩
 ·obtain⟨z,AQ,n,r,e⟩:=h.ok I.hok;exact⟨AQ,r,⟨_,n,e,rfl,rfl,rfl⟩,z⟩
 ·refine⟨AQ.toList,r,⟨o,n,I.K7 a o hk,b,c,by simpa using d⟩,?_⟩;have e:=r.length;simp only[Q4]at e;omega
theorem AU.tuple(I:AU X AN σ H s)(h:sO X.K H a xs):∃AQ:O A0,AX xs AQ/\IsTup s.heap a AQ.toArray/\xs.length<=AA:=by
 rcases h with h|⟨o,AQ,n,hk,b,c,d,r⟩
 ·obtain⟨z,AQ,r,p⟩:=h.ok I.hok;exact⟨AQ,r,p.weak,z⟩
 ·refine⟨AQ.toList,r,⟨o,I.K7 a o hk,b.1,n,by simpa using c⟩,?_⟩;have e:=r.length;simp only[Q4]at e;omega
theorem AU.K8(I:AU X AN σ H s)(h:sI X.K H a xs)(h':sI X.K H a ys):xs=ys:=by
 obtain⟨AQ,r,⟨o,n,e,_,_,d⟩,_⟩:=I.list h;obtain⟨c,g,⟨o',i,e',_,_,b⟩,_⟩:=I.list h';rw[e]at e';cases e';rw[d]at b;injection b with f _;have:AQ=c:=by simpa using congrArg lr f
 subst this;exact r.inj g
theorem AU.yP(I:AU X AN σ H s)(h:sO X.K H a xs)(h':sO X.K H a ys):xs=ys:=by
 obtain⟨AQ,r,⟨o,e,_,n,d⟩,_⟩:=I.tuple h;obtain⟨c,g,⟨o',e',_,i,b⟩,_⟩:=I.tuple h';rw[e]at e';cases e';rw[d]at b;injection b with f _;have:AQ=c:=by simpa using congrArg lr f
 subst this;exact r.inj g
end
abbrev Cx.wish(X:Cx)(E:BA):Cx:={ X with xe:=E }
abbrev Cx.Z2(X:Cx):Cx:=X.wish λ_ _=>False
theorem Cx.Ok.wish{X:Cx}(ok:X.Ok)(E:BA):(X.wish E).Ok:=
 ⟨ok.mod,ok.kind,ok.glob,ok.blt,ok.above,ok.inj,ok.has,ok.cab,ok.hd,ok.frames,ok.stk,ok.exf,ok.bs,ok.Wn,ok.Pk,ok.Uc,ok.vL,ok.frf,ok.tabs⟩
theorem Cx.Ok.j8{X:Cx}(ok:(X.wish E).Ok):X.Ok:=
 ⟨ok.mod,ok.kind,ok.glob,ok.blt,ok.above,ok.inj,ok.has,ok.cab,ok.hd,ok.frames,ok.stk,ok.exf,ok.bs,ok.Wn,ok.Pk,ok.Uc,ok.vL,ok.frf,ok.tabs⟩
section
variable{X:Cx}{σ:St}{H:Hp}
theorem AU.wish(I:AU X AN σ H s)(E:BA):AU (X.wish E) AN σ H s:=⟨I.ok.wish E,I.os,I.bare,I.base,I.loc,I.cell,I.free,I.jj,I.pin,I.hok,I.len⟩
theorem AU.j8(I:AU (X.wish E) AN σ H s):AU X AN σ H s:=⟨I.ok.j8,I.os,I.bare,I.base,I.loc,I.cell,I.free,I.jj,I.pin,I.hok,I.len⟩
theorem SP.j8{D:BV}{f:Flow}{s':A2}(h:SP (X.wish E) AN D f s'):SP X AN D f s':=by
 cases f with
 |next=>obtain⟨σ',H',I,q⟩:=h;exact⟨σ',H',I.j8,q⟩
 |brk=>obtain⟨σ',H',I,q⟩:=h;exact⟨σ',H',I.j8,q⟩
 |cont=>obtain⟨σ',H',I,q⟩:=h;exact⟨σ',H',I.j8,q⟩
 |ret u=>obtain⟨v,σ',H',I,r,q⟩:=h;exact⟨v,σ',H',I.j8,r,q⟩
theorem vZ.Z2{st:O AB}{t:TS}(h:vZ X.Z2 st t):vZ X st t:=λAN s σ H D I a=>
 ZY (h AN s σ H D (I.wish _) a) (λ_ _ q=>q.j8) λ_ _ z=>False.elim z
end
section
variable{X:Cx}{AS:O AB}{t u:TS}{te:TE}
def Ws:TS:=λD σ H=>D.nx σ H
def K'(t u:TS):TS:=λD σ H=>t { D with nx:=u D } σ H
theorem mL:vZ X [] Ws:=λ_ _ σ H _ I h=>Yf ⟨σ,H,I,h⟩
theorem dI(h1:PS X st t)(h2:vZ X AS u):vZ X (st::AS) (K' t u):=by
 intro AN s σ H D I h;refine y0 (ig (h1 AN s σ H { D with nx:=u D } I h) λf a q=>?_);cases f with
 |next=>
  obtain⟨σ',H',b,q⟩:=q;exact h2 AN a σ' H' D b q
 |ret v=>exact q
 |brk=>exact q
 |cont=>exact q
theorem uL(h1:PS X st t):vZ X [st] t:=by
 intro AN s σ H D I h;refine y0 (ig (h1 AN s σ H D I h) λf a q=>?_);cases f with
 |next=>exact Yf q
 |ret v=>exact q
 |brk=>exact q
 |cont=>exact q
theorem AU.quiet{σ:St}{H:Hp}(I:AU X AN σ H s):interactive X.env=false:=by simp[interactive,I.ok.kind]
def K9(te:TE):TS:=λD σ H=>te σ H λ_ H1=>D.nx σ H1
theorem Bo(he:PE X e te)(hs:swapsWith e U pos.line X.env=pure false:=by rfl):PS X (.Expr e pos) (K9 te):=by
 intro AN s σ H D I h;exact wpAny_Expr_any (ig (he AN s σ H _ I h) λv s1 ⟨x,H1,I1,r1,q1⟩=>⟨σ,H1,I1,q1⟩) I.quiet hs
def O3(te:TE):TS:=λD σ H=>te σ H D.rt
theorem Ca(he:PE X e te):PS X (.Return (Z e) pos) (O3 te):=by
 intro AN s σ H D I h;exact wpAny_Return_some (ig (he AN s σ H _ I h) λv s1 ⟨x,H1,I1,r1,q1⟩=>⟨x,σ,H1,I1,r1,q1⟩)
def MW(c:TT)(t u:TS):TS:=λD σ H=>c σ H λb H1=>if b=true then t D σ H1 else u D σ H1
theorem GD{a b:O AB}{tc:TT}(e:PT X c tc)(f:vZ X a t)(g:vZ X b u):PS X (.If c a b pos) (MW tc t u):=by
 intro AN s σ H D I h;refine wpAny_If (ig (e AN s σ H _ I h) λd s1 ⟨H1,I1,q1⟩=>?_);cases d with
 |true=>exact f AN s1 σ H1 D I1 q1
 |false=>exact g AN s1 σ H1 D I1 q1
end
abbrev TG:=V->St->Hp->(St->Hp->Prop)->Prop
abbrev DS:=O V->St->Hp->(St->Hp->Prop)->Prop
def PG(X:Cx)(a:Expr)(t:TG):Prop:=
 ∀(AN:O (A1×AE)) (s:A2) (σ:St) (H:Hp) (v:V) (u:A0) (Q:St->Hp->Prop),AU X AN σ H s->B0 v u->t v σ H Q →
  A7 (ii X) X.A (assign a X.env u) (λ_ s'=>∃ σ' H',AU X AN σ' H' s'/\Q σ' H') X.xe s
def Ue(X:Cx)(ts:O Expr)(t:DS):Prop:=
 ∀(AN:O (A1×AE)) (s:A2) (σ:St) (H:Hp) (vs:O V) (us:O A0) (Q:St->Hp->Prop),AU X AN σ H s->AX vs us->t vs σ H Q →
  A7 (ii X) X.A (assignInOrder ((assignEach ts X.env).map (·.2)) us) (λ_ s'=>∃ σ' H',AU X AN σ' H' s'/\Q σ' H') X.xe s
abbrev IA:=V->V->V->Hp->(Hp->Prop)->Prop
def N1(X:Cx)(t:IA):Prop:=
 ∀(AN:O (A1×AE)) (s:A2) (σ:St) (H:Hp) (o i v:V) (a iv u:A0) (Q:Hp->Prop),AU X AN σ H s->B0 o a->B0 i iv->B0 v u->t o i v H Q →
  A7 (ii X) X.A (setItem a iv u) (λ_ s'=>∃H',AU X AN σ H' s'/\Q H') X.xe s
section
variable{X:Cx}
def p7(i:Nat):TG:=λv σ H Q=>Q (σ.set i (Z v)) H
theorem uM(b:X.N.Nodup)(hi:X.N[i]?=Z x)(hx:D1 X.env.scope x)(a:X.fn x=true\/X.env.scope.names.lookup x=Z .local:=by first|exact .inl rfl|exact .inr rfl|assumption):PG X (.Name x pos) (p7 i):=by
 intro AN s σ H v u Q I r h;exact wpAny_assign_Name (sJ I b hi hx r (λs' c=>⟨_,H,c,h⟩) a)
def XN:DS:=λvs σ H Q=>vs=[]/\Q σ H
def XG(t:TG)(u:DS):DS:=λvs σ H Q=>∃v r,vs=v::r/\t v σ H λσ' H'=>u r σ' H' Q
theorem Sc:Ue X [] XN:=by
 intro AN s σ H vs us Q I r h;obtain⟨e,h⟩:=h;subst e;cases r;exact assignInOrder_nil ⟨σ,H,I,h⟩
theorem Wt{t:TG}{u:DS}(h1:PG X e t)(h2:Ue X es u)(hs:(assignEach (e::es) X.env).map (·.2)=assign e X.env::(assignEach es X.env).map (·.2):=by rfl):Ue X (e::es) (XG t u):=by
 intro AN s σ H vs us Q I r h;obtain⟨v,b,e1,h⟩:=h;subst e1;cases r with
 |cons r a=>
  rw[hs];refine assignInOrder_cons (ig (h1 AN s σ H _ _ _ I r h) λ_ s1 ⟨σ1,H1,I1,q1⟩=>?_);exact h2 AN s1 σ1 H1 _ _ Q I1 a q1
def bu(K:B4)(n:Nat)(t:DS):TG:=λv σ H Q=>∃a xs,v=.ref a/\sO K H a xs/\xs.length=n/\t xs σ H Q
theorem Pi{t:DS}(j:X.calm=true)(h:Ue X es t)(g:(assignEach es X.env).length=n:=by rfl)(f:(assignEach es X.env).findIdx? (·.1)=U:=by rfl):PG X (.Tuple es k pos) (bu X.K n t):=by
 intro AN s σ H v u Q I r c;obtain⟨a,xs,e1,p,l,c⟩:=c;subst e1;cases r;obtain⟨AQ,d,m,q⟩:=I.tuple p;refine assign_Tuple_tuple (I.ok.hd j) m (by simp[g,<-l,d.length]) f λh' hx=>?_;have i:AU X AN σ H { s with heap:=h' }:=I.kept (t':=s.toks) λb o e=>hx b o (ZE (zw e)) e;exact h AN _ σ H xs _ Q i (by simpa using d) c
def VC(to a:TE)(t:IA):TG:=λv σ H Q=>to σ H λo H1=>a σ H1 λi H2=>t o i v H2 λb=>Q σ b
theorem XE{o i:Expr}{to a:TE}{t:IA}(c:PE X o to)(hi:PE X i a)(hs:N1 X t)
  (b:∀v,assign (.Subscript o i pos) X.env v=(do
   let ov <-holding [v] (eval o X.env)
   let iv <-holding [v,ov] (eval i X.env)
   standAt pos
   holding [v,ov,iv] (setItem ov iv v)
   release [v,ov,iv] []):=by intro _;rfl):PG X (.Subscript o i pos) (VC to a t):=by
 intro AN s σ H v u Q I r h;rw[b];refine zb (qq (ig (c AN s σ H _ I h) λov s1 ⟨x,H1,I1,r1,q1⟩=>?_));refine zb (qq (ig (hi AN s1 σ H1 _ I1 q1) λiv s2 ⟨y,H2,I2,r2,q2⟩=>?_));refine zb (kR (zb (qq (ig (hs AN s2 σ H2 x y v ov iv u _ I2 r1 r2 r q2) λ_ s3 ⟨H3,I3,q3⟩=>?_))));exact wpAny_release ⟨σ,H3,I3,q3⟩
def Ug(te:TE)(g:TG):TS:=λD σ H=>te σ H λx H1=>g x σ H1 D.nx
theorem Wu{te:TE}{g:TG}(he:PE X e te)(a:PG X tg g)(hs:swapsWithSole [tg] e pos.line X.env=pure false:=by rfl)(b:swappedStores [tg] e X.env=pure U:=by rfl)(h1:(assignEach [tg] X.env).map (·.2)=[assign tg X.env]:=by rfl):PS X (.Assign [tg] e pos) (Ug te g):=by
 intro AN s σ H D I h;refine wpAny_Assign_stores (ig (he AN s σ H _ I h) λv s1 ⟨x,H1,I1,r1,q1⟩=>?_) hs b;rw[h1];exact ig (a AN s1 σ H1 x v _ I1 r1 q1) λ_ c q=>q
theorem pQ{te:TE}{pos':Pos}(b:X.N.Nodup)(hi:X.N[i]?=Z x)(hx:D1 X.env.scope x)(he:PE X e te)(hs:swapsWith e (Z (.Name x pos')) pos.line X.env=pure false:=by rfl)(a:X.fn x=true\/X.env.scope.names.lookup x=Z .local:=by first|exact .inl rfl|exact .inr rfl|assumption):
  PS X (.Assign [.Name x pos'] e pos) (Ug te (p7 i)):=by
 intro AN s σ H D I h;refine wpAny_Assign_Name (ig (he AN s σ H _ I h) λv s1 ⟨y,H1,I1,r1,q1⟩=>?_) hs;exact sJ I1 b hi hx r1 (λd c=>⟨_,H1,c,q1⟩) a
end
structure It where
 go:Nat->Hp->Prop
 yld:Nat->Hp->V->Hp->Prop
 stop:Nat->Hp->Prop
def lQ(X:Cx)(AN:O (A1×AE))(H:Hp)(b:A1):Prop:=
 H b=U/\b≠X.env.locals/\b∉X.fs/\(b∈X.ex\/X.s₀.heap.objs.size<=b)/\(∀x c,X.env.cells.lookup x=Z c->c≠b)/\∀p∈X.pn++AN,p.1≠b
theorem AU.Ga{X:Cx}{σ:St}{H H':Hp}{b:A1}(I:AU X AN σ H s)(a:s.heap.objs.size<=b)(d:H' b=U):lQ X AN H' b:=by
 refine⟨d,kl (ZO I.lt a),I.aiW a,.inr (ZH I.sz a),λx c e z=>?_,λp hp z=>?_⟩
 ·obtain⟨v,q⟩:=I.cell x c e;exact absurd (ZO q.lt (by rw[z];exact a)) (QU _)
 ·exact absurd (ZO (zw (I.pin p hp).1) (by rw[z];exact a)) (QU _)
structure C9 (P:Program) (w:World) (K:B4) (tg:Expr) (J:It) (fp:List Addr) (it:Addr) (tn:Nat->Heap->Prop):Prop where
 mem:it∈fp
 obj:∀i h,tn i h->∀b∈fp,∃o,h.get? b=some o/\∀v,o.data≠.cell v
 keep:∀i h h',tn i h->(∀b∈fp,∀o,h.get? b=some o->h'.get? b=some o)->tn i h'
 item:∀(X:Cx),X.prog=P->X.w=w->X.K=K->X.calm=true->∀(i:Nat) (AN:List (Addr×Obj)) (s:Shared) (σ:St) (H:Hp) (E:BA),AU X AN σ H s->(∀b∈fp,lQ X AN H b)->tn i s.heap->J.go i H →
  wpAny (model P w) X.A (pyNext (.ref it)) (λr s1=>∃u,r=some u ∧
   wpAny (model P w) X.A (letOwnedTupleGo tg (.ref it) u) (λ_ s2=>∃x H',AU X AN σ H' s2/\B0 x u/\J.yld i H x H'/\tn (i+1) s2.heap/\∀b∈fp,H' b=none) E s1) E s
 done:∀(X:Cx),X.prog=P->X.w=w->X.K=K->X.calm=true->∀(i:Nat) (AN:List (Addr×Obj)) (s:Shared) (σ:St) (H:Hp) (E:BA),AU X AN σ H s->(∀b∈fp,lQ X AN H b)->tn i s.heap->J.stop i H →
  wpAny (model P w) X.A (pyNext (.ref it)) (λr s1=>r=none/\AU X AN σ H s1) E s
 self:∀(A:Around) (i:Nat) (s:Shared) (Q:BA) (E:BA),tn i s.heap->Q (.ref it) s->wpAny (model P w) A (pyIter (.ref it)) Q E s
abbrev TI:=St->Hp->(It->Hp->Prop)->Prop
def LM(X:Cx)(AN:O (A1×AE))(σ:St)(tg:Expr)(R:It->Hp->Prop)(c:A0)(a:A2):Prop:=
 ∃(it:A1) (fp:O A1) (tn:Nat->A6->Prop) (J:It) (H':Hp),c=.ref it/\AU X AN σ H' a/\C9 X.prog X.w X.K tg J fp it tn/\tn 0 a.heap/\(∀b∈fp,lQ X AN H' b)/\R J H'
def PI(X:Cx)(tg iter:Expr)(b:TI):Prop:=
 ∀(AN:O (A1×AE)) (s:A2) (σ:St) (H:Hp) (R:It->Hp->Prop),AU X AN σ H s->b σ H R →
  A7 (ii X) X.A (eval iter X.env) (λv a=>A7 (ii X) X.A (pyIter v) (LM X AN σ tg R) X.xe a) X.xe s
theorem Cd{n:String}{vs:Array A0}{Q:Unit->A2->Prop}(e:s.heap.get? it=Z o)(c:o.cls=.type n)(d:o.data=.fields vs)(b:["enumerate","zip","dict_itemiterator","dict_reverseitemiterator","odict_iterator","itertools.zip_longest","itertools.pairwise"].contains n=false)(a:Q io s):A7 M A (letOwnedTupleGo tg (.ref it) u) Q E s:=by
 unfold letOwnedTupleGo;cases tg<;>first
  |exact ze a
  |(cases u<;>first
    |exact ze a
    |(refine zb (yT e ?_)
      rw[c,d];show A7 M A (if(["enumerate","zip","dict_itemiterator","dict_reverseitemiterator","odict_iterator","itertools.zip_longest","itertools.pairwise"].contains n&&vs[0]?==Z (rawInt _))=true then _ else _) Q E s;rw[ZA (by intro h;rw[b,kK]at h;cases h)];exact ze a))
def FH(K:B4)(a:A1):It:=
 ⟨λi H=>∃xs x,sI K H a xs/\xs[i]?=Z x,λi H x H'=>H'=H/\∀xs,sI K H a xs->xs[i]?=Z x,λi H=>∃xs,sI K H a xs/\xs.length<=i⟩
def IL(K:B4)(a:A1):It:=
 ⟨λi H=>∃xs x,sO K H a xs/\xs[i]?=Z x,λi H x H'=>H'=H/\∀xs,sO K H a xs->xs[i]?=Z x,λi H=>∃xs,sO K H a xs/\xs.length<=i⟩
def FA(lo:Int)(n:Nat):It:=⟨λi _=>i<n,λi H x H'=>H'=H/\x=.int (lo+i),λi _=>n<=i⟩
theorem GF(a it:A1):C9 P w K tg (FH K a) [it] it (λi h=>h.IsListIter it a i) where
 mem:=by simp
 obj:=λi h st b f=>by
  have e:b=it:=by simpa using f
  subst e;obtain⟨o,e,c,d⟩:=st;exact⟨o,e,λv z=>by rw[d]at z;cases z⟩
 keep:=λi h h' st k=>st.at λo e=>k it (by simp) o e
 item:=by
  intro X l q m B i AN s σ H E I g st t;subst l q m;obtain⟨xs,x,j,hx⟩:=t;obtain⟨AQ,y,p,G⟩:=I.list j;obtain⟨u,D,M⟩:=y.get hx;obtain⟨f0,f1,f2,f3,n,A⟩:=g it (by simp);refine wpAny_pyNext_list_item st p.isList (x:=u) (by simpa using D) λh' C J=>?_;have F:AU X AN σ H { s with heap:=h' }:=I.turned (t':=s.toks) (λb o f e=>(J.2 b f).trans e) f0 f1 f3 n A;obtain⟨o,e,c,d⟩:=id C;exact⟨u,rfl,Cd (s:={ s with heap:=h' }) e c d () ⟨x,H,F,M,⟨rfl,λys L=>by rw[I.K8 L j];exact hx⟩,C,λb f=>(g b f).1⟩⟩
 done:=by
  intro X l q m B i AN s σ H E I g st t;subst l q m;obtain⟨xs,j,hx⟩:=t;obtain⟨AQ,y,p,G⟩:=I.list j;obtain⟨f0,f1,f2,f3,n,A⟩:=g it (by simp);have N:=y.length;exact wpAny_pyNext_list_end (I.ok.hd B) st p.isList (by simp;omega) λh' eb=>⟨rfl,I.turned (t':=s.toks) (λb o f e=>eb b o f e) f0 f1 f3 n A⟩
 self:=λ_ _ _ _ _ st h=>wpAny_pyIter_listiter st h
theorem Pu(a it:A1):C9 P w K tg (IL K a) [it] it (λi h=>h.IsTupleIter it a i) where
 mem:=by simp
 obj:=λi h st b f=>by
  have e:b=it:=by simpa using f
  subst e;obtain⟨o,e,c,d⟩:=st;exact⟨o,e,λv z=>by rw[d]at z;cases z⟩
 keep:=λi h h' st k=>st.at λo e=>k it (by simp) o e
 item:=by
  intro X l q m B i AN s σ H E I g st t;subst l q m;obtain⟨xs,x,j,hx⟩:=t;obtain⟨AQ,y,p,G⟩:=I.tuple j;obtain⟨u,D,M⟩:=y.get hx;obtain⟨f0,f1,f2,f3,n,A⟩:=g it (by simp);refine wpAny_pyNext_tuple_item st (show s.heap.IsTuple a AQ.toArray from p) (x:=u) (by simpa using D) λh' C J=>?_;have F:AU X AN σ H { s with heap:=h' }:=I.turned (t':=s.toks) (λb o f e=>(J.2 b f).trans e) f0 f1 f3 n A;obtain⟨o,e,c,d⟩:=id C;exact⟨u,rfl,Cd (s:={ s with heap:=h' }) e c d () ⟨x,H,F,M,⟨rfl,λys L=>by rw[I.yP L j];exact hx⟩,C,λb f=>(g b f).1⟩⟩
 done:=by
  intro X l q m B i AN s σ H E I g st t;subst l q m;obtain⟨xs,j,hx⟩:=t;obtain⟨AQ,y,p,G⟩:=I.tuple j;obtain⟨f0,f1,f2,f3,n,A⟩:=g it (by simp);have N:=y.length;exact wpAny_pyNext_tuple_end (I.ok.hd B) st (show s.heap.IsTuple a AQ.toArray from p) (by simp;omega) λh' eb=>⟨rfl,I.turned (t':=s.toks) (λb o f e=>eb b o f e) f0 f1 f3 n A⟩
 self:=λ_ _ _ _ _ st h=>wpAny_pyIter_tupleiter st h
theorem Px(it:A1)(lo:Int)(n:Nat):C9 P w K tg (FA lo n) [it] it (λi h=>IsRangeIter h it (lo+(i:Nat)*1) ((n:Int)-(i:Nat)) 1) where
 mem:=by simp
 obj:=λi h st b a=>by
  have e:b=it:=by simpa using a
  subst e;exact⟨_,st,λv z=>by
   have y:Data.fields _=Data.cell v:=z;cases y⟩
 keep:=λi h h' st k=>k it (by simp) _ st
 item:=by
  intro X d m l j i AN s σ H E I c st p;subst d m l;obtain⟨f0,f1,f2,f3,g,f⟩:=c it (by simp);have W:=Walks.range (prog:=X.prog) (w:=X.w) (I.ok.hd j) it lo 1 n;refine W.item i s _ _ p st λv h' tk x q kk=>?_;obtain⟨t,rfl⟩:=x;have u:AU X AN σ H { s with heap:=h',toks:=tk }:=I.turned (λb o a e=>kk b o (by simpa using a) e) f0 f1 f3 g f;refine⟨_,rfl,Cd (s:={ s with heap:=h',toks:=tk }) (n :="range_iterator") q S S () ⟨.int (lo+i),H,u,⟨t,?_⟩,⟨rfl,rfl⟩,q,λb a=>(c b a).1⟩⟩;rw[Int.mul_one]
 done:=by
  intro X d m l j i AN s σ H E I c st p;subst d m l;obtain⟨f0,f1,f2,f3,g,f⟩:=c it (by simp);exact wpAny_pyNext_range_end (I.ok.hd j) st (by have:n<=i:=p;omega) λh' eb=>⟨rfl,I.turned (t':=s.toks) (λb o a e=>eb b o a e) f0 f1 f3 g f⟩
 self:=λ_ _ _ _ _ st h=>wpAny_pyIter_rangeiter st h
end L2
namespace L2
section
variable{X:Cx}
def Wv(K:B4)(tl:TE):TI:=λσ H R=>tl σ H λx H1=>∃a,x=.ref a/\(∃xs,sI K H1 a xs)/\R (FH K a) H1
theorem OB{l:Expr}{tl:TE}(d:PE X l tl):PI X tg l (Wv X.K tl):=by
 intro AN s σ H R I h;refine ig (d AN s σ H _ I h) λv s1 ⟨x,H1,I1,r1,q1⟩=>?_;obtain⟨a,e,⟨xs,f⟩,q⟩:=q1;subst e;cases r1;obtain⟨AQ,i,p,g⟩:=I1.list f;refine yi p.isList ?_;refine⟨s1.heap.objs.size,[s1.heap.objs.size],_,_,H1,rfl,I1.kept (t':=s1.toks) λb o e=>zd _ e,GF a _,⟨_,zr _ rfl,rfl,rfl⟩,λb c=>?_,q⟩;have e:b=s1.heap.objs.size:=by simpa using c
 subst e;exact I1.Ga (zl _) (I1.hok.fresh (zl _))
theorem La{σ:St}{H:Hp}{R:It->Hp->Prop}{lo hi:Int}{t u v:Tok}{tk:Nat}(I:AU X AN σ H s)(h1 : -(2 ^ 62)<=lo)(h2:lo<2 ^ 62)(c : -(2 ^ 62)<=hi)(d:hi<2 ^ 62)(q:R (FA lo (hi-lo).toNat) H):A7 (ii X) X.A (pyIter (.ref s.heap.objs.size)) (LM X AN σ tg R) E { s with heap:=s.heap.push { cls:=.type "range",data:=.fields #[.int lo t,.int hi u,.int 1 v] },toks:=tk }:=by
 refine wpAny_pyIter_range (IsRange.new ..) (small_one h1 h2 c d) ?_;have a:AU X AN σ H { s with heap:=s.heap.push { cls:=.type "range",data:=.fields #[.int lo t,.int hi u,.int 1 v] },toks:=tk }:=I.kept λb o e=>zd _ e;refine⟨(s.heap.push { cls:=.type "range",data:=.fields #[.int lo t,.int hi u,.int 1 v] }).objs.size,[(s.heap.push { cls:=.type "range",data:=.fields #[.int lo t,.int hi u,.int 1 v] }).objs.size],_,_,H,rfl,
  a.kept (t':=tk) λb o e=>zd _ e,Px _ lo (hi-lo).toNat,?_,λb f=>?_,q⟩
 ·have e1:lo+((0:Nat):Int)*1=lo:=by simp
  have e2:(((hi-lo).toNat:Nat):Int)-((0:Nat):Int)=Builtin.Range.rangeSize lo hi 1:=by rw[rangeSize_one];split<;>omega
  show IsRangeIter _ _ (lo+((0:Nat):Int)*1) ((((hi-lo).toNat:Nat):Int)-((0:Nat):Int)) 1;rw[e1,e2];exact zr _ rfl
 ·have e:b=(s.heap.push { cls:=.type "range",data:=.fields #[.int lo t,.int hi u,.int 1 v] }).objs.size:=by simpa using f
  subst e;exact a.Ga (zl _) (a.hok.fresh (zl _))
def UX(ta:TA):TI:=λσ H R=>ta σ H λvs H1=>∃j:Int,vs=[.int j] ∧ -(2 ^ 62)<=j/\j<2 ^ 62/\R (FA 0 j.toNat) H1
def Tu(ta:TA):TI:=λσ H R=>ta σ H λvs H1=>∃i j:Int,vs=[.int i,.int j]/\(-(2 ^ 62)<=i/\i<2 ^ 62 ∧ -(2 ^ 62)<=j/\j<2 ^ 62)/\R (FA i (j-i).toNat) H1
theorem Uh{a:Expr}{ta:TA}{p:Pos}(b:Gl X "range")(c:X.mg "range"=U)(d:PA X [a] ta)(hs:A9 [a] X.env=[(false,eval a X.env)]:=by rfl):PI X tg (.Call (.Name "range" p) [a] [] pos) (UX ta):=by
 intro AN s σ H R I h;refine Call_ (wg I b c boot_range (PyProof.Rows.callWith_type1 (ig (d pos AN s σ H _ I h) λus s1 ⟨vs,H1,I1,r1,q1⟩=>?_) hs S));obtain⟨j,e,q1,q2,q⟩:=q1;subst e;cases r1 with
 |cons r f=>
  cases f;obtain⟨t,rfl⟩:=r;exact call_range_1 (La I1 () () q1 q2 (by simpa using q))
theorem Ui{a b:Expr}{ta:TA}{p:Pos}(k:Gl X "range")(l:X.mg "range"=U)(m:PA X [a,b] ta)(hs:A9 [a,b] X.env=[(false,eval a X.env),(false,eval b X.env)]:=by rfl)(d:A9 [b] X.env=[(false,eval b X.env)]:=by rfl):
  PI X tg (.Call (.Name "range" p) [a,b] [] pos) (Tu ta):=by
 intro AN s σ H R I h;refine Call_ (wg I k l boot_range (PyProof.Rows.callWith_type1 (ig (m pos AN s σ H _ I h) λus s1 ⟨vs,H1,I1,r1,q1⟩=>?_) (by rw[hs,d]) (by rw[d];rfl)));obtain⟨i,j,e,⟨q1,q2,q3,g⟩,q⟩:=q1;subst e;cases r1 with
 |cons r c=>
  cases c with
  |cons f c=>
   cases c;obtain⟨t,rfl⟩:=r;obtain⟨n,rfl⟩:=f;exact call_range_2 (La I1 q1 q2 q3 g q)
def Ix(c:TI)(g:TG)(tb:TS):TS:=λD σ H=>c σ H λJ H1=>∃W:Nat->Nat->St->Hp->Prop,(∃m,W 0 m σ H1)/\∀i m σ H,W i m σ H →
 (J.stop i H/\D.nx σ H)\/(J.go i H/\∃N:St->Hp->Prop,(∀ σ' H',N σ' H'->∃a,a<m/\W (i+1) a σ' H')/\∀x H',J.yld i H x H'->g x σ H' λb H2=>tb { D with nx:=N,ct:=N,bk:=D.nx } b H2)
def sS(fp:O A1)(h:A6):O (A1×AE):=fp.filterMap λb=>(h.get? b).map λo=>(b,o)
theorem j9{b:A1}(a:b∈fp)(e:h.get? b=Z o):(b,o)∈sS fp h:=lu.mpr ⟨b,a,by rw[e];rfl⟩
theorem Uj{p:A1×AE}(hp:p∈sS fp h):p.1∈fp/\h.get? p.1=Z p.2:=by
 obtain⟨b,a,e⟩:=lu.mp hp;cases q:h.get? b with
 |none=>rw[q]at e;cases e
 |some o=>
  rw[q]at e;have e':(b,o)=p:=JJ e;subst e';exact⟨a,q⟩
theorem AU.pinned{σ:St}{H:Hp}(I:AU X AN σ H s)(c:∀b∈fp,lQ X AN H b)(f:∀b∈fp,∃o,s.heap.get? b=Z o/\∀v,o.data≠.cell v):AU X (AN++sS fp s.heap) σ H s:=
 I.Bl λp hp=>(aJ.mp hp).elim (λz=>I.pin p (ZI _ z)) λz=>by
  obtain⟨a,e⟩:=Uj z;obtain⟨f0,f1,f2,_⟩:=c p.1 a;obtain⟨o,e',d⟩:=f p.1 a;rw[e]at e';cases e';exact⟨e,f0,f1,f2,d⟩
theorem AU.p8{pl:O (A1×AE)}{σ:St}{H:Hp}(I:AU X (AN++pl) σ H s):AU X AN σ H s:=I.Bl λp hp=>I.pin p (ZI _ (kz _ hp))
theorem Py{C:TI}{g:TG}{tb:TS}(hp:PassesOwn (ii X) X.A X.env X.xe)(F:X.calm=true)(hi:PI X tg iter C)(hg:PG X tg g)(a:vZ X body tb)(hs:∀x,foldedSetIterable iter X.env x=pure x:=by intro _;rfl):PS X (.For tg iter body [] pos) (Ix C g tb):=by
 intro AN s σ H D I h;refine wpAny_For (ig (hi AN s σ H _ I h) λv s1 h1=>ig h1 λa6 s2 h2=>?_) hs;obtain⟨it,fp,tn,J,H2,e,I2,T,a3,f2,W,⟨m0,w0⟩,turn⟩:=h2;subst e;have z:∀{H':Hp},(∀b∈fp,H' b=U)->∀b∈fp,lQ X AN H' b:=λM b a=>⟨M b a,(f2 b a).2⟩;refine codeAny_forLoop_any (λn s'=>∃i σ' H',AU X AN σ' H' s'/\tn i s'.heap/\(∀b∈fp,H' b=U)/\W i n σ' H') ?_ m0 ⟨0,σ,H2,I2,a3,λb a=>(f2 b a).1,w0⟩;rintro n E ⟨i,p,t,L,G,B,w3⟩;rcases turn i n p t w3 with⟨a5,qn⟩|⟨go,N,hN,step⟩
 ·refine Ya hp (ig (T.done X S S S F i AN E p t X.xe L (z B) G a5) λr s4 ⟨hr,I4⟩=>?_);subst hr;exact Yf ⟨p,t,I4,qn⟩
 ·refine Ya hp (ig (T.item X S S S F i AN E p t X.xe L (z B) G go) λr s4 ⟨u,hr,h4⟩=>?_);subst hr;refine Ya hp (ig h4 λ_ s5 ⟨x,H5,I5,r5,y5,st5,fr5⟩=>?_);have a4:=I5.pinned (z fr5) (T.obj _ _ st5);refine Ya hp (ig (hg _ s5 p H5 x u _ a4 r5 (step x H5 y5)) λ_ s6 ⟨σ6,H6,I6,q6⟩=>?_);refine Ya hp (ig (a _ s6 σ6 H6 _ I6 q6) λf y l=>?_);have K:∀{k:St} {j:Hp},AU X (AN++sS fp s5.heap) k j y->N k j->∃m,m<n/\∃i σ' H',AU X AN σ' H' y/\tn i y.heap/\(∀b∈fp,H' b=U)/\W i m σ' H':=λ{k j} c q=>by
   obtain⟨m',hm,w7⟩:=hN k j q;refine⟨m',hm,i+1,k,j,c.p8,T.keep _ _ _ st5 λb a o e=>(c.pin (b,o) (ZI _ (ZI _ (j9 a e)))).1,λb a=>?_,w7⟩;obtain⟨o,e,d⟩:=T.obj _ _ st5 b a;exact(c.pin (b,o) (ZI _ (ZI _ (j9 a e)))).2.1
  cases f with
  |next=>obtain⟨k,j,c,q⟩:=l;exact K c q
  |cont=>obtain⟨k,j,c,q⟩:=l;exact K c q
  |brk=>obtain⟨k,j,c,l⟩:=l;exact⟨k,j,c.p8,l⟩
  |ret v=>obtain⟨Q,k,j,c,P,l⟩:=l;exact⟨Q,k,j,c.p8,P,l⟩
end
end L2
namespace L2
abbrev R2:=V->V->Hp->VK->Prop
def sU(X:Cx)(f:A0->A0->Sem A0)(r:R2):Prop:=
 ∀(AN:O (A1×AE)) (s:A2) (σ:St) (H:Hp) (x y:V) (v u:A0) (Q:VK),AU X AN σ H s->B0 x v->B0 y u->r x y H Q →
  A7 (ii X) X.A (f v u) (EP X AN σ Q) X.xe s
def DL(X:Cx)(f:A0->Sem A0)(r:V->Hp->VK->Prop):Prop:=
 ∀(AN:O (A1×AE)) (s:A2) (σ:St) (H:Hp) (x:V) (v:A0) (Q:VK),AU X AN σ H s->B0 x v->r x H Q →
  A7 (ii X) X.A (f v) (EP X AN σ Q) X.xe s
def fU(X:Cx)(f:A0)(r:O V->Hp->VK->Prop):Prop:=
 ∀(AN:O (A1×AE)) (s:A2) (σ:St) (H:Hp) (xs:O V) (us:O A0) (Q:VK),AU X AN σ H s->AX xs us->r xs H Q →
  A7 (ii X) X.A (call f us) (EP X AN σ Q) X.xe s
def WA(X:Cx)(r:V->Hp->(Bool->Hp->Prop)->Prop):Prop:=
 ∀(AN:O (A1×AE)) (s:A2) (σ:St) (H:Hp) (x:V) (v:A0) (Q:Bool->Hp->Prop),AU X AN σ H s->B0 x v->r x H Q →
  A7 (ii X) X.A (truthy v) (TP X AN σ Q) X.xe s
def DI(r:R2)(ta tb:TE):TE:=λσ H Q=>ta σ H λx H1=>tb σ H1 λy H2=>r x y H2 Q
def NB(r:V->Hp->VK->Prop)(ta:TE):TE:=λσ H Q=>ta σ H λx H1=>r x H1 Q
def rI(C:Int->Int->Prop)(g:Int->Int->V):R2:=λx y H Q=>∃i j,x=.int i/\y=.int j/\C i j/\Q (g i j) H
def D9(g:Int->Int->V):R2:=λx y H Q=>∃i j,x=.int i/\y=.int j/\Q (g i j) H
def rU(g:Int->V):V->Hp->VK->Prop:=λx H Q=>∃i,x=.int i/\Q (g i) H
section
variable{X:Cx}{a b:Expr}{ta tb tc:TE}
theorem HM(j:PE X a ta)(e:PE X b tb){σ:St}{H:Hp}{R:V->V->Hp->Prop}(I:AU X AN σ H s)(h:ta σ H λx H1=>tb σ H1 λy H2=>R x y H2){Q:BA}{f:A0->A0->Sem A0}(d:∀v u c x y H2,AU X AN σ H2 c->B0 x v->B0 y u->R x y H2->A7 (ii X) X.A (f v u) Q X.xe c):
  A7 (ii X) X.A (eval a X.env) (λv i=>A7 (ii X) X.A (eval b X.env) (λu g=>A7 (ii X) X.A (f v u) Q X.xe g) X.xe i) X.xe s:=by
 refine ig (j AN s σ H _ I h) λv s1 ⟨x,H1,I1,r1,q1⟩=>?_;refine ig (e AN s1 σ H1 _ I1 q1) λu c ⟨y,H2,I2,r2,q2⟩=>?_;exact d v u c x y H2 I2 r1 r2 q2
theorem NL{op:Operator}{r:R2}(j:sU X (binaryOp op) r)(i:PE X a ta)(c:PE X b tb):PE X (.BinOp a op b pos) (DI r ta tb):=by
 intro AN s σ H Q I h;exact wpAny_BinOp (HM i c I h λv u f x y H2 g e d q=>j AN f σ H2 x y v u Q g e d q)
theorem Of{op:UnaryOp}{r:V->Hp->VK->Prop}(c:DL X (unaryOp op) r)(b:PE X a ta):PE X (.UnaryOp op a pos) (NB r ta):=by
 intro AN s σ H Q I h;exact UnaryOp_ (ig (b AN s σ H _ I h) λv s1 ⟨x,H1,I1,r1,q1⟩=>c AN s1 σ H1 x v Q I1 r1 q1)
theorem Ee{f:A0->A0->Sem A0}{C:Int->Int->Prop}{g:Int->Int->Int}
  (e:∀(i j:Int) (t u:Tok) (s:A2) (Q:BA) (E:BA),C i j->Q (.int (g i j) s.toks) { s with toks:=s.toks+1 }->A7 (ii X) X.A (f (.int i t) (.int j u)) Q E s):
  sU X f (rI C λi j=>.int (g i j)):=by
 intro AN s σ H x y v u Q I d c h;obtain⟨i,j,rfl,rfl,b,q⟩:=h;obtain⟨t,rfl⟩:=d;obtain⟨a,rfl⟩:=c;exact e i j t a s _ _ b ⟨.int (g i j),H,I.tok _,⟨_,rfl⟩,q⟩
theorem IU{f:A0->A0->Sem A0}{g:Int->Int->Int}
  (b:∀(i j:Int) (t u:Tok) (s:A2) (Q:BA) (E:BA),Q (.int (g i j) s.toks) { s with toks:=s.toks+1 }->A7 (ii X) X.A (f (.int i t) (.int j u)) Q E s):
  sU X f (D9 λi j=>.int (g i j)):=by
 intro AN s σ H x y v u Q I d c h;obtain⟨i,j,rfl,rfl,q⟩:=h;obtain⟨t,rfl⟩:=d;obtain⟨a,rfl⟩:=c;exact b i j t a s _ _ ⟨.int (g i j),H,I.tok _,⟨_,rfl⟩,q⟩
theorem GH{f:A0->A0->Sem A0}{g:Int->Int->Bool}
  (b:∀(i j:Int) (t u:Tok) (s:A2) (Q:BA) (E:BA),Q (.bool (g i j)) s->A7 (ii X) X.A (f (.int i t) (.int j u)) Q E s):
  sU X f (D9 λi j=>.bl (g i j)):=by
 intro AN s σ H x y v u Q I d c h;obtain⟨i,j,rfl,rfl,q⟩:=h;obtain⟨t,rfl⟩:=d;obtain⟨a,rfl⟩:=c;exact b i j t a s _ _ ⟨.bl (g i j),H,I,rfl,q⟩
def P2(i j:Int):Prop:=0<j/\j<1073741824
def Si(i j:Int):Prop:=0<=j/\j<=1000000/\i.natAbs<2 ^ 64
def GV(i j:Int):Prop:=(-(2 ^ 64)<i/\i<2 ^ 64)\/(-(2 ^ 64)<j/\j<2 ^ 64)
theorem GV.ok{i j:Int}(h:GV i j):IntMulOk i j:=by
 rcases h with⟨h1,h2⟩|⟨h1,h2⟩
 ·exact .of_left (intBits_le_64 h1 h2)
 ·exact .of_right (intBits_le_64 h1 h2)
theorem Pz(k:Nat):(0:Int)<=2 ^ k:=by
 rw[two_pow_cast];exact Int.natCast_nonneg _
theorem U2:sU X (binaryOp .Add) (D9 λi j=>.int (i+j)):=IU λ_ _ _ _ _ _ _ q=>add_int q
theorem X':sU X (binaryOp .Sub) (D9 λi j=>.int (i-j)):=IU λ_ _ _ _ _ _ _ q=>sub_int q
theorem Pc:sU X (binaryOp .Mult) (rI GV λi j=>.int (i*j)):=Ee λ_ _ _ _ _ _ _ a q=>mul_int q a.ok
theorem fA:sU X (binaryOp .FloorDiv) (rI P2 λi j=>.int (i / j)):=Ee λi j _ _ _ _ _ a q=>by
 have h1:(0:Int)<j:=a.1;have h2:j<1073741824:=a.2;exact floordiv_int () (by rw[hG i ()];exact q) (.inl (PyProof.noPylong_small ()))
theorem cE:sU X (binaryOp .Mod) (rI (λ_ j=>0<j) λi j=>.int (i%j)):=Ee λi j _ _ _ _ _ a q=>by
 have h1:(0:Int)<j:=a;exact mod_int' () (by rw[Int.fmod_eq_emod_of_nonneg i ()];exact q)
theorem XI:sU X (binaryOp .Pow) (rI Si λi j=>.int (i ^ j.toNat)):=Ee λ_ _ _ _ _ _ _ a q=>pow_int_small a.1 a.2.1 a.2.2 q
theorem gX:sU X (binaryOp .RShift) (rI (λ_ j=>0<=j) λi j=>.int (i / 2 ^ j.toNat)):=Ee λi j _ _ _ _ _ a q=>
 rshift_int a (by rw[hG i (Pz _)];exact q)
theorem XB:sU X (binaryOp .BitAnd) (D9 λi j=>.int (Builtin.bitAnd i j)):=IU λ_ _ _ _ _ _ _ q=>and_int q
theorem SO{f:A0->Sem A0}{g:Int->Int}
  (a:∀(i:Int) (t:Tok) (s:A2) (Q:BA) (E:BA),Q (.int (g i) s.toks) { s with toks:=s.toks+1 }->A7 (ii X) X.A (f (.int i t)) Q E s):
  DL X f (rU λi=>.int (g i)):=by
 intro AN s σ H x v Q I b h;obtain⟨i,rfl,q⟩:=h;obtain⟨t,rfl⟩:=b;exact a i t s _ _ ⟨.int (g i),H,I.tok _,⟨_,rfl⟩,q⟩
theorem ac:DL X (unaryOp .USub) (rU λi=>.int (-i)):=SO λ_ _ _ _ _ q=>neg_int q
theorem Ww{σ:St}{H:Hp}{Q:VK}{k a:Bool}(I:AU X AN σ H s)(q:Q (.bl k) H)(e:k=a):EP X AN σ Q (.bool a) s:=by
 subst e;exact⟨.bl k,H,I,rfl,q⟩
theorem ck:sU X (AG .Lt) (D9 λi j=>.bl (decide (i<j))):=GH λ_ _ _ _ _ _ _ q=>lt_int q
theorem PZ:sU X (AG .LtE) (D9 λi j=>.bl (decide (i<=j))):=GH λ_ _ _ _ _ _ _ q=>le_int q
theorem VY:sU X (AG .Gt) (D9 λi j=>.bl (decide (j<i))):=GH λ_ _ _ _ _ _ _ q=>gt_int q
theorem TN:sU X (AG .GtE) (D9 λi j=>.bl (decide (j<=i))):=GH λ_ _ _ _ _ _ _ q=>ge_int q
theorem Uk:sU X (AG .In) (λx y H Q=>∃i j,x=.str i/\y=.str j/\Q (.bl (!(Builtin.Str.occurrences j i 0 j.length 1).isEmpty)) H):=by
 intro AN s σ H x y v u Q I b a h;obtain⟨i,j,rfl,rfl,q⟩:=h;obtain⟨t,rfl⟩:=b;obtain⟨c,rfl⟩:=a;exact in_str (Ww I q S)
theorem UM:sU X (AG .IsNot) (λx y H Q=>y=.non/\Q (.bl (!decide (x=.non))) H):=by
 intro AN s σ H x y v u Q I a b h;obtain⟨rfl,q⟩:=h;cases b;refine isnot_none_gen (Ww I q ?_);cases x<;>first
  |(cases a;rfl)
  |(obtain⟨t,rfl⟩:=a;rfl)
theorem bB(b:Expr)(h:op≠.In:=by decide)(h2:op≠.NotIn:=by decide):behindInMarks op b=false:=by
 have e1:(op==CmpOp.In)=false:=by cases op<;>first|rfl|exact absurd S h
 have e2:(op==CmpOp.NotIn)=false:=by cases op<;>first|rfl|exact absurd S h2
 cases b<;>simp[behindInMarks,e1,e2]
theorem RN{r:R2}(k:sU X (AG op) r)(j:PE X a ta)(c:PE X b tb)(g:behindInMarks op b=false):PE X (.Compare a [op] [b] pos) (DI r ta tb):=by
 intro AN s σ H Q I h;exact wpAny_Compare1 (HM j c I h λv u f x y H2 i e d q=>k AN f σ H2 x y v u Q i e d q) g
def Sk(t:TE):TT:=λσ H Q=>t σ H λx H'=>∃k,x=.bl k/\Q k H'
theorem OC{r:R2}(f:sU X (AG op) r)(g:PE X a ta)(i:PE X b tb)(d:behindInMarks op b=false):PT X (.Compare a [op] [b] pos) (Sk (DI r ta tb)):=by
 intro AN s σ H Q I h;refine wpAny_isTrue_Compare1 (ig (g AN s σ H _ I h) λv s1 ⟨x,H1,I1,r1,q1⟩=>ig (i AN s1 σ H1 _ I1 q1) λu s2 ⟨y,H2,I2,r2,q2⟩=>
  ig (f AN s2 σ H2 x y v u _ I2 r1 r2 q2) λc s3 ⟨z,H3,I3,r3,k,e,q3⟩=>?_) d
 subst e;cases r3;exact j0 ⟨H3,I3,q3⟩
def Wx(r b:R2)(ta tb tc:TE):TE:=λσ H Q=>ta σ H λx H1=>tb σ H1 λy H2=>r x y H2 λz a=>∃k,z=.bl k ∧
 (if k=true then tc σ a λd c=>b y d c Q else Q (.bl false) a)
theorem Wy{f:CmpOp}{r g:R2}(o:sU X (AG op) r)(j:sU X (AG f) g)(n:PE X a ta)(i:PE X b tb)(l:PE X c tc)(m:lastMarks [op,f] [b,c]=false:=by with_unfolding_all rfl):PE X (.Compare a [op,f] [b,c] pos) (Wx r g ta tb tc):=by
 intro AN s σ H Q I h;refine Compare_chain (ig (n AN s σ H _ I h) λv s1 ⟨x,H1,I1,r1,q1⟩=>chain_link (ig (i AN s1 σ H1 _ I1 q1) λu s2 ⟨y,H2,I2,r2,q2⟩=>
  ig (o AN s2 σ H2 x y v u _ I2 r1 r2 q2) λd s3 ⟨z,H3,I3,r3,k,e,q3⟩=>?_)) m
 subst e;cases r3;refine j0 ?_;cases k with
 |false=>exact ite_ff ⟨.bl false,H3,I3,rfl,q3⟩
 |true=>exact ite_tt (chain_last (ig (l AN s3 σ H3 _ I3 q3) λw' s4 ⟨z',H4,I4,r4,q4⟩=>j AN s4 σ H4 y z' u w' Q I4 r2 r4 q4))
def L6(K:B4)(x:V)(H:Hp)(k:Bool):Prop:=
 match x with
 |.non=>k=false
 |.bl b=>k=b
 |.int i=>k=(i != 0)
 |.str y=>y.length<=AA/\k=((y.length:Int) != 0)
 |.byt y=>y.size<=AA/\k=((y.size:Int) != 0)
 |.ref p=>(∃xs,sI K H p xs/\k=!xs.isEmpty)\/(∃xs,sO K H p xs/\k=!xs.isEmpty)\/∃AO,H p=Z (.dK AO)/\k=!AO.isEmpty
 |_=>False
theorem PK{AO:O (κ×V)}{vs:O (κ×A0)}(r:KV AO vs):(!vs.isEmpty)=!AO.isEmpty:=by
 cases r<;>rfl
theorem Cg{xs:O V}(r:AX xs AQ):(!AQ.toArray.isEmpty)=!xs.isEmpty:=by
 cases r<;>simp
theorem wj:(AA:Nat)<2 ^ 63:=by rw[sizeLine_eq];decide
theorem XY:WA X (λx H Q=>∃k,L6 X.K x H k/\Q k H):=by
 intro AN s σ H x v Q I a h;obtain⟨k,e,q⟩:=h;have l:=wj;have j:AA=16777216:=sizeLine_eq;cases x with
 |non=>
  cases a;have e':k=false:=e;subst e';exact truthy_none ⟨H,I,q⟩
 |bl b=>
  cases a;have e':k=b:=e;subst e';exact j0 ⟨H,I,q⟩
 |int i=>
  obtain⟨t,rfl⟩:=a;have e':k=(i != 0):=e;subst e';exact PySem.P.truthy_int ⟨H,I,q⟩
 |str y=>
  obtain⟨t,rfl⟩:=a;obtain⟨g,e'⟩:y.length<=AA/\k=((y.length:Int) != 0):=e;subst e';exact PySem.P.truthy_str () ⟨H,I.tok _,q⟩
 |byt y=>
  obtain⟨t,rfl⟩:=a;obtain⟨g,e'⟩:y.size<=AA/\k=((y.size:Int) != 0):=e;subst e';exact PySem.W.truthy_bytes () ⟨H,I.tok _,q⟩
 |ref p=>
  cases a;have e':(∃xs,sI X.K H p xs/\k=!xs.isEmpty)\/(∃xs,sO X.K H p xs/\k=!xs.isEmpty)\/∃AO,H p=Z (.dK AO)/\k=!AO.isEmpty:=e;rcases e' with⟨xs,hx,e'⟩|⟨xs,hx,e'⟩|⟨AO,hx,e'⟩
  ·subst e';obtain⟨AQ,r,pl,d⟩:=I.list hx;have c:=r.length;exact wpAny_truthy_list pl.isList (by simp only[zv];omega) ⟨H,I.tok _,by rw[Cg r];exact q⟩
  ·subst e';obtain⟨AQ,r,pl,d⟩:=I.tuple hx;have c:=r.length;exact truthy_tuple pl (by simp only[zv];omega) ⟨H,I.tok _,by rw[Cg r];exact q⟩
  ·subst e';obtain⟨d,f,vs,r,m⟩:AO.length<=AA/\(p==sysModules)=false/\∃vs,KV AO vs/\s.heap.DictOf (eG X.prog X.w) p vs:=I.hok p _ hx;have c:AO.length=vs.length:=Paired.length r;exact wpAny_truthy_dict f m () ⟨H,I.tok _,by rw[PK r];exact q⟩
 |_=>exact(show False from e).elim
theorem Wz(c:PE X a ta)(he:∀b,isTrue a X.env b=(do let v <-b;standAt a.pos;holding [v] (truthy v))):
  PT X a (λσ H Q=>ta σ H λx H'=>∃k,L6 X.K x H' k/\Q k H'):=by
 intro AN s σ H Q I h;exact isTrue_plain (ig (c AN s σ H _ I h) λv s1 ⟨x,H1,I1,r1,q1⟩=>XY AN s1 σ H1 x v Q I1 r1 q1) (he _)
theorem PL:sU X (binaryOp .Add) (λx y H Q=>∃i j,x=.str i/\y=.str j/\i.length+j.length<=AA/\Q (.str (i++j)) H):=by
 intro AN s σ H x y v u Q I d c h;obtain⟨i,j,rfl,rfl,a,q⟩:=h;obtain⟨t,rfl⟩:=d;obtain⟨b,rfl⟩:=c;exact add_str (λb tk=>⟨.str (i++j),H,I.tok _,⟨_,rfl⟩,q⟩) a
theorem BH{x:V}(r:AX [x] us):∃u,us=[u]/\B0 x u:=by
 cases r with
 |cons a b=>cases b;exact⟨_,rfl,a⟩
theorem CM{x y:V}(r:AX [x,y] us):∃u a,us=[u,a]/\B0 x u/\B0 y a:=by
 cases r with
 |cons c d=>
  cases d with
  |cons b e=>cases e;exact⟨_,_,rfl,c,b⟩
theorem WD:fU X (.builtin "abs") (λxs H Q=>∃i,xs=[.int i]/\Q (.int (if i<0 then -i else i)) H):=by
 intro AN s σ H xs us Q I r h;obtain⟨i,rfl,q⟩:=h;obtain⟨u,rfl,t,rfl⟩:=BH r;exact call_abs_int λu tk=>⟨.int (if i<0 then -i else i),H,I.tok _,⟨_,rfl⟩,q⟩
theorem Ul:fU X (.type "int") (λxs H Q=>(∃i,xs=[.int i]/\Q (.int i) H)\/∃k,xs=[.bl k]/\Q (.int (if k then 1 else 0)) H):=by
 intro AN s σ H xs us Q I r h;rcases h with⟨i,rfl,q⟩|⟨k,rfl,q⟩
 ·obtain⟨u,rfl,t,rfl⟩:=BH r;exact call_int_int ⟨.int i,H,I,⟨_,rfl⟩,q⟩
 ·obtain⟨u,rfl,a⟩:=BH r;cases a;exact call_int_bool ⟨.int (if k then 1 else 0),H,I.tok _,⟨_,rfl⟩,q⟩
end
end L2
namespace L2
section
variable{x dx f:A1}{mA:AJ->Y A0}
end
theorem K6.some_of{v:V}{o:Y A0}(r:K6 (Z v) o):∃u,o=Z u/\B0 v u:=by
 cases o with
 |none=>exact(show False from r).elim
 |some u=>exact⟨u,rfl,r⟩
section
variable{H H':Hp}{h':A6}{dx:A1}{fs fs':O (AJ×V)}
end
section
variable{X:Cx}{σ:St}{H:Hp}{dx:A1}{fs:O (AJ×V)}{f:AJ}{v:V}
end
section
variable{X:Cx}{o value:Expr}{f:AJ}{pos':Pos}{ta tv:TE}
end
section
variable{X:Cx}{σ:St}{H:Hp}{Q:BA}{c:A0}{b:Bool}
end
end L2
namespace L2
structure jo (k:Nat) (A:Around):Prop where
 hd:A.handled=none
 dp:A.depth+3*k+5<recursionLimit
 un:A.units+16*k+200<cLine
theorem jo.mono(r:jo k A)(h:j<=k):jo j A:=⟨r.hd,by have:=r.dp;omega,by have:=r.un;omega⟩
theorem jo.deeper(r:jo (k+1) A)(env:Env):jo k (A.deeper env):=
 ⟨r.hd,by have:=r.dp;show A.depth+1+3*k+5<_;omega,by have:=r.un;show A.units+3+16*k+200<_;omega⟩
theorem jo.depth(r:jo k A):A.depth<recursionLimit:=by have:=r.dp;omega
def Ar:TA:=λ_ H Q=>Q [] H
def nQ(ta:TE)(tr:TA):TA:=λσ H Q=>ta σ H λx H1=>tr σ H1 λxs H2=>Q (x::xs) H2
section
variable{X:Cx}{te:TE}{t:TA}
theorem cX:PA X [] Ar:=λ_ _ _ _ H Q I h=>Calls.spliced_nil ⟨[],H,I,.nil,h⟩
theorem aY(b:PE X e te)(a:PA X es t)(hs:A9 (e::es) X.env=(false,eval e X.env)::A9 es X.env:=by rfl):PA X (e::es) (nQ te t):=by
 intro pos AN s σ H Q I h;rw[hs];show A7 _ _ (spliced ((false,eval e X.env)::AD pos (A9 es X.env))) _ _ s;refine Calls.spliced_cons (ig (b AN s σ H _ I h) λu s1 ⟨x,H1,I1,r1,q1⟩=>?_);exact ig (a pos AN s1 σ H1 _ I1 q1) λus s2 ⟨xs,H2,I2,r2,q2⟩=>⟨x::xs,H2,I2,.cons r1 r2,q2⟩
def bj(t:TA):TE:=λσ H Q=>t σ H λxs H1=>xs.length<=AA/\∀p,H1 p=U->Q (.ref p) (B1 H1 p (.tup xs))
def Hc(t:TA):TE:=λσ H Q=>t σ H λxs H1=>xs.length<=AA/\∀p,H1 p=U->Q (.ref p) (B1 H1 p (.lst xs))
theorem UP{x1}(h:PA X es t):PE X (.Tuple es x1 pos) (bj t):=by
 intro AN s σ H Q I c;refine wpAny_Tuple_spliced (ig (h pos AN s σ H _ I c) λus s1 ⟨xs,H1,I1,r,z,q⟩=>⟨by rw[<-r.length];exact z,?_⟩);have a:H1 s1.heap.objs.size=U:=I1.hok.fresh (zl _);refine⟨.ref s1.heap.objs.size,B1 H1 s1.heap.objs.size (.tup xs),I1.laid (t':=s1.toks) (λb u e=>zd _ e) (zl _) ?_,rfl,q _ a⟩;exact⟨z,us,r,⟨_,zr _ rfl,rfl,⟨_,rfl⟩,rfl⟩⟩
theorem Ci(h:PA X es t):PE X (.List es pos) (Hc t):=by
 intro AN s σ H Q I c;refine wpAny_List_spliced (ig (h pos AN s σ H _ I c) λus s1 ⟨xs,H1,I1,r,z,q⟩=>⟨by rw[<-r.length];exact z,?_⟩);have a:H1 s1.heap.objs.size=U:=I1.hok.fresh (zl _);refine⟨.ref s1.heap.objs.size,B1 H1 s1.heap.objs.size (.lst xs),I1.laid (t':=s1.toks) (λb u e=>zd _ e) (zl _) ?_,rfl,q _ a⟩;exact⟨z,us,0,r,zr _ rfl⟩
end
abbrev Sp:=O V->Hp->VK->XK->Prop
abbrev RQ:=O Env->Hp->A2->XK->A0->A2->Prop
structure Lb (P:Program) (w:World) (K:B4) (mg:Str->Option Value) (base:Heap) (A:Around) (outer:List Env) (s:Shared) (H:Hp):Prop where
 frames:A.frames=some outer
 mod:Mod K mg base
 bs:∀b o,base.get? b=some o->s.heap.get? b=some o/\H b=none
 Wn:base.objs.size<=s.heap.objs.size
 vL:s.heap.FunFrames base outer
 frf:∀b∈C1 outer,H b=none
 hok:vK P w H s.heap
 bare:AllBare s.gens
 tabs:Bi K H
def CE(outer:O Env)(P:A3)(w:A4)(H:Hp)(s:A2)(Q:VK)(u:A0)(s':A2):Prop:=
 ∃v H',s'.os=s.os/\AllBare s'.gens/\Un (C1 outer) [] H H' s.heap s'.heap/\vK P w H' s'.heap/\B0 v u/\Q v H'
def CR(CX:RQ)(outer:O Env)(P:A3)(w:A4)(H:Hp)(s:A2)(Q:VK)(E:XK)(r:Result)(s':A2):Prop:=
 match r with
 |.ok (.ret u)=>CE outer P w H s Q u s'
 |.ok _=>False
 |.error e=>CX outer H s E e s'
structure lR (P:Program) (w:World) (K:B4) (mg:Str->Option Value) (base:Heap) (CX:RQ) (k:Nat) (f:Addr) (fd:FuncData) (ps:AZ) (sp:Sp):Prop where
 len:∀vs H Q E,sp vs H Q E->vs.length=ps.length
 run:∀(A:Around) (outer:List Env) (s:Shared) (H:Hp) (args:Args) (us:List Value) (vs:List V) (Q:VK) (E:XK),jo k A->Lb P w K mg base A outer s H->BindsTo s fd args (ps.zip us)->AX vs us->sp vs H Q E →
  codeAny (model P w) A (.call (.ref f) args) (CR CX outer P w H s Q E) s
section
variable{X:Cx}{σ:St}{H:Hp}{s':A2}
theorem AU.env0(I:AU X AN σ H s):Lb X.prog X.w X.K X.mg X.base X.A X.stack s H:=
 ⟨I.ok.frames,I.ok.mod,I.bs,ZH I.ok.Wn I.sz,I.stack,I.Bk,I.hok,I.bare,I.ok.tabs.go I.base.qD⟩
theorem AU.after{Q:VK}(I:AU X AN σ H s)(h:CE X.stack X.prog X.w H s Q u s'):EP X AN σ Q u s':=by
 obtain⟨v,H',os,f,un,c,r,q⟩:=h;obtain⟨a,g,d,t,e⟩:=s';obtain rfl:e=s.os:=os;exact⟨v,H',I.call (h':=a) (g':=g) (d':=d) (t':=t) (ch:=[]) un c f (λb z=>absurd z (by simp)),r,q⟩
end
def eP(sp:Sp)(dvs:O V)(E:XK)(t:TA):TE:=λσ H Q=>t σ H λvs H1=>sp (vs++dvs) H1 Q E
def BM(K:B4)(fd:FuncData)(ps:AZ)(ds:O A0):Prop:=
 ∀(s:A2) (us:O A0),K.In s.heap->(us++ds).length=ps.length->BindsTo s fd ⟨us,[]⟩ (ps.zip (us++ds))
theorem BM.all(h:∀us:O A0,us.length=ps.length->bindArgs fd ⟨us,[]⟩=pure (ps.zip us)):BM K fd ps []:=λs us _ a=>by
 rw[JP]at a ⊢;exact .of_eq (h us a)
def CF(CX:RQ)(X:Cx)(E:XK):Prop:=∀(AN:O (A1×AE)) (σ:St) (H:Hp) (s:A2) (e:A0) (s':A2),AU X AN σ H s->CX X.stack H s E e s'->X.xe e s'
section
variable{X:Cx}{CX:RQ}{f:A1}{sp:Sp}{dvs:O V}{ds:O A0}{E:XK}{m:AJ}{p:Pos}{o:Expr}{ta:TE}{t:TA}
theorem bb{σ:St}{H:Hp}{Q:VK}{vs:O V}(F:lR X.prog X.w X.K X.mg X.base CX k f fd ps sp)(g:jo k X.A)(c:BM X.K fd ps ds)(d:AX dvs ds)(hx:CF CX X E)(I:AU X AN σ H s)(r:AX vs us)(h:sp (vs++dvs) H Q E):A7 (ii X) X.A (call (.ref f) us) (EP X AN σ Q) X.xe s:=by
 have b:AX (vs++dvs) (us++ds):=r.append d;have i:(us++ds).length=ps.length:=by rw[<-b.length];exact F.len _ _ _ _ h
 refine yY (Kx (F.run X.A X.stack s H ⟨us,[]⟩ (us++ds) (vs++dvs) Q E g I.env0 (c s us I.K7 i) b h) λr s' a=>?_);cases r with
 |error e=>exact hx AN σ H s e s' I a
 |ok fl=>
  cases fl with
  |ret u=>exact I.after a
  |next=>exact False.elim a
  |brk=>exact False.elim a
  |cont=>exact False.elim a
theorem Sj(F:lR X.prog X.w X.K X.mg X.base CX k f fd ps sp)(d:jo k X.A)(g:Gl X x)(i:X.mg x=Z (.ref f))(hk:keepIn X.K (.ref f)=true)(a:BM X.K fd ps ds)(b:AX dvs ds)(hx:CF CX X E)
  (l:PA X (e::es) t) (j:db x:=by decide) (he:A9 (e::es) X.env=(false,eval e X.env)::A9 es X.env:=by rfl) (c:(AD pos (A9 es X.env)).any (·.1)=false:=by rfl):
  PE X (.Call (.Name x p) (e::es) [] pos) (eP sp dvs E t):=by
 intro AN s σ H Q I h;refine kQ (wZ I g i ?_ j);refine YO (h₀:=X.base) I.ok.mod.kin hk (ig (l pos AN s σ H _ I h) λus s1 ⟨vs,H1,I1,r,q⟩=>⟨I1.K7,?_⟩) he c;exact bb F d a b hx I1 r q
end
section
variable{X:Cx}{CX:RQ}{f:A1}{ks:AZ}{sp:Sp}{E:XK}{m:AJ}{p kpos:Pos}{o:Expr}{kws:O AC}{te ta:TE}{t tk:TA}{nm:Y AJ}
variable{g:O A0->O A0->O A0}{gV:O V->O V->O V}
end
structure bH (N P:AZ) (sc:Scope):Prop where
 kind:sc.kind=.function
 co:sc.isCoroutine=false
 gen:sc.isGenerator=false
 nd:N.Nodup
 pre:N.take P.length=P
 par:∀x∈P,sc.names.lookup x=some .local\/sc.names.lookup x=some .cell
 adS:∀y∈sc.names,y.2≠.free
theorem GJ{b:AJ->Y NameKind}{x:AJ}:∀{binds:O (AJ×A0)} {m:AJ->Y A0},(∀v,(x,v)∉binds)->bindL b binds m x=m x
 |[],_,_=>rfl
 |(n,v)::r,m,h=>by
  unfold bindL;rw[GJ λw a=>h w (zi _ a)];split
  ·have:x≠n:=by rintro rfl;exact h v zh
   simp[this]
  ·rfl
theorem GK{b:AJ->Y NameKind}{x:AJ}:∀{binds:O (AJ×A0)} {m:AJ->Y A0},(∀v,(x,v)∉binds)->bindC b binds m x=m x
 |[],_,_=>rfl
 |(n,v)::r,m,h=>by
  unfold bindC;rw[GK λw a=>h w (zi _ a)];split
  ·rfl
  ·have:x≠n:=by rintro rfl;exact h v zh
   simp[this]
theorem GP{a:AJ->Y NameKind}{x:AJ}{v:A0}:∀{P:AZ} {vs:O A0} {i:Nat} {m:AJ->Y A0},P.Nodup->P[i]?=Z x->vs[i]?=Z v->a x=Z .local →
  bindL a (P.zip vs) m x=Z v
 |[],_,_,_,_,h,_,_=>by simp at h
 |_::_,[],_,_,_,_,h,_=>by simp at h
 |p::P,w::vs,0,m,nd,h1,h2,hk=>by
  simp at h1 h2;subst h1;subst h2;show bindL a ((p,w)::P.zip vs) m p=_;unfold bindL;rw[GJ λv b=>(cc.mp nd).1 (YA b).1,zt hk];simp
 |p::P,w::vs,i+1,m,nd,h1,h2,hk=>by
  show bindL a ((p,w)::P.zip vs) m x=_;unfold bindL;exact GP (i:=i) (cc.mp nd).2 (by simpa using h1) (by simpa using h2) hk
theorem GQ{a:AJ->Y NameKind}{x:AJ}{v:A0}:∀{P:AZ} {vs:O A0} {i:Nat} {m:AJ->Y A0},P.Nodup->P[i]?=Z x->vs[i]?=Z v->a x≠Z .local →
  bindC a (P.zip vs) m x=Z v
 |[],_,_,_,_,h,_,_=>by simp at h
 |_::_,[],_,_,_,_,h,_=>by simp at h
 |p::P,w::vs,0,m,nd,h1,h2,hk=>by
  simp at h1 h2;subst h1;subst h2;show bindC a ((p,w)::P.zip vs) m p=_;unfold bindC;rw[GK λv b=>(cc.mp nd).1 (YA b).1,ZA hk];simp
 |p::P,w::vs,i+1,m,nd,h1,h2,hk=>by
  show bindC a ((p,w)::P.zip vs) m x=_;unfold bindC;exact GQ (i:=i) (cc.mp nd).2 (by simpa using h1) (by simpa using h2) hk
def start(N:AZ)(vs:O V):St:=vs.map Z++aw (N.length-vs.length) U
def sV(CX:RQ)(P:A3)(w:A4)(K:B4)(mg:AJ->Y A0)(base:A6)(N:AZ)(qual:AJ)(scope:Scope)(f:A1)(cd:A0)(A:A5)(outer:O Env)(s:A2)(H:Hp)(E:XK):Cx where
 prog:=P
 w:=w
 K:=K
 mg:=mg
 base:=base
 A:=A.deeper (AK qual scope s.heap.objs.size f cd)
 N:=N
 s₀:=s
 H₀:=H
 env:=AK qual scope s.heap.objs.size f cd
 outer:=outer
 stack:=AK qual scope s.heap.objs.size f cd::outer
 ex:=[]
 calm:=true
 fn:=λ_=>true
 pn:=[]
 xe:=λe s'=>A7 (A8 P w) (A.deeper (AK qual scope s.heap.objs.size f cd)) (leaving (AK qual scope s.heap.objs.size f cd) e) (λ_ a=>CX outer H s E e a) (λe' a=>CX outer H s E e' a) s'
theorem Ld{a:Scope}(h:a.names.lookup x=Z .cell):∃c,(cellsFrom n a.names []).lookup x=Z c:=by
 have q:=cellsFrom_some a.names n [] (.inl h);exact dV.mp q
theorem GR{CX:RQ}{f:A1}{cd:A0}{j:A2}{H:Hp}{E:XK}{vs:O V}(S:bH N ps scope)(o:A.handled=U)(e0:Lb P w K mg base A outer s H)(F:vs.length=ps.length)(r:AX vs us)(x:InCallC s s.heap.objs.size (bindL (AK qual scope s.heap.objs.size f cd).kindOf (ps.zip us) λ_=>U) (cellsFrom (s.heap.objs.size+1) scope.names []) (bindC (AK qual scope s.heap.objs.size f cd).kindOf (ps.zip us) λ_=>U) j):
  AU (sV CX P w K mg base N qual scope f cd A outer s H E) [] (start N vs) H j:=by
 have D:ps.length<=N.length:=by have:=congrArg mh S.pre;rw[JU]at this;omega
 obtain⟨h1,tk,rfl,hk⟩:=x.done;have g:∀b:A1,b∉(sV CX P w K mg base N qual scope f cd A outer s H E).ex:=λb z=>absurd (show b∈([]:O A1) from z) (by simp);refine⟨⟨e0.mod,S.kind,rfl,rfl,zl _,λy z c h1 h2=>?_,λy d=>?_,λy c _ h=>?_,λ_=>o,Around.frames_deeper e0.frames,.inr ⟨rfl,rfl⟩,λb z=>absurd z (g b),e0.bs,e0.Wn,λb _ _=>g b,λb z=>absurd z (g b),e0.vL,e0.frf,e0.tabs⟩,
  rfl,e0.bare,Un.kept hk,⟨_,x.toInCall.ns,λi y v h1 h2 C=>?_⟩,λy c h=>⟨_,x.cell y c h⟩,e0.hok.fresh (zl _),λy c h=>?_,λp hp=>absurd (show p∈([]:O (A1×AE)) from hp) (by simp),e0.hok.kept hk,?_⟩
 ·exact name_of_addr x.apart (kD h1) (kD h2)
 ·have d:scope.names.lookup y=Z .cell\/scope.names.lookup y=Z .free:=d;rcases d with d|d
  ·exact Ld d
  ·exact absurd rfl (S.adS _ (kD d))
 ·exact Q1 (x.above y c (kD h))
 ·have hi:i<vs.length:=by
   unfold start at h2;by_cases hi:i<vs.length
   ·exact hi
   ·rw[qv (by simpa using hi)]at h2;rw[jI]at h2;split at h2<;>cases h2
  have B:vs[i]?=Z v:=by
   unfold start at h2;rw[Z3 (by simpa using hi),Zs]at h2;cases e:vs[i]? with
   |none=>rw[e]at h2;cases h2
   |some a=>rw[e]at h2;cases h2;rfl
  obtain⟨u,l,t⟩:=r.get B;have hp:ps[i]?=Z y:=by
   rw[<-S.pre,List.getElem?_take_of_lt ()];exact h1
  have m:ps.Nodup:=by rw[<-S.pre];exact S.nd.sublist (List.take_sublist _ _)
  refine⟨u,t,?_⟩;rcases S.par y (ZN hp)with k|k
  ·exact .inl ⟨k,GP m hp l k⟩
  ·obtain⟨c,e⟩:=Ld (n:=s.heap.objs.size+1) k;refine .inr ⟨.inl k,c,e,?_⟩;have q:=x.cell y c e;rw[GQ m hp l (by show scope.names.lookup y≠_;rw[k];decide)]at q;exact q
 ·exact e0.hok.fresh (Q1 (x.above y c (kD h)))
 ·unfold start;show _=N.length;rw[zC,zk,eh];omega
theorem NM{CX:RQ}{f:A1}{j kV l pm a ct W:A0}{i od:Y A1}{sp:Sp}(F:K.lookup f=Z ⟨W,od,.func (fnOf name qual params body scope j kV l pm i a ct),osl⟩)(D:codeIn K a qual=true)(S:bH N ps scope)(len:∀vs H Q E,sp vs H Q E->vs.length=ps.length)(M:∀(A:A5) (outer:O Env) (s:A2) (H:Hp) (vs:O V) (Q:VK) (E:XK),jo k (A.deeper (AK qual scope s.heap.objs.size f a))->sp vs H Q E →
   ∃t,vZ (sV CX P w K mg base N qual scope f a A outer s H E) body t/\t { nx:=λ_ H'=>Q .non H',rt:=Q } (start N vs) H):
  lR P w K mg base CX (k+1) f (fnOf name qual params body scope j kV l pm i a ct) ps sp:=by
 refine⟨len,λA outer s H a3 us vs Q E d e0 B r z=>?_⟩;have G:=len _ _ _ _ z;have p:K.In s.heap:=e0.mod.kin.keeps λb o e=>(e0.bs b o e).1;have C:s.heap.NoLimit:=e0.mod.nolimit.keeps λb o e=>(e0.bs b o e).1;have X:∀y∈ps.zip us,scope.names.lookup y.1=Z .local\/(scope.names.lookup y.1=Z .cell/\((cellsFrom (s.heap.objs.size+1) scope.names []).lookup y.1).isSome=true):=λ⟨n,v⟩ hy=>by
  rcases S.par n (YA hy).1 with q|q
  ·exact .inl q
  ·exact .inr ⟨q,cellsFrom_some _ _ _ (.inl q)⟩
 refine codeAny_call_function d.depth (p _ _ F) rfl S.co S.gen rfl (codeRec_of p D) (B _ _ _ _ ?_);refine wpAny_newFunctionEnv_cells S.kind X λenv L h x=>?_;subst L;refine⟨C.keeps x.toInCall.keep,codeAny_func ?_⟩;obtain⟨t,ht,hq⟩:=M A outer s H vs Q E (d.deeper _) z;have I:AU (sV CX P w K mg base N qual scope f a A outer s H E) [] (start N vs) H h:=GR S d.hd e0 G r x;refine ZY (ht [] h (start N vs) H _ I hq) (λfl s' c=>?_) λe s' c=>c;have m:∀{σ':St} {H':Hp} {v:V} {u:A0},AU (sV CX P w K mg base N qual scope f a A outer s H E) [] σ' H' s'->B0 v u->Q v H'->CE outer P w H s Q u s':=
  λ{σ' H' v u} J g q=>⟨v,H',J.os,J.bare,J.base,J.hok,g,q⟩
 cases fl with
 |ret u=>
  obtain⟨v,σ',H',J,g,q⟩:=c;exact m J g q
 |next=>
  obtain⟨σ',H',J,q⟩:=c;exact m (v:=V.non) (u:=Value.none) J rfl q
 |brk=>
  obtain⟨_,_,_,q⟩:=c;exact False.elim q
 |cont=>
  obtain⟨_,_,_,q⟩:=c;exact False.elim q
end L2
namespace L2
section
variable{X:Cx}{p:Pos}{t:TA}{id T:String}{r:O V->Hp->VK->Prop}
def Iq(r:O V->Hp->VK->Prop)(t:TA):TE:=λσ H Q=>t σ H λvs H1=>r vs H1 Q
theorem fV(b:fU X (.builtin id) r)(d:Gl X x)(f:X.mg x=U)(g:AH x=Z (.builtin id))(j:PA X (e::es) t)(a:x ≠ "__name__":=by decide)(i:db x:=by decide)
  (he:A9 (e::es) X.env=(false,eval e X.env)::A9 es X.env:=by rfl) (c:(AD pos (A9 es X.env)).any (·.1)=false:=by rfl):PE X (.Call (.Name x p) (e::es) [] pos) (Iq r t):=by
 intro AN s σ H Q I h;refine kQ (wg I d f g ?_ a i);exact PyProof.Rows.callWith_builtin1 (ig (j pos AN s σ H _ I h) λus s1 ⟨vs,H1,I1,r1,q1⟩=>b AN s1 σ H1 vs us Q I1 r1 q1) he c
theorem GZ(b:fU X (.type T) r)(d:Gl X x)(f:X.mg x=U)(g:AH x=Z (.type T))(j:PA X (e::es) t)(a:x ≠ "__name__":=by decide)(i:db x:=by decide)
  (he:A9 (e::es) X.env=(false,eval e X.env)::A9 es X.env:=by rfl) (c:(AD pos (A9 es X.env)).any (·.1)=false:=by rfl):PE X (.Call (.Name x p) (e::es) [] pos) (Iq r t):=by
 intro AN s σ H Q I h;refine kQ (wg I d f g ?_ a i);exact PyProof.Rows.callWith_type1 (ig (j pos AN s σ H _ I h) λus s1 ⟨vs,H1,I1,r1,q1⟩=>b AN s1 σ H1 vs us Q I1 r1 q1) he c
end
end L2
namespace HT
open PySem PyProof.Rows
section
open PySem.SeqAt
open PySem.AutoSeq1 (wpAny_loadPart')
open PySem.MeetsSeq PySem.MeetsSeq2 PySem.MeetsSeq3
end
theorem aap{t b:A1}{vs a:O A0}{Q:BA}(u:IsTup s.heap t vs.toArray)(q:IsTup s.heap b a.toArray)(m:vs≠[])
  (h1:a=[]->Q (.ref t) s) (h2:a≠[]->Q (.ref s.heap.objs.size) { s with heap:=s.heap.push { cls:=.type "tuple",data:=.seq (vs++a).toArray } })
  (hsz:vs.length+a.length<=AA):A7 (A8 prog w) A (binaryOp .Add (.ref t) (.ref b)) Q E s:=by
 obtain⟨⟨cls,o,data,sl⟩,f,h,n,g⟩:=id u;obtain⟨⟨cls2,l,v,k⟩,d,p,j,i⟩:=id q;simp only at h g p i;subst h g p i;have e:vs.toArray++a.toArray=(vs++a).toArray:=by simp
 by_cases c:a=[]
 ·exact concat_meets ⟨_,f,rfl⟩ ⟨_,d,rfl⟩ noFill_tuple_add seq_tuple_add PySem.F.slot_tuple_add xl (Y3 _ _)
   (tuple_addW1 t b vs.toArray a.toArray n j o l sl k (by simpa using m) (by simp[c])) ⟨f,d,h1 c⟩
 ·refine concat_meets ⟨_,f,rfl⟩ ⟨_,d,rfl⟩ noFill_tuple_add seq_tuple_add PySem.F.slot_tuple_add xl (Y3 _ _)
   (tuple_addW2 t b vs.toArray a.toArray n j o l sl k (by simpa using m) (by simpa using c) (by rw[zv,zv];exact hsz)) ⟨f,d,?_⟩
  rw[e];exact h2 c
def iD(n d:Nat):Y Int->Nat
 |none=>d
 |some v=>if v<0 then(v+(n:Int)).toNat else min v.toNat n
theorem Lf(n d:Nat):iD n d U=d:=rfl
theorem Bp(n d k:Nat):iD n d (Z (k:Int))=min k n:=by
 show(if(k:Int)<0 then((k:Int)+(n:Int)).toNat else min (k:Int).toNat n)=min k n;rw[ZA (),kc]
theorem OK(n d:Nat)(b:d<=n)(o:Y Int):iD n d o<=n:=by
 cases o with
 |none=>exact b
 |some v=>
  show(if v<0 then(v+(n:Int)).toNat else min v.toNat n)<=n;by_cases a:v<0
  ·rw[zt a];omega
  ·rw[ZA a];exact y4 _ _
theorem RT(v:Int)(n d:Nat):(if v<0 then max (v+(n:Int)) 0 else min v (n:Int))=((iD n d (Z v):Nat):Int):=by
 show(if v<0 then max (v+(n:Int)) 0 else min v (n:Int))=(((if v<0 then(v+(n:Int)).toNat else min v.toNat n):Nat):Int);by_cases a:v<0
 ·simp only[zt a];omega
 ·simp only[ZA a];omega
theorem PX(lo hi:Y Int)(n:Nat):Builtin.Slice.sliceAdjust lo hi 1 (n:Int)=(((iD n 0 lo:Nat):Int),((iD n n hi:Nat):Int)):=by
 have h1:¬ ((1:Int)<0):=by omega
 unfold Builtin.Slice.sliceAdjust;simp only[h1,qr];refine gW ?_ ?_
 ·cases lo with
  |none=>rfl
  |some v=>exact RT v n 0
 ·cases hi with
  |none=>rfl
  |some v=>exact RT v n n
theorem Qa(i j:Nat):Builtin.Slice.slicePlaces (i:Int) (j:Int) 1=j-i:=by
 unfold Builtin.Slice.slicePlaces;have h1:(1:Int)>0:=by omega
 simp only[h1,jb,Int.ediv_one];split<;>omega
theorem nR{o:Y Int}{Q:Y Int->A2->Prop}(p:IsPart v o)(h:Q o s):A7 (A8 prog w) A (Builtin.Slice.slicePartIndex v) Q E s:=by
 cases p with
 |none=>exact slicePart_none h
 |int i t=>exact slicePart_int h
theorem qb{sl:A1}{d a:A0}{Q:Int×Int×Nat->A2->Prop}(hs:s.heap.IsSliceOf sl d a .none)(pl:IsPart d lo)(e:IsPart a hi)(h:Q (((iD n 0 lo:Nat):Int),1,iD n n hi-iD n 0 lo) s):A7 (A8 prog w) A (Builtin.Slice.sliceApplied (.ref sl) (pure (n:Int))) Q E s:=by
 obtain⟨os,c,f,b⟩:=id hs;unfold Builtin.Slice.sliceApplied Builtin.Slice.sliceFields;refine zb (zb (qh c b (x:=d) S (zb (qh c b (x:=a) S (zb (qh c b (x:=.none) S (ze ?_)))))));refine zb (slicePart_none ?_);show A7 _ _ (if((1:Int)==0)=true then _ else _) _ _ s;rw[ZA ()];refine zb (nR pl (zb (nR e (zb (ze ?_)))));show A7 _ _ (match Builtin.Slice.sliceAdjust lo hi 1 (n:Int)with|(lo,hi)=>pure (lo,(1:Int),Builtin.Slice.slicePlaces lo hi 1)) _ _ s;rw[PX lo hi n];show A7 _ _ (pure (((iD n 0 lo:Nat):Int),(1:Int),Builtin.Slice.slicePlaces ((iD n 0 lo:Nat):Int) ((iD n n hi:Nat):Int) 1)) _ _ s;rw[Qa];exact ze h
theorem WK(xs:Array A0)(i k:Nat):((da k).filterMap λ(m:Nat)=>xs[((i:Int)+(m:Int)*1).toNat]?).toArray=((xs.toList.drop i).take k).toArray:=by
 have e:(λ(m:Nat)=>xs[((i:Int)+(m:Int)*1).toNat]?)=λm=>xs[i+m]?:=by
  funext m;have:((i:Int)+(m:Int)*1).toNat=i+m:=by omega
  rw[this]
 rw[e];have:=pick_run xs i k;rw[List.filterMap_map]at this;have e2:((λx=>xs[x]?) ∘ λx=>i+x)=λm=>xs[i+m]?:=rfl;rw[e2]at this;rw[this]
theorem w6{t sl:A1}{d c:A0}{Q:BA}(b:IsTup s.heap t items)(hs:s.heap.IsSliceOf sl d c .none)(pl:IsPart d lo)(k:IsPart c hi)(i:¬ (iD items.size 0 lo=0/\iD items.size items.size hi=items.size))(h:Q (.ref s.heap.objs.size) { s with heap:=s.heap.push { cls:=.type "tuple",data:=.seq ((items.toList.drop (iD items.size 0 lo)).take (iD items.size items.size hi-iD items.size 0 lo)).toArray } })(hsz:items.size<=AA):A7 (A8 prog w) A (getItem (.ref t) (.ref sl)) Q E s:=by
 have a:sizeOk (.seq ((items.toList.drop (iD items.size 0 lo)).take (iD items.size items.size hi-iD items.size 0 lo)).toArray):=by
  show((items.toList.drop (iD items.size 0 lo)).take (iD items.size items.size hi-iD items.size 0 lo)).toArray.size<=AA;rw[zv,JU,ko,Q4];omega
 have n:iD items.size items.size hi<=items.size:=OK _ _ (zl _) hi;obtain⟨os,g,j,l⟩:=id hs;have e:s.TypeIs (.ref sl) "slice":=⟨os,g,j⟩;unfold getItem
 try with_reducible refine qq ?_
 first|refine zb (ze ?_)|skip
 refine zb (wpAny_sequenceKey b.typeIs () ?_);refine zb (QQ (name:=Str.ofString "__getitem__") b.typeIs PyProof.Rows.slot_tuple_getitem
  (Qb PyProof.Rows.slot_tuple_getitem b.typeIs entry_tuple_getitem ?_ (args_tuple_getitem _ _)))
 show A7 _ _ (Builtin.Tuple.tupleItemsOf (.ref t) >>= _) _ _ s;refine zb (tupleItemsOf_ b ?_);refine zb (jS e ?_);rw[zt ()];refine zb (qb hs pl k ?_);have f:¬ ((((iD items.size 0 lo:Nat):Int)==0&&(1:Int)==1&&(iD items.size items.size hi-iD items.size 0 lo)==items.size)=true):=by
  intro q;rw[ZZ,ZZ]at q;have q1:((iD items.size 0 lo:Nat):Int)=0:=eq_of_beq q.1.1;have q2:iD items.size items.size hi-iD items.size 0 lo=items.size:=eq_of_beq q.2;exact i ⟨by omega,by omega⟩
 show A7 _ _ (if(((iD items.size 0 lo:Nat):Int)==0&&(1:Int)==1&&(iD items.size items.size hi-iD items.size 0 lo)==items.size)=true then _ else _) _ _ s;rw[ZA f,WK]
 first
  |exact zb (m:=Builtin.Tuple.tupleExact _) (ZT (ze ⟨_,rfl,ze h⟩) a)
  |exact zb (m:=Builtin.Tuple.tupleExact _) (ZT (zb (ze (ze ⟨_,rfl,ze h⟩))) a)
  |exact zb (zb (m:=Builtin.Tuple.tupleExact _) (ZT (ze (ze ⟨_,rfl,ze h⟩)) a))
  |exact zb (zb (m:=Builtin.Tuple.tupleExact _) (ZT (ze ⟨_,rfl,ze h⟩) a))
end HT
namespace L2
abbrev TO:=St->Hp->(Y Int->Hp->Prop)->Prop
def PO(X:Cx)(e:Y Expr)(t:TO):Prop:=
 ∀(AN:O (A1×AE)) (s:A2) (σ:St) (H:Hp) (Q:Y Int->Hp->Prop),AU X AN σ H s->t σ H Q →
  A7 (ii X) X.A (evalPart e X.env) (λu s'=>∃o H',AU X AN σ H' s'/\IsPart u o/\Q o H') X.xe s
def SK:TO:=λ_ H Q=>Q U H
def UD(t:TE):TO:=λσ H Q=>t σ H λx H1=>∃i,x=.int i/\Q (Z i) H1
section
variable{X:Cx}{te:TE}{lo hi:Y Expr}{tl th:TO}
theorem OV:PO X U SK:=by
 intro AN s σ H Q I h;rw[evalPart_none];exact ze ⟨U,H,I,.none,h⟩
theorem aa(h:PE X e te):PO X (Z e) (UD te):=by
 intro AN s σ H Q I a;rw[evalPart_some];refine ig (h AN s σ H _ I a) λu s1 ⟨x,H1,I1,r1,q1⟩=>?_;obtain⟨i,rfl,q⟩:=q1;obtain⟨t,rfl⟩:=r1;exact⟨Z i,H1,I1,.int i t,q⟩
def G0(X:Cx)(r:V->Y Int->Y Int->Hp->VK->Prop):Prop:=
 ∀(AN:O (A1×AE)) (s:A2) (σ:St) (H:Hp) (x:V) (v b a:A0) (lo hi:Y Int) (sl:A1) (Q:VK),AU X AN σ H s->B0 x v->s.heap.IsSliceOf sl b a .none->IsPart b lo->IsPart a hi->r x lo hi H Q →
  ∃T id,typeLookup (.type T) "__getitem__"=pure (Z (.builtin id))/\s.TypeIs v T/\A7 (ii X) X.A (getItem v (.ref sl)) (EP X AN σ Q) X.xe s
def TM(r:V->Y Int->Y Int->Hp->VK->Prop)(te:TE)(tl th:TO):TE:=λσ H Q=>te σ H λx H1=>tl σ H1 λl H2=>th σ H2 λu a=>r x l u a Q
theorem WL{r:V->Y Int->Y Int->Hp->VK->Prop}(c:G0 X r)(he:PE X e te)(i:PO X lo tl)(a:PO X hi th):PE X (.Subscript e (.Slice lo hi U p2) pos) (TM r te tl th):=by
 intro AN s σ H Q I h;refine Subscript_ (ig (he AN s σ H _ I h) λv s1 ⟨x,H1,I1,r1,q1⟩=>?_);refine wpAny_Slice (ig (i AN s1 σ H1 _ I1 q1) λvl s2 ⟨l,H2,I2,pl,q2⟩=>ig (a AN s2 σ H2 _ I2 q2) λvu s3 ⟨u,H3,I3,pu,q3⟩=>?_);rw[evalPart_none];refine ze ?_;have f:AU X AN σ H3 { s3 with heap:=s3.heap.push { cls:=.type "slice",data:=.fields #[vl,vu,.none] } }:=I3.kept (t':=s3.toks) λb k q=>zd _ q;obtain⟨T,id,d,j,g⟩:=c AN { s3 with heap:=s3.heap.push { cls:=.type "slice",data:=.fields #[vl,vu,.none] } } σ H3 x v vl vu l u s3.heap.objs.size Q f r1 (Heap.IsSliceOf.new ..) pl pu q3;show A7 (ii X) X.A (subscriptTail e (.Slice lo hi U p2) v (.ref s3.heap.objs.size)) (EP X AN σ Q) X.xe { s3 with heap:=s3.heap.push { cls:=.type "slice",data:=.fields #[vl,vu,.none] } };exact tail_any (ops:=[.ref s3.heap.objs.size,v]) j d g (by with_unfolding_all rfl)
def Lg(xs:O V)(lo hi:Y Int):O V:=(xs.drop (HT.iD xs.length 0 lo)).take (HT.iD xs.length xs.length hi-HT.iD xs.length 0 lo)
theorem zR(xs:O V)(lo hi:Y Int):(Lg xs lo hi).length<=xs.length:=by
 unfold Lg;rw[JU,ko];omega
def We(K:B4):V->Y Int->Y Int->Hp->VK->Prop:=λx lo hi H Q=>∃a xs,x=.ref a/\sO K H a xs ∧
 ¬ (HT.iD xs.length 0 lo=0/\HT.iD xs.length xs.length hi=xs.length)/\∀p,H p=U->Q (.ref p) (B1 H p (.tup (Lg xs lo hi)))
theorem Pw:G0 X (We X.K):=by
 intro AN s σ H x v m k lo hi sl Q I i f pl j h;obtain⟨a,xs,rfl,hx,g,q⟩:=h;cases i;obtain⟨AQ,r,e,d⟩:=I.tuple hx;have c:AQ.toArray.size=xs.length:=by rw[zv];exact r.length.symm
 refine⟨"tuple", _,PyProof.Rows.slot_tuple_getitem.lookup,e.typeIs,?_⟩;refine HT.w6 e f pl j (by rw[c];exact g) ?_ (by rw[c];exact d);rw[c];refine⟨.ref s.heap.objs.size,_,I.laid (t':=s.toks) (o:=.tup (Lg xs lo hi)) (λb l q=>zd _ q) (zl _) ?_,rfl,q _ (I.hok.fresh (zl _))⟩;exact⟨ZH (zR xs lo hi) d,_,(r.drop (HT.iD xs.length 0 lo)).take (HT.iD xs.length xs.length hi-HT.iD xs.length 0 lo),qC.new _ _⟩
def di(K:B4):R2:=λx y H Q=>∃a b xs ys,x=.ref a/\y=.ref b/\sO K H a xs/\sO K H b ys/\xs≠[]/\xs.length+ys.length<=AA ∧
 (ys=[]->Q (.ref a) H)/\(ys≠[]->∀p,H p=U->Q (.ref p) (B1 H p (.tup (xs++ys))))
theorem AX.Bq{xs:O V}(r:AX xs us):us=[]↔xs=[]:=by
 cases r with
 |nil=>simp
 |cons _ _=>simp
theorem S0:sU X (binaryOp .Add) (di X.K):=by
 intro AN s σ H x y v u Q I i g h;obtain⟨a,b,xs,ys,rfl,rfl,j,f,hx,e,q1,q2⟩:=h;cases i;cases g;obtain⟨AQ,d,p1,_⟩:=I.tuple j;obtain⟨k,c,p2,_⟩:=I.tuple f;refine HT.aap p1 p2 (λz=>hx (d.Bq.mp z)) (λz=>⟨.ref a,H,I,rfl,q1 (c.Bq.mp z)⟩) (λz=>?_) (by rw[<-d.length,<-c.length];exact e);refine⟨.ref s.heap.objs.size,_,I.laid (t':=s.toks) (o:=.tup (xs++ys)) (λb l q=>zd _ q) (zl _) ?_,rfl,q2 (λw=>z (c.Bq.mpr w)) _ (I.hok.fresh (zl _))⟩;exact⟨by rw[zC];exact e,_,d.append c,qC.new _ _⟩
end
end L2
namespace L2
def WM(n:Nat)(i:Int):Y Nat:=if 0<=i then(if i<n then Z i.toNat else U)else if -(n:Int)<=i then Z (i+n).toNat else U
def Av(xs:O α)(i:Int):Y α:=(WM xs.length i).bind λj=>xs[j]?
theorem RV{i:Int}(h:WM n i=Z j):seqIndex? i n=Z j/\j<n ∧ -(n:Int)<=i/\i<n:=by
 unfold WM at h;by_cases a:0<=i
 ·rw[zt a]at h;by_cases h1:i<n
  ·rw[zt h1]at h;have e:i.toNat=j:=JJ h;exact⟨by rw[seqIndex_of a h1,e],by omega,by omega,h1⟩
  ·rw[ZA h1]at h;cases h
 ·rw[ZA a]at h;by_cases h1 : -(n:Int)<=i
  ·rw[zt h1]at h;have e:(i+n).toNat=j:=JJ h;exact⟨by rw[seqIndex_neg () h1,e],by omega,h1,by omega⟩
  ·rw[ZA h1]at h;cases h
theorem IW{xs:O α}{i:Int}{v:α}(h:Av xs i=Z v):∃j,seqIndex? i xs.length=Z j/\xs[j]?=Z v/\j<xs.length ∧ -(xs.length:Int)<=i/\i<xs.length:=by
 unfold Av at h;cases e:WM xs.length i with
 |none=>rw[e]at h;cases h
 |some j=>
  rw[e]at h;obtain⟨h1,h2,a,b⟩:=RV e;exact⟨j,h1,h,h2,a,b⟩
theorem RW{xs:O α}{v:α}(h:xs[j]?=Z v):Av xs (j:Int)=Z v:=by
 have a:j<xs.length:=(ay.mp h).1;have e:WM xs.length (j:Int)=Z j:=by
  unfold WM;rw[zt (),zt ()];simp
 unfold Av;rw[e];exact h
def RZ(b:Expr):Prop:=∀o i,subscripted b false o i=operate [o,i] (getItem o i)
def DA(X:Cx)(r:R2):Prop:=
 ∀(value a:Expr) (AN:O (A1×AE)) (s:A2) (σ:St) (H:Hp) (x y:V) (v u:A0) (Q:VK),AU X AN σ H s->B0 x v->B0 y u->r x y H Q →
  subscripted a false v u=operate [v,u] (getItem v u)->A7 (ii X) X.A (subscriptTail value a v u) (EP X AN σ Q) X.xe s
def LO(X:Cx)(id:String)(r:V->O V->Hp->VK->Prop):Prop:=
 ∀(AN:O (A1×AE)) (s:A2) (σ:St) (H:Hp) (x:V) (xs:O V) (v:A0) (us:O A0) (Q:VK),AU X AN σ H s->B0 x v->AX xs us->r x xs H Q →
  A7 (ii X) X.A (call (.builtin id) (v::us)) (EP X AN σ Q) X.xe s
section
variable{X:Cx}{a b:Expr}{ta tb:TE}
theorem DA.or{r a:R2}(h:DA X r)(h':DA X a):DA X (λx y H Q=>r x y H Q\/a x y H Q):=by
 intro value e AN s σ H x y v u Q I d c q b;rcases q with q|q
 ·exact h value e AN s σ H x y v u Q I d c q b
 ·exact h' value e AN s σ H x y v u Q I d c q b
theorem WQ{r:R2}(d:DA X r)(j:PE X a ta)(c:PE X b tb)(hs:RZ b):PE X (.Subscript a b pos) (DI r ta tb):=by
 intro AN s σ H Q I h;exact Subscript_ (HM j c I h λv u g x y H2 i f e q=>d a b AN g σ H2 x y v u Q i f e q (hs _ _))
def WR(K:B4):R2:=λx y H Q=>∃p xs i v,x=.ref p/\y=.int i/\sI K H p xs/\Av xs i=Z v/\Q v H
def NE(K:B4):R2:=λx y H Q=>∃p xs i v,x=.ref p/\y=.int i/\sO K H p xs/\Av xs i=Z v/\Q v H
def Mm:R2:=λx y H Q=>∃z i c,x=.str z/\y=.int i/\z.length<=AA/\Av z.cps.toList i=Z c/\Q (.str ⟨#[c]⟩) H
theorem Ja:DA X (WR X.K):=by
 intro value D AN s σ H x y v u Q I l k h c;obtain⟨p,xs,i,z,rfl,rfl,A,o,q⟩:=h;cases l;obtain⟨t,rfl⟩:=k;obtain⟨AQ,r,pl,E⟩:=I.list A;obtain⟨j,h1,h2,C,m,g⟩:=IW o;obtain⟨w,d,f⟩:=r.get h2;have n:=r.length;have B:=wj;have b:EP X AN σ Q w s:=⟨z,H,I,f,q⟩;by_cases e:0<=i
 ·have a:i.toNat=j:=by
   rw[seqIndex_of e g]at h1;exact JJ h1
  exact item_listR pl.isList e () (by rw[a];simpa using d) b c
 ·have a:(i+(AQ.toArray.size:Int)).toNat=j:=by
   rw[seqIndex_neg () m]at h1;rw[zv,<-n];exact JJ h1
  exact subscriptTail_builtinR (x:=w) pl.isList.typeIs slot_list_getitem.lookup
   (wpAny_getItem_list_neg (Q:=λr s'=>r=w/\EP X AN σ Q r s') pl.isList () (by rw[zv]<;>omega) () (by rw[a];simpa using d) ⟨rfl,b⟩) c
theorem XU:DA X (NE X.K):=by
 intro value o AN s σ H x y v u Q I f e h c;obtain⟨p,xs,i,z,rfl,rfl,l,k,q⟩:=h;cases f;obtain⟨t,rfl⟩:=e;obtain⟨AQ,r,pl,B⟩:=I.tuple l;obtain⟨j,h1,h2,n,C,A⟩:=IW k;obtain⟨w,d,b⟩:=r.get h2;have g:=r.length;have m:=wj;have a:EP X AN σ Q w s:=⟨z,H,I,b,q⟩;exact subscriptTail_builtinR (x:=w) pl.typeIs slot_tuple_getitem.lookup
  (getItem_tuple (j:=j) (Q:=λr s'=>r=w/\EP X AN σ Q r s') pl () () (by rw[zv,<-g];exact h1) (by simpa using d) ⟨rfl,a⟩) c
theorem VU:DA X Mm:=by
 intro value o AN s σ H x y v u Q I e d h a;obtain⟨z,i,c,rfl,rfl,p,k,q⟩:=h;obtain⟨t,rfl⟩:=e;obtain⟨n,rfl⟩:=d;obtain⟨j,h1,h2,m,f,b⟩:=IW k;have g:z.cps.toList.length=z.length:=by simp[Str.length]
 rw[g]at h1 f b;have l:=wj;exact tail_any (typeIs_str s z t) slot_str_getitem.lookup (getItem_str (c:=c) (by
  have e1:decide (i < -(2 ^ 63:Int))=false:=ZU ();have e2:decide (i>=2 ^ 63)=false:=ZU ();rw[e1,e2,Bool.or_false]) (by rw[h1];simpa using h2) ⟨.str ⟨#[c]⟩,H,I.tok _,⟨_,rfl⟩,q⟩) a
def eJ(K:B4):R2:=λx y H Q=>WR K x y H Q\/NE K x y H Q\/Mm x y H Q
theorem dm:DA X (eJ X.K):=Ja.or (XU.or VU)
theorem Qc(AQ:O A0)(n j:Nat)(u:A0):Obj.mapSeq (·.setIfInBounds j u) { cls:=.type "list",data:=.seq AQ.toArray n }={ cls:=.type "list",data:=.seq (AQ.set j u).toArray n }:=by
 simp[Obj.mapSeq]
theorem AU.lst{σ:St}{H:Hp}{p:A1}{xs:O V}(I:AU X AN σ H s)(h:H p=Z (.lst xs)):
  ∃(AQ:O A0) (n:Nat),AX xs AQ/\s.heap.get? p=Z { cls:=.type "list",data:=.seq AQ.toArray n }/\xs.length<=AA:=by
 obtain⟨z,AQ,n,r,e⟩:=I.hok p _ h;exact⟨AQ,n,r,e,z⟩
theorem AU.adY{σ:St}{H:Hp}{p:A1}{xs ys:O V}{its':O A0}{a:Nat}{f:AE->AE}(I:AU X AN σ H s)(h:H p=Z (.lst xs))(i:s.heap.get? p=Z { cls:=.type "list",data:=.seq AQ.toArray n })(c:f { cls:=.type "list",data:=.seq AQ.toArray n }={ cls:=.type "list",data:=.seq its'.toArray a })(r:AX ys its')(g:ys.length<=AA)(t:Nat):
  AU X AN σ (B1 H p (.lst ys)) { s with heap:=s.heap.update p f,toks:=t }:=by
 have e:(s.heap.update p f).get? p=Z { cls:=.type "list",data:=.seq its'.toArray a }:=by
  rw[qB f i (by rw[c]<;>rfl),c]
 refine I.write (x:=p) (e:=p) (by rw[h];trivial) (.inl S) (λb u d q=>(qV _ _ (Q2 d)).trans q) ⟨_,e⟩ ?_;exact⟨g,its',a,r,e⟩
def TU:V->V->V->Hp->(Hp->Prop)->Prop:=λo i v H Q=>∃p xs k j,o=.ref p/\i=.int k/\H p=Z (.lst xs)/\WM xs.length k=Z j/\Q (B1 H p (.lst (xs.set j v)))
theorem Ch:N1 X TU:=by
 intro AN s σ H o i v z iv u Q I l w x h;obtain⟨p,xs,k,j,rfl,rfl,hp,g,q⟩:=h;cases l;obtain⟨t,rfl⟩:=w;obtain⟨AQ,n,r,b,m⟩:=I.lst hp;obtain⟨h1,h2,c,d⟩:=RV g;have a:=r.length;have y:=wj;have e:AU X AN σ (B1 H p (.lst (xs.set j v))) { s with heap:=s.heap.update p (Obj.mapSeq (·.setIfInBounds j u)) }:=
  I.adY hp b (Qc AQ n j u) (r.set x j) (by rw[qi];exact m) s.toks
 by_cases f:0<=k
 ·have hk:k.toNat=j:=by
   rw[seqIndex_of f d]at h1;exact JJ h1
  exact PySem.W.ki_setAt b f () (by rw[zv,<-a];exact d) (by rw[hk];exact⟨_,e,q⟩)
 ·have hk:(k+(AQ.toArray.size:Int)).toNat=j:=by
   rw[seqIndex_neg () c]at h1;rw[zv,<-a];exact JJ h1
  exact PySem.W.ki_setBack b () (by rw[zv,<-a];exact c) () (by rw[hk];exact⟨_,e,q⟩)
theorem Jb(lo hi:Y Int)(n:Nat):(sliceBounds lo hi U n).1=((HT.iD n 0 lo:Nat):Int)/\(sliceBounds lo hi U n).2.1=((HT.iD n n hi:Nat):Int)/\(sliceBounds lo hi U n).2.2=1:=by
 refine⟨?_,?_,rfl⟩
 ·cases lo with
  |none=>simp[sliceBounds,HT.iD]
  |some i=>
   simp only[sliceBounds,HT.iD,mi,show(1:Int)>0 by decide,jb];by_cases h:i<0
   ·simp only[h,jb]<;>omega
   ·simp only[h,qr]<;>omega
 ·cases hi with
  |none=>simp[sliceBounds,HT.iD]
  |some i=>
   simp only[sliceBounds,HT.iD,mi,show(1:Int)>0 by decide,jb];by_cases h:i<0
   ·simp only[h,jb]<;>omega
   ·simp only[h,qr]<;>omega
theorem Gb(AQ:O A0)(lo hi:Y Int):slicePick AQ.toArray lo hi U=((AQ.drop (HT.iD AQ.length 0 lo)).take (HT.iD AQ.length AQ.length hi-HT.iD AQ.length 0 lo)).toArray:=by
 obtain⟨h1,h2,a⟩:=Jb lo hi AQ.toArray.size;unfold slicePick;rw[h1,h2,a];simp only[sliceRange_one,pick_run,zv]<;>rfl
def VM(K:B4):V->Y Int->Y Int->Hp->VK->Prop:=λx lo hi H Q=>∃a xs,x=.ref a/\sI K H a xs/\∀p,H p=U->Q (.ref p) (B1 H p (.lst (Lg xs lo hi)))
theorem OY:G0 X (VM X.K):=by
 intro AN s σ H x v l j lo hi sl Q I g d pl i h;obtain⟨a,xs,rfl,hx,q⟩:=h;cases g;obtain⟨AQ,r,c,f⟩:=I.list hx;have e:=r.length;refine⟨"list", _,slot_list_getitem.lookup,c.isList.typeIs,?_⟩;refine wpAny_getItem_list_slice c.isList d pl i .none (by simp) ?_ (by rw[zv]<;>omega);rw[Gb,<-e];refine⟨.ref s.heap.objs.size,_,I.laid (t':=s.toks) (o:=.lst (Lg xs lo hi)) (λb k q=>zd _ q) (zl _) ?_,rfl,q _ (I.hok.fresh (zl _))⟩;exact⟨ZH (zR xs lo hi) f,_,0,(r.drop (HT.iD xs.length 0 lo)).take (HT.iD xs.length xs.length hi-HT.iD xs.length 0 lo),zr _ rfl⟩
def rN:V->Bool
 |.non=>true
 |.bl _=>true
 |.int _=>true
 |.str _=>true
 |_=>false
def D2:V->V->Bool
 |.non,.non=>true
 |.bl a,.bl b=>a==b
 |.bl a,.int b=>(if a then 1 else 0)==b
 |.int a,.bl b=>a==(if b then 1 else 0)
 |.int a,.int b=>a==b
 |.str a,.str b=>a==b
 |_,_=>false
theorem SH{y x:V}(e:B0 y u)(c:B0 x v)(fy:rN y=true)(fx:rN x=true):SeqAt.EqAt A s u v (D2 y x):=by
 cases y with
 |non=>
  cases e;cases x with
  |non=>cases c;exact SeqAt.EqAt.same _
  |bl b=>cases c;exact SeqAt.EqAt.none_bool b
  |int b=>obtain⟨t,rfl⟩:=c;exact SeqAt.EqAt.none_int b t
  |str b=>obtain⟨t,rfl⟩:=c;exact SeqAt.EqAt.none_str b t
  |_=>exact absurd (show false=true from fx) zI
 |bl a=>
  cases e;cases x with
  |non=>cases c;exact SeqAt.EqAt.bool_none a
  |bl b=>cases c;exact SeqAt.EqAt.bool_bool a b
  |int b=>obtain⟨t,rfl⟩:=c;exact SeqAt.EqAt.bool_int a b t
  |str b=>obtain⟨t,rfl⟩:=c;exact SeqAt.EqAt.bool_str a b t
  |_=>exact absurd (show false=true from fx) zI
 |int a=>
  obtain⟨d,rfl⟩:=e;cases x with
  |non=>cases c;exact SeqAt.EqAt.int_none a d
  |bl b=>cases c;exact SeqAt.EqAt.int_bool a d b
  |int b=>obtain⟨t,rfl⟩:=c;exact SeqAt.EqAt.int_int a d b t
  |str b=>obtain⟨t,rfl⟩:=c;exact SeqAt.EqAt.int_str a d b t
  |_=>exact absurd (show false=true from fx) zI
 |str a=>
  obtain⟨d,rfl⟩:=e;cases x with
  |non=>cases c;exact SeqAt.EqAt.str_none a d
  |bl b=>cases c;exact SeqAt.EqAt.str_bool a d b
  |int b=>obtain⟨t,rfl⟩:=c;exact SeqAt.EqAt.str_int a d b t
  |str b=>obtain⟨t,rfl⟩:=c;exact SeqAt.EqAt.str_str a d b t
  |_=>exact absurd (show false=true from fx) zI
 |_=>exact absurd (show false=true from fy) zI
def Qd(x:V)(u:A0):Bool:=match u with
 |.none=>D2 .non x
 |.bool b=>D2 (.bl b) x
 |.int i _=>D2 (.int i) x
 |.str z _=>D2 (.str z) x
 |_=>false
theorem WT{x y:V}(r:B0 y u)(f:rN y=true):Qd x u=D2 y x:=by
 cases y with
 |non=>cases r;rfl
 |bl b=>cases r;rfl
 |int i=>obtain⟨t,rfl⟩:=r;rfl
 |str z=>obtain⟨t,rfl⟩:=r;rfl
 |_=>exact absurd (show false=true from f) zI
theorem xq{x:V}:∀{xs:O V} {us:O A0},AX xs us->xs.all rN=true->us.any (Qd x)=xs.any λy=>D2 y x
 |_,_,.nil,_=>rfl
 |y::xs,u::us,.cons r t,f=>by
  rw[kC,ZZ]at f;rw[KG,KG,WT r f.1,xq t f.2]
theorem sW{A:A5}{s:A2}{x:V}{v:A0}(b:B0 x v)(fx:rN x=true):∀{xs:O V} {us:O A0},AX xs us->xs.all rN=true->∀u∈us,SeqAt.EqAt A s u v (Qd x u)
 |_,_,.nil,_=>λu a=>by cases a
 |y::xs,u::us,.cons r t,f=>λc a=>by
  rw[kC,ZZ]at f;rcases List.mem_cons.mp a with rfl|a
  ·rw[WT r f.1];exact SH r b f.1 fx
  ·exact sW b fx t f.2 c a
def Fm(x:V)(xs:O V):Bool:=xs.any λy=>D2 y x
def NC(K:B4)(a:Bool):R2:=λx y H Q=>∃p xs,y=.ref p/\(sI K H p xs\/sO K H p xs)/\rN x=true/\xs.all rN=true/\Q (.bl (if a then !Fm x xs else Fm x xs)) H
theorem Um:sU X (AG .In) (NC X.K false):=by
 intro AN s σ H x y v u Q I c e h;obtain⟨p,xs,rfl,a,fx,fs,q⟩:=h;cases e;rcases a with a|a
 ·obtain⟨AQ,r,pl,d⟩:=I.list a;refine SeqAt.in_listAt (Qd x) pl.isList (λw b=>sW c fx r fs w (by simpa using b)) ⟨.bl _,H,I,rfl,?_⟩;rw[show AQ.toArray.any (Qd x)=AQ.any (Qd x) by simp,xq r fs];exact q
 ·obtain⟨AQ,r,pl,d⟩:=I.tuple a;refine SeqAt.in_tupleAt (Qd x) pl (λw b=>sW c fx r fs w (by simpa using b)) ⟨.bl _,H,I,rfl,?_⟩;rw[show AQ.toArray.any (Qd x)=AQ.any (Qd x) by simp,xq r fs];exact q
theorem Jc:sU X (AG .NotIn) (NC X.K true):=by
 intro AN s σ H x y v u Q I c e h;obtain⟨p,xs,rfl,a,fx,fs,q⟩:=h;cases e;rcases a with a|a
 ·obtain⟨AQ,r,pl,d⟩:=I.list a;refine SeqAt.notIn_listAt (Qd x) pl.isList (λw b=>sW c fx r fs w (by simpa using b)) ⟨.bl _,H,I,rfl,?_⟩;rw[show AQ.toArray.any (Qd x)=AQ.any (Qd x) by simp,xq r fs];exact q
 ·obtain⟨AQ,r,pl,d⟩:=I.tuple a;refine SeqAt.notIn_tupleAt (Qd x) pl (λw b=>sW c fx r fs w (by simpa using b)) ⟨.bl _,H,I,rfl,?_⟩;rw[show AQ.toArray.any (Qd x)=AQ.any (Qd x) by simp,xq r fs];exact q
theorem Jd:sU X (AG .NotIn) (λx y H Q=>∃i j,x=.str i/\y=.str j/\Q (.bl (!(!(Builtin.Str.occurrences j i 0 j.length 1).isEmpty))) H):=by
 intro AN s σ H x y v u Q I b a h;obtain⟨i,j,rfl,rfl,q⟩:=h;obtain⟨t,rfl⟩:=b;obtain⟨c,rfl⟩:=a;exact notIn_str ⟨.bl _,H,I,rfl,q⟩
theorem Je:fU X (.builtin "len") (λxs H Q=>∃p ys,xs=[.ref p]/\(sI X.K H p ys\/sO X.K H p ys)/\Q (.int ys.length) H):=by
 intro AN s σ H xs us Q I r h;obtain⟨p,ys,rfl,a,q⟩:=h;obtain⟨u,rfl,e⟩:=BH r;cases e;have f:=wj;rcases a with a|a
 ·obtain⟨AQ,b,pl,d⟩:=I.list a;have c:=b.length;exact Calls.call_len_list pl.isList (by simp only[zv]<;>omega) ⟨.int ys.length,H,I.tok _,⟨s.toks+1,by rw[zv,c]⟩,q⟩
 ·obtain⟨AQ,b,pl,d⟩:=I.tuple a;have c:=b.length;exact len_tuple pl (by simp only[zv]<;>omega) ⟨.int ys.length,H,I.tok _,⟨s.toks+1,by rw[zv,c]⟩,q⟩
theorem Jf:fU X (.builtin "len") (λxs H Q=>∃z,xs=[.str z]/\z.length<=AA/\Q (.int z.length) H):=by
 intro AN s σ H xs us Q I r h;obtain⟨z,rfl,b,q⟩:=h;obtain⟨u,rfl,t,rfl⟩:=BH r;have a:=wj;exact len_str () ⟨.int z.length,H,I.tok _,⟨_,rfl⟩,q⟩
theorem fU.or{f:A0}{r a:O V->Hp->VK->Prop}(h:fU X f r)(h':fU X f a):fU X f (λxs H Q=>r xs H Q\/a xs H Q):=by
 intro AN s σ H xs us Q I b q;rcases q with q|q
 ·exact h AN s σ H xs us Q I b q
 ·exact h' AN s σ H xs us Q I b q
theorem Jg:fU X (.type "list") (λxs H Q=>∃p ys,xs=[.ref p]/\(sI X.K H p ys\/sO X.K H p ys)/\∀l,H l=U->Q (.ref l) (B1 H l (.lst ys))):=by
 intro AN s σ H xs us Q I r h;obtain⟨p,ys,rfl,d,q⟩:=h;obtain⟨u,rfl,m⟩:=BH r;cases m;have j:∀(AQ:O A0),AX ys AQ->ys.length<=AA->∀(h':A6) (c':Nat),(∀b o',s.heap.get? b=Z o'->h'.get? b=Z o') →
   h'.get? s.heap.objs.size=Z { cls:=.type "list",dict:=U,data:=.seq AQ.toArray c',slots:=#[] }->EP X AN σ Q (.ref s.heap.objs.size) { s with heap:=h' }:=λAQ a c h' c' kp e=>
  ⟨.ref s.heap.objs.size,_,I.laid (t':=s.toks) kp (zl _) (show eU X.prog X.w _ h' _ (.lst ys) from⟨c,AQ,c',a,e⟩),rfl,q _ (I.hok.fresh (zl _))⟩
 rcases d with d|d
 ·obtain⟨AQ,a,pl,c⟩:=I.list d;have k:=a.length;obtain⟨o,i,g,n,f⟩:=pl.isList;exact call_list_seq p (.inl S) i g f (λh' c' kp e=>j AQ a c h' c' kp e) (by simp only[zv]<;>omega)
 ·obtain⟨AQ,a,pl,c⟩:=I.tuple d;have k:=a.length;obtain⟨o,i,g,n,f⟩:=pl;exact call_list_seq p (.inr S) i g f (λh' c' kp e=>j AQ a c h' c' kp e) (by simp only[zv]<;>omega)
theorem Gd:fU X (.type "tuple") (λxs H Q=>∃p ys,xs=[.ref p]/\((sI X.K H p ys/\∀l,H l=U->Q (.ref l) (B1 H l (.tup ys)))\/(sO X.K H p ys/\Q (.ref p) H))):=by
 intro AN s σ H xs us Q I r h;obtain⟨p,ys,rfl,h⟩:=h;obtain⟨u,rfl,g⟩:=BH r;cases g;rcases h with⟨c,q⟩|⟨c,q⟩
 ·obtain⟨AQ,a,pl,f⟩:=I.list c;have j:=a.length;refine call_tuple_list pl.isList (λh' kp=>?_) (by simp only[zv]<;>omega);have d:AU X AN σ H { s with heap:=h' }:=I.kept (t':=s.toks) kp;have i:AU X AN σ (B1 H h'.objs.size (.tup ys)) { s with heap:=h'.push { cls:=.type "tuple",data:=.seq AQ.toArray } }:=
   d.laid (t':=s.toks) (λb o e=>zd _ e) (zl _) (show eU X.prog X.w _ _ _ (.tup ys) from⟨f,AQ,a,qC.new _ _⟩)
  exact⟨.ref h'.objs.size,_,i,rfl,q _ (d.hok.fresh (zl _))⟩
 ·obtain⟨AQ,a,pl,f⟩:=I.tuple c;exact call_tuple_same pl ⟨.ref p,H,I,rfl,q⟩
def N2(K:B4)(T:String)(x:V)(H:Hp):Prop:=match x with
 |.str _=>T ="str"
 |.int _=>T ="int"
 |.ref p=>(T ="list" ∧ ∃xs,sI K H p xs)\/(T ="tuple" ∧ ∃o,K.lookup p=Z o/\o.cls=.type "tuple" ∧ o.dict=U) ∨
   (T ="dict" ∧ ((∃AO,H p=Z (.dK AO))\/∃AO,H p=Z (.dT AO)))\/(T ="set" ∧ ∃S n,H p=Z (.set S n))
 |_=>False
theorem Pp{σ:St}{H:Hp}{T:String}{x:V}(I:AU X AN σ H s)(r:B0 x v)(ty:N2 X.K T x H):
  s.TypeIs v T/\∀a,v=.ref a->∃d,s.heap.get? a=Z d/\d.dict=U:=by
 cases x with
 |str z=>
  obtain⟨t,rfl⟩:=r;cases(show T ="str" from ty);exact⟨typeIs_str s z t,λ_ e=>nomatch e⟩
 |int i=>
  obtain⟨t,rfl⟩:=r;cases(show T ="int" from ty);exact⟨typeIs_int s i t,λ_ e=>nomatch e⟩
 |ref p=>
  cases r;rcases ty with⟨rfl,xs,g⟩|⟨rfl,o,hk,f,b⟩|⟨rfl,hk⟩|⟨rfl,S,n,hk⟩
  ·obtain⟨AQ,_,pl,_⟩:=I.list g;refine⟨pl.isList.typeIs,λa e=>?_⟩;cases e;obtain⟨o,n,e,c,b,_⟩:=pl;exact⟨o,e,b⟩
  ·refine⟨⟨o,I.K7 p o hk,f⟩,λa e=>?_⟩;cases e;exact⟨o,I.K7 _ o hk,b⟩
  ·have z:∃o,s.heap.get? p=Z o/\o.ExactDict:=by
    rcases hk with⟨AO,hk⟩|⟨AO,hk⟩
    ·obtain⟨_,_,_,_,o,_,_,e,ex,_⟩:=I.hok p _ hk;exact⟨o,e,ex⟩
    ·obtain⟨_,_,_,_,o,_,_,e,ex,_⟩:=I.hok p _ hk;exact⟨o,e,ex⟩
   obtain⟨o,e,ex⟩:=z;refine⟨⟨o,e,ex.1⟩,λa e2=>?_⟩;cases e2;exact⟨o,e,ex.2.1⟩
  ·obtain⟨o,_,_,_,e,ex,_⟩:=I.hok p _ hk;refine⟨⟨o,e,ex.1⟩,λa e2=>?_⟩;cases e2;exact⟨o,e,ex.2.1⟩
 |_=>exact False.elim ty
def EG(K:B4)(T:String)(r:V->O V->Hp->VK->Prop)(to:TE)(t:TA):TE:=λσ H Q=>to σ H λx H1=>N2 K T x H1/\t σ H1 λxs H2=>r x xs H2 Q
variable{o:Expr}{to:TE}{t:TA}{T id:String}{r:V->O V->Hp->VK->Prop}
theorem Cj(pa:PlainAttrs T)(slot:Slot T name id)(d:typeOf (.builtin id)=pure (.type "method_descriptor"))(f:LO X id r)(k:PE X o to)(j:PA X (e::es) t)
  (i:attributeBase o name X.env (eval o X.env)=eval o X.env:=by rfl)
  (c:((AD cpos (A9 (e::es) X.env)).all (λx=>!x.1)&&(backToKw cpos (keywordEach [] X.env)).all (λx=>x.1.isSome)
   && decide ((e::es).length+([]:O AC).length+(if([]:O AC).isEmpty then 0 else 1)<30))=true:=by rfl)
  (g:(apos.endLine==cpos.line)=true:=by rfl) (hs:A9 (e::es) X.env=(false,eval e X.env)::A9 es X.env:=by rfl) (b:(AD cpos (A9 es X.env)).any (·.1)=false:=by rfl):
  PE X (.Call (.Attribute o name apos) (e::es) [] cpos) (EG X.K T r to t):=by
 intro AN s σ H Q I h;refine wpAny_Call_method_late i c g S (ig (k AN s σ H _ I h) λv s1 ⟨x,H1,I1,r1,ty,q1⟩=>?_);obtain⟨h1,h2⟩:=Pp I1 r1 ty;refine⟨T,id,pa,slot,d,h1,h2,?_⟩;have a:=j cpos AN s1 σ H1 _ I1 q1;rw[hs]at a ⊢;refine Calls.callWith_builtin (by show(false||(AD cpos (A9 es X.env)).any (·.1))=false;rw[b]<;>rfl) (Calls.evalArgs_plain ?_);exact ig a λus s2 ⟨vs,H2,I2,r2,q2⟩=>f AN s2 σ H2 x vs v us Q I2 r1 r2 q2
end
end L2
namespace L2
def HA(X:Cx)(id:String)(r:V->O V->Hp->VK->Prop):Prop:=
 ∀(AN:O (A1×AE)) (s:A2) (σ:St) (H:Hp) (x:V) (xs:O V) (v:A0) (us:O A0) (Q:VK),AU X AN σ H s->B0 x v->AX xs us->r x xs H Q →
  A7 (ii X) X.A (call (.builtin id) (v::us)) (EP X AN σ Q) X.xe s
theorem AX.one:∀{x:V} {us:O A0},AX [x] us->∃u,us=[u]/\B0 x u:=λh=>by
 cases h with
 |cons r t=>cases t;exact⟨_,rfl,r⟩
theorem AX.two:∀{x y:V} {us:O A0},AX [x,y] us->∃u v,us=[u,v]/\B0 x u/\B0 y v:=λh=>by
 cases h with
 |cons r t=>
  cases t with
  |cons q t=>cases t;exact⟨_,_,rfl,r,q⟩
theorem AX.eraseIdx:∀{xs:O V} {us:O A0} (i:Nat),AX xs us->AX (xs.eraseIdx i) (us.eraseIdx i)
 |_,_,_,.nil=>.nil
 |_,_,0,.cons _ t=>t
 |_,_,i+1,.cons r t=>.cons r (AX.eraseIdx i t)
theorem AX.reverse{xs:O V}(h:AX xs us):AX xs.reverse us.reverse:=by
 induction h with
 |nil=>exact .nil
 |cons r t a=>rw[Y1,Y1];exact AX.append a (.cons r .nil)
theorem G5{α:Type}:∀(l:O α) (i:Nat),(l.eraseIdx i).length<=l.length
 |[],_=>zl _
 |_::_,0=>JI _
 |_::r,i+1=>xb (G5 r i)
section
variable{X:Cx}{σ:St}{H:Hp}{b:A1}{xs ys zs:O V}
theorem AU.WW{its':O A0}{f:Array A0->Array A0}{t':Nat}(I:AU X AN σ H s)(d:H l=Z (.lst xs))(e:s.heap.get? l=Z { cls:=.type "list",data:=.seq AQ.toArray n })(a:f AQ.toArray=its'.toArray)(h:AX ys its')(g:ys.length<=AA):
  AU X AN σ (B1 H l (.lst ys)) { s with heap:=s.heap.update l (Obj.mapSeq f),toks:=t' }:=by
 have q:=PySem.IsL.update e f;rw[a]at q;refine I.write (x:=l) (e:=l) (by rw[d];exact trivial) (.inl S) (λi u c b=>(qV s.heap (Obj.mapSeq f) (Q2 c)).trans b) ⟨_,q⟩ ?_;exact⟨g,its',_,h,q⟩
theorem AU.ajc{t':Nat}(I:AU X AN σ H s)(b:AX ys AQ)(a:ys.length<=AA):
  AU X AN σ (B1 H s.heap.objs.size (.lst ys)) { s with heap:=s.heap.push { cls:=.type "list",data:=.seq AQ.toArray },toks:=t' }:=
 I.laid (λ_ _ q=>zd _ q) (zl _) ⟨a,AQ,0,b,zr _ rfl⟩
theorem AU.fresh(I:AU X AN σ H s):H s.heap.objs.size=U:=I.hok.fresh (zl _)
theorem AU.WX(I:AU X AN σ H s)(a:H l=Z (.lst xs)):xs.length<=AA/\∃(AQ:O A0) (n:Nat),AX xs AQ/\xs.length=AQ.length/\s.heap.get? l=Z { cls:=.type "list",data:=.seq AQ.toArray n }:=by
 obtain⟨z,AQ,n,r,e⟩:=I.hok l _ a;exact⟨z,AQ,n,r,r.length,e⟩
end
section
variable{X:Cx}
def Br:V->O V->Hp->VK->Prop:=λx vs H Q=>∃l xs y,x=.ref l/\vs=[y]/\H l=Z (.lst xs)/\xs.length<AA/\Q .non (B1 H l (.lst (xs++[y])))
theorem nJ:HA X "list.append" Br:=by
 intro AN s σ H x vs v us Q I b c h;obtain⟨l,xs,y,rfl,rfl,a,f,q⟩:=h;cases b;obtain⟨u,rfl,d⟩:=c.one;obtain⟨z,AQ,n,r,g,e⟩:=I.WX a;refine call_meets F.slot_list_append ⟨_,e,rfl⟩ F.entry_list_append (F.args_list_append_2 _ _) (PySem.list_append l AQ.toArray n u (by rw[zv];omega)) ⟨e,?_⟩;refine⟨.non,_,I.WW (its':=AQ++[u]) a e (by simp) (r.append (.cons d .nil)) ?_,rfl,q⟩;rw[zC,qc];omega
def Qe:V->O V->Hp->VK->Prop:=λx vs H Q=>∃l xs i k y,x=.ref l/\vs=[.int i]/\H l=Z (.lst xs) ∧ -(2 ^ 63)<=i/\i<2 ^ 63/\seqIndex? i xs.length=Z k/\xs[k]?=Z y/\Q y (B1 H l (.lst (xs.eraseIdx k)))
theorem WY:HA X "list.pop" Qe:=by
 intro AN s σ H x vs v us Q I d f h;obtain⟨l,xs,i,k,y,rfl,rfl,a,h1,h2,hk,j,q⟩:=h;cases d;obtain⟨u,rfl,m⟩:=f.one;obtain⟨t,rfl⟩:=m;obtain⟨z,AQ,n,r,g,e⟩:=I.WX a;obtain⟨w,c,b⟩:=r.get j;refine call_meets F.slot_list_pop ⟨_,e,rfl⟩ F.entry_list_pop (F.args_list_pop_2 _ _)
  (MeetsSeq.list_pop_at l AQ.toArray n i t k w (fitsIndex_both h1 h2) (by rw[zv,<-g];exact hk) (by rw[<-yB];exact c) (by rw[zv];omega)) ⟨e,?_⟩
 refine⟨y,_,I.WW (its':=AQ.eraseIdx k) a e ?_ (r.eraseIdx k) ?_,b,q⟩
 ·show AQ.toArray.eraseIdxIfInBounds k=(AQ.eraseIdx k).toArray;rw[List.eraseIdxIfInBounds_toArray]
 ·have:=G5 xs k;omega
def WB:R2:=λx y H Q=>∃l b xs zs,x=.ref l/\y=.ref b/\H l=Z (.lst xs)/\H b=Z (.lst zs)/\xs.length+zs.length<=AA/\∀p,H p=U->Q (.ref p) (B1 H p (.lst (xs++zs)))
theorem OQ:sU X (binaryOp .Add) WB:=by
 intro AN s σ H x y v u Q I g f h;obtain⟨l,b,xs,zs,rfl,rfl,c,i,m,q⟩:=h;cases g;cases f;obtain⟨z,AQ,n,r,o,e⟩:=I.WX c;obtain⟨z2,a,k,d,j,e2⟩:=I.WX i;refine PySem.P.add_list e e2 ?_ (by rw[zv,zv];omega);have ea:AQ.toArray++a.toArray=(AQ++a).toArray:=by simp
 rw[ea];exact⟨.ref _,_,I.ajc (t':=s.toks) (r.append d) (by rw[zC];omega),rfl,q _ I.fresh⟩
end
section
variable{X:Cx}
end
end L2
namespace L2
section
variable [DecidableEq κ]
def qd(AO:O (κ×V))(k:κ):Y V:=(AO.find? λa=>decide (a.1=k)).map (·.2)
def C2(AO:O (κ×V))(k:κ)(v:V):O (κ×V):=
 if(AO.any λa=>decide (a.1=k))=true then AO.map (λa=>if a.1=k then(a.1,v)else a)else AO++[(k,v)]
theorem sX{p:κ×V}{r:O (κ×V)}{k:κ}(e:p.1=k):qd (p::r) k=Z p.2:=by simp[qd,JO,e]
theorem sY{p:κ×V}{r:O (κ×V)}{k:κ}(e:¬ p.1=k):qd (p::r) k=qd r k:=by simp[qd,JO,e]
theorem Ck(k:κ):∀AO:O (κ×V),(AO.any λa=>decide (a.1=k))=(qd AO k).isSome
 |[]=>rfl
 |p::r=>by
  rw[KG];by_cases e:p.1=k
  ·simp only[sX e,qS e,Bool.true_or,YR]
  ·rw[sY e,ZU e,hH];exact Ck k r
theorem Lh(AO:O (κ×V))(k:κ)(v:V):(C2 AO k v).length<=AO.length+1:=by
 unfold C2;split
 ·rw[zk];omega
 ·rw[zC,Qr,iP];omega
theorem KV.val{AO:O (κ×V)}{vs:O (κ×A0)}(r:KV AO vs)(k:κ):K6 (qd AO k) (valueAt vs k):=by
 unfold KV at r
 induction r with
 |nil=>exact True.intro
 |@cons p q ps a h t c=>
  obtain⟨h1,h2⟩:=h;by_cases e:p.1=k
  ·have e':q.1=k:=h1.symm.trans e;have b:valueAt (q::a) k=Z q.2:=by simp[valueAt,JO,e']
   rw[sX e,b];exact h2
  ·have e':¬ q.1=k:=λz=>e (h1.trans z);have b:valueAt (q::a) k=valueAt a k:=by simp[valueAt,JO,e']
   rw[sY e,b];exact c
theorem KV.any{AO:O (κ×V)}{vs:O (κ×A0)}(r:KV AO vs)(k:κ):(AO.any λa=>decide (a.1=k))=vs.any λa=>decide (a.1=k):=by
 unfold KV at r
 induction r with
 |nil=>rfl
 |cons h t b=>rw[KG,KG,b,h.1]
theorem KV.repl{AO:O (κ×V)}{vs:O (κ×A0)}(r:KV AO vs)(k:κ){y:V}(c:B0 y u):
  KV (AO.map λa=>if a.1=k then(a.1,y)else a) (vs.map λa=>if a.1=k then(a.1,u)else a):=by
 unfold KV at r ⊢
 induction r with
 |nil=>exact .nil
 |@cons p q ps d h t b=>
  rw[Zl,Zl];refine .cons ?_ b;obtain⟨h1,h2⟩:=h;by_cases e:p.1=k
  ·rw[zt e,zt (h1.symm.trans e)];exact⟨h1,c⟩
  ·rw[ZA e,ZA (λz=>e (h1.trans z))];exact⟨h1,h2⟩
theorem KV.put{AO:O (κ×V)}{vs:O (κ×A0)}(r:KV AO vs)(k:κ){y:V}(a:B0 y u):KV (C2 AO k y) (stored vs k u):=by
 unfold C2 stored;rw[r.any k];by_cases e:(vs.any λb=>decide (b.1=k))=true
 ·rw[zt e,zt e];exact r.repl k a
 ·rw[ZA e,ZA e];exact Paired.snoc r ⟨rfl,a⟩
theorem KV.length{AO:O (κ×V)}{vs:O (κ×A0)}(r:KV AO vs):AO.length=vs.length:=Paired.length r
end
theorem R0{k:AY}(r:B0 (kV k) u):(eG P w).is k u=true:=by
 cases k with
 |inl i=>obtain⟨t,e⟩:=(show ∃t,u=Value.int i t from r);subst e;exact K4 P w i t
 |inr x=>obtain⟨t,e⟩:=(show ∃t,u=Value.str x t from r);subst e;exact K5 P w x t
theorem G7{P:A3}{w:A4}:∀{ks:O AY} {us:O A0},AX (ks.map kV) us->ItemsAre (eG P w) ks us
 |[],_,r=>by rw[kP]at r;cases r;exact .nil
 |k::ks,_,r=>by
  rw[Zl]at r;cases r with
  |cons h t=>exact .cons (R0 h) (G7 t)
abbrev KT(H:Hp):O (O AY×V)->O (O AY×A1×A0)->Prop:=AI λp q=>p.1=q.1/\H q.2.1=Z (.tup (p.1.map kV))/\B0 p.2 q.2.2
theorem KT.val{H:Hp}{AO:O (O AY×V)}{xs:O (O AY×A1×A0)}(r:KT H AO xs)(k:O AY):K6 (qd AO k) ((atKey xs k).map (·.2)):=by
 induction r with
 |nil=>exact True.intro
 |@cons p q ps a h t c=>
  obtain⟨h1,_,h2⟩:=h;by_cases e:p.1=k
  ·have e':q.1=k:=h1.symm.trans e;have b:atKey (q::a) k=Z q.2:=by simp[atKey,JO,e']
   rw[sX e,b];exact h2
  ·have e':¬ q.1=k:=λz=>e (h1.trans z);have b:atKey (q::a) k=atKey a k:=by simp[atKey,JO,e']
   rw[sY e,b];exact c
section
variable{H:Hp}
theorem Me{u:HO}(ok:vK P w H h)(e:Rd H a u):eU P w H h a u:=e.ok ok
theorem vP{AO:O (AY×V)}(ok:vK P w H h)(e:Rd H a (.dK AO)):AO.length<=AA/\(a==sysModules)=false/\∃vs,KV AO vs/\h.DictOf (eG P w) a vs:=
 show eU P w H h a (.dK AO) from Me ok e
theorem TW{AO:O (AY×V)}(ok:vK P w H h)(e:H a=Z (.dK AO)):AO.length<=AA/\(a==sysModules)=false/\∃vs,KV AO vs/\h.DictOf (eG P w) a vs:=vP ok (.inl e)
theorem W0{ks:O AY}(ok:vK P w H h)(e:H a=Z (.tup (ks.map kV))):(tupleKind (eG P w)).is h ks a:=by
 obtain⟨_,AQ,r,o,h1,h2,⟨n,b⟩,_⟩:=(show eU P w H h a (.tup (ks.map kV)) from ok a _ e);exact⟨o,AQ.toArray,n,h1,h2,b,by simpa using G7 r⟩
theorem MT{AO:O (O AY×V)}(ok:vK P w H h)(e:Rd H a (.dT AO)):AO.length<=AA/\(a==sysModules)=false ∧
  ∃xs,KT H AO xs/\h.DictOfH (tupleKind (eG P w)) a xs:=by
 obtain⟨z,y,xs,r,o,es,ep,h1,h2,c,g,f⟩:=(show eU P w H h a (.dT AO) from Me ok e);refine⟨z,y,xs,r,o,es,ep,h1,h2,c,g,λx hx=>?_,f⟩;have all:∀{l:O (O AY×V)} {m:O (O AY×A1×A0)},KT H l m->∀x∈m,(tupleKind (eG P w)).is h x.1 x.2.1:=by
  intro l m q
  induction q with
  |nil=>intro x hx;exact nomatch hx
  |@cons p q ps i b t d=>
   intro x hx;rcases List.mem_cons.mp hx with e|hx
   ·subst e;exact W0 ok (by rw[<-b.1];exact b.2.1)
   ·exact d x hx
 exact all r x hx
end
def IP(H:Hp)(a:A1)(y:V)(r:Y V):Prop:=
 (∃AO k,Rd H a (.dK AO)/\y=kV k/\r=qd AO k)\/∃AO k b,Rd H a (.dT AO)/\y=.ref b/\H b=Z (.tup (k.map kV))/\r=qd AO k
section
variable{X:Cx}{σ:St}{H:Hp}{y v:V}{r:A0}{o:Y V}
theorem AU.big(I:AU X AN σ H s):sysModules<s.heap.objs.size:=by
 have h:mainGlobals<s.heap.objs.size:=(I.mod.glob.keeps I.bk).lt;exact eo () h
theorem Uo{Q:BA}(q:A.units+1<cLine)(I:AU X AN σ H s)(g:IP H a y (Z v))(n:B0 y u)(h:∀c s',AU X AN σ H s'->B0 v c->Q c s'):
  A7 (ii X) A (getItem (.ref a) u) Q E s:=by
 rcases g with⟨AO,k,e,f,l⟩|⟨AO,k,b,e,f,eb,l⟩
 ·subst f;obtain⟨z,t,vs,j,m⟩:=vP I.hok e;obtain⟨c,i,d⟩:=K6.some_of (v:=v) (o:=valueAt vs k) (by rw[l];exact j.val k);exact wpAny_getItem_of (R0 n) m.mapOf i (h c _ (I.tok _) d)
 ·subst f;cases(show u=Value.ref b from n);obtain⟨z,t,xs,j,m⟩:=MT I.hok e;obtain⟨c,i,d⟩:=K6.some_of (v:=v) (o:=(atKey xs k).map (·.2)) (by rw[l];exact j.val k);obtain⟨p,hp,x⟩:=ef.mp i;refine wpAny_getItem_heap (tupleKind_room_in1 q) (W0 I.hok eb) m hp ?_;rw[x];exact h c _ (I.tok _) d
theorem gh{h':A6}{t':Nat}{c:HO}(I:AU X AN σ H s)(d:F0 (H a))(hs:Heap.SameBut a s.heap h')(he:∃q,h'.get? a=Z q)(new:eU X.prog X.w (B1 H a c) h' a c):
  AU X AN σ (B1 H a c) { s with heap:=h',toks:=t' }:=
 I.write (x:=a) (e:=a) d (.inl S) (λb q f z=>(hs.2 b f).trans z) he new
theorem fw{H':Hp}{h':A6}{AO:O (AY×V)}{vs:O (AY×A0)}(z:AO.length<=AA)(d:(a==sysModules)=false)(b:KV AO vs)(c:h'.DictOf (eG P w) a vs):
  eU P w H' h' a (.dK AO):=⟨z,d,vs,b,c⟩
end
section
variable{X:Cx}{σ:St}{H:Hp}{AO:O (AY×V)}{k:AY}
end
def IM(i:Expr):Prop:=∀a iv,subscripted i false a iv=operate [a,iv] (getItem a iv)
theorem Pe{value b:Expr}{T id:String}{Q:BA}(k:typeLookup (.type T) "__getitem__"=pure (Z (.builtin id)))(hs:IM b)(h:A7 (A8 prog w) A (eval value env) (λo e=>A7 (A8 prog w) A (eval b env) (λi a=>a.TypeIs o T/\A7 (A8 prog w) A (getItem o i) Q E a) E e) E s):
  A7 (A8 prog w) A (eval (.Subscript value b pos) env) Q E s:=by
 refine Subscript_ (ZY h (λo e j=>ZY j (λi a d=>?_) λ_ _ x=>x) λ_ _ x=>x);obtain⟨f,d⟩:=d;unfold subscriptTail;refine zb ?_;rw[getitemInPython_of_ne f.not_modules];refine zb (wpAny_specialOf f k ?_);have c:A7 (A8 prog w) A (subscripted b false o i) (λr g=>A7 (A8 prog w) A (letTemporaryGo value o r >>= λ_=>pure r) Q E g) E a:=by
  rw[hs o i];exact wpAny_operating (ZY d (λr g l=>zb (wpAny_letTemporaryGo (ze l))) λ_ _ x=>x)
 first
  |exact ze (zb c)
  |exact zb (ze (zb c))
  |exact zb c
theorem Li{X:Cx}{σ:St}{H:Hp}{y:V}{o:Y V}(I:AU X AN σ H s)(g:IP H a y o):s.TypeIs (.ref a) "dict":=by
 rcases g with⟨AO,k,e,_,_⟩|⟨AO,k,b,e,_,_,_⟩
 ·obtain⟨_,_,vs,_,c⟩:=vP I.hok e;exact c.typeIs
 ·obtain⟨_,_,xs,_,c⟩:=MT I.hok e;exact c.typeIs
def PQ(td ty:TE):TE:=λσ H Q=>td σ H λx H1=>ty σ H1 λy H2=>∃a v,x=.ref a/\IP H2 a y (Z v)/\Q v H2
section
variable{X:Cx}{o i value:Expr}{pos':Pos}{td ty tv:TE}
theorem S3(b:X.A.units+1<cLine)(e:PE X o td)(hi:PE X i ty)(hs:IM i):PE X (.Subscript o i pos) (PQ td ty):=by
 intro AN s σ H Q I h;refine Pe PySem.F.slot_dict_getitem.lookup hs (ig (e AN s σ H _ I h) λu s1 ⟨x,H1,I1,rx,q1⟩=>ig (hi AN s1 σ H1 _ I1 q1) λiv s2 ⟨y,H2,I2,ry,a,v,ex,g,q2⟩=>?_);subst ex;obtain rfl:u=Value.ref a:=rx;exact⟨Li I2 g,Uo b I2 g ry λj f d c=>⟨v,H2,d,c,q2⟩⟩
end
theorem W2{H:Hp}(h:A6)(a:sysModules<h.objs.size):eU P w H (h.push { cls:=.type "dict",data:=.dict #[] }) h.objs.size (.dK []):=
 ⟨QR _,beq_eq_false_iff_ne.mpr (Q2 (ZE a)),[],.nil,Heap.DictOf.new h⟩
def dr:TE:=λ_ H Q=>∀p,H p=U->Q (.ref p) (B1 H p (.dK []))
section
variable{X:Cx}
theorem Lj:PE X (.Dict [] [] pos) dr:=λAN s σ H Q I h=>
 wpAny_Dict_empty ⟨.ref s.heap.objs.size,_,I.laid (a:=s.heap.objs.size) (o:=.dK []) (t':=s.toks) (λ_ _ q=>zd _ q) (zl _) (W2 s.heap I.big),rfl,h _ (I.hok.fresh (zl _))⟩
end
structure M1 (X:Cx) (o:Expr) (m:Str) (apos:Pos) (e:Expr) (cpos:Pos):Prop where
 base:attributeBase o m X.env (eval o X.env)=eval o X.env
 few:((backTo cpos (starEach [e] X.env)).all (λx=>!x.1)&&(backToKw cpos (keywordEach [] X.env)).all (λx=>x.1.isSome)
  && decide (([e]:List Expr).length+([]:List Keyword).length+(if([]:List Keyword).isEmpty then 0 else 1)<30))=true
 line:(apos.endLine==cpos.line)=true
 trees:backTo cpos (starEach [e] X.env)=[(false,eval e X.env)]
structure M2 (X:Cx) (o:Expr) (m:Str) (apos:Pos) (e f:Expr) (cpos:Pos):Prop where
 base:attributeBase o m X.env (eval o X.env)=eval o X.env
 few:((backTo cpos (starEach [e,f] X.env)).all (λx=>!x.1)&&(backToKw cpos (keywordEach [] X.env)).all (λx=>x.1.isSome)
  && decide (([e,f]:List Expr).length+([]:List Keyword).length+(if([]:List Keyword).isEmpty then 0 else 1)<30))=true
 line:(apos.endLine==cpos.line)=true
 trees:backTo cpos (starEach [e,f] X.env)=[(false,eval e X.env),(false,eval f X.env)]
section
variable{X:Cx}{σ:St}{H:Hp}{y d:V}{r:A0}{o:Y V}
end
section
variable{X:Cx}{o f:Expr}{td ty tx:TE}
end
section
variable{X:Cx}{σ:St}{H:Hp}{AO:O (AY×V)}
end
section
variable{X:Cx}{σ:St}{H:Hp}{y:V}
end
end L2
namespace Att
open PySem PySem.W PySem.Calls PyProof.Rows
theorem Aw{P:Params}:∀(c:O Int) (vs:O A0),WellAll P h vs (c.map WData.int)->IntsAre vs c:=by
 intro c
 induction c with
 |nil=>
  intro vs w;rw[kP]at w;cases w;exact .nil
 |cons n c d=>
  intro vs w;rw[Zl]at w;cases w with
  |cons a b=>
   cases a;exact .cons _ _ (d _ b)
theorem Uq{l:OpenLaw}(k:l.most=Z n){P:Params}{args:O WData}{f:O A0}(i:l.row.toRowW.claim.pre args=true)(s:WellAll P h f args):
  ∃a vs b,f=[Value.ref a]/\args=[WData.list (b.map WData.int)]/\h.get? a=Z { cls:=.type "list",data:=.seq vs.toArray }/\IntsAre vs b/\b.length<=n:=by
 have v:WShape.hasAll [] args [.list .int]=true:=(pre_splitW i).1;have g:l.pre.holds [] { args:=args }=true:=(pre_splitW i).2;obtain⟨d,r,rfl,h1,h2⟩:=hasAllW_cons v;obtain rfl:=hasAllW_nil h2;obtain⟨xs,rfl,m⟩:=hasW_list h1;obtain⟨b,rfl⟩:=items_int m;have u:b.length<=n:=by
  unfold OpenLaw.pre at g;have e:(WTm.not (.lt (.lit (.int (n:Int))) (.len (.arg 0)))).holds [] { args:=[.list (b.map .int)] }=true:=by
   have e:=(holds_andW g).1;rw[k]at e;exact e
  have c:=condW_of e (w_not (w_lt w_lit (w_len_list (w_arg S))));rw[zk]at c;refine xc λq=>?_;have w:(n:Int)<((b.length:Nat):Int):=by omega
  first
   |(rw[qS w]at c;exact absurd c ())
   |(simp at c;omega)
 cases s with
 |cons j p=>
  cases p;cases j with
  |list t o=>exact⟨_,_,b,rfl,rfl,t,Aw b _ o,u⟩
theorem Ur(l:OpenLaw)(args:O WData):l.row.toRowW.claim.post args (.bool true) args=true:=
 postW_of (r:=l.row.toRowW) (X:=(true==true))
  (show WShape.has [] (.bool true) .bool=true by first|rfl|decide|simp[WShape.has,WShape.arms,WShape.armsAll])
  (show(WTm.eq .res (.lit (.bool true))).value [] { args:=args,res:=Z (.bool true),after:=args }=Z (.bool (true==true)) from w_eq_bool (w_res S) w_lit) rfl
theorem Ln{l:OpenLaw}{q:A3}{loose:AZ}{d:DefRec}(j:l.most=Z n)(v:d.params.defaults=[])(call:∀(w:A4) (h b:A2) (mg e:AJ->Option A0) (fa:A1) (o:AE) (pm cd g:A0) (a:A1) (vs:O A0) (c:O Int),
   Ground q loose [] XP w h mg e b.heap->YP w b.heap →
   b.heap.get? fa=Z o->o.data=.func (docDef d.name d.params d.body d.scope pm cd g)->b.heap.CodeRec cd d.name->mg d.name=Z (.ref fa) →
   b.heap.get? a=Z { cls:=.type "list",data:=.seq vs.toArray }->IntsAre vs c->c.length<=n->b.gens=#[] →
   AF (A8 l.prog w) callerA (.call (.ref fa) ⟨[.ref a],[]⟩) (λr s'=>r=.ok (.ret (.bool true))/\OldK b.heap s'.heap/\s'.os=b.os/\AllBare s'.gens) b):
  WalkO q loose XP YP l.row.toRowW d [] (λf vs=>PySem.call f vs):=by
 intro w h b mg e G Y fa o pm cd g s kV x t z i A B I K as D J L y H;obtain rfl:s=.none:=Dflts.none i v;obtain rfl:kV=.none:=Dflts.noKw i;obtain⟨a,vs,c,rfl,rfl,k,E,u⟩:=Uq j D y;refine enter_call (Kx (call w h b mg e fa o pm cd g a vs c G Y x (fd_plain t) z A k E u B) λr s' F=>?_);obtain⟨rfl,h2,p,m⟩:=F;exact⟨.inl ⟨.bool true,.bool true,[],rfl,λ_=>S,.bool true,Ur l _,λ_=>⟨List.Pairwise.nil,λ_ C=>(nomatch C)⟩⟩,h2,p,m⟩
section
variable{K:Frag}
end
end Att
namespace L2
theorem uN:∀{vs:O A0} {a:O Int},IntsAre vs a->AX (a.map V.int) vs
 |_,_,.nil=>.nil
 |_,_,.cons n t h=>.cons ⟨t,rfl⟩ (uN h)
def Cb(H:Hp):Prop:=∀b,H b=U\/(∃o xs,H b=Z (.jm o (.lst xs)))\/∃ps,H b=Z (.IK ps)
structure CH (K:B4) (h:Heap) (TL:List (Addr×Array Value)):Prop where
 all:∀P q,LB K P q->∃ps,TL.lookup P=some ps/\tq ps=q/\0<ps.size
 ok:∀P ps,TL.lookup P=some ps->K.lookup P=none/\h.get? P=some { cls:=.none,data:=.fields #[] }/\isCodeTable h P/\tr ps=#[]
theorem CH.free(x:RM K=true):CH K h []:=⟨λP q k=>(Pj x k).elim,λP ps e=>by cases e⟩
theorem W3{E:AJ->Y A0}{CX:RQ}{fa:A1}{sp:Sp}{c:A2}{vs:O A0}{A:O Int}{f:O (A1×Array A0)}(N:K.In c.heap)(a3:c.heap.Ns mainGlobals mg)(i:c.heap.Ns builtinsNs E)(d3:∀x:AJ,x ≠ "__name__" → E x=AH x)(d4:c.heap.NoLimit)(a6:∃p j,mg "__builtins__"=Z (.ref p)/\p≠builtinsNs/\c.heap.get? p=Z j/\j.cls=.type "module" ∧ j.dict=Z builtinsNs/\j.data=.plain)(hg:c.gens=#[])(t:c.heap.get? a=Z { cls:=.type "list",data:=.seq vs.toArray })(hi:IntsAre vs A)(hl:A.length<=AA)(hr:jo k callerA)(F:∀base:A6,K.In base->base.Ns mainGlobals mg->lR P w K mg base CX k fa fd [x] sp)(a4:∀(s:A2) (u:A0),BindsTo s fd ⟨[u],[]⟩ [(x,u)])(c5:∀H:Hp,Cb H->sI K H a (A.map V.int)->sp [.ref a] H (λv _=>v=.bl true) λ_ _ _=>False)(a7:∀H e s',CX [] H c (λ_ _ _=>False) e s'->False)(T:CH K c.heap f):
  AF (A8 P w) callerA (.call (.ref fa) ⟨[.ref a],[]⟩) (λr s'=>r=.ok (.ret (.bool true))/\OldK c.heap s'.heap/\s'.os=c.os/\AllBare s'.gens) c:=by
 have W:=uN hi;have d2:=hi.length;have M:f.lookup a=U:=by
  cases e:f.lookup a with
  |none=>rfl
  |some ps=>
   have q:=(T.ok a ps e).2.1;rw[t]at q;cases q
 have tok:∀(H:Hp) (b:A1) (ps:Array A0),f.lookup b=Z ps->eU P w H c.heap b (.IK ps):=λH b ps e=>by
  obtain⟨_,g,_,z⟩:=T.ok b ps e;refine⟨#[],by rw[z];exact g,?_,λpos cv q=>?_⟩
  ·rw[z];simp[TriplesOk]
  ·rw[z]at q;cases q
 have L:∀H:Hp,Cb H->sI K H a (A.map V.int)->vK P w H c.heap->(∀b,H b≠U->b=a\/∃ps,f.lookup b=Z ps)->(∀b ps,f.lookup b=Z ps->H b=Z (.IK ps))->(H a≠U->K.lookup a=U) →
   AF (A8 P w) callerA (.call (.ref fa) ⟨[.ref a],[]⟩) (λr s'=>r=.ok (.ret (.bool true))/\OldK c.heap s'.heap/\s'.os=c.os/\AllBare s'.gens) c:=by
  intro H I hS G C d1 hK;have D:∀{b:A1} {o:AE},c.heap.get? b=Z o->H b=U->(IV c.heap H).get? b=Z o:=λe n=>Wm e n;have b0:∀{b:A1} {o:AE} {es:Array DictEntry} {ep:Nat},c.heap.get? b=Z o->o.data=.dict es ep->H b=U:=λ{b o es ep} e d=>by
   cases q:H b with
   |none=>rfl
   |some u=>
    rcases C b (by rw[q];simp)with e'|⟨ps,e'⟩
    ·subst e';rw[t]at e;cases e;have d':Data.seq vs.toArray _=Data.dict es ep:=d;cases d'
    ·rw[(T.ok b ps e').2.1]at e;cases e;cases d
  have B:∀{b:A1} {m:AJ->Y A0},c.heap.Ns b m->(IV c.heap H).Ns b m:=λ{b m} ⟨o,es,ep,e,d,r⟩=>⟨o,es,ep,D e (b0 e d),d,r⟩;have Q:K.In (IV c.heap H):=λb o e=>D (N b o e) (by
   cases q:H b with
   |none=>rfl
   |some u=>
    rcases C b (by rw[q];simp)with e'|⟨ps,e'⟩
    ·subst e';rw[hK (by rw[q];simp)]at e;cases e
    ·rw[(T.ok b ps e').1]at e;cases e)
  have hM:Mod K mg (IV c.heap H):=⟨Q,B a3,⟨E,B i,d3⟩,let ⟨mc,h1,h2⟩:=d4;⟨mc,B h1,h2⟩,let ⟨p,j,b1,b2,b3,b4,b5,b6⟩:=a6;⟨p,j,b1,b2,D b3 (by
   cases q:H p with
   |none=>rfl
   |some u=>
    rcases C p (by rw[q];simp)with e'|⟨ps,e'⟩
    ·subst e';rw[t]at b3;cases b3;injection b4 with z;exact absurd z ()
    ·rw[(T.ok p ps e').2.1]at b3;cases b3;cases b4),b4,b5,b6⟩⟩
  have e0:Lb P w K mg (IV c.heap H) callerA [] c H:=⟨rfl,hM,λb o e=>Pt e,ew (Ub _ _),trivial,λb i=>absurd (show b∈([]:O A1) from i) (by simp),G,.of_eq hg,λP q k=>by
   obtain⟨ps,l,r⟩:=T.all P q k;exact⟨ps,d1 P ps l,r⟩⟩
  refine Kx ((F _ Q (B a3)).run callerA [] c H ⟨[.ref a],[]⟩ [.ref a] [.ref a] _ _ hr e0 (a4 c (.ref a)) (.cons S .nil) (c5 H I hS)) λr s' h=>?_;cases r with
  |error e=>exact(a7 H e s' h).elim
  |ok fl=>
   cases fl with
   |next=>exact False.elim h
   |brk=>exact False.elim h
   |cont=>exact False.elim h
   |ret u=>
    obtain⟨v,H',os,a5,un,J,r',q⟩:=h;have q':v=.bl true:=q;subst q';obtain rfl:u=Value.bool true:=r';have X:∀b o,c.heap.get? b=Z o->s'.heap.get? b=Z o\/(isCodeTable c.heap b/\o.cls=.none/\∃vs more,o.data=.fields vs/\s'.heap.get? b=Z { o with data:=.fields (vs++more) }):=λb o e=>by
     cases q:H b with
     |none=>exact .inl (un.keep b o e q (by intro z;exact absurd (show b∈([]:O A1) from z) (by simp)) (by simp))
     |some u=>
      rcases I b with z|⟨j,xs,z⟩|⟨ps,z⟩
      ·rw[q]at z;cases z
      ·have z2:=un.nP b j _ z;obtain⟨e1,_⟩:=G b _ z;obtain⟨e2,_⟩:=J b _ z2;rw[e]at e1;cases e1;exact .inl e2
      ·rcases C b (by rw[q];simp)with e'|⟨d0,e'⟩
       ·subst e';obtain⟨more,g,_⟩:=G b _ z;rw[t]at g;cases g
       ·obtain⟨_,g,ct,_⟩:=T.ok b d0 e';rw[e]at g;cases g;obtain⟨m1,z2⟩:=un.qD b ps z;obtain⟨m2,g2,_⟩:=J b _ z2;exact .inr ⟨ct,rfl,#[],_,rfl,by rw[g2,Array.empty_append]⟩
    refine⟨rfl,⟨λb o e=>(X b o e).imp id .inl,λb o e=>?_⟩,os,a5⟩;rcases X b o e with z|⟨_,_,_,_,_,z⟩<;>exact⟨_,z⟩
 cases hk:K.lookup a with
 |some o=>
  have e:=N a o hk;rw[t]at e;cases e;refine L (λb=>(f.lookup b).map .IK) (λb=>?_) (.inr ⟨_,vs.toArray,_,hk,rfl,rfl,rfl,by rw[zv,d2];exact hl,by simpa using W⟩) (λb u z=>?_) (λb z=>?_) (λb ps e=>by show(f.lookup b).map _=_;rw[e];rfl) λz=>absurd (by show(f.lookup a).map _=U;rw[M];rfl) z
  ·cases e:f.lookup b with
   |none=>exact .inl (by show(f.lookup b).map HO.IK=U;rw[e];rfl)
   |some ps=>exact .inr (.inr ⟨ps,by show(f.lookup b).map HO.IK=_;rw[e];rfl⟩)
  ·have z:(f.lookup b).map HO.IK=Z u:=z;cases e:f.lookup b with
   |none=>rw[e]at z;cases z
   |some ps=>rw[e]at z;cases z;exact tok _ b ps e
  ·cases e:f.lookup b with
   |none=>exact absurd (by show(f.lookup b).map HO.IK=U;rw[e];rfl) z
   |some ps=>exact .inr ⟨ps,rfl⟩
 |none=>
  refine L (λb=>if b=a then Z (.jm { cls:=.type "list",data:=.seq vs.toArray } (.lst (A.map V.int)))else(f.lookup b).map .IK) (λb=>?_) (.inl (.inr ⟨{ cls:=.type "list",data:=.seq vs.toArray },zt rfl⟩)) (λb u z=>?_) (λb z=>?_) (λb ps e=>?_) λ_=>hk
  ·by_cases i:b=a
   ·exact .inr (.inl ⟨_,_,zt i⟩)
   ·cases e:f.lookup b with
    |none=>exact .inl ((ZA i).trans (by rw[e];rfl))
    |some ps=>exact .inr (.inr ⟨ps,(ZA i).trans (by rw[e];rfl)⟩)
  ·by_cases i:b=a
   ·have y:=(zt i).symm.trans z;cases y;subst i;exact⟨t,by rw[zk];exact hl,vs,_,W,t⟩
   ·have y:=(ZA i).symm.trans z;cases e:f.lookup b with
    |none=>rw[e]at y;cases y
    |some ps=>rw[e]at y;cases y;exact tok _ b ps e
  ·by_cases i:b=a
   ·exact .inl i
   ·cases e:f.lookup b with
    |none=>exact absurd ((ZA i).trans (by rw[e];rfl)) z
    |some ps=>exact .inr ⟨ps,rfl⟩
  ·have i:b≠a:=λz=>by rw[z,M]at e;cases e
   exact(ZA i).trans (by rw[e];rfl)
end L2
namespace L2
theorem WI{l:PySem.W.OpenLaw}{q:A3}{loose:AZ}{d:DefRec}{K:Params->B4}{CX:A4->RQ}{sp:A4->Sp}(t:l.most=Z n)(Q:n<=AA)(E:d.params.defaults=[])(D:jo k callerA)(C:∀(w:A4) (h:A6),YP w h->(K w.params).In h)(F:∀(w:A4) (mg:AJ->Option A0) (fa:A1) (h:A6),(K w.params).In h->h.Ns mainGlobals mg->mg d.name=Z (.ref fa) →
   ∃fd:FuncData,(∀(s:A2) (u:A0),BindsTo s fd ⟨[u],[]⟩ [(x,u)]) ∧
    ∀base:A6,(K w.params).In base->base.Ns mainGlobals mg->lR l.prog w (K w.params) mg base (CX w) k fa fd [x] (sp w))(J:∀(w:A4) (H:Hp) (a:A1) (c:O Int),c.length<=n->Cb H->sI (K w.params) H a (c.map V.int)->sp w [.ref a] H (λv _=>v=.bl true) λ_ _ _=>False)(I:∀(w:A4) (H:Hp) (s:A2) (e:A0) (s':A2),CX w [] H s (λ_ _ _=>False) e s'->False)(X:∀(w:A4) (h:A6) (mg j:AJ->Option A0) (N:ExcName->Option A0) (ls:AZ),(K w.params).In h->Top q ls N mg j h->∃p,CH (K w.params) h p):
  PySem.W.WalkO q loose XP YP l.row.toRowW d [] (λf vs=>PySem.call f vs):=by
 refine Att.Ln t E λw a5 A mg j fa o pm cd a4 a vs c G Y ho hd a6 L B a3 m M=>?_;have i:=C w _ Y;obtain⟨fd,y,hF⟩:=F w mg fa _ i G.T.g L;obtain⟨p,tl⟩:=X w _ _ _ _ _ i G.T;exact W3 i G.T.g G.T.b G.T.builtins G.T.nolimit G.T.bmain M B a3 (ZH m Q) D hF y (λH z P=>J w H a c m z P) (λH e s'=>I w H A e s') tl
theorem W4{l:PySem.W.OpenLaw}{q:A3}{loose:AZ}{d:DefRec}{K:Params->B4}{CX:RQ}{sp:B4->Sp}(c:l.most=Z n)(m:n<=AA)(t:d.params.defaults=[])(o:jo k callerA)(j:∀(w:A4) (h:A6),YP w h->(K w.params).In h)(F:∀(w:A4) (mg:AJ->Y A0) (fa:A1) (h:A6),(K w.params).In h->h.Ns mainGlobals mg->mg d.name=Z (.ref fa) →
   ∃fd:FuncData,(∀(s:A2) (u:A0),BindsTo s fd ⟨[u],[]⟩ [(x,u)]) ∧
    ∀base:A6,(K w.params).In base->base.Ns mainGlobals mg->lR l.prog w (K w.params) mg base CX k fa fd [x] (sp (K w.params)))(i:∀(K:B4) (H:Hp) (a:A1) (b:O Int),b.length<=n->Cb H->sI K H a (b.map V.int)->sp K [.ref a] H (λv _=>v=.bl true) λ_ _ _=>False)(y:∀(H:Hp) (s:A2) (e:A0) (s':A2),CX [] H s (λ_ _ _=>False) e s'->False)(p:∀(w:A4) (h:A6) (mg C:AJ->Y A0) (A:ExcName->Y A0) (z:AZ),(K w.params).In h->Top q z A mg C h->∃B,CH (K w.params) h B):
  PySem.W.WalkO q loose XP YP l.row.toRowW d [] (λf vs=>PySem.call f vs):=
 WI (K:=K) (CX:=λ_=>CX) (sp:=λw=>sp (K w.params)) c m t o j F (λw H a b h1 h2 g=>i (K w.params) H a b h1 h2 g) (λ_ H s e s'=>y H s e s') p
end L2
namespace L2
def qF(s:AB):Arguments:=match s with
 |.FunctionDef _ a _ _ _ _ _ _ _ _=>a
 |_=>{ posonlyargs:=[],args:=[],vararg:=U,kwonlyargs:=[],kw_defaults:=[],kwarg:=U,defaults:=[] }
def gY(s:AB):O AB:=match s with
 |.FunctionDef _ _ b _ _ _ _ _ _ _=>b
 |_=>[]
def aM(s:AB):Scope:=match s with
 |.FunctionDef _ _ _ _ _ _ a _ _ _=>a
 |_=>{ kind:=.function,names:=[],isGenerator:=false,isCoroutine:=false }
abbrev Ge:RQ:=λ_ _ _ _ _ _=>False
abbrev E0:XK:=λ_ _ _=>False
theorem RE{X:Cx}:CF Ge X E0:=λ_ _ _ _ _ _ _ h=>h.elim
structure G8 (K:B4) (x qual:Str) (st:Stmt) (f:Addr) (fd:FuncData):Prop where
 ex:∃(oc:Value) (od:Option Addr) (kV doc pm:Value) (an:Option Addr) (cdv ct:Value) (osl:Array (Option Value)),
  fd=fnOf x qual (qF st) (gY st) (aM st) .none kV doc pm an cdv ct/\K.lookup f=some ⟨oc,od,.func fd,osl⟩/\codeIn K cdv qual=true
 kp:keepIn K (.ref f)=true
theorem G8.ok{f:A1}{sp:Sp}(F:G8 K x qual st f fd)(S:bH N ps (aM st))(len:∀vs H Q E,sp vs H Q E->vs.length=ps.length)(g:∀(a:A0) (A:A5) (outer:O Env) (s:A2) (H:Hp) (vs:O V) (Q:VK) (E:XK),jo k (A.deeper (AK qual (aM st) s.heap.objs.size f a))->sp vs H Q E →
   ∃t,vZ (sV Ge P w K mg base N qual (aM st) f a A outer s H E).Z2 (gY st) t/\t { nx:=λ_ H'=>Q .non H',rt:=Q } (start N vs) H):lR P w K mg base Ge (k+1) f fd ps sp:=by
 obtain⟨i,l,kV,m,pm,j,a,ct,osl,rfl,e,d⟩:=F.ex;refine NM e d S len λA outer s H vs Q E c b=>?_;obtain⟨t,h,q⟩:=g a A outer s H vs Q E c b;exact⟨t,h.Z2,q⟩
theorem G8.binds{f:A1}(F:G8 K x qual st f fd)(h:∀(kV c pm:A0) (a:Y A1) (b ct:A0) (us:O A0),us.length=ps.length->bindArgs (fnOf x qual (qF st) (gY st) (aM st) .none kV c pm a b ct) ⟨us,[]⟩=pure (ps.zip us)):BM K fd ps []:=by
 obtain⟨d,e,kV,c,pm,a,b,ct,osl,rfl,i,g⟩:=F.ex;exact .all (h kV c pm a b ct)
theorem W5{f:A1}{e:A0}{od d:Y A1}{kV b pm a ct:A0}(l:K.lookup f=Z ⟨e,od,.func (fnOf x qual (qF st) (gY st) (aM st) .none kV b pm d a ct),osl⟩)(c:codeIn K a qual=true)(k:keepIn K (.ref f)=true):G8 K x qual st f (fnOf x qual (qF st) (gY st) (aM st) .none kV b pm d a ct):=⟨⟨e,od,kV,b,pm,d,a,ct,osl,rfl,l,c⟩,k⟩
section
variable{X:Cx}
theorem pv(i:Nat)(b:X.N[i]?=Z x:=by rfl)(c:Z1 X.env.scope x:=by first|exact Kj rfl|exact ki (Kj S)|exact ki (ki S))(d:db x:=by decide)(a:(x==("__classdict__":AJ))=false:=by decide):PE X (.Name x pos) (vM i):=jE b c d a
end
def AV(H H':Hp):Prop:=∀b o,H b=Z o->H' b=Z o
theorem AV.refl(H:Hp):AV H H:=λ_ _ h=>h
theorem AV.trans{H H1 H2:Hp}(a:AV H H1)(b:AV H1 H2):AV H H2:=λc o h=>b c o (a c o h)
theorem AV.free{H H':Hp}(e:AV H H')(h:H' l=Option.none):H l=Option.none:=by
 cases q:H l with
 |none=>rfl
 |some o=>
  rw[e l o q]at h;cases h
theorem AV.seq{H H':Hp}{xs:O V}(e:AV H H')(h:sI K H a xs):sI K H' a xs:=by
 rcases h with (h|⟨o,h⟩)|h
 ·exact .inl (.inl (e _ _ h))
 ·exact .inl (.inr ⟨o,e _ _ h⟩)
 ·exact .inr h
end L2
variable{t:L2.TA}{xs:O L2.V}{H:L2.Hp}{X:L2.Cx}{σ:L2.St}{ta te:L2.TE}{vs:O L2.V}{AO:O (L2.AY×L2.V)}{CX:L2.RQ}{sp:L2.Sp}{ks:O L2.AY}{H0 Hs Hb:L2.Hp}{d9:O (O L2.AY)}
namespace P1
open L2
inductive Dt where
 |non|bl (b:Bool)|int (i:Int)|str (x:Str)|tup (xs:List Dt)|lst (xs:List Dt)|emp
inductive Bx where
 |z (d:Dt)|l (ds:List Dt)|o (ds:List Dt)|n (AO:List (AY×Dt))|m (AO:List (AY×Dt)) (w:Option Addr)
abbrev Ev:=O (Y Bx)
def EZ(K:B4)(H:Hp)(a:A1)(xs:O V):Prop:=
 (∃o,H a=Z (.jm o (.lst xs))) ∨
  ∃(o:AE) (AQ:Array A0) (n:Nat),K.lookup a=Z o/\o.cls=.type "list" ∧ o.dict=U/\o.data=.seq AQ n/\AQ.size<=AA/\AX xs AQ.toList
theorem EZ.sq(h:EZ K H a xs):sI K H a xs:=by
 rcases h with h|h
 ·exact .inl (.inr h)
 ·exact .inr h
mutual
def AW(K:B4)(H:Hp):Dt->V->Prop
 |.non,v=>v=.non
 |.bl b,v=>v=.bl b
 |.int i,v=>v=.int i
 |.str x,v=>v=.str x/\x.length<=AA
 |.tup ds,v=>∃a vs,v=.ref a/\sO K H a vs/\aP K H ds vs
 |.lst ds,v=>∃a vs,v=.ref a/\EZ K H a vs/\aP K H ds vs
 |.emp,v=>∃a o,v=.ref a/\H a=Z (.jm o (.dK []))
def aP(K:B4)(H:Hp):O Dt->O V->Prop
 |[],vs=>vs=[]
 |d::ds,vs=>∃v r,vs=v::r/\AW K H d v/\aP K H ds r
end
structure Kp (H H':Hp):Prop where
 t:∀a xs,H a=some (.tup xs)->H' a=some (.tup xs)
 f:∀a o u,H a=some (.jm o u)->H' a=some (.jm o u)
theorem Kp.of{H':Hp}(s:AV H H'):Kp H H':=⟨λa _ h=>s a _ h,λa _ _ h=>s a _ h⟩
theorem Kp.sqT{H':Hp}(k:Kp H H')(h:sO K H a xs):sO K H' a xs:=by
 rcases h with (h|⟨o,h⟩)|h
 ·exact .inl (.inl (k.t _ _ h))
 ·exact .inl (.inr ⟨o,k.f _ _ _ h⟩)
 ·exact .inr h
theorem Kp.fzL{H':Hp}(k:Kp H H')(h:EZ K H a xs):EZ K H' a xs:=by
 rcases h with⟨o,h⟩|h
 ·exact .inl ⟨o,k.f _ _ _ h⟩
 ·exact .inr h
theorem Kp.lst{o:HO}(h:H a=Z (.lst xs)):Kp H (B1 H a o):=by
 refine⟨λb ys e=>?_,λb c u e=>?_⟩
 ·rw[aF (ji e h (by intro z;cases z))];exact e
 ·rw[aF (ji e h (by intro z;cases z))];exact e
theorem Kp.dk{xs:O (AY×V)}{o:HO}(h:H a=Z (.dK xs)):Kp H (B1 H a o):=by
 refine⟨λb ys e=>?_,λb c u e=>?_⟩
 ·rw[aF (ji e h (by intro z;cases z))];exact e
 ·rw[aF (ji e h (by intro z;cases z))];exact e
mutual
theorem AW.kp{K:B4}{H H':Hp}(k:Kp H H'):∀{d:Dt} {v:V},AW K H d v->AW K H' d v
 |.non,_,h=>by simpa only[AW]using h
 |.bl _,_,h=>by simpa only[AW]using h
 |.int _,_,h=>by simpa only[AW]using h
 |.str _,_,h=>by simpa only[AW]using h
 |.tup ds,_,h=>by
  simp only[AW]at h ⊢;obtain⟨a,vs,e,q,r⟩:=h;exact⟨a,vs,e,k.sqT q,aP.kp k r⟩
 |.lst ds,_,h=>by
  simp only[AW]at h ⊢;obtain⟨a,vs,e,q,r⟩:=h;exact⟨a,vs,e,k.fzL q,aP.kp k r⟩
 |.emp,_,h=>by
  simp only[AW]at h ⊢;obtain⟨a,o,e,q⟩:=h;exact⟨a,o,e,k.f _ _ _ q⟩
theorem aP.kp{K:B4}{H H':Hp}(k:Kp H H'):∀{ds:O Dt} {vs:O V},aP K H ds vs->aP K H' ds vs
 |[],_,h=>by simpa only[aP]using h
 |d::ds,_,h=>by
  simp only[aP]at h ⊢;obtain⟨v,r,e,q,t⟩:=h;exact⟨v,r,e,AW.kp k q,aP.kp k t⟩
end
theorem aP.length{K:B4}{H:Hp}:∀{ds:O Dt} {vs:O V},aP K H ds vs->vs.length=ds.length
 |[],_,h=>by simp only[aP]at h;subst h;rfl
 |d::ds,_,h=>by
  simp only[aP]at h;obtain⟨v,r,rfl,_,t⟩:=h;simp[aP.length t]
theorem aP.nil:aP K H [] []:=by simp only[aP]
theorem aP.cons{K:B4}{H:Hp}{d:Dt}{v:V}{ds:O Dt}{vs:O V}(h:AW K H d v)(t:aP K H ds vs):aP K H (d::ds) (v::vs):=by
 simp only[aP];exact⟨v,vs,rfl,h,t⟩
theorem aP.append{K:B4}{H:Hp}:∀{ds es:O Dt} {vs us:O V},aP K H ds vs->aP K H es us->aP K H (ds++es) (vs++us)
 |[],_,_,_,h,t=>by simp only[aP]at h;subst h;exact t
 |d::ds,_,_,_,h,t=>by
  simp only[aP]at h;obtain⟨v,r,rfl,q,h⟩:=h;exact aP.cons q (aP.append h t)
theorem aP.drop{K:B4}{H:Hp}:∀(n:Nat) {ds:O Dt} {vs:O V},aP K H ds vs->aP K H (ds.drop n) (vs.drop n)
 |0,_,_,h=>h
 |n+1,[],_,h=>by simp only[aP]at h;subst h;exact aP.nil
 |n+1,d::ds,_,h=>by
  simp only[aP]at h;obtain⟨v,r,rfl,q,h⟩:=h;exact aP.drop n h
theorem aP.take{K:B4}{H:Hp}:∀(n:Nat) {ds:O Dt} {vs:O V},aP K H ds vs->aP K H (ds.take n) (vs.take n)
 |0,_,_,_=>aP.nil
 |n+1,[],_,h=>by simp only[aP]at h;subst h;exact aP.nil
 |n+1,d::ds,_,h=>by
  simp only[aP]at h;obtain⟨v,r,rfl,q,h⟩:=h;exact aP.cons q (aP.take n h)
theorem aP.get{K:B4}{H:Hp}:∀{ds:O Dt} {vs:O V} {i:Nat} {d:Dt},aP K H ds vs->ds[i]?=Z d->∃v,vs[i]?=Z v/\AW K H d v
 |[],_,_,_,_,e=>by simp at e
 |d::ds,_,0,_,h,e=>by
  simp only[aP]at h;obtain⟨v,r,rfl,q,h⟩:=h;simp at e;subst e;exact⟨v,rfl,q⟩
 |d::ds,_,i+1,_,h,e=>by
  simp only[aP]at h;obtain⟨v,r,rfl,q,h⟩:=h;obtain⟨u,e1,e2⟩:=aP.get h (i:=i) (by simpa using e);exact⟨u,by simpa using e1,e2⟩
def FO:AY->Prop
 |.inl _=>True
 |.inr x=>x.length<=AA
def rZ(K:B4)(H:Hp)(AO:O (AY×Dt))(ks:O (AY×V)):Prop:=ks.map (·.1)=AO.map (·.1)/\aP K H (AO.map (·.2)) (ks.map (·.2))/\∀p∈AO,FO p.1
theorem rZ.kp{K:B4}{H H':Hp}{AO:O (AY×Dt)}{ks:O (AY×V)}(h:rZ K H AO ks)(k:Kp H H'):rZ K H' AO ks:=⟨h.1,h.2.1.kp k,h.2.2⟩
def aX(K:B4)(H:Hp):Bx->V->Prop
 |.z d,v=>AW K H d v
 |.l ds,v=>∃a vs,v=.ref a/\Rd H a (.lst vs)/\aP K H ds vs
 |.o ds,v=>∃a vs,v=.ref a/\H a=Z (.lst vs)/\aP K H ds vs
 |.n AO,v=>∃a ks,v=.ref a/\Rd H a (.dK ks)/\rZ K H AO ks
 |.m AO w,v=>∃a ks,v=.ref a/\H a=Z (.dK ks)/\rZ K H AO ks/\∀b,w=Z b->b=a
theorem aX.same{H':Hp}(s:AV H H'){b:Bx}{v:V}(h:aX K H b v):aX K H' b v:=by
 cases b with
 |z d=>exact AW.kp (.of s) h
 |l ds=>
  obtain⟨a,vs,e,q,r⟩:=h;refine⟨a,vs,e,?_,r.kp (.of s)⟩;rcases q with q|⟨o,q⟩
  ·exact .inl (s _ _ q)
  ·exact .inr ⟨o,s _ _ q⟩
 |o ds=>
  obtain⟨a,vs,e,q,r⟩:=h;exact⟨a,vs,e,s _ _ q,r.kp (.of s)⟩
 |n AO=>
  obtain⟨a,vs,e,q,r⟩:=h;refine⟨a,vs,e,?_,r.kp (.of s)⟩;rcases q with q|⟨o,q⟩
  ·exact .inl (s _ _ q)
  ·exact .inr ⟨o,s _ _ q⟩
 |m AO _=>
  obtain⟨a,vs,e,q,r⟩:=h;exact⟨a,vs,e,s _ _ q,r.1.kp (.of s),r.2⟩
def qe:Bx->Y (O Dt)
 |.z (.lst ds)=>Z ds
 |.l ds=>Z ds
 |.o ds=>Z ds
 |_=>U
theorem aX.Gf{b:Bx}{v:V}{ds:O Dt}(h:aX K H b v)(e:qe b=Z ds):∃a vs,v=.ref a/\sI K H a vs/\aP K H ds vs:=by
 cases b with
 |z d=>
  cases d<;>first|(cases e;done)|skip;cases e;simp only[aX,AW]at h;obtain⟨a,vs,e,q,r⟩:=h;exact⟨a,vs,e,q.sq,r⟩
 |l c=>
  cases e;obtain⟨a,vs,e,q,r⟩:=h;exact⟨a,vs,e,.inl q,r⟩
 |o c=>
  cases e;obtain⟨a,vs,e,q,r⟩:=h;exact⟨a,vs,e,.inl (.inl q),r⟩
 |n _=>cases e
 |m _ _=>cases e
abbrev sZ(K:B4)(H:Hp):O Bx->O V->Prop:=AI (aX K H)
def Nw(H:Hp):Bx->V->Prop
 |.o _,v=>∀a,v=.ref a->H a=U
 |.m _ _,v=>∀a,v=.ref a->H a=U
 |_,_=>True
theorem Nw.old{H1:Hp}(s:AV H H1){b:Bx}{v:V}(h:Nw H1 b v):Nw H b v:=by
 cases b with
 |o ds=>exact λa e=>s.free (h a e)
 |m ds _=>exact λa e=>s.free (h a e)
 |_=>trivial
def loose:Bx->Bool
 |.z _=>false
 |_=>true
def vN:Bx->Bool
 |.o _=>true
 |.m _ _=>true
 |_=>false
structure bF (K:B4) (H0 H:Hp) (σ:L2.St) (ρ:Ev):Prop where
 len:σ.length=ρ.length
 val:∀(i:Nat) b,ρ[i]?=some (some b)->∃v,σ[i]?=some (some v)/\aX K H b v
 own:∀(i j:Nat) c a b,ρ[i]?=some (some c)->vN c=true->σ[i]?=some (some (.ref a))->ρ[j]?=some (some b)->loose b=true->σ[j]?=some (some (.ref a))->i=j
 base:AV H0 H
 new:∀(i:Nat) c a,ρ[i]?=some (some c)->vN c=true->σ[i]?=some (some (.ref a))->H0 a=none
theorem bF.grow{H':Hp}{ρ:Ev}(r:bF K H0 H σ ρ)(s:AV H H'):bF K H0 H' σ ρ:=
 ⟨r.len,λi b e=>let ⟨v,e1,h⟩:=r.val i b e;⟨v,e1,h.same s⟩,r.own,r.base.trans s,r.new⟩
def tF(K:B4)(f:Ev->Y Bx):TE:=λσ H Q=>∃H0 ρ b,bF K H0 H σ ρ/\f ρ=Z b/\∀v H',AV H H'->Nw H b v->aX K H' b v->Q v H'
def LX(K:B4)(f:Ev->Y (O Bx)):TA:=λσ H Q=>∃H0 ρ bs,bF K H0 H σ ρ/\f ρ=Z bs/\∀vs H',AV H H'->sZ K H' bs vs->Q vs H'
def R3(K:B4)(f:Ev->Y Bool):TT:=λσ H Q=>∃H0 ρ b,bF K H0 H σ ρ/\f ρ=Z b/\∀H',AV H H'->Q b H'
def PV(X:Cx)(e:Expr)(f:Ev->Y Bx):Prop:=PE X e (tF X.K f)
structure QV (X:Cx) (e:Expr) (f:Ev->Option Bx):Prop where
 run:PV X e f
def FR(X:Cx)(es:O Expr)(f:Ev->Y (O Bx)):Prop:=PA X es (LX X.K f)
structure Wa (X:Cx) (es:List Expr) (f:Ev->Option (List Bx)):Prop where
 run:FR X es f
def PB(X:Cx)(e:Expr)(f:Ev->Y Bool):Prop:=PT X e (R3 X.K f)
structure QB (X:Cx) (e:Expr) (f:Ev->Option Bool):Prop where
 run:PB X e f
theorem FT{t t':TE}(h:PE X e t)(m:∀ σ H Q,t' σ H Q->t σ H Q):PE X e t':=λAN s σ H Q I q=>h AN s σ H Q I (m σ H Q q)
theorem MY{e:O Expr}{t':TA}(h:PA X e t)(m:∀ σ H Q,t' σ H Q->t σ H Q):PA X e t':=λpos AN s σ H Q I q=>h pos AN s σ H Q I (m σ H Q q)
theorem GT{t t':TT}(h:PT X e t)(m:∀ σ H Q,t' σ H Q->t σ H Q):PT X e t':=λAN s σ H Q I q=>h AN s σ H Q I (m σ H Q q)
theorem MH{t t':TT}(h:PW X e t)(m:∀ σ H Q,t' σ H Q->t σ H Q):PW X e t':=λa AN s σ H Q I q=>h a AN s σ H Q I (m σ H Q q)
theorem W6{e:AB}{t t':TS}(h:PS X e t)(m:∀D σ H,t' D σ H->t D σ H):PS X e t':=λAN s σ H D I q=>h AN s σ H D I (m D σ H q)
theorem GS{e:O AB}{t t':TS}(h:vZ X e t)(m:∀D σ H,t' D σ H->t D σ H):vZ X e t':=λAN s σ H D I q=>h AN s σ H D I (m D σ H q)
def rF(K:B4)(g:Bx->Bx->Y Bx):R2:=λx y H Q=>∃a b c,aX K H a x/\aX K H b y/\g a b=Z c/\∀w H',AV H H'->Nw H c w->aX K H' c w->Q w H'
def Mo(K:B4)(g:Bx->Y Bx):V->Hp->VK->Prop:=λx H Q=>∃a c,aX K H a x/\g a=Z c/\∀w H',AV H H'->Nw H c w->aX K H' c w->Q w H'
def NA(K:B4)(g:O Bx->Y Bx):O V->Hp->VK->Prop:=λxs H Q=>∃bs c,sZ K H bs xs/\g bs=Z c/\∀w H',AV H H'->Nw H c w->aX K H' c w->Q w H'
abbrev Ax(X:Cx)(f:A0->A0->Sem A0)(g:Bx->Bx->Y Bx):Prop:=sU X f (rF X.K g)
abbrev N4(X:Cx)(f:A0->Sem A0)(g:Bx->Y Bx):Prop:=DL X f (Mo X.K g)
abbrev oY(X:Cx)(f:A0)(g:O Bx->Y Bx):Prop:=fU X f (NA X.K g)
theorem sU.imp{f:A0->A0->Sem A0}{r a:R2}(h:sU X f r)(m:∀x y H Q,a x y H Q->r x y H Q):sU X f a:=λAN s σ H x y v u Q I c b q=>h AN s σ H x y v u Q I c b (m x y H Q q)
theorem DL.imp{f:A0->Sem A0}{r a:V->Hp->VK->Prop}(h:DL X f r)(m:∀x H Q,a x H Q->r x H Q):DL X f a:=λAN s σ H x v Q I b q=>h AN s σ H x v Q I b (m x H Q q)
theorem fU.imp{f:A0}{r a:O V->Hp->VK->Prop}(h:fU X f r)(m:∀x H Q,a x H Q->r x H Q):fU X f a:=λAN s σ H xs us Q I b q=>h AN s σ H xs us Q I b (m xs H Q q)
def b2(g:Bx->Bx->Y Bx)(fa fb:Ev->Y Bx):Ev->Y Bx:=λρ=>(fa ρ).bind λx=>(fb ρ).bind λy=>g x y
def b1(g:Bx->Y Bx)(fa:Ev->Y Bx):Ev->Y Bx:=λρ=>(fa ρ).bind g
def bI(g:O Bx->Y Bx)(fs:Ev->Y (O Bx)):Ev->Y Bx:=λρ=>(fs ρ).bind g
theorem AT{α β:Type}{o:Y α}{f:α->Y β}{b:β}(h:o.bind f=Z b):∃a,o=Z a/\f a=Z b:=by
 cases o with
 |none=>cases h
 |some a=>exact⟨a,rfl,h⟩
theorem W7{g:Bx->Bx->Y Bx}{fa fb:Ev->Y Bx}(σ:L2.St)(H:Hp)(Q:VK)(h:tF K (b2 g fa fb) σ H Q):DI (rF K g) (tF K fa) (tF K fb) σ H Q:=by
 obtain⟨H0,ρ,c,E,e,q⟩:=h;obtain⟨a,ea,e⟩:=AT e;obtain⟨b,eb,e⟩:=AT e;refine⟨H0,ρ,a,E,ea,λv H1 d p l=>⟨H0,ρ,b,E.grow d,eb,λu H2 f o m=>?_⟩⟩;exact⟨a,b,c,l.same f,m,e,λw n j i k=>q w n ((d.trans f).trans j) (i.old (d.trans f)) k⟩
theorem W'{g:Bx->Y Bx}{fa:Ev->Y Bx}(σ:L2.St)(H:Hp)(Q:VK)(h:tF K (b1 g fa) σ H Q):NB (Mo K g) (tF K fa) σ H Q:=by
 obtain⟨H0,ρ,c,E,e,q⟩:=h;obtain⟨a,ea,e⟩:=AT e;exact⟨H0,ρ,a,E,ea,λv H1 b l i=>⟨a,c,i,e,λw j d k f=>q w j (b.trans d) (k.old b) f⟩⟩
theorem DF{g:O Bx->Y Bx}{fs:Ev->Y (O Bx)}(σ:L2.St)(H:Hp)(Q:VK)(h:tF K (bI g fs) σ H Q):Iq (NA K g) (LX K fs) σ H Q:=by
 obtain⟨H0,ρ,c,E,e,q⟩:=h;obtain⟨a,ea,e⟩:=AT e;exact⟨H0,ρ,a,E,ea,λv H1 b i=>⟨a,c,i,e,λw j d k f=>q w j (b.trans d) (k.old b) f⟩⟩
section
variable{a b:Expr}{fa fb fc f:Ev->Y Bx}{fs:Ev->Y (O Bx)}
theorem aU{op:Operator}{g:Bx->Bx->Y Bx}(e:Ax X (binaryOp op) g)(c:QV X a fa)(d:QV X b fb):QV X (.BinOp a op b pos) (b2 g fa fb):=⟨have c:=c.run;have d:=d.run;FT (NL e c d) W7⟩
theorem gu{op:UnaryOp}{g:Bx->Y Bx}(c:N4 X (unaryOp op) g)(b:QV X a fa):QV X (.UnaryOp op a pos) (b1 g fa):=⟨have b:=b.run;FT (Of c b) W'⟩
theorem nU{g:Bx->Bx->Y Bx}(f:Ax X (AG op) g)(c:QV X a fa)(d:QV X b fb)(e:behindInMarks op b=false):QV X (.Compare a [op] [b] pos) (b2 g fa fb):=⟨have c:=c.run;have d:=d.run;FT (RN f c d e) W7⟩
def Ji:Bx->Y Bool
 |.z (.bl b)=>Z b
 |_=>U
theorem Cm{b:Bx}{v:V}{k:Bool}(h:aX K H b v)(e:Ji b=Z k):v=.bl k:=by
 cases b with
 |z d=>
  cases d<;>first|(cases e;done)|skip;cases e;simpa only[aX,AW]using h
 |_=>cases e
theorem d6(σ:L2.St)(H:Hp)(Q:Bool->Hp->Prop)(h:R3 K (λρ=>(f ρ).bind Ji) σ H Q):tF K f σ H (λx H'=>∃k,x=.bl k/\Q k H'):=by
 obtain⟨H0,ρ,k,E,e,q⟩:=h;obtain⟨b,eb,e⟩:=AT e;exact⟨H0,ρ,b,E,eb,λv H1 a d c=>⟨k,Cm c e,q H1 a⟩⟩
theorem bC{g:Bx->Bx->Y Bx}(f:Ax X (AG op) g)(c:QV X a fa)(d:QV X b fb)(e:behindInMarks op b=false):QB X (.Compare a [op] [b] pos) (λρ=>(b2 g fa fb ρ).bind Ji):=⟨have c:=c.run;have d:=d.run;GT (OC f c d e) λσ H Q h=>W7 σ H _ (d6 σ H Q h)⟩
def F3(g g':Bx->Bx->Y Bx)(fa fb fc:Ev->Y Bx):Ev->Y Bx:=λρ=>(fa ρ).bind λx=>(fb ρ).bind λy=>(g x y).bind λr=>(Ji r).bind λk=>if k=true then(fc ρ).bind λw=>g' y w else Z (.z (.bl false))
theorem UU{g g':Bx->Bx->Y Bx}(σ:L2.St)(H:Hp)(Q:VK)(h:tF K (F3 g g' fa fb fc) σ H Q):Wx (rF K g) (rF K g') (tF K fa) (tF K fb) (tF K fc) σ H Q:=by
 obtain⟨H0,ρ,d,E,e,q⟩:=h;obtain⟨a,ea,e⟩:=AT e;obtain⟨b,eb,e⟩:=AT e;obtain⟨r,er,e⟩:=AT e;obtain⟨k,ek,e⟩:=AT e;refine⟨H0,ρ,a,E,ea,λv H1 i F o=>⟨H0,ρ,b,E.grow i,eb,λu H2 n L m=>?_⟩⟩;refine⟨a,b,r,o.same n,m,er,λw B j G t=>⟨k,Cm t ek,?_⟩⟩;have c:=(i.trans n).trans j;cases k with
 |false=>
  rw[ZA zI]at e ⊢;cases e;exact q _ B c trivial (by simp only[aX,AW])
 |true=>
  rw[zt rfl]at e ⊢;obtain⟨l,p,e⟩:=AT e;refine⟨H0,ρ,l,E.grow c,p,λx J f I A=>?_⟩;exact⟨b,l,d,(m.same j).same f,A,e,λy s D z C=>q y s ((c.trans f).trans D) (z.old (c.trans f)) C⟩
theorem W8{d:CmpOp}{g g':Bx->Bx->Y Bx}(k:Ax X (AG op) g)(i:Ax X (AG d) g')(h:QV X a fa)(e:QV X b fb)(f:QV X c fc)(j:lastMarks [op,d] [b,c]=false:=by with_unfolding_all rfl):QV X (.Compare a [op,d] [b,c] pos) (F3 g g' fa fb fc):=⟨have h:=h.run;have e:=e.run;have f:=f.run;FT (Wy k i h e f j) UU⟩
def wz(ρ:Ev)(i:Nat):Y Bx:=match ρ[i]? with
 |some (Z (.o ds))=>Z (.l ds)
 |some (Z (.m AO _))=>Z (.n AO)
 |some (Z b)=>Z b
 |_=>U
theorem Lq{ρ:Ev}{b:Bx}(E:bF K H0 H σ ρ)(e:wz ρ i=Z b):∃v,σ[i]?=Z (Z v)/\aX K H b v:=by
 unfold wz at e;split at e
 ·rename_i ds h;cases e;obtain⟨v,e1,a,vs,e2,q,r⟩:=E.val i _ h;exact⟨v,e1,a,vs,e2,.inl q,r⟩
 ·rename_i ds h;cases e;obtain⟨v,e1,a,vs,e2,q,r⟩:=E.val i _ h;exact⟨v,e1,a,vs,e2,.inl q,r.1⟩
 ·rename_i c h;cases e;exact E.val i _ h
 ·cases e
theorem xu{ρ:Ev}{b:Bx}(e:wz ρ i=Z b):vN b=false:=by
 unfold wz at e;split at e
 ·cases e;rfl
 ·cases e;rfl
 ·rename_i c h1 h2 a;cases e;cases b with
  |o ds=>exact absurd S (h1 ds)
  |m ds _=>exact absurd S (h2 ds _)
  |_=>rfl
 ·cases e
theorem ao(i:Nat)(c:X.N[i]?=Z x:=by rfl)(d:Z1 X.env.scope x:=by first|exact Kj rfl|exact ki (Kj S)|exact ki (ki S))(f:db x:=by decide)(a:(x==("__classdict__":AJ))=false:=by decide):QV X (.Name x pos) (λρ=>wz ρ i):=⟨FT (jE c d f a) λσ H Q h=>by
 obtain⟨H0,ρ,b,E,e,q⟩:=h;obtain⟨v,e1,r⟩:=Lq E e;refine⟨v,e1,q v H (AV.refl H) ?_ r⟩;cases b with
 |o ds=>have:=xu e;cases this
 |m ds _=>have:=xu e;cases this
 |_=>trivial⟩
def cB(d:Dt):Ev->Y Bx:=λ_=>Z (.z d)
theorem Us{v:V}{d:Dt}(h:PE X e (tC v))(r:∀H,AW X.K H d v):PV X e (cB d):=FT h λσ H Q q=>by
 obtain⟨H0,ρ,b,E,e,q⟩:=q;cases e;exact q v H (AV.refl H) trivial (r H)
theorem aG{i j}:QV X (.Constant (.int i) j pos) (cB (.int i)):=⟨Us Pn λH=>by simp only[AW]⟩
theorem Lr{i j}:QV X (.Constant (.bool i) j pos) (cB (.bl i)):=⟨Us PR λH=>by simp only[AW]⟩
theorem pR{j}:QV X (.Constant .none j pos) (cB .non):=⟨Us Pq λH=>by simp only[AW]⟩
theorem W9{j}(hx:x.length<=AA:=by decide):PV X (.Constant (.str x) j pos) (cB (.str x)):=Us Wq λH=>by unfold AW;exact⟨rfl,hx⟩
theorem Xa{i:Int}{t:Tok}(a:Gl X x)(b:X.mg x=Z (.int i t))(c:db x:=by decide):QV X (.Name x pos) (cB (.int i)):=⟨Us (jP a b (v:=.int i) ⟨t,rfl⟩ c) λH=>by simp only[AW]⟩
theorem Xb{t:Tok}(a:Gl X x)(b:X.mg x=Z (.str y t))(d:y.length<=AA:=by decide)(c:db x:=by decide):QV X (.Name x pos) (cB (.str y)):=⟨Us (jP a b (v:=.str y) ⟨t,rfl⟩ c) λH=>by unfold AW;exact⟨rfl,d⟩⟩
def Fk:Bx->Y Bool
 |.z .non=>Z false
 |.z (.bl b)=>Z b
 |.z (.int i)=>Z (i != 0)
 |.z (.str x)=>Z ((x.length:Int) != 0)
 |.z (.tup ds)=>Z (!ds.isEmpty)
 |.z (.lst ds)=>Z (!ds.isEmpty)
 |.l ds=>Z (!ds.isEmpty)
 |.o ds=>Z (!ds.isEmpty)
 |.z .emp=>U
 |.n _=>U
 |.m _ _=>U
theorem aP.isEmpty{ds:O Dt}(h:aP K H ds vs):(!ds.isEmpty)=!vs.isEmpty:=by
 have:=h.length;cases ds<;>cases vs<;>simp_all
theorem ce{b:Bx}{v:V}{k:Bool}(r:aX K H b v)(e:Fk b=Z k):L6 K v H k:=by
 cases b with
 |z d=>
  cases d with
  |non=>cases e;simp only[aX,AW]at r;subst r;rfl
  |bl b=>cases e;simp only[aX,AW]at r;subst r;rfl
  |int b=>cases e;simp only[aX,AW]at r;subst r;rfl
  |str x=>cases e;simp only[aX,AW]at r;obtain⟨rfl,h⟩:=r;exact⟨h,rfl⟩
  |tup ds=>
   cases e;simp only[aX,AW]at r;obtain⟨a,vs,rfl,q,r⟩:=r;exact .inr (.inl ⟨vs,q,r.isEmpty⟩)
  |lst ds=>
   cases e;obtain⟨a,vs,rfl,q,r⟩:=r.Gf rfl;exact .inl ⟨vs,q,r.isEmpty⟩
  |emp=>cases e
 |l ds=>
  cases e;obtain⟨a,vs,rfl,q,r⟩:=r.Gf rfl;exact .inl ⟨vs,q,r.isEmpty⟩
 |o ds=>
  cases e;obtain⟨a,vs,rfl,q,r⟩:=r.Gf rfl;exact .inl ⟨vs,q,r.isEmpty⟩
 |n _=>cases e
 |m _ _=>cases e
theorem kh(h:QV X e f)(he:∀a,isTrue e X.env a=(do let v <-a;standAt e.pos;holding [v] (truthy v)):=by intro _;rfl):QB X e (λρ=>(f ρ).bind Fk):=⟨have h:=h.run;GT (Wz h he) λσ H Q q=>by
 obtain⟨H0,ρ,k,E,e,q⟩:=q;obtain⟨b,eb,e⟩:=AT e;exact⟨H0,ρ,b,E,eb,λv H1 c g d=>⟨k,ce d e,q H1 c⟩⟩⟩
def Ay(p q:Ev->Y Bool):Ev->Y Bool:=λρ=>(p ρ).bind λc=>if c=true then q ρ else Z false
def Ls(p q:Ev->Y Bool):Ev->Y Bool:=λρ=>(p ρ).bind λc=>if c=true then Z true else q ρ
def wA(p:Ev->Y Bool):Ev->Y Bool:=λρ=>(p ρ).bind λc=>Z (!c)
def bq(X:Cx)(e:Expr)(f:Ev->Y Bool):Prop:=PW X e (R3 X.K f)
structure Db (X:Cx) (e:Expr) (f:Ev->Option Bool):Prop where
 run:bq X e f
variable{p q:Ev->Y Bool}{AS:O Expr}
theorem xG(b:QB X a p):Db X (.BoolOp .And [a] pos) p:=⟨have b:=b.run;gI b⟩
theorem lB(b:QB X a p):Db X (.BoolOp .Or [a] pos) p:=⟨have b:=b.run;ft b⟩
theorem OX(σ:L2.St)(H:Hp)(Q:Bool->Hp->Prop)(h:R3 K (Ay p q) σ H Q):LY (R3 K p) (R3 K q) σ H Q:=by
 obtain⟨H0,ρ,k,E,e,w⟩:=h;obtain⟨c,b,e⟩:=AT e;refine⟨H0,ρ,c,E,b,λH1 a=>?_⟩;cases c with
 |true=>rw[zt rfl]at e ⊢;exact⟨H0,ρ,k,E.grow a,e,λH2 d=>w H2 (a.trans d)⟩
 |false=>rw[ZA zI]at e ⊢;cases e;exact w H1 a
theorem Sb(σ:L2.St)(H:Hp)(Q:Bool->Hp->Prop)(h:R3 K (Ls p q) σ H Q):ML (R3 K p) (R3 K q) σ H Q:=by
 obtain⟨H0,ρ,k,E,e,w⟩:=h;obtain⟨c,b,e⟩:=AT e;refine⟨H0,ρ,c,E,b,λH1 a=>?_⟩;cases c with
 |true=>rw[zt rfl]at e ⊢;cases e;exact w H1 a
 |false=>rw[ZA zI]at e ⊢;exact⟨H0,ρ,k,E.grow a,e,λH2 d=>w H2 (a.trans d)⟩
theorem oZ(c:QB X a p)(d:Db X (.BoolOp .And (b::AS) pos) q):Db X (.BoolOp .And (a::b::AS) pos) (Ay p q):=⟨have c:=c.run;have d:=d.run;MH (hW c d) OX⟩
theorem kj(c:QB X a p)(d:Db X (.BoolOp .Or (b::AS) pos) q):Db X (.BoolOp .Or (a::b::AS) pos) (Ls p q):=⟨have c:=c.run;have d:=d.run;MH (TH c d) Sb⟩
theorem xH(h:Db X e p):QB X e p:=⟨have h:=h.run;h.pt⟩
theorem kE(b:QB X a p):QB X (.UnaryOp .Not a pos) (wA p):=⟨have b:=b.run;GT (df b) λσ H Q h=>by
 obtain⟨H0,ρ,k,E,e,w⟩:=h;obtain⟨c,f,e⟩:=AT e;cases e;exact⟨H0,ρ,c,E,f,λH1 d=>w H1 d⟩⟩
def Az(fa fb:Ev->Y Bx):Ev->Y Bx:=λρ=>((fa ρ).bind Ji).bind λc=>if c=true then fb ρ else Z (.z (.bl false))
theorem yQ{op}(h:QV X a fa):QV X (.BoolOp op [a] pos) fa:=⟨have h:=h.run;Wr h⟩
theorem qG(i:QV X a fa)(f:QV X (.BoolOp .And (b::AS) pos) fb):QV X (.BoolOp .And (a::b::AS) pos) (Az fa fb):=⟨have i:=i.run;have f:=f.run;FT (Pr i f) λσ H Q h=>by
 obtain⟨H0,ρ,k,E,e,w⟩:=h;obtain⟨c,g,e⟩:=AT e;obtain⟨x,ex,g⟩:=AT g;refine⟨H0,ρ,x,E,ex,λv H1 d o j=>⟨c,Cm j g,?_⟩⟩;cases c with
 |true=>rw[zt rfl]at e ⊢;exact⟨H0,ρ,k,E.grow d,e,λv H2 n l m=>w v H2 (d.trans n) (l.old d) m⟩
 |false=>rw[ZA zI]at e ⊢;cases e;exact w _ H1 d trivial (by simp only[aX,AW])⟩
theorem R4:FR X [] (λ_=>Z []):=MY cX λσ H Q h=>by
 obtain⟨H0,ρ,bs,E,e,q⟩:=h;cases e;exact q [] H (AV.refl H) .nil
def aq(f:Ev->Y Bx)(fs:Ev->Y (O Bx)):Ev->Y (O Bx):=λρ=>(f ρ).bind λb=>(fs ρ).bind λbs=>Z (b::bs)
theorem Lx(h1:PV X e f)(h2:FR X es fs)(hs:A9 (e::es) X.env=(false,eval e X.env)::A9 es X.env:=by rfl):FR X (e::es) (aq f fs):=MY (aY h1 h2 hs) λσ H Q h=>by
 obtain⟨H0,ρ,bs,E,e,q⟩:=h;obtain⟨b,eb,e⟩:=AT e;obtain⟨d,j,e⟩:=AT e;cases e;refine⟨H0,ρ,b,E,eb,λv H1 a k g=>⟨H0,ρ,d,E.grow a,j,λvs H2 c i=>?_⟩⟩;exact q (v::vs) H2 (a.trans c) (.cons (g.same c) i)
def qH:Bx->Y Bx
 |.z d=>Z (.z d)
 |.o ds=>Z (.z (.lst ds))
 |.l _=>U
 |.n _=>U
 |.m _ _=>U
theorem qI{a:A1}(I:L2.AU X AN σ H s)(h:H a=Z (.lst vs)):∃o,L2.AU X AN σ (B1 H a (.jm o (.lst vs))) s:=by
 obtain⟨z,AQ,n,r,e⟩:=I.hok a _ h;refine⟨{ cls:=.type "list",data:=.seq AQ.toArray n },⟨I.ok,I.os,I.bare,⟨I.base.keep,I.base.slot,λb d q1 q2 q3=>?_,I.base.there,λb xs q=>?_,λb d u q=>?_,λb ps q=>?_⟩,I.loc,I.cell,?_,λx c q=>?_,λp hp=>?_,?_,I.len⟩⟩
 ·have:=I.base.free b d q1 q2 q3;rw[aF (bf h this).symm];exact this
 ·have:=I.base.tups b xs q;rw[aF (ji this h (by intro z;cases z))];exact this
 ·have:=I.base.nP b d u q;rw[aF (ji this h (by intro z;cases z))];exact this
 ·obtain⟨m,this⟩:=I.base.qD b ps q;rw[aF (ji this h (by intro z;cases z))];exact⟨m,this⟩
 ·rw[aF (bf h I.free).symm];exact I.free
 ·rw[aF (bf h (I.jj x c q)).symm];exact I.jj x c q
 ·obtain⟨q1,q2,q3⟩:=I.pin p hp;refine⟨q1,?_,q3⟩;rw[aF (bf h q2).symm];exact q2
 ·intro b u q;by_cases f:b=a
  ·subst f;rw[aQ]at q;cases q;exact⟨e,z,AQ,n,r,e⟩
  ·rw[aF f]at q;refine(I.hok b u q).stay (λc v _ w=>w) (λc w=>?_) (λc xs w=>?_) λc o' g w=>?_
   ·rw[aF (ji w h (by intro z;cases z))];exact w
   ·rw[aF (ji w h (by intro z;cases z))];exact w
   ·rw[aF (ji w h (by intro z;cases z))];exact w
theorem dX(h:QV X e f):QV X e (b1 qH f):=⟨by
 have h:=h.run;intro AN s σ H Q I q;obtain⟨H0,ρ,b,E,e,q⟩:=q;obtain⟨x,ex,e⟩:=AT e;cases x with
 |z d=>
  cases e;exact h AN s σ H Q I ⟨H0,ρ,_,E,ex,λv H' s' i g=>q v H' s' trivial g⟩
 |l ds=>cases e
 |n ds=>cases e
 |m ds _=>cases e
 |o ds=>
  cases e;refine ig (h AN s σ H (λv H'=>AV H H'/\Nw H (.o ds) v/\aX X.K H' (.o ds) v) I ⟨H0,ρ,_,E,ex,λv H' s' i g=>⟨s',i,g⟩⟩) λu C B=>?_;obtain⟨v,H1,t,y,s',i,g⟩:=B;obtain⟨a,vs,rfl,k,p⟩:=g;obtain⟨o,A⟩:=qI t k;refine⟨.ref a,_,A,y,q _ _ (λc w j=>?_) trivial ?_⟩
  ·rw[aF (bf j (i a S))];exact s' c w j
  ·simp only[aX,AW];exact⟨a,vs,rfl,.inl ⟨o,aQ⟩,p.kp (.lst k)⟩⟩
def Jj:O Bx->Y (O Dt)
 |[]=>Z []
 |.z d::r=>(Jj r).bind λds=>Z (d::ds)
 |_=>U
theorem Cp{K:B4}{H:Hp}:∀{bs:O Bx} {vs:O V} {ds:O Dt},sZ K H bs vs->Jj bs=Z ds->aP K H ds vs
 |_,_,_,.nil,e=>by cases e;exact aP.nil
 |b::bs,_,_,.cons h t,e=>by
  cases b with
  |z d=>
   simp only[Jj]at e;obtain⟨a,e1,e2⟩:=AT e;cases e2;exact aP.cons h (Cp t e1)
  |_=>cases e
theorem Cq:∀{bs:O Bx} {ds:O Dt},Jj bs=Z ds->ds.length=bs.length
 |[],_,e=>by cases e;rfl
 |.z d::r,_,e=>by
  simp only[Jj]at e;obtain⟨a,e1,e2⟩:=AT e;cases e2;simp[Cq e1]
 |.l _::_,_,e=>by cases e
 |.o _::_,_,e=>by cases e
 |.n _::_,_,e=>by cases e
 |.m _ _::_,_,e=>by cases e
def dU(bs:O Bx):Y Bx:=if bs.length<=1000 then(Jj bs).bind λds=>Z (.z (.tup ds))else U
def gM(bs:O Bx):Y Bx:=if bs.length<=1000 then(Jj bs).bind λds=>Z (.o ds)else U
theorem bD{p:A1}{o:HO}(h:H p=U):AV H (B1 H p o):=λb u e=>by rw[aF (bf e h)];exact e
theorem MZ(h:n<=1000):n<=AA:=ZH h ()
theorem bR{x1}(h:Wa X es fs):QV X (.Tuple es x1 pos) (bI dU fs):=⟨have h:=h.run;FT (UP h) λσ H Q q=>by
 obtain⟨H0,ρ,c,E,e,q⟩:=q;obtain⟨bs,f,e⟩:=AT e;refine⟨H0,ρ,bs,E,f,λvs H1 b d=>?_⟩;unfold dU at e;split at e
 ·rename_i g;obtain⟨ds,e1,e⟩:=AT e;cases e;have a:=Cp d e1;refine⟨MZ (by rw[a.length,Cq e1];exact g),λp hp=>q _ _ (b.trans (bD hp)) trivial ?_⟩;simp only[aX,AW];exact⟨p,vs,rfl,.inl (.inl aQ),a.kp (.of (bD hp))⟩
 ·cases e⟩
theorem cN(h:Wa X es fs):QV X (.List es pos) (bI gM fs):=⟨have h:=h.run;FT (Ci h) λσ H Q q=>by
 obtain⟨H0,ρ,c,E,e,q⟩:=q;obtain⟨bs,g,e⟩:=AT e;refine⟨H0,ρ,bs,E,g,λvs H1 b f=>?_⟩;unfold gM at e;split at e
 ·rename_i i;obtain⟨ds,e1,e⟩:=AT e;cases e;have d:=Cp f e1;refine⟨MZ (by rw[d.length,Cq e1];exact i),λp hp=>q _ _ (b.trans (bD hp)) (λa ea=>by cases ea;exact b.free hp) ?_⟩;exact⟨p,vs,rfl,aQ,d.kp (.of (bD hp))⟩
 ·cases e⟩
theorem aW{id:String}{g:O Bx->Y Bx}{p:Pos}(c:oY X (.builtin id) g)(f:Gl X x)(h:X.mg x=U)(i:AH x=Z (.builtin id))(a:Wa X (e::es) fs)(b:x ≠ "__name__":=by decide)(j:db x:=by decide)(he:A9 (e::es) X.env=(false,eval e X.env)::A9 es X.env:=by rfl)(d:(AD pos (A9 es X.env)).any (·.1)=false:=by rfl):QV X (.Call (.Name x p) (e::es) [] pos) (bI g fs):=⟨have a:=a.run;FT (fV c f h i a b j he d) DF⟩
theorem dY{T:String}{g:O Bx->Y Bx}{p:Pos}(c:oY X (.type T) g)(f:Gl X x)(h:X.mg x=U)(i:AH x=Z (.type T))(a:Wa X (e::es) fs)(b:x ≠ "__name__":=by decide)(j:db x:=by decide)(he:A9 (e::es) X.env=(false,eval e X.env)::A9 es X.env:=by rfl)(d:(AD pos (A9 es X.env)).any (·.1)=false:=by rfl):QV X (.Call (.Name x p) (e::es) [] pos) (bI g fs):=⟨have a:=a.run;FT (GZ c f h i a b j he d) DF⟩
end
inductive As where
 |nx (ρ:Ev)|rt (b:Bx)|bk (ρ:Ev)|ct (ρ:Ev)
def Xc(K:B4)(H0:Hp)(D:BV):As->Prop
 |.nx ρ=>∀ σ H,bF K H0 H σ ρ->D.nx σ H
 |.rt b=>∀v H,AV H0 H->Nw H0 b v->aX K H b v->D.rt v H
 |.bk ρ=>∀ σ H,bF K H0 H σ ρ->D.bk σ H
 |.ct ρ=>∀ σ H,bF K H0 H σ ρ->D.ct σ H
def tG(K:B4)(g:Ev->Y As):TS:=λD σ H=>∃H0 ρ r,bF K H0 H σ ρ/\g ρ=Z r/\Xc K H0 D r
def Pv(X:Cx)(st:AB)(g:Ev->Y As):Prop:=PS X st (tG X.K g)
structure Wb (X:Cx) (st:Stmt) (g:Ev->Option As):Prop where
 run:Pv X st g
def Ue(X:Cx)(st:O AB)(g:Ev->Y As):Prop:=vZ X st (tG X.K g)
structure Ut (X:Cx) (st:List Stmt) (g:Ev->Option As):Prop where
 run:Ue X st g
def aO(g1 g2:Ev->Y As):Ev->Y As:=λρ=>(g1 ρ).bind λr=>match r with
 |.nx a=>g2 a
 |r=>Z r
section
variable{a b:Expr}{fa fb fc f:Ev->Y Bx}{fs:Ev->Y (O Bx)}{AS:O AB}{g g1 g2:Ev->Y As}
theorem aR  :Ut X [] (λρ=>Z (.nx ρ)):=⟨GS mL λD σ H h=>by
 obtain⟨H0,ρ,r,E,e,q⟩:=h;cases e;exact q σ H E⟩
theorem aC(h1:Wb X st g1)(h2:Ut X AS g2):Ut X (st::AS) (aO g1 g2):=⟨have h1:=h1.run;have h2:=h2.run;GS (dI h1 h2) λD σ H h=>by
 obtain⟨H0,ρ,r,E,e,q⟩:=h;obtain⟨c,e1,e⟩:=AT e;refine⟨H0,ρ,c,E,e1,?_⟩;cases c with
 |nx a=>exact λσ' H' d=>⟨H0,a,r,d,e,q⟩
 |rt b=>cases e;exact q
 |bk a=>cases e;exact q
 |ct a=>cases e;exact q⟩
def Xd:Bx->Y As
 |.l _=>U
 |.n _=>U
 |b=>Z (.rt b)
theorem bO(h:QV X e f):Wb X (.Return (Z e) pos) (λρ=>(f ρ).bind Xd):=⟨have h:=h.run;W6 (Ca h) λD σ H h=>by
 obtain⟨H0,ρ,r,E,e,q⟩:=h;obtain⟨b,eb,e⟩:=AT e;refine⟨H0,ρ,b,E,eb,λv H1 a g c=>?_⟩;cases b with
 |l ds=>cases e
 |z d=>cases e;exact q v H1 (E.base.trans a) trivial c
 |o ds=>cases e;exact q v H1 (E.base.trans a) (g.old E.base) c
 |n ds=>cases e
 |m ds _=>cases e;exact q v H1 (E.base.trans a) (g.old E.base) c⟩
def Jk(i:Nat)(ρ:Ev):Y As:=match ρ[i]? with
 |some (Z b)=>Xd b
 |_=>U
theorem R5(i:Nat){p:Pos}(g:X.N[i]?=Z x:=by rfl)(s:Z1 X.env.scope x:=by first|exact Kj rfl|exact ki (Kj S)|exact ki (ki S))(j:db x:=by decide)(k:(x==("__classdict__":AJ))=false:=by decide):Wb X (.Return (Z (.Name x p)) pos) (Jk i):=⟨W6 (Ca (jE g s j k)) λD σ H h=>by
 obtain⟨H0,ρ,r,E,e,q⟩:=h;unfold Jk at e;split at e
 ·rename_i b c;obtain⟨v,e1,f⟩:=E.val i b c;refine⟨v,e1,?_⟩;cases b with
  |l ds=>cases e
  |z d=>cases e;exact q v H E.base trivial f
  |o ds=>cases e;exact q v H E.base (λa ea=>E.new i _ a c S (by rw[e1,ea])) f
  |n ds=>cases e
  |m ds _=>cases e;exact q v H E.base (λa ea=>E.new i _ a c S (by rw[e1,ea])) f
 ·cases e⟩
def oV(p:Ev->Y Bool)(g1 g2:Ev->Y As):Ev->Y As:=λρ=>(p ρ).bind λk=>if k=true then g1 ρ else g2 ρ
theorem eE{p:Ev->Y Bool}{u v:O AB}(a:QB X c p)(b:Ut X u g1)(d:Ut X v g2):Wb X (.If c u v pos) (oV p g1 g2):=⟨have a:=a.run;have b:=b.run;have d:=d.run;W6 (GD a b d) λD σ H h=>by
 obtain⟨H0,ρ,r,E,e,q⟩:=h;obtain⟨k,ek,e⟩:=AT e;refine⟨H0,ρ,k,E,ek,λH1 f=>?_⟩;cases k with
 |true=>rw[zt rfl]at e ⊢;exact⟨H0,ρ,r,E.grow f,e,q⟩
 |false=>rw[ZA zI]at e ⊢;exact⟨H0,ρ,r,E.grow f,e,q⟩⟩
theorem BB{l:O α}{x y:α}(h:(l.set i x)[j]?=Z y):(j=i/\y=x/\i<l.length)\/(j≠i/\l[j]?=Z y):=by
 rw[Ki]at h;by_cases e:i=j
 ·subst e;rw[zt rfl]at h;split at h
  ·cases h;exact .inl ⟨rfl,rfl,by assumption⟩
  ·cases h
 ·rw[ZA e]at h;exact .inr ⟨λz=>e z.symm,h⟩
theorem Cr{l:O α}(x:α)(h:i<l.length):(l.set i x)[i]?=Z x:=by
 rw[Ki,zt rfl,zt h]
theorem qg{l:O α}(x:α)(h:j≠i):(l.set i x)[j]?=l[j]?:=by
 rw[Ki,ZA (Q2 h)]
theorem bF.set{H1:Hp}{ρ:Ev}{b:Bx}{v:V}(E:bF K H0 H σ ρ)(s:AV H H1)(r:aX K H1 b v)(u:vN b=true\/loose b=false)(n:Nw H b v):bF K H0 H1 (σ.set i (Z v)) (ρ.set i (Z b)):=by
 have C:=E.grow s;have apart:∀(j:Nat) (g:Bx) (a:A1),ρ[j]?=Z (Z g)->loose g=true->σ[j]?=Z (Z (.ref a))->H a≠U:=λj g a e1 e2 e3 z=>by
  obtain⟨G,h,x⟩:=E.val j g e1;rw[e3]at h;cases h;cases g with
  |z d=>cases e2
  |l ds=>
   obtain⟨B,vs,f,q,_⟩:=x;cases f;rcases q with q|⟨o,q⟩<;>(rw[z]at q;cases q)
  |o ds=>
   obtain⟨B,vs,f,q,_⟩:=x;cases f;rw[z]at q;cases q
  |n ds=>
   obtain⟨B,vs,f,q,_⟩:=x;cases f;rcases q with q|⟨o,q⟩<;>(rw[z]at q;cases q)
  |m ds _=>
   obtain⟨B,vs,f,q,_⟩:=x;cases f;rw[z]at q;cases q
 have y:vN b=true->∀a,v=.ref a->H a=U:=λF=>by
  cases b with
  |o ds=>exact n
  |m ds _=>exact n
  |_=>cases F
 refine⟨by rw[qi,qi];exact E.len,λj g e=>?_,λj k c a g e1 t e2 e3 h f=>?_,C.base,λj c a e1 t e2=>?_⟩
 ·rcases BB e with⟨rfl,e',hi⟩|⟨w,e'⟩
  ·cases e';exact⟨v,Cr _ (by rw[E.len];exact hi),r⟩
  ·rw[qg _ w];exact C.val j g e'
 ·rcases BB e1 with⟨rfl,e',hi⟩|⟨w,e'⟩
  ·cases e';rw[Cr _ (by rw[E.len];exact hi)]at e2;cases e2;rcases BB e3 with⟨rfl,p,_⟩|⟨A,p⟩
   ·rfl
   ·rw[qg _ A]at f;exact absurd (y t a S) (apart k g a p h f)
  ·rw[qg _ w]at e2;rcases BB e3 with⟨rfl,p,hi⟩|⟨A,p⟩
   ·cases p;rw[Cr _ (by rw[E.len];exact hi)]at f;cases f;have D:loose c=true:=by cases c<;>first|rfl|cases t
    rcases u with u|u
    ·exact absurd (y u a S) (apart j _ a e' D e2)
    ·rw[u]at h;cases h
   ·rw[qg _ A]at f;exact E.own j k c a g e' t e2 p h f
 ·rcases BB e1 with⟨rfl,e',hi⟩|⟨w,e'⟩
  ·cases e';rw[Cr _ (by rw[E.len];exact hi)]at e2;cases e2;exact E.base.free (y t a S)
  ·rw[qg _ w]at e2;exact E.new j c a e' t e2
def Fc(ρ:Ev)(i:Nat):Bx->Y Ev
 |.l _=>U
 |.n _=>U
 |b=>Z (ρ.set i (Z b))
theorem V'{H1:Hp}{ρ ρ':Ev}{b:Bx}{v:V}(E:bF K H0 H σ ρ)(s:AV H H1)(r:aX K H1 b v)(n:Nw H b v)(e:Fc ρ i b=Z ρ'):bF K H0 H1 (σ.set i (Z v)) ρ':=by
 cases b with
 |l ds=>cases e
 |z d=>cases e;exact E.set s r (.inr S) n
 |o d=>cases e;exact E.set s r (.inl S) n
 |n ds=>cases e
 |m d _=>cases e;exact E.set s r (.inl S) n
theorem bL(i:Nat){p:Pos}(d:X.N.Nodup)(he:QV X e f)(hi:X.N[i]?=Z x:=by rfl)(hx:D1 X.env.scope x:=by first|exact Kj rfl|exact ki S)(hs:swapsWith e (Z (.Name x p)) pos.line X.env=pure false:=by rfl)(a:X.fn x=true\/X.env.scope.names.lookup x=Z .local:=by first|exact .inl rfl|exact .inr S):Wb X (.Assign [.Name x p] e pos) (λρ=>(f ρ).bind λb=>(Fc ρ i b).bind λρ'=>Z (.nx ρ')):=⟨have he:=he.run;W6 (pQ d hi hx he hs a) λD σ H h=>by
 obtain⟨H0,ρ,r,E,e,q⟩:=h;obtain⟨b,eb,e⟩:=AT e;obtain⟨ρ',j,e⟩:=AT e;cases e;exact⟨H0,ρ,b,E,eb,λv H1 c k g=>q _ _ (V' E c g k j)⟩⟩
def Lo(σ:L2.St)(ρ:Ev)(σ':L2.St)(ρ':Ev):Prop:=∀(j:Nat) b,loose b=true->ρ'[j]?=Z (Z b)->ρ[j]?=Z (Z b)/\σ'[j]?=σ[j]?
theorem Lo.refl{σ:L2.St}{ρ:Ev}:Lo σ ρ σ ρ:=λ_ _ _ e=>⟨e,rfl⟩
theorem Lo.trans{σ g d:L2.St}{ρ h f:Ev}(a:Lo σ ρ g h)(b:Lo g h d f):Lo σ ρ d f:=λj c l e=>by
 obtain⟨e1,e2⟩:=b j c l e;obtain⟨e3,i⟩:=a j c l e1;exact⟨e3,e2.trans i⟩
theorem Lo.set{ρ:Ev}(i:Nat)(v:V)(d:Dt):Lo σ ρ (σ.set i (Z v)) (ρ.set i (Z (.z d))):=λj b l e=>by
 rcases BB e with⟨rfl,e',_⟩|⟨a,e'⟩
 ·cases e';cases l
 ·exact⟨e',qg _ a⟩
def MD(K:B4)(g:Dt->Ev->Y Ev):TG:=λv σ H Q=>∃H0 ρ d a,bF K H0 H σ ρ/\AW K H d v/\g d ρ=Z a/\∀ σ',bF K H0 H σ' a->Lo σ ρ σ' a->Q σ' H
def F1(X:Cx)(t:Expr)(g:Dt->Ev->Y Ev):Prop:=PG X t (MD X.K g)
structure ED (X:Cx) (t:Expr) (g:Dt->Ev->Option Ev):Prop where
 run:F1 X t g
theorem bh(i:Nat)(f:X.N.Nodup)(hi:X.N[i]?=Z x:=by rfl)(hx:D1 X.env.scope x:=by first|exact Kj rfl|exact ki S)(a:X.fn x=true\/X.env.scope.names.lookup x=Z .local:=by first|exact .inl rfl|exact .inr S):ED X (.Name x pos) (λd ρ=>Z (ρ.set i (Z (.z d)))):=⟨λAN s σ H v u Q I r h=>by
 obtain⟨H0,ρ,d,g,E,c,e,q⟩:=h;cases e;exact uM f hi hx a AN s σ H v u Q I r (q _ (E.set (b:=.z d) (AV.refl H) c (.inr S) trivial) (Lo.set i v d))⟩
theorem im(i:Nat)(f:X.N.Nodup:=by show List.Nodup (_++_);decide +kernel)(hi:X.N[i]?=Z x:=by rfl)(hx:D1 X.env.scope x:=by first|exact Kj rfl|exact ki S)(a:X.fn x=true\/X.env.scope.names.lookup x=Z .local:=by first|exact .inl rfl|exact .inr S):ED X (.Name x pos) (λd ρ=>Z (ρ.set i (Z (.z d)))):=bh i f hi hx a
def OF(K:B4)(g:O Dt->Ev->Y Ev):DS:=λvs σ H Q=>∃H0 ρ ds a,bF K H0 H σ ρ/\aP K H ds vs/\g ds ρ=Z a/\∀ σ',bF K H0 H σ' a->Lo σ ρ σ' a->Q σ' H
def Ps(X:Cx)(t:O Expr)(g:O Dt->Ev->Y Ev):Prop:=L2.Ue X t (OF X.K g)
structure FB (X:Cx) (t:List Expr) (g:List Dt->Ev->Option Ev):Prop where
 run:Ps X t g
def rO:O Dt->Ev->Y Ev
 |[],ρ=>Z ρ
 |_,_=>U
def cY(g:Dt->Ev->Y Ev)(gs:O Dt->Ev->Y Ev):O Dt->Ev->Y Ev
 |d::ds,ρ=>(g d ρ).bind (gs ds)
 |_,_=>U
theorem lC  :FB X [] rO:=⟨λAN s σ H vs us Q I r h=>by
 obtain⟨H0,ρ,ds,b,E,a,e,q⟩:=h;cases ds with
 |nil=>cases e;unfold aP at a;exact Sc AN s σ H vs us Q I r ⟨a,q _ E Lo.refl⟩
 |cons d ds=>cases e⟩
theorem cj{t:Expr}{ts:O Expr}{gt:Dt->Ev->Y Ev}{gs:O Dt->Ev->Y Ev}(h1:ED X t gt)(h2:FB X ts gs)(hs:(assignEach (t::ts) X.env).map (·.2)=assign t X.env::(assignEach ts X.env).map (·.2):=by rfl):FB X (t::ts) (cY gt gs):=⟨have h1:=h1.run;have h2:=h2.run;λAN s σ H vs us Q I r h=>by
 obtain⟨H0,ρ,ds,m,E,a,e,q⟩:=h;cases ds with
 |nil=>cases e
 |cons d ds=>
  unfold aP at a;obtain⟨v,i,rfl,j,l⟩:=a;simp only[cY]at e;obtain⟨b,e1,e⟩:=AT e;exact Wt h1 h2 hs AN s σ H _ us Q I r ⟨v,i,rfl,H0,ρ,d,b,E,j,e1,λo g n=>⟨H0,b,ds,m,g,l,e,λc f k=>q c f (n.trans k)⟩⟩⟩
def o7(n:Nat)(gs:O Dt->Ev->Y Ev):Dt->Ev->Y Ev
 |.tup ds,ρ=>if ds.length=n then gs ds ρ else U
 |_,_=>U
theorem pU{ts:O Expr}{gs:O Dt->Ev->Y Ev}(i:X.calm=true)(h:FB X ts gs)(g:(assignEach ts X.env).length=n:=by rfl)(f:(assignEach ts X.env).findIdx? (·.1)=U:=by rfl):ED X (.Tuple ts k pos) (o7 n gs):=⟨have h:=h.run;λAN s σ H v u Q I r j=>by
 obtain⟨H0,ρ,d,l,E,c,e,q⟩:=j;cases d with
 |tup ds=>
  simp only[o7]at e;split at e
  ·rename_i m;unfold AW at c;obtain⟨a,vs,rfl,o,b⟩:=c;exact Pi i h g f AN s σ H _ u Q I r ⟨a,vs,rfl,o,by rw[b.length];exact m,H0,ρ,ds,l,E,b,e,q⟩
  ·cases e
 |_=>cases e⟩
theorem qJ{gt:Dt->Ev->Y Ev}(he:QV X e f)(a:ED X tg gt)(hs:swapsWithSole [tg] e pos.line X.env=pure false:=by rfl)(k:swappedStores [tg] e X.env=pure U:=by rfl)(h1:(assignEach [tg] X.env).map (·.2)=[assign tg X.env]:=by rfl):Wb X (.Assign [tg] e pos) (λρ=>(f ρ).bind λb=>match b with|.z d=>(gt d ρ).bind λρ'=>Z (.nx ρ')|_=>U):=⟨have he:=he.run;have a:=a.run;W6 (Wu he a hs k h1) λD σ H h=>by
 obtain⟨H0,ρ,r,E,e,q⟩:=h;obtain⟨b,eb,e⟩:=AT e;refine⟨H0,ρ,b,E,eb,λv H1 c l g=>?_⟩;cases b with
 |z d=>
  obtain⟨ρ',j,e⟩:=AT e;cases e;exact⟨H0,ρ,d,ρ',E.grow c,g,j,λσ' i _=>q _ _ i⟩
 |_=>cases e⟩
def Xe(ρ:Ev)(i:Nat):Bx->Y As
 |.z d=>match ρ[i]? with
  |some (Z (.o ds))=>if ds.length<AA then Z (.nx (ρ.set i (Z (.o (ds++[d])))))else U
  |_=>U
 |_=>U
theorem bF.ag8{ρ:Ev}{c0 c1:Bx}{a:A1}{u:HO}(E:bF K H0 H σ ρ)(h:ρ[i]?=Z (Z c0))(w:vN c0=true)(hs:σ[i]?=Z (Z (.ref a)))(k:Kp H (B1 H a u))(r:aX K (B1 H a u) c1 (.ref a)):
  bF K H0 (B1 H a u) σ (ρ.set i (Z c1)):=by
 have hi:i<ρ.length:=(ay.mp h).1;have G:H0 a=U:=E.new i c0 a h w hs;have lo:∀c,vN c=true->loose c=true:=λc I=>by cases c<;>first|rfl|cases I
 refine⟨by rw[qi];exact E.len,λj A e=>?_,λj F c f A e1 x e2 e3 J P=>?_,λc o e=>?_,λj c f e1 x e2=>?_⟩
 ·rcases BB e with⟨rfl,e',_⟩|⟨C,e'⟩
  ·cases e';exact⟨_,hs,r⟩
  ·obtain⟨v,e1,t⟩:=E.val j A e';refine⟨v,e1,?_⟩;have y:∀f,v=.ref f->loose A=true->f≠a:=λf ev N z=>by
    subst z;exact C (E.own i j c0 _ _ h w hs e' N (by rw[e1,ev])).symm
   cases A with
   |z d=>exact AW.kp k t
   |l B=>
    obtain⟨f,s,rfl,q,p⟩:=t;refine⟨f,s,rfl,?_,p.kp k⟩;have g:=y f S rfl;rcases q with q|⟨o,q⟩
    ·exact .inl (by rw[aF g];exact q)
    ·exact .inr ⟨o,by rw[aF g];exact q⟩
   |o B=>
    obtain⟨f,s,rfl,q,p⟩:=t;have g:=y f S rfl;exact⟨f,s,rfl,by rw[aF g];exact q,p.kp k⟩
   |n B=>
    obtain⟨f,s,rfl,q,p⟩:=t;refine⟨f,s,rfl,?_,p.kp k⟩;have g:=y f S rfl;rcases q with q|⟨o,q⟩
    ·exact .inl (by rw[aF g];exact q)
    ·exact .inr ⟨o,by rw[aF g];exact q⟩
   |m B=>
    obtain⟨f,s,rfl,q,p⟩:=t;have g:=y f S rfl;exact⟨f,s,rfl,by rw[aF g];exact q,p.1.kp k,p.2⟩
 ·have D:∀(m:Nat) (b:Bx),(ρ.set i (Z c1))[m]?=Z (Z b)->loose b=true->∃b0,ρ[m]?=Z (Z b0)/\loose b0=true/\(vN b=true->vN b0=true):=λm b e l=>by
   rcases BB e with⟨rfl,e',_⟩|⟨C,e'⟩
   ·exact⟨_,h,lo _ w,λ_=>w⟩
   ·exact⟨b,e',l,λz=>z⟩
  obtain⟨b0,q1,q2,q3⟩:=D j _ e1 (lo _ x);obtain⟨b1,M,L,_⟩:=D F _ e3 J;exact E.own j F b0 f b1 q1 (q3 x) e2 M L P
 ·rw[aF (bf e G)];exact E.base c o e
 ·rcases BB e1 with⟨rfl,e',_⟩|⟨C,e'⟩
  ·exact E.new _ c0 f h w e2
  ·exact E.new j c f e' x e2
theorem bF.WW{ρ:Ev}{ds es:O Dt}{a:A1}{us:O V}(E:bF K H0 H σ ρ)(h:ρ[i]?=Z (Z (.o ds)))(hs:σ[i]?=Z (Z (.ref a)))(b:H a=Z (.lst vs))(r:aP K H es us):
  bF K H0 (B1 H a (.lst us)) σ (ρ.set i (Z (.o es))):=E.ag8 h S hs (.lst b) ⟨a,us,rfl,aQ,r.kp (.lst b)⟩
theorem Jl(i:Nat){p:Pos}(he:QV X e f)(m:X.N[i]?=Z x:=by rfl)(B:Z1 X.env.scope x:=by first|exact Kj rfl|exact ki (Kj S)|exact ki (ki S))(t:db x:=by decide)(y:(x==("__classdict__":AJ))=false:=by decide)(j:A9 [e] X.env=[(false,eval e X.env)]:=by rfl)(s:attributeBase (.Name x p) "append" X.env (eval (.Name x p) X.env)=eval (.Name x p) X.env:=by rfl)(n:((AD cpos (A9 [e] X.env)).all (λx=>!x.1)&&(backToKw cpos (keywordEach [] X.env)).all (λx=>x.1.isSome)&&decide ([e].length+([]:O AC).length+(if([]:O AC).isEmpty then 0 else 1)<30))=true:=by rfl)(A:(apos.endLine==cpos.line)=true:=by rfl)(hs:swapsWith (.Call (.Attribute (.Name x p) "append" apos) [e] [] cpos) U pos.line X.env=pure false:=by rfl):Wb X (.Expr (.Call (.Attribute (.Name x p) "append" apos) [e] [] cpos) pos) (λρ=>(f ρ).bind (Xe ρ i)):=⟨have he:=he.run;W6 (Bo (Cj kL KM KL nJ (jE (i:=i) m B t y) (aY he cX (by rw[j]<;>rfl)) s n A (by rw[j]<;>rfl) S) hs) λD σ H h=>by
  obtain⟨H0,ρ,r,E,e,q⟩:=h;obtain⟨b,eb,e⟩:=AT e;cases b with
  |z d=>
   simp only[Xe]at e;split at e
   ·rename_i ds l;split at e
    ·rename_i C;cases e;obtain⟨v,e1,a,vs,rfl,g,k⟩:=E.val i _ l;refine⟨_,e1,.inl ⟨rfl,vs,.inl (.inl g)⟩,H0,ρ,_,E,eb,λu H1 c F w=>?_⟩;have o:=E.grow c;refine⟨a,vs,u,rfl,rfl,c _ _ g,by rw[k.length];exact C,q _ _ ?_⟩;exact o.WW l e1 (c _ _ g) ((k.kp (.of c)).append (aP.cons w aP.nil))
    ·cases e
   ·cases e
  |_=>cases e⟩
end
def Hk(x:AJ):It:=⟨λi _=>i<x.cps.size,λi H v H'=>H'=H/\∃c,x.cps[i]?=Z c/\v=.str ⟨#[c]⟩,λi _=>x.cps.size<=i⟩
def SU(h:A6)(it:A1)(x:AJ)(i:Nat):Prop:=∃t,h.IsStrIter it "str_ascii_iterator" x t i\/h.IsStrIter it "str_iterator" x t i
theorem Ly(it:A1)(x:AJ):C9 P w K tg (Hk x) [it] it (λi h=>SU h it x i) where
 mem:=by simp
 obj:=λi h st b a=>by
  have e:b=it:=by simpa using a
  subst e;obtain⟨t,⟨o,e,c,d⟩|⟨o,e,c,d⟩⟩:=st
  ·exact⟨o,e,λv z=>by rw[d]at z;cases z⟩
  ·exact⟨o,e,λv z=>by rw[d]at z;cases z⟩
 keep:=λi h h' st k=>by
  obtain⟨t,⟨o,e,c⟩|⟨o,e,c⟩⟩:=st
  ·exact⟨t,.inl ⟨o,k it (by simp) o e,c⟩⟩
  ·exact⟨t,.inr ⟨o,k it (by simp) o e,c⟩⟩
 item:=by
  intro X m y u p i AN s σ H E I f st A;subst m y u;obtain⟨f0,f1,f2,f3,j,g⟩:=f it (by simp);have hi:i<x.cps.size:=A;have hx:x.cps[i]?=Z x.cps[i]:=by simp[hi]
  obtain⟨t,st|st⟩:=st
  ·refine wpAny_pyNext_ascii_item st hx λh' l q=>?_;have n:L2.AU X AN σ H { s with heap:=h',toks:=s.toks+1 }:=I.turned (λb o a e=>(q.2 b a).trans e) f0 f1 f3 j g;obtain⟨o,e,c,d⟩:=id l;exact⟨_,rfl,Cd (s:={ s with heap:=h',toks:=s.toks+1 }) e c d () ⟨.str ⟨#[x.cps[i]]⟩,H,n,⟨_,rfl⟩,⟨rfl,_,hx,rfl⟩,⟨t,.inl l⟩,λb a=>(f b a).1⟩⟩
  ·refine wpAny_pyNext_wide_item st hx λh' l q=>?_;have n:L2.AU X AN σ H { s with heap:=h',toks:=s.toks+1 }:=I.turned (λb o a e=>(q.2 b a).trans e) f0 f1 f3 j g;obtain⟨o,e,c,d⟩:=id l;exact⟨_,rfl,Cd (s:={ s with heap:=h',toks:=s.toks+1 }) e c d () ⟨.str ⟨#[x.cps[i]]⟩,H,n,⟨_,rfl⟩,⟨rfl,_,hx,rfl⟩,⟨t,.inr l⟩,λb a=>(f b a).1⟩⟩
 done:=by
  intro X m y u p i AN s σ H E I f st A;subst m y u;obtain⟨f0,f1,f2,f3,j,g⟩:=f it (by simp);have hx:x.cps[i]?=U:=by have:x.cps.size<=i:=A;simp[this]
  obtain⟨t,st|st⟩:=st
  ·exact wpAny_pyNext_ascii_end (I.ok.hd p) st hx λh' eb=>⟨rfl,I.turned (t':=s.toks) (λb o a e=>eb b o a e) f0 f1 f3 j g⟩
  ·exact wpAny_pyNext_wide_end (I.ok.hd p) st hx λh' eb=>⟨rfl,I.turned (t':=s.toks) (λb o a e=>eb b o a e) f0 f1 f3 j g⟩
 self:=λ_ _ _ _ _ st h=>by
  obtain⟨t,st|st⟩:=st
  ·exact wpAny_pyIter_striter_ascii st h
  ·exact wpAny_pyIter_striter_wide st h
def PY(K:B4)(tl:TE):TI:=λσ H R=>tl σ H λx H1=>(∃a,x=.ref a/\(∃xs,sI K H1 a xs)/\R (FH K a) H1)\/(∃a,x=.ref a/\(∃xs,sO K H1 a xs)/\R (IL K a) H1)\/∃y,x=.str y/\R (Hk y) H1
theorem Xf{l:Expr}{tl:TE}(k:PE X l tl):PI X tg l (PY X.K tl):=by
 intro AN s σ H R I h;refine ig (k AN s σ H _ I h) λv s1 ⟨x,H1,I1,r1,q1⟩=>?_;have c:∀(o:AE) (b:A1),b∈[s1.heap.objs.size]->lQ X AN H1 b:=λo b g=>by
  have e:b=s1.heap.objs.size:=by simpa using g
  subst e;exact I1.Ga (zl _) (I1.hok.fresh (zl _))
 rcases q1 with⟨a,e,⟨xs,d⟩,q⟩|⟨a,e,⟨xs,d⟩,q⟩|⟨y,e,q⟩
 ·subst e;cases r1;obtain⟨AQ,j,p,i⟩:=I1.list d;refine yi p.isList ?_;exact⟨s1.heap.objs.size,[s1.heap.objs.size],_,_,H1,rfl,I1.kept (t':=s1.toks) λb o e=>zd _ e,GF a _,⟨_,zr _ rfl,rfl,rfl⟩,c default,q⟩
 ·subst e;cases r1;obtain⟨AQ,j,p,i⟩:=I1.tuple d;refine K0 (show s1.heap.IsTuple a AQ.toArray from p) ?_;exact⟨s1.heap.objs.size,[s1.heap.objs.size],_,_,H1,rfl,I1.kept (t':=s1.toks) λb o e=>zd _ e,Pu a _,⟨_,zr _ rfl,rfl,rfl⟩,c default,q⟩
 ·subst e;obtain⟨t,rfl⟩:=r1;cases f:y.cps.all (· < 128)with
  |true=>
   refine wpAny_pyIter_ascii f ?_;exact⟨s1.heap.objs.size,[s1.heap.objs.size],_,_,H1,rfl,I1.kept (t':=s1.toks) λb o e=>zd _ e,Ly _ y,⟨t,.inl ⟨_,zr _ rfl,rfl,rfl⟩⟩,c default,q⟩
  |false=>
   refine wpAny_pyIter_wide f ?_;exact⟨s1.heap.objs.size,[s1.heap.objs.size],_,_,H1,rfl,I1.kept (t':=s1.toks) λb o e=>zd _ e,Ly _ y,⟨t,.inr ⟨_,zr _ rfl,rfl,rfl⟩⟩,c default,q⟩
def B6(K:B4)(J:It)(ds:O Dt)(Hs:Hp):Prop:=∀(i:Nat) (H:Hp),AV Hs H →
 (∀d,ds[i]?=Z d->J.go i H/\∀x H',J.yld i H x H'->AV H H'/\AW K H' d x)/\(ds.length<=i->J.stop i H)
theorem B6.of{J:It}{ds:O Dt}(h:∀(i:Nat) (H:Hp),AV Hs H →
  (∀d,ds[i]?=Z d->J.go i H/\∀x H',J.yld i H x H'->H'=H/\AW K H d x)/\(ds.length<=i->J.stop i H)):B6 K J ds Hs:=λi H s=>
 ⟨λd e=>⟨((h i H s).1 d e).1,λx H' y=>by
  obtain⟨rfl,r⟩:=((h i H s).1 d e).2 x H' y;exact⟨AV.refl _,r⟩⟩,(h i H s).2⟩
def BQ(x:AJ):O Dt:=x.cps.toList.map λc=>.str ⟨#[c]⟩
theorem B6.list{ds:O Dt}(h:sI K Hs a vs)(r:aP K Hs ds vs):B6 K (FH K a) ds Hs:=.of λi H s=>by
 have h':=s.seq h;have b:=r.kp (.of s);refine⟨λd e=>?_,λe=>⟨vs,h',by rw[r.length];exact e⟩⟩;obtain⟨v,ev,c⟩:=b.get e;refine⟨⟨vs,v,h',ev⟩,λx H' y=>?_⟩;obtain⟨y1,y2⟩:=y;have:=y2 vs h';rw[ev]at this;cases this;exact⟨y1,c⟩
theorem B6.tup{ds:O Dt}(h:sO K Hs a vs)(r:aP K Hs ds vs):B6 K (IL K a) ds Hs:=.of λi H s=>by
 have h':=(Kp.of s).sqT h;have b:=r.kp (.of s);refine⟨λd e=>?_,λe=>⟨vs,h',by rw[r.length];exact e⟩⟩;obtain⟨v,ev,c⟩:=b.get e;refine⟨⟨vs,v,h',ev⟩,λx H' y=>?_⟩;obtain⟨y1,y2⟩:=y;have:=y2 vs h';rw[ev]at this;cases this;exact⟨y1,c⟩
theorem B6.str(x:AJ):B6 K (Hk x) (BQ x) Hs:=.of λi H s=>by
 refine⟨λd e=>?_,λe=>?_⟩
 ·unfold BQ at e;rw[Zs]at e;cases h:x.cps.toList[i]? with
  |none=>rw[h]at e;cases e
  |some c=>
   rw[h]at e;cases e;have b:x.cps[i]?=Z c:=by simpa using h
   have hi:i<x.cps.size:=by
    have:=(ay.mp h).1;simpa using this
   refine⟨hi,λv H' y=>?_⟩;obtain⟨y1,c',a,rfl⟩:=y;rw[b]at a;cases a;refine⟨y1,?_⟩;unfold AW;exact⟨rfl,by show(1:Nat)<=AA;decide⟩
 ·have:(BQ x).length=x.cps.size:=by simp[BQ]
  show x.cps.size<=i;omega
def xJ(lo:Int)(n:Nat):O Dt:=(da n).map λk=>.int (lo+(k:Nat))
theorem B6.rng(lo:Int)(n:Nat):B6 K (FA lo n) (xJ lo n) Hs:=.of λi H s=>by
 refine⟨λd e=>?_,λe=>?_⟩
 ·unfold xJ at e;rw[Zs]at e;by_cases hi:i<n
  ·rw[gG hi]at e;cases e;refine⟨hi,λv H' y=>?_⟩;obtain⟨y1,y2⟩:=y;refine⟨y1,?_⟩;unfold AW;exact y2
  ·rw[QP (by simp;omega)]at e;cases e
 ·have:(xJ lo n).length=n:=by simp[xJ]
  show n<=i;omega
def iF(K:B4)(f:Ev->Y (O Dt)):TI:=λσ H R=>∃H0 ρ ds,bF K H0 H σ ρ/\f ρ=Z ds/\∀J H',AV H H' →
 (∀Hs,AV Hs H'->(∀a,H a=U->Hs a=H' a)->(∀a o u,H' a=Z (.jm o u)->Hs a=H' a)->(∀a vs,H' a=Z (.tup vs)->Hs a=H' a)->B6 K J ds Hs)->R J H'
def gf(X:Cx)(tg iter:Expr)(f:Ev->Y (O Dt)):Prop:=PI X tg iter (iF X.K f)
structure EA (X:Cx) (tg iter:Expr) (f:Ev->Option (List Dt)):Prop where
 run:gf X tg iter f
def GW:Bx->Y (O Dt)
 |.z (.lst ds)=>Z ds
 |.z (.tup ds)=>Z ds
 |.z (.str x)=>Z (BQ x)
 |.o ds=>Z ds
 |_=>U
section
variable{f:Ev->Y Bx}{fs:Ev->Y (O Bx)}
mutual
theorem AW.part{K:B4}{H Hs:Hp}(b:∀a o u,H a=Z (.jm o u)->Hs a=H a)(c:∀a vs,H a=Z (.tup vs)->Hs a=H a):∀{d:Dt} {v:V},AW K H d v->AW K Hs d v
 |.non,_,h=>by simpa only[AW]using h
 |.bl _,_,h=>by simpa only[AW]using h
 |.int _,_,h=>by simpa only[AW]using h
 |.str _,_,h=>by simpa only[AW]using h
 |.tup ds,_,h=>by
  simp only[AW]at h ⊢;obtain⟨a,vs,e,q,r⟩:=h;refine⟨a,vs,e,?_,aP.part b c r⟩;rcases q with (q|⟨o,q⟩)|q
  ·exact .inl (.inl ((c _ _ q).trans q))
  ·exact .inl (.inr ⟨o,(b _ _ _ q).trans q⟩)
  ·exact .inr q
 |.lst ds,_,h=>by
  simp only[AW]at h ⊢;obtain⟨a,vs,e,q,r⟩:=h;refine⟨a,vs,e,?_,aP.part b c r⟩;rcases q with⟨o,q⟩|q
  ·exact .inl ⟨o,(b _ _ _ q).trans q⟩
  ·exact .inr q
 |.emp,_,h=>by
  simp only[AW]at h ⊢;obtain⟨a,o,e,q⟩:=h;exact⟨a,o,e,(b _ _ _ q).trans q⟩
theorem aP.part{K:B4}{H Hs:Hp}(b:∀a o u,H a=Z (.jm o u)->Hs a=H a)(c:∀a vs,H a=Z (.tup vs)->Hs a=H a):∀{ds:O Dt} {vs:O V},aP K H ds vs->aP K Hs ds vs
 |[],_,h=>by simpa only[aP]using h
 |d::ds,_,h=>by
  simp only[aP]at h ⊢;obtain⟨v,r,e,q,t⟩:=h;exact⟨v,r,e,AW.part b c q,aP.part b c t⟩
end
theorem Jm(h:QV X e f):EA X tg e (λρ=>(f ρ).bind GW):=⟨have h:=h.run;λAN s σ H R I q=>by
 refine Xf h AN s σ H R I ?_;obtain⟨H0,ρ,ds,E,e,q⟩:=q;obtain⟨b,eb,e⟩:=AT e;refine⟨H0,ρ,b,E,eb,λv H1 t y i=>?_⟩;cases b with
 |z d=>
  cases d with
  |tup p=>
   cases e;simp only[aX,AW]at i;obtain⟨a,vs,rfl,c,k⟩:=i;refine .inr (.inl ⟨a,rfl,⟨vs,c⟩,q _ _ t λHs w u g j=>.tup ?_ (k.part g j)⟩);rcases c with (c|⟨o,c⟩)|c
   ·exact .inl (.inl ((j _ _ c).trans c))
   ·exact .inl (.inr ⟨o,(g _ _ _ c).trans c⟩)
   ·exact .inr c
  |lst p=>
   cases e;simp only[aX,AW]at i;obtain⟨a,vs,rfl,c,k⟩:=i;refine .inl ⟨a,rfl,⟨vs,c.sq⟩,q _ _ t λHs w u g j=>.list ?_ (k.part g j)⟩;rcases c with⟨o,c⟩|c
   ·exact .inl (.inr ⟨o,(g _ _ _ c).trans c⟩)
   ·exact .inr c
  |str x=>
   cases e;simp only[aX,AW]at i;obtain⟨rfl,_⟩:=i;exact .inr (.inr ⟨x,rfl,q _ _ t λHs w u g j=>.str x⟩)
  |_=>cases e
 |l p=>cases e
 |n p=>cases e
 |m p=>cases e
 |o p=>
  cases e;obtain⟨a,vs,rfl,c,k⟩:=i;refine .inl ⟨a,rfl,⟨vs,.inl (.inl c)⟩,q _ _ t λHs w u g j=>.list (.inl (.inl ((u a (y a S)).trans c))) (k.part g j)⟩⟩
def HR:O Bx->Y (O Dt)
 |[.z (.int j)]=>if -(2 ^ 62)<=j/\j<2 ^ 62 then Z (xJ 0 j.toNat)else U
 |_=>U
def HV:O Bx->Y (O Dt)
 |[.z (.int i),.z (.int j)]=>if(-(2 ^ 62)<=i/\i<2 ^ 62) ∧ -(2 ^ 62)<=j/\j<2 ^ 62 then Z (xJ i (j-i).toNat)else U
 |_=>U
theorem qj{p:Pos}(f:Gl X "range")(g:X.mg "range"=U)(a:Wa X [e] fs)(hs:A9 [e] X.env=[(false,eval e X.env)]:=by rfl):EA X tg (.Call (.Name "range" p) [e] [] pos) (λρ=>(fs ρ).bind HR):=⟨have a:=a.run;λAN s σ H R I q=>by
 refine Uh f g a hs AN s σ H R I ?_;obtain⟨H0,ρ,ds,E,e,q⟩:=q;obtain⟨bs,eb,e⟩:=AT e;refine⟨H0,ρ,bs,E,eb,λvs H1 c d=>?_⟩;unfold HR at e;split at e
 ·rename_i j;split at e
  ·rename_i b;cases e;cases d with
   |cons p t=>
    cases t;simp only[aX,AW]at p;subst p;exact⟨j,rfl,b.1,b.2,q _ _ c λHs _ _ _ _=>.rng 0 _⟩
  ·cases e
 ·cases e⟩
theorem Xg{e':Expr}{p:Pos}(h:Gl X "range")(k:X.mg "range"=U)(b:Wa X [e,e'] fs)(hs:A9 [e,e'] X.env=[(false,eval e X.env),(false,eval e' X.env)]:=by rfl)(f:A9 [e'] X.env=[(false,eval e' X.env)]:=by rfl):EA X tg (.Call (.Name "range" p) [e,e'] [] pos) (λρ=>(fs ρ).bind HV):=⟨have b:=b.run;λAN s σ H R I q=>by
 refine Ui h k b hs f AN s σ H R I ?_;obtain⟨H0,ρ,ds,E,e,q⟩:=q;obtain⟨bs,eb,e⟩:=AT e;refine⟨H0,ρ,bs,E,eb,λvs H1 c g=>?_⟩;unfold HV at e;split at e
 ·rename_i i j;split at e
  ·rename_i a;cases e;cases g with
   |cons p t=>
    cases t with
    |cons p' d=>
     cases d;simp only[aX,AW]at p p';subst p p';exact⟨i,j,rfl,⟨a.1.1,a.1.2,a.2.1,a.2.2⟩,q _ _ c λHs _ _ _ _=>.rng i _⟩
  ·cases e
 ·cases e⟩
def Ba(gt:Dt->Ev->Y Ev)(gb:Ev->Y As):O Dt->Ev->Y As
 |[],ρ=>Z (.nx ρ)
 |d::ds,ρ=>(gt d ρ).bind λc=>(gb c).bind λr=>match r with
  |.nx a=>Ba gt gb ds a
  |.ct a=>Ba gt gb ds a
  |.bk a=>Z (.nx a)
  |.rt b=>Z (.rt b)
noncomputable def gC(H:Hp)(σ:L2.St)(ρ:Ev):Hp:=λa=>@ite _ (∃(i:Nat) (c:Bx),ρ[i]?=Z (Z c)/\vN c=true/\σ[i]?=Z (Z (.ref a))) (Classical.propDecidable _) U (H a)
theorem mO{ρ:Ev}:AV (gC H σ ρ) H:=λa o e=>by
 unfold gC at e;split at e
 ·cases e
 ·exact e
theorem bF.rebase{ρ:Ev}(E:bF K Hs H σ ρ)(s:AV H0 Hs):bF K H0 H σ ρ:=⟨E.len,E.val,E.own,s.trans E.base,λi c a e1 b e2=>s.free (E.new i c a e1 b e2)⟩
theorem bF.sans{ρ:Ev}(E:bF K H0 H σ ρ):bF K (gC H σ ρ) H σ ρ:=⟨E.len,E.val,E.own,mO,λi c a e1 b e2=>by
 unfold gC;rw[zt ⟨i,c,e1,b,e2⟩]⟩
theorem bF.sub{ρ:Ev}(E:bF K H0 H σ ρ):AV H0 (gC H σ ρ):=λa o e=>by
 unfold gC;split
 ·rename_i h;obtain⟨i,c,e1,b,e2⟩:=h;rw[E.new i c a e1 b e2]at e;cases e
 ·exact E.base a o e
theorem mQ{ρ:Ev}(E:bF K H0 H σ ρ)(h:∀vs,H a≠Z (.lst vs))(h2:∀vs,H a≠Z (.dK vs)):gC H σ ρ a=H a:=by
 unfold gC;split
 ·rename_i f;obtain⟨i,c,e1,e,e2⟩:=f;obtain⟨v,e3,d⟩:=E.val i _ e1;rw[e2]at e3;cases e3;cases c with
  |o ds=>obtain⟨g,vs,b,q,_⟩:=d;cases b;exact absurd q (h vs)
  |m ds _=>obtain⟨g,vs,b,q,_⟩:=d;cases b;exact absurd q (h2 vs)
  |_=>cases e
 ·rfl
theorem Xc.rebase{K:B4}{H0 Hs:Hp}{D:BV}{r:As}(s:AV H0 Hs)(h:Xc K H0 D r):Xc K Hs D r:=by
 cases r with
 |nx ρ=>exact λσ H E=>h σ H (E.rebase s)
 |bk ρ=>exact λσ H E=>h σ H (E.rebase s)
 |ct ρ=>exact λσ H E=>h σ H (E.rebase s)
 |rt b=>exact λv H s' n r=>h v H (s.trans s') (n.old s) r
theorem Xh{gt:Dt->Ev->Option Ev}{gb:Ev->Option As}{J:It}{ds:O Dt}{H1:Hp}{ρ:Ev}{D:BV}{r:As}(k:bF X.K H0 H1 σ ρ)(Y:B6 X.K J ds (gC H1 σ ρ))(e:Ba gt gb ds ρ=Z r)(q:Xc X.K H0 D r):
  ∃W:Nat->Nat->L2.St->Hp->Prop,(∃m,W 0 m σ H1)/\∀i m σ H,W i m σ H →
   (J.stop i H/\D.nx σ H)\/(J.go i H/\∃N:L2.St->Hp->Prop,(∀ σ' H',N σ' H'->∃n,n<m/\W (i+1) n σ' H')/\∀x H',J.yld i H x H'->MD X.K gt x σ H' λc H2=>tG X.K gb { D with nx:=N,ct:=N,bk:=D.nx } c H2):=by
 have p:=k.sans;have q2:=q.rebase k.sub;generalize gC H1 σ ρ=Hs at Y p q2;refine⟨λi m σ' H'=>m=ds.length-i/\i<=ds.length/\∃d,bF X.K Hs H' σ' d/\Ba gt gb (ds.drop i) d=Z r,⟨ds.length,by simp,QR _,ρ,p,by simpa using e⟩,?_⟩;rintro i m σ' H' ⟨rfl,B,d,j,e'⟩;obtain⟨y1,y2⟩:=Y i H' j.base;by_cases g:i<ds.length
 ·right;have t:ds[i]?=Z ds[i]:=by simp[g]
  obtain⟨go,w⟩:=y1 _ t;rw[YV g]at e';simp only[Ba]at e';obtain⟨s,e1,e'⟩:=AT e';obtain⟨l,e2,e'⟩:=AT e';refine⟨go,λc H2=>∃a,bF X.K Hs H2 c a/\Ba gt gb (ds.drop (i+1)) a=Z r,λc H2 ⟨a,h,e3⟩=>⟨ds.length-(i+1),by omega,rfl,g,a,h,e3⟩,λx H2 v=>?_⟩;obtain⟨y,z⟩:=w x H2 v;refine⟨Hs,d,ds[i],s,j.grow y,z,e1,λA h _=>⟨Hs,s,l,h,e2,?_⟩⟩;cases l with
  |nx a=>exact λc u f=>⟨a,f,e'⟩
  |ct a=>exact λc u f=>⟨a,f,e'⟩
  |bk a=>cases e';exact q2
  |rt b=>cases e';exact q2
 ·left;have o:ds.length<=i:=by omega
  refine⟨y2 o,?_⟩;rw[eg o]at e';cases e';exact q2 σ' H' j
theorem Cu{fi:Ev->Y (O Dt)}{gt:Dt->Ev->Y Ev}{gb:Ev->Y As}(hp:PassesOwn (ii X) X.A X.env X.xe)(s:X.calm=true)(hi:EA X tg iter fi)(j:ED X tg gt)(d:Ut X body gb)(hs:∀x,foldedSetIterable iter X.env x=pure x:=by intro _;rfl):Wb X (.For tg iter body [] pos) (λρ=>(fi ρ).bind λds=>Ba gt gb ds ρ):=⟨have hi:=hi.run;have j:=j.run;have d:=d.run;W6 (Py hp s hi j d hs) λD σ H h=>by
 obtain⟨H0,ρ,r,E,e,q⟩:=h;obtain⟨ds,n,e⟩:=AT e;refine⟨H0,ρ,ds,E,n,λJ H1 l y=>?_⟩;have f:=E.grow l;refine Xh f ?_ e q;refine y _ mO (λa b=>?_) (λa o u b=>mQ f (λvs z=>by rw[b]at z;cases z) (λvs z=>by rw[b]at z;cases z)) λa vs b=>mQ f (λvs z=>by rw[b]at z;cases z) (λvs z=>by rw[b]at z;cases z);unfold gC;split
 ·rename_i t;obtain⟨i,c,e1,p,e2⟩:=t;obtain⟨v,e3,k⟩:=E.val i _ e1;rw[e2]at e3;cases e3;cases c with
  |o ds=>obtain⟨B,vs,g,q,_⟩:=k;cases g;rw[b]at q;cases q
  |m ds _=>obtain⟨B,vs,g,q,_⟩:=k;cases g;rw[b]at q;cases q
  |_=>cases p
 ·rfl⟩
end
def CL(a:O (AJ×A1)):O (AJ×A1)->Prop
 |[]=>True
 |(n,c)::r=>a.lookup n=Z c/\CL a r
theorem CL.get{a:O (AJ×A1)}:∀{cl:O (AJ×A1)},CL a cl->∀{x:AJ} {c:A1},cl.lookup x=Z c->a.lookup x=Z c
 |[],_,_,_,e=>by cases e
 |(n,d)::r,h,x,c,e=>by
  rw[ij]at e;by_cases hx:x==n
  ·simp only[hx]at e;cases e;have:x=n:=by simpa using hx
   rw[this];exact h.1
  ·have hx:(x==n)=false:=by simpa using hx
   simp only[hx]at e;exact CL.get h.2 e
structure OA (X:Cx) (scope:Scope) (cl:List (Str×Addr)) (x:Str) (i:Nat):Prop where
 n:X.N[i]?=some x
 k:X.env.kindOf x=some .cell\/X.env.kindOf x=some .free
 k':(relabel scope X.env).names.lookup x=some .cell\/(relabel scope X.env).names.lookup x=some .free
 c:∃c,cl.lookup x=some c
def Gg(X:Cx)(scope:Scope)(cl:O (AJ×A1)):AZ->O Nat->Prop
 |[],[]=>True
 |x::xs,i::is=>OA X scope cl x i/\Gg X scope cl xs is
 |_,_=>False
theorem Gg.get{X:Cx}{scope:Scope}{cl:O (AJ×A1)}:∀{xs:AZ} {is:O Nat},Gg X scope cl xs is->xs.length=is.length/\∀(j:Nat) (x:AJ),xs[j]?=Z x->∃i,is[j]?=Z i/\OA X scope cl x i
 |[],[],_=>⟨rfl,λj x e=>by simp at e⟩
 |x::xs,i::is,h=>by
  obtain⟨h1,h2⟩:=h;obtain⟨l,g⟩:=Gg.get h2;refine⟨by simp[l],λj y e=>?_⟩;cases j with
  |zero=>simp at e;subst e;exact⟨i,rfl,h1⟩
  |succ j=>obtain⟨k,e1,e2⟩:=g j y (by simpa using e);exact⟨k,by simpa using e1,e2⟩
 |[],_::_,h=>h.elim
 |_::_,[],h=>h.elim
def Gc(a:O (AJ×NameKind))(x:AJ):Bool:=match a.lookup x with
 |some .cell=>true
 |_=>false
def Bt(X:Cx)(a:AZ)(scope:Scope)(cl:O (AJ×A1))(C:A1)(s₀:A2)(H₀:Hp)(fp:O A1):Cx:=
 { X with N:=a,s₀:=s₀,H₀:=H₀,env:=compEnvC scope (cellsFrom (C+1) scope.names cl) C X.env,outer:=X.stack,ex:=fp,fn:=Gc scope.names,pn:=[],xe:=λ_ _=>False }
structure LF (h:Heap) (cs:List (Str×Addr)):Prop where
 inj:∀x y c,cs.lookup x=some c->cs.lookup y=some c->x=y
 cell:∀x c,cs.lookup x=some c->∃v,h.IsCell c v
theorem jM{n:AJ}{a:α}{l:O (AJ×α)}(h:x≠n):((n,a)::l).lookup x=l.lookup x:=by
 rw[ij,beq_eq_false_iff_ne.mpr h]
theorem Xi:∀(i:O (AJ×NameKind)) (h:A6) (d:O (AJ×A1)),LF h d->LF (pushCells h i) (cellsFrom h.objs.size i d)
 |[],_,_,x=>x
 |(n,k)::r,h,d,x=>by
  unfold pushCells cellsFrom;split
  ·have g:∀y c,d.lookup y=Z c->c≠h.objs.size:=λy c e=>let ⟨_,q⟩:=x.cell y c e;ZE q.lt;have:=Xi r (h.push { cls:=.type "cell",data:=.cell U }) ((n,h.objs.size)::d) ⟨λy z c e1 e2=>?_,λy c e=>?_⟩
   ·rwa [qk]at this
   ·by_cases a:y=n<;>by_cases f:z=n
    ·rw[a,f]
    ·subst a;rw[k9]at e1;rw[jM f]at e2;cases e1;exact absurd S (g _ _ e2)
    ·subst f;rw[k9]at e2;rw[jM a]at e1;cases e2;exact absurd S (g _ _ e1)
    ·rw[jM a]at e1;rw[jM f]at e2;exact x.inj y z c e1 e2
   ·by_cases a:y=n
    ·subst a;rw[k9]at e;cases e;exact⟨U,_,zr _ rfl,rfl⟩
    ·rw[jM a]at e;obtain⟨v,q⟩:=x.cell y c e;exact⟨v,q.keeps λb o e=>zd _ e⟩
  ·exact Xi r h d x
theorem uO:∀(b:O (AJ×NameKind)) (n:Nat) (a:O (AJ×A1)) (x:AJ) (c:A1),(cellsFrom n b a).lookup x=Z c->a.lookup x=Z c\/n<=c
 |[],_,_,_,_,e=>.inl e
 |(m,k)::r,n,a,x,c,e=>by
  unfold cellsFrom at e;split at e
  ·rcases uO r _ _ x c e with h|h
   ·by_cases hx:x=m
    ·subst hx;rw[k9]at h;cases h;exact .inr (zl _)
    ·rw[jM hx]at h;exact .inl h
   ·exact .inr ()
  ·exact uO r _ _ x c e
theorem Jo:∀(b:O (AJ×NameKind)) (n:Nat) (a:O (AJ×A1)) (x:AJ),(x,NameKind.cell)∉b->(cellsFrom n b a).lookup x=a.lookup x
 |[],_,_,_,_=>rfl
 |(m,k)::r,n,a,x,h=>by
  unfold cellsFrom;have c:(x,NameKind.cell)∉r:=λz=>h (zi _ z);split
  ·rename_i hk;rw[Jo r _ _ x c,jM λz=>h (by rw[z,<-beq_iff_eq.mp hk];exact zh ..)]
  ·exact Jo r _ _ x c
theorem Qf:∀(b:O (AJ×NameKind)) (n:Nat) (a:O (AJ×A1)) (x:AJ),((x,NameKind.cell)∈b\/∃c,a.lookup x=Z c)->∃c,(cellsFrom n b a).lookup x=Z c
 |[],_,_,_,h=>h.elim (λz=>by simp at z) λz=>z
 |(m,k)::r,n,a,x,h=>by
  unfold cellsFrom;split
  ·refine Qf r _ _ x ?_;by_cases hx:x=m
   ·exact .inr ⟨n,by rw[hx,k9]⟩
   ·rw[jM hx];exact h.imp_left λz=>(List.mem_cons.mp z).elim (λz=>absurd (congrArg Prod.fst z) hx) λz=>z
  ·rename_i hk;exact Qf r _ _ x (h.imp_left λz=>(List.mem_cons.mp z).elim (λz=>by cases z;exact absurd S hk) λz=>z)
theorem G9{g:A1}{Q:Env->A2->Prop}(h:Q (newEnv scope s.heap.objs.size g (cellsFrom (s.heap.objs.size+1) scope.names cl) qual U .none (Z env) builtinsNs) { s with heap:=pushCells (s.heap.push { cls:=.type "dict",data:=.dict #[] }) scope.names }):
  A7 M A (newFunctionEnv scope g cl [] qual U .none (Z env)) Q E s:=by
 simp only[newFunctionEnv,YR,jb];refine zb (wpAny_alloc ?_);refine zb (wpAny_layCells _ (λname a b=>by cases a==NameKind.cell<;>simp) _ _ _ _ ?_);rw[show({ s with heap:=s.heap.push { cls:=.type "dict",data:=.dict #[] } }:A2).heap.objs.size=s.heap.objs.size+1 from qk ..];rw[List.forIn_nil];exact zb (ze (ze h))
structure qK (X:Cx) (scope:Scope) (cl:List (Str×Addr)) (xs:AZ) (is:List Nat):Prop where
 clos:closureFor scope X.env=pure cl
 kind:scope.kind=.function
 cell:∀y∈scope.names,y.2=.cell->cl.lookup y.1=none
 names:∀y∈scope.names,y.2=.local->scope.names.lookup y.1=some .local
 sub:CL X.env.cells cl
 has:∀x,((relabel scope X.env).names.lookup x=some .cell\/(relabel scope X.env).names.lookup x=some .free)->(x,NameKind.cell)∈scope.names\/∃c,cl.lookup x=some c
 cap:Gg X scope cl xs is
def vO(is:O Nat)(σ:L2.St):L2.St:=is.map λi=>(σ[i]?).bind λv=>v
def jF(is:O Nat)(ρ:Ev):Ev:=is.map λi=>wz ρ i
def D8(n m:Nat)(g:Dt->Ev->Y Ev):Prop:=∀d ρ a,g d ρ=Z a->a.length=ρ.length/\∀j,j<n\/m<=j->a[j]?=ρ[j]?
def FY(n m:Nat)(g:O Dt->Ev->Y Ev):Prop:=∀d ρ a,g d ρ=Z a->a.length=ρ.length/\∀j,j<n\/m<=j->a[j]?=ρ[j]?
theorem fH(h:n<=i:=by decide)(h':i<m:=by decide):D8 n m (λd ρ=>Z (ρ.set i (Z (.z d)))):=λd ρ a e=>by
 cases e;exact⟨by rw[qi],λj b=>qg _ ()⟩
theorem Os:FY n m rO:=λd ρ a e=>by
 cases d with
 |nil=>cases e;exact⟨rfl,λ_ _=>S⟩
 |cons=>cases e
theorem Lz{g:Dt->Ev->Y Ev}{gs:O Dt->Ev->Y Ev}(h:D8 n m g)(hs:FY n m gs):FY n m (cY g gs):=λd ρ l e=>by
 cases d with
 |nil=>cases e
 |cons d ds=>
  simp only[cY]at e;obtain⟨k,e1,e⟩:=AT e;obtain⟨a,b⟩:=h _ _ _ e1;obtain⟨i,f⟩:=hs _ _ _ e;exact⟨i.trans a,λj c=>(f j c).trans (b j c)⟩
theorem f6{gs:O Dt->Ev->Y Ev}(hs:FY n m gs):D8 n m (o7 k gs):=λd ρ a e=>by
 cases d with
 |tup ds=>
  simp only[o7]at e;split at e
  ·exact hs _ _ _ e
  ·cases e
 |_=>cases e
def Bb(gt:Dt->Ev->Y Ev)(p:Ev->Y Bool)(fs:Ev->Y (O Dt))(ρ:Ev):O Dt->Y (O Dt)
 |[]=>Z []
 |d::ds=>(gt d ρ).bind λa=>(p a).bind λk=>if k=true then(fs a).bind λys=>(Bb gt p fs ρ ds).bind λzs=>Z (ys++zs)else Bb gt p fs ρ ds
def IT:Bx->Y (O Dt)
 |.z y=>Z [y]
 |_=>U
def zU(gt:Dt->Ev->Y Ev)(p:Ev->Y Bool)(fe:Ev->Y Bx)(ρ:Ev):O Dt->Y (O Dt):=Bb gt p (λρ=>(fe ρ).bind IT) ρ
theorem Hf{b:Bx}{ys:O Dt}(h:IT b=Z ys):∃y,b=.z y/\ys=[y]:=by
 cases b<;>cases h;exact⟨_,rfl,rfl⟩
theorem yR{gt:Dt->Ev->Y Ev}{p:Ev->Y Bool}{fe:Ev->Y Bx}{ρ:Ev}:∀{ds out:O Dt},zU gt p fe ρ ds=Z out->out.length<=ds.length
 |[],_,e=>by cases e;exact zl _
 |d::ds,out,e=>by
  simp only[zU,Bb]at e;obtain⟨f,_,e⟩:=AT e;obtain⟨k,_,e⟩:=AT e;cases k with
  |false=>
   rw[ZA zI]at e;exact ZH (yR (gt:=gt) (p:=p) (fe:=fe) e) (by simp)
  |true=>
   rw[zt rfl]at e;obtain⟨ys,a,e⟩:=AT e;obtain⟨zs,c,e⟩:=AT e;obtain⟨b,_,a⟩:=AT a;obtain⟨y,_,rfl⟩:=Hf a;cases e;simpa using yR (gt:=gt) (p:=p) (fe:=fe) c
def CC(X:Cx)(ifs:O Expr)(p:Ev->Y Bool):Prop:=(ifs=[]/\p=λ_=>Z true)\/∃c,ifs=[c]/\PB X c p
structure Jp (X:Cx) (ifs:List Expr) (p:Ev->Option Bool):Prop where
 run:CC X ifs p
section
variable{xs:AZ}{gt:Dt->Ev->Y Ev}{p:Ev->Y Bool}{fe:Ev->Y Bx}{fi:Ev->Y (O Dt)}
theorem LC{p:Hp}{d:A2}(a:L2.AU X AN σ p d)(O:qK X scope cl xs is)(t:∀b∈fp,lQ X AN p b)(C:∀b∈fp,b<d.heap.objs.size):
  L2.AU (Bt X (xs++ts) scope cl d.heap.objs.size d p fp) [] (vO is σ++aw ts.length U) p { d with heap:=pushCells (d.heap.push { cls:=.type "dict",data:=.dict #[] }) scope.names }:=by
 obtain⟨M,I⟩:=O.cap.get;have m:=O.sub;have W:(d.heap.push { cls:=.type "dict",data:=.dict #[] }).objs.size=d.heap.objs.size+1:=qk ..;have hk:∀b o,d.heap.get? b=Z o->(pushCells (d.heap.push { cls:=.type "dict",data:=.dict #[] }) scope.names).get? b=Z o:=λb o e=>pushCells_keeps _ _ b o (zd _ e);have B:LF (pushCells (d.heap.push { cls:=.type "dict",data:=.dict #[] }) scope.names) (cellsFrom (d.heap.objs.size+1) scope.names cl):=by
  rw[<-W];refine Xi _ _ _ ⟨λx y c e1 e2=>a.ok.inj x y c (m.get e1) (m.get e2),λx c e=>?_⟩;obtain⟨v,q⟩:=a.cell x c (m.get e);exact⟨v,q.keeps λb o e=>zd _ e⟩
 have A:∀x c,(cellsFrom (d.heap.objs.size+1) scope.names cl).lookup x=Z c->X.env.cells.lookup x=Z c\/d.heap.objs.size<c:=λx c e=>(uO _ _ _ x c e).imp_left m.get;refine⟨⟨a.ok.mod,O.kind,a.ok.glob,a.ok.blt,zl _,B.inj,λx hx=>Qf _ _ _ x (O.has x hx),λx c hx e=>?_,a.ok.hd,a.ok.frames,.inl rfl,λb f=>⟨ZE (C b f),λx c e=>?_⟩,a.bs,ZH a.ok.Wn a.sz,λb o e f=>?_,λb f H=>?_,a.stack,a.Bk,a.ok.tabs.go a.base.qD⟩,
  rfl,a.bare,Un.kept hk,⟨_,(Heap.Ns.new d.heap (.type "dict")).keeps (pushCells_keeps _ _),λj x v e1 e2 _=>?_⟩,B.cell,a.hok.fresh (zl _),λx c e=>(A x c e).elim (a.jj x c) λh=>a.hok.fresh (Q1 h),λq hq=>absurd (show q∈([]:List (A1×AE)) from hq) (by simp),a.hok.kept hk,?_⟩
 ·refine(uO _ _ _ x c e).elim (λh=>?_) λh=>Q1 h;have hx:(x,NameKind.cell)∈scope.names:=by
   have hx:Gc scope.names x=true:=hx;unfold Gc at hx;split at hx
   ·rename_i q;exact mem_of_lookup q
   ·cases hx
  rw[O.cell _ hx rfl]at h;cases h
 ·rcases A x c e with h|h
  ·exact(t b f).2.2.2.2.1 x c h
  ·exact kl (eo (C b f) h)
 ·obtain⟨_,_,_,z,_⟩:=t b f;rcases z with z|z
  ·exact a.ok.Pk b o e z
  ·exact absurd (ZO (zw e) (ZH a.ok.Wn z)) (QU _)
 ·obtain⟨_,F,n2,_⟩:=t b f;rcases List.mem_cons.mp (a.yO b H)with z|z
  ·exact F z
  ·exact n2 z
 ·have D:j<is.length:=by
   by_cases D:j<is.length
   ·exact D
   ·rw[qv (by simp[vO];omega)]at e2;rw[jI]at e2;split at e2<;>cases e2
  have Q:xs[j]?=Z x:=by
   have e1:(xs++ts)[j]?=Z x:=e1;rw[Z3 ()]at e1;exact e1
  obtain⟨i,P,g⟩:=I j x Q;have e3:σ[i]?=Z (Z v):=by
   rw[Z3 (by simp[vO];omega)]at e2;unfold vO at e2;rw[Zs,P]at e2;cases q:σ[i]? with
   |none=>rw[ez,q]at e2;cases e2
   |some o=>
    rw[ez,q]at e2;have:o=Z v:=by simpa using e2
    rw[this]
  have N:Z1 X.env.scope x:=by
   rcases g.k with k|k
   ·exact .inr (.inl k)
   ·exact .inr (.inr k)
  obtain⟨m',a3,G⟩:=a.loc;obtain⟨u,r,l⟩:=G i x v g.n e3 N;refine⟨u,r,?_⟩;rcases l with⟨k,_⟩|⟨k,c,E,K⟩
  ·rcases g.k with w|w<;>(rw[k]at w;cases w)
  ·obtain⟨c',s⟩:=g.c;have:=m.get s;rw[E]at this;cases this;refine .inr ⟨g.k',c,(Jo _ _ _ x λz=>by rw[O.cell _ z rfl]at s;cases s).trans s,?_⟩;obtain⟨o,L,J⟩:=K;exact⟨o,hk c o L,J⟩
 ·show(vO is σ++aw ts.length U).length=(xs++ts).length;simp[vO,M]
theorem bF.caps{ρ:Ev}(E:bF K H0 H σ ρ)(is:O Nat)(n:Nat):bF K H H (vO is σ++aw n U) (jF is ρ++aw n U):=by
 have f:∀(j:Nat) c,(jF is ρ++aw n U)[j]?=Z (Z c)->vN c=false:=λj c e=>by
  by_cases g:j<is.length
  ·rw[Z3 (by simp[jF];omega)]at e;unfold jF at e;rw[Zs]at e;cases q:is[j]? with
   |none=>rw[q]at e;cases e
   |some i=>
    rw[q]at e;have:wz ρ i=Z c:=by simpa using e
    exact xu this
  ·rw[qv (by simp[jF];omega),jI]at e;split at e<;>cases e
 refine⟨by simp[vO,jF],λj b e=>?_,λj k c a b e d=>absurd d (by rw[f j c e];exact zI),AV.refl H,λj c a e d=>absurd d (by rw[f j c e];exact zI)⟩;by_cases g:j<is.length
 ·rw[Z3 (by simp[jF];omega)]at e;rw[Z3 (by simp[vO];omega)];unfold jF at e;unfold vO;rw[Zs]at e ⊢;cases q:is[j]? with
  |none=>rw[q]at e;cases e
  |some i=>
   rw[q]at e;have:wz ρ i=Z b:=by simpa using e
   obtain⟨v,e1,r⟩:=Lq E this;exact⟨v,by simp[e1],r⟩
 ·rw[qv (by simp[jF];omega),jI]at e;split at e<;>cases e
theorem bF.forget{ρ ρ':Ev}(E:bF K H0 H σ ρ')(f:ρ'.length=ρ.length)(h:∀(j:Nat) b,ρ[j]?=Z (Z b)->ρ'[j]?=Z (Z b)):bF K H0 H σ ρ:=
 ⟨E.len.trans f,λj b e=>E.val j b (h j b e),λi j c a b e1 d e2 e3 g k=>E.own i j c a b (h _ _ e1) d e2 (h _ _ e3) g k,E.base,λi c a e1 d e2=>E.new i c a (h _ _ e1) d e2⟩
structure DO (Hb:Hp) (σ:L2.St) (ρ:Ev) (n:Nat):Prop where
 own:∀(j:Nat) c,ρ[j]?=some (some c)->vN c=false
 lt:∀(j:Nat) b,ρ[j]?=some (some b)->j<n
 old:∀(j:Nat) c a,ρ[j]?=some (some c)->loose c=true->σ[j]?=some (some (.ref a))->Hb a≠none
def Fx(σ σ':L2.St)(ρ:Ev):Prop:=∀(j:Nat) c,loose c=true->ρ[j]?=Z (Z c)->σ'[j]?=σ[j]?
theorem DO.fx{σ':L2.St}{ρ:Ev}(P:DO Hb σ ρ n)(f:Fx σ σ' ρ):DO Hb σ' ρ n:=⟨P.own,P.lt,λj c a e b ea=>P.old j c a e b (by rw[<-f j c b e];exact ea)⟩
theorem Cf{ρ:Ev}(E:bF K H0 H σ ρ)(j:Nat)(c:Bx)(a:A1)(e:ρ[j]?=Z (Z c))(h:loose c=true)(ea:σ[j]?=Z (Z (.ref a))):H a≠U:=λz=>by
 obtain⟨v,e1,b⟩:=E.val j _ e;rw[ea]at e1;cases e1;cases c with
 |z d=>cases h
 |l f=>
  obtain⟨g,vs,e2,q,_⟩:=b;cases e2;rcases q with q|⟨o,q⟩<;>(rw[z]at q;cases q)
 |n f=>
  obtain⟨g,vs,e2,q,_⟩:=b;cases e2;rcases q with q|⟨o,q⟩<;>(rw[z]at q;cases q)
 |o f=>
  obtain⟨g,vs,e2,q,_⟩:=b;cases e2;rw[z]at q;cases q
 |m f _=>
  obtain⟨g,vs,e2,q,_⟩:=b;cases e2;rw[z]at q;cases q
theorem bF.grown{ρ:Ev}{o:HO}(E:bF K Hb H σ ρ)(P:DO Hb σ ρ n)(p:Hb D=U)(kp:Kp H (B1 H D o)):bF K Hb (B1 H D o) σ ρ:=by
 refine⟨E.len,λj b e=>?_,λj k c a b e h=>absurd h (by rw[P.own j c e];exact zI),λc o e=>?_,λj c a e h=>absurd h (by rw[P.own j c e];exact zI)⟩
 ·obtain⟨v,ev,i⟩:=E.val j b e;refine⟨v,ev,?_⟩;cases b with
  |z d=>exact AW.kp kp i
  |o g=>have:=P.own j _ e;cases this
  |m g _=>have:=P.own j _ e;cases this
  |n g=>
   obtain⟨a,vs,rfl,q,s⟩:=i;refine⟨a,vs,rfl,?_,s.kp kp⟩;have f:a≠D:=λz=>P.old j _ _ e S ev (by rw[z];exact p);exact q.imp (λq=>by rw[aF f];exact q) λ⟨o,q⟩=>⟨o,by rw[aF f];exact q⟩
  |l g=>
   obtain⟨a,vs,rfl,q,s⟩:=i;refine⟨a,vs,rfl,?_,s.kp kp⟩;have f:a≠D:=λz=>P.old j _ _ e S ev (by rw[z];exact p);exact q.imp (λq=>by rw[aF f];exact q) λ⟨o,q⟩=>⟨o,by rw[aF f];exact q⟩
 ·rw[aF (bf e p)];exact E.base c o e
def FI(X:Cx)(el:A1->Env->Sem Unit)(fs:Ev->Y (O Dt))(Ac:A1->Hp->O Dt->HO->Prop)(N n:Nat):Prop:=∀(AN:O (A1×AE)) (s:A2) (σ:L2.St) (H Hb:Hp) (ρ:Ev) (D:A1) (o:HO) (a ys:O Dt),L2.AU X AN σ H s->bF X.K Hb H σ ρ->DO Hb σ ρ n->Hb D=U->fs ρ=Z ys->H D=Z o->Ac D H a o->a.length+ys.length<=N →
 A7 (ii X) X.A (el D X.env) (λ_ s'=>∃ σ' H' o',L2.AU X AN σ' H' s'/\bF X.K Hb H' σ' ρ/\Fx σ σ' ρ/\H' D=Z o'/\Ac D H' (a++ys) o') X.xe s
theorem ae{fs:Ev->Y (O Dt)}{Ac:A1->Hp->O Dt->HO->Prop}{N:Nat}(h:∀(AN:O (A1×AE)) (s:A2) (σ:L2.St) (H Hb:Hp) (ρ:Ev) (D:A1) (o:HO) (b ys:O Dt),L2.AU X AN σ H s->bF X.K Hb H σ ρ->fs ρ=Z ys->H D=Z o->Ac D H b o->b.length+ys.length<=N →
  A7 (ii X) X.A (el D X.env) (λ_ s'=>∃a o',L2.AU X AN σ (B1 a D o') s'/\AV H a/\Kp a (B1 a D o')/\Ac D (B1 a D o') (b++ys) o') X.xe s):FI X el fs Ac N n:=λAN s σ H Hb ρ D o b ys I E P c e1 e2 a1 l=>by
 refine ZY (h AN s σ H Hb ρ D o b ys I E e1 e2 a1 l) (λ_ s' ⟨a,o',I',s9,kp,a'⟩=>?_) λ_ _ z=>z;exact⟨σ,_,o',I',(E.grow s9).grown P c kp,λ_ _ _ _=>S,aQ,a'⟩
structure LK (B:Around->Bool->Prop) (P:Program) (w:World) (K:B4) (tg:Expr) (J:It) (fp:List Addr) (it:Addr) (tn:Nat->Heap->Prop):Prop where
 obj:∀i h,tn i h->∀b∈fp,∃o,h.get? b=some o/\∀v,o.data≠.cell v
 keep:∀i h h',tn i h->(∀b∈fp,∀o,h.get? b=some o->h'.get? b=some o)->tn i h'
 item:∀(X:Cx),X.prog=P->X.w=w->X.K=K->B X.A X.calm->∀(i:Nat) (AN:List (Addr×Obj)) (s:Shared) (σ:L2.St) (H:Hp) (E:BA),L2.AU X AN σ H s->(∀b∈fp,lQ X AN H b)->tn i s.heap->J.go i H →
  wpAny (model P w) X.A (pyNext (.ref it)) (λr s1=>∃u,r=some u ∧
   wpAny (model P w) X.A (letOwnedTupleGo tg (.ref it) u) (λ_ s2=>∃x H',L2.AU X AN σ H' s2/\B0 x u/\J.yld i H x H'/\tn (i+1) s2.heap/\∀b∈fp,H' b=none) E s1) E s
 done:∀(X:Cx),X.prog=P->X.w=w->X.K=K->B X.A X.calm->∀(i:Nat) (AN:List (Addr×Obj)) (s:Shared) (σ:L2.St) (H:Hp) (E:BA),L2.AU X AN σ H s->(∀b∈fp,lQ X AN H b)->tn i s.heap->J.stop i H →
  wpAny (model P w) X.A (pyNext (.ref it)) (λr s1=>r=none/\L2.AU X AN σ H s1) E s
 self:∀(A:Around) (i:Nat) (s:Shared) (Q:BA) (E:BA),tn i s.heap->Q (.ref it) s->wpAny (model P w) A (pyIter (.ref it)) Q E s
abbrev R6:A5->Bool->Prop:=λ_ c=>c=true
theorem Xj{J:It}(T:C9 P w K tg J fp it tn):LK R6 P w K tg J fp it tn:=⟨T.obj,T.keep,T.item,T.done,T.self⟩
theorem Uu{comp:Expr}{d:Nat}{f1:Pos}{Ac:A1->Hp->O Dt->HO->Prop}{fs:Ev->Option (O Dt)}{N:Nat}{J:It}{ds o0 out:O Dt}{o:HO}{ρ:Ev}{R:Result->A2->Prop}(d3:B X.A X.calm)(hx:X.xe=λ_ _=>False)(K1:F1 X tgt gt)(e3:CC X ifs p)(g2:FI X el fs Ac N m)(e6:D8 n m gt)(e7:n<=m)(I:L2.AU X AN σ H s)(E:bF X.K Hb H σ ρ)(P:DO Hb σ ρ n)(hD:Hb D=U)(g1:H D=Z o)(hA:Ac D H o0 o)(T:LK B X.prog X.w X.K tgt J fp it tn)(st:tn 0 s.heap)(hf:∀b∈fp,lQ X AN H b)(Y:B6 X.K J ds Hb)(g0:Bb gt p fs ρ ds=Z out)(hN:o0.length+out.length<=N)(b4:∀{D:A1} {H H':Hp} {y:O Dt} {o:HO},Kp H H'->Ac D H y o->Ac D H' y o)(f2:∀(it:A0) (D:A1) (env:Env),compTurn comp d it (.ref D) env=(standAt f1 >>= λ_=>pyNext it >>= λr=>match r with
   |none=>pure (.done .next)
   |some v=>letOwnedTupleGo tgt it v >>= λ_=>assign tgt env v >>= λ_=>(forIn ifs true λc r=>if r=true then isTrue c env (eval c env) >>= λok=>pure (ForInStep.yield ok)else pure (ForInStep.yield r)) >>= λok=>if ok=true then el D env >>= λ_=>again (.compLoop comp d it (.ref D) env)else again (.compLoop comp d it (.ref D) env)))(g3:∀{it b3:A0} {env:Env} {Q:Fin->A2->Prop} {E:BA} {s:A2},A7 (ii X) X.A ((compTurn comp d it b3 env).onRaise (λx=>noteFrame x env >>= λ_=>theTreesLotGoes x)) Q E s->A7 (ii X) (X.A.under (.compLoop comp d it b3 env)) ((ii X).den (.compLoop comp d it b3 env)) Q E s)(hR:∀s' σ' H' o',L2.AU X AN σ' H' s'->bF X.K Hb H' σ' ρ->Fx σ σ' ρ->H' D=Z o'->Ac D H' (o0++out) o'->R (.ok .next) s'):
  AF (ii X) X.A (.compLoop comp d (.ref it) (.ref D) X.env) R s:=by
 have Xk:∀{H':Hp},(∀b∈fp,H' b=U)->∀b∈fp,lQ X AN H' b:=λ{H'} hn b q=>⟨hn b q,(hf b q).2⟩;refine codeAny_loop S (λk s'=>∃(i:Nat) (σ':L2.St) (H':Hp) (y o2:O Dt) (o:HO),k=ds.length-i/\i<=ds.length/\L2.AU X AN σ' H' s'/\tn i s'.heap/\(∀b∈fp,H' b=U)/\bF X.K Hb H' σ' ρ/\Fx σ σ' ρ/\H' D=Z o/\Ac D H' y o/\Bb gt p fs ρ (ds.drop i)=Z o2/\y++o2=o0++out) ?_ ds.length
  ⟨0,σ,H,o0,out,o,by simp,QR _,I,st,λb q=>(hf b q).1,E,λ_ _ _ _=>S,g1,hA,by simpa using g0,rfl⟩
 rintro k s4 ⟨i,a4,H4,y,o2,o,rfl,hi,I4,b6,d0,W,F4,a3,r4,g,ho⟩;have P4:=P.fx F4;refine g3 (wpAny_noted ?_);rw[f2];obtain⟨y1,y2⟩:=Y i H4 W.base;by_cases b0:i<ds.length
 ·have hd:ds[i]?=Z ds[i]:=by simp[b0]
  obtain⟨go,yl⟩:=y1 _ hd;rw[YV b0]at g;simp only[Bb]at g;obtain⟨t,e1,g⟩:=AT g;obtain⟨k,ek,g⟩:=AT g;obtain⟨f5,b5⟩:=e6 _ _ _ e1;have d1:∀{a7:L2.St} {H5:Hp},bF X.K Hb H5 a7 t->bF X.K Hb H5 a7 ρ:=λE5=>E5.forget f5 λj b e=>by rw[b5 j (.inl (P.lt j b e))];exact e
  refine zb (kR (zb ?_));refine ig (T.item X S S S d3 i AN s4 a4 H4 _ I4 (Xk d0) b6 go) λr s5 ⟨u,hr,h5⟩=>?_;subst hr;refine zb (ig h5 λ_ s6 ⟨x,H6,I6,r6,y6,D6,fr6⟩=>?_);obtain⟨sm,rx⟩:=yl x H6 y6;have W:=W.grow sm;have a3:=sm _ _ a3;have r4:=b4 (.of sm) r4;have g4:=I6.pinned (Xk fr6) (T.obj _ _ D6);have ha:=K1 _ s6 a4 H6 x u (λσ' H'=>H'=H6/\bF X.K Hb H6 σ' t/\Lo a4 ρ σ' t) g4 r6 ⟨Hb,ρ,ds[i],t,W,rx,e1,λσ' E' L'=>⟨rfl,E',L'⟩⟩;rw[hx]at ha;refine zb (ZY ha (λ_ s7 h7=>?_) λ_ _ z=>z.elim);obtain⟨M,H7,I7,rfl,E7,L7⟩:=h7;have P7:DO Hb M t m:=by
   refine⟨λj c e=>?_,λj c e=>?_,λj c a e C ea=>?_⟩
   ·cases c with
    |o ds=>exact P.own j _ (L7 j _ S e).1
    |m ds _=>exact P.own j _ (L7 j _ S e).1
    |_=>rfl
   ·refine Nat.lt_of_not_le λh=>?_;rw[b5 j (.inr h)]at e;exact absurd (ZO (P.lt j c e) e7) (dw.mpr h)
   ·obtain⟨e',ee⟩:=L7 j c C e;exact P4.old j c a e' C (by rw[<-ee];exact ea)
  have d2:∀{a7:L2.St},Fx M a7 t->Fx σ a7 ρ:=λf j c C e=>by
   have e':t[j]?=Z (Z c):=by rw[b5 j (.inl (P.lt j c e))];exact e
   exact(f j c C e').trans ((L7 j c C e').2.trans (F4 j c C e))
  have ht:A7 (ii X) X.A (forIn ifs true λc r=>if r=true then do let ok <-isTrue c X.env (eval c X.env);pure (ForInStep.yield ok)else pure (ForInStep.yield r))
    (λok F=>ok=k/\∃l,L2.AU X (AN++sS fp s6.heap) M l F/\AV H7 l) (notedBy (ii X) X.A X.env λe s'=>R (.error e) s') s7:=by
   rcases e3 with⟨rfl,rfl⟩|⟨c,rfl,hc⟩
   ·cases ek;exact wpAny_tests_nil ⟨rfl,H7,I7,AV.refl H7⟩
   ·refine wpAny_tests_one ?_;have:=hc _ s7 M H7 (λb l=>b=k/\AV H7 l) I7 ⟨Hb,t,k,E7,ek,λl F=>⟨rfl,F⟩⟩;rw[hx]at this;exact ZY this (λb F ⟨l,I8,eb,s8'⟩=>⟨eb,l,I8,s8'⟩) λ_ _ z=>z.elim
  refine zb (ZY ht (λok F h8=>?_) λ_ _ z=>z);obtain⟨rfl,l,I8,G⟩:=h8;have Cw:∀{a6:L2.St} {L:Hp} {s9:A2},L2.AU X (AN++sS fp s6.heap) a6 L s9->L2.AU X AN a6 L s9/\tn (i+1) s9.heap/\∀b∈fp,L b=U:=λ{a6 L s9} I9=>by
   refine⟨I9.p8,T.keep _ _ _ D6 λb q o e=>(I9.pin (b,o) (ZI _ (ZI _ (j9 q e)))).1,λb q=>?_⟩;obtain⟨o,e,d⟩:=T.obj _ _ D6 b q;exact(I9.pin (b,o) (ZI _ (ZI _ (j9 q e)))).2.1
  cases ok with
  |false=>
   rw[ZA zI]at g;obtain⟨I9,e2,d9⟩:=Cw I8;exact ze ⟨rfl,ds.length-(i+1),by omega,i+1,M,l,y,o2,o,rfl,b0,I9,e2,d9,d1 (E7.grow G),d2 (λ_ _ _ _=>S),G _ _ a3,b4 (.of G) r4,g,ho⟩
  |true=>
   rw[zt rfl]at g;obtain⟨ys,eb,g⟩:=AT g;obtain⟨zs,e5,g⟩:=AT g;cases g;have C:=congrArg mh ho;simp only[zC]at C;have he:=g2 _ F M l Hb t D o y ys I8 (E7.grow G) P7 hD eb (G _ _ a3) (b4 (.of G) r4) ();rw[hx]at he;refine zb (ZY he (λ_ g5 f0=>?_) λ_ _ z=>z.elim);obtain⟨a6,L,o',e9,E9,F9,e0,a5⟩:=f0;obtain⟨d4,f4,f3⟩:=Cw e9;exact ze ⟨rfl,ds.length-(i+1),by omega,i+1,a6,L,y++ys,zs,o',rfl,b0,d4,f4,f3,d1 E9,d2 F9,e0,a5,e5,by rw[QN];exact ho⟩
 ·have c5:ds.length<=i:=by omega
  rw[eg c5]at g;cases g;refine zb (kR (zb ?_));refine ig (T.done X S S S d3 i AN s4 a4 H4 _ I4 (Xk d0) b6 (y2 c5)) λr s5 ⟨hr,I5⟩=>?_;subst hr;rw[JP]at ho;exact ze (hR s5 a4 H4 o I5 W F4 a3 (by rw[<-ho];exact r4))
def zV(H:Hp)(D:A1):Hp:=λb=>if b=D then U else H b
theorem tu{b:A1}(h:b≠D):zV H D b=H b:=ZA h
theorem Cy:AV (zV H D) H:=λb o e=>by
 by_cases h:b=D
 ·rw[zV,zt h]at e;cases e
 ·rw[tu h]at e;exact e
theorem Uv{comp:Expr}{mk:Sem A0}{o0:AE}{O0:HO}{Ac:A1->Hp->List Dt->HO->Prop}{fs:Ev->Option (List Dt)}{N:Nat}{H2:Hp}{a:A2}{J:It}{ds out:List Dt}{ρ:Ev}(O:qK X scope cl xs is)(e1:B X.A X.calm)(K1:∀C l n fp,F1 (Bt X (xs++ts) scope cl C l n fp) tgt gt)(d0:∀C l n fp,CC (Bt X (xs++ts) scope cl C l n fp) ifs p)(b3:∀C l n fp,FI (Bt X (xs++ts) scope cl C l n fp) el fs Ac N m)(d1:D8 is.length m gt)(d9:is.length<=m)(I2:L2.AU X AN σ H2 a)(Ec:bF X.K H2 H2 (vO is σ++aw ts.length U) (jF is ρ++aw ts.length U))(T:LK B X.prog X.w X.K tgt J fp it tn)(st:tn 0 a.heap)(I:∀b∈fp,lQ X AN H2 b)(Y:B6 X.K J ds H2)(a7:Bb gt p fs (jF is ρ++aw ts.length U) ds=Z out)(c5:out.length<=N)(e3:∀(D C:A1) (s':A2) (H':Hp) (o:HO),H2 D=U->L2.AU X AN σ H' s'->lQ X AN H' C->(∃m,s'.heap.Ns C m)->AV H2 H'->H' D=Z o->Ac D H' out o->RR (.ref D) C (.ok .next) s')(a6:∀{Q:BA},Q (.ref a.heap.objs.size) { a with heap:=a.heap.push o0 }->A7 (ii X) X.A mk Q E a)(e4:∀H,eU X.prog X.w H (a.heap.push o0) a.heap.objs.size O0)(b6:∀H,Ac a.heap.objs.size H [] O0)(e6:∀{D:A1} {H H':Hp} {W:List Dt} {o:HO},Kp H H'->Ac D H W o->Ac D H' W o)(e5:∀(it:A0) (D:A1) (env:Env),compTurn comp 0 it (.ref D) env=(standAt iter.pos >>= λ_=>pyNext it >>= λr=>match r with
   |none=>pure (.done .next)
   |some v=>letOwnedTupleGo tgt it v >>= λ_=>assign tgt env v >>= λ_=>(forIn ifs true λc r=>if r=true then isTrue c env (eval c env) >>= λok=>pure (ForInStep.yield ok)else pure (ForInStep.yield r)) >>= λok=>if ok=true then el D env >>= λ_=>again (.compLoop comp 0 it (.ref D) env)else again (.compLoop comp 0 it (.ref D) env)))(d2:∀{it f:A0} {env:Env} {R:Result->A2->Prop} {s:A2},AF (ii X) X.A (.compLoop comp 0 it f env) R s->A7 (ii X) X.A (pyIter it) (λe2 s'=>AF (ii X) X.A (.compLoop comp 0 e2 f env) R s') (notedBy (ii X) X.A env λx s'=>R (.error x) s') s->AF (ii X) X.A (.compStart comp 0 it f env) R s)(e0:∀{it f:A0} {env:Env} {Q:Fin->A2->Prop} {E:BA} {s:A2},A7 (ii X) X.A ((compTurn comp 0 it f env).onRaise (λx=>noteFrame x env >>= λ_=>theTreesLotGoes x)) Q E s->A7 (ii X) (X.A.under (.compLoop comp 0 it f env)) ((ii X).den (.compLoop comp 0 it f env)) Q E s):
  A7 (ii X) X.A mk (λf b5=>A7 (ii X) X.A (newFunctionEnv scope X.env.globals cl [] X.env.qual U .none (Z X.env)) (λa4 d3=>
   AF (ii X) X.A (.compStart comp 0 (.ref it) f { a4 with scope:=relabel scope X.env }) (RR f a4.locals) d3) E b5) E a:=by
 refine a6 (G9 ?_);have y:H2 a.heap.objs.size=U:=I2.hok.fresh (zl _);have u:L2.AU X AN σ (B1 H2 a.heap.objs.size O0) { a with heap:=a.heap.push o0 }:=
  I2.laid (t':=a.toks) (λb o e=>zd _ e) (zl _) (e4 _)
 have L:∀b∈fp,b<a.heap.objs.size:=λb d=>let ⟨o,e,_⟩:=T.obj 0 _ st b d;zw e;have G:∀b∈fp,lQ X AN (B1 H2 a.heap.objs.size O0) b:=λb d=>⟨by rw[aF (ZE (L b d))];exact(I b d).1,(I b d).2⟩;have a3:tn 0 (a.heap.push o0):=T.keep 0 _ _ st λb d o e=>zd _ e;have t:∀b∈fp,b<(a.heap.push o0).objs.size:=λb d=>by rw[qk];exact qA (L b d)
 generalize d4:({ a with heap:=a.heap.push o0 }:A2)=s3 at *
 have b4:s3.heap=a.heap.push o0:=by rw[<-d4]
 rw[<-b4]at a3 t;have IC:=LC (ts:=ts) u O G t;have P:tn 0 (pushCells (s3.heap.push { cls:=.type "dict",data:=.dict #[] }) scope.names):=T.keep 0 _ _ a3 λb d o e=>pushCells_keeps _ _ b o (zd _ e);have Xk:∀b∈fp,lQ (Bt X (xs++ts) scope cl s3.heap.objs.size s3 (B1 H2 a.heap.objs.size O0) fp) [] (B1 H2 a.heap.objs.size O0) b:=λb d=>by
  obtain⟨f0,f1,f2,f3,F,f5⟩:=G b d;refine⟨f0,ZE (t b d),λz=>?_,.inl d,λx c e z=>?_,λq hq=>absurd (show q∈([]:List (A1×AE)) from hq) (by simp)⟩
  ·rcases List.mem_cons.mp (u.yO b z)with q|q
   ·exact f1 q
   ·exact f2 q
  ·rcases uO _ _ _ x c e with h|h
   ·exact F x c (O.sub.get h) z
   ·rw[z]at h;exact absurd (ZO (t b d) (ia h)) (QU _)
 have P0:DO H2 (vO is σ++aw ts.length U) (jF is ρ++aw ts.length U) is.length:=by
  have g:∀(j:Nat) c,(jF is ρ++aw ts.length U)[j]?=Z (Z c)->j<is.length/\vN c=false:=λj c e=>by
   by_cases hj:j<is.length
   ·refine⟨hj,?_⟩;rw[Z3 (by simp[jF];omega)]at e;unfold jF at e;rw[Zs]at e;cases q:is[j]? with
    |none=>rw[q]at e;cases e
    |some i=>rw[q]at e;exact xu (by simpa using e)
   ·rw[qv (by simp[jF];omega),jI]at e;split at e<;>cases e
  exact⟨λj c e=>(g j c e).2,λj c e=>(g j c e).1,Cf Ec⟩
 have h:=Uu (B:=B) (X:=Bt X (xs++ts) scope cl s3.heap.objs.size s3 (B1 H2 a.heap.objs.size O0) fp) (R:=RR (.ref a.heap.objs.size) s3.heap.objs.size) (o0:=[]) e1 S (K1 _ _ _ _) (d0 _ _ _ _) (b3 _ _ _ _) d1 d9 IC (Ec.grow (bD y)) P0 y aQ (b6 _) T P Xk Y a7 (by simpa using c5) e6 e5 e0 λs5 e7 M o5 k E5 _ b0 a5=>by
  have IB:L2.AU X AN σ M s5:=u.call' (ch:=fp) k.os k.base k.hok k.bare λb d=>by
   obtain⟨f0,f1,f2,f3,F,f5⟩:=G b d;exact⟨f3,f1,F,f5⟩
  obtain⟨m,hn,_⟩:=k.loc;exact e3 _ _ s5 M o5 y IB (u.Ga (zl _) k.free) ⟨m,hn⟩ E5.base b0 a5
 exact d2 h (T.self _ 0 _ _ _ P h)
def EL(K:B4)(_:A1)(H:Hp)(a:O Dt)(o:HO):Prop:=∃us,o=.lst us/\aP K H a us
theorem EL.kp{K:B4}{D:A1}{H H':Hp}{a:O Dt}{o:HO}(k:Kp H H'):EL K D H a o->EL K D H' a o:=λ⟨us,e,r⟩=>⟨us,e,r.kp k⟩
def UZ(fe:Ev->Y Bx):Ev->Y (O Dt):=λρ=>(fe ρ).bind IT
theorem gT(h:PV X elt fe):FI X (λD env=>do let _ <-call (.builtin "list.append") [.ref D,<-eval elt env]) (UZ fe) (EL X.K) 100000 n:=by
 refine ae λAN s σ H Hb ρ D o o1 ys I En f hD ⟨us,e,r4⟩ hl=>?_;subst e;obtain⟨b,eb,f⟩:=AT f;obtain⟨y,rfl,rfl⟩:=Hf f;refine zb (ZY (h AN s σ H (λv a=>AV H a/\AW X.K a y v) I ⟨Hb,ρ,_,En,eb,λv a g _ i=>⟨g,i⟩⟩) (λv g m=>?_) λ_ _ z=>z);obtain⟨c,a,p,t,d,i⟩:=m;have j:=d _ _ hD;refine zb (ZY ((nJ (X:=X)) _ g σ a (.ref D) [c] (.ref D) [v] (λw k=>k=B1 a D (.lst (us++[c]))) p S (.cons t .nil) ⟨_,us,c,rfl,rfl,j,by rw[r4.length];have A:(100000:Nat)<AA:=();simp at hl;omega,rfl⟩) (λw u l=>?_) λ_ _ z=>z);obtain⟨x,k,q,_,rfl⟩:=l;have kp:Kp a (B1 a D (.lst (us++[c]))):=.lst j;exact ze ⟨a,_,q,d,kp,us++[c],rfl,((r4.kp (.of d)).append (aP.cons i aP.nil)).kp kp⟩
theorem xK{H2:Hp}{k:A2}{J:It}{ds out:List Dt}{ρ:Ev}(O:qK X scope cl xs is)(F:B X.A X.calm)(y:∀C i j fp,F1 (Bt X (xs++ts) scope cl C i j fp) tgt gt)(t:∀C i j fp,CC (Bt X (xs++ts) scope cl C i j fp) ifs p)(G:∀C i j fp,PV (Bt X (xs++ts) scope cl C i j fp) elt fe)(v:D8 is.length (is.length+ts.length) gt)(I:L2.AU X AN σ H2 k)(u:bF X.K H2 H2 (vO is σ++aw ts.length U) (jF is ρ++aw ts.length U))(T:LK B X.prog X.w X.K tgt J fp it tn)(st:tn 0 k.heap)(s:∀b∈fp,lQ X AN H2 b)(Y:B6 X.K J ds H2)(z:ds.length<=100000)(l:zU gt p fe (jF is ρ++aw ts.length U) ds=Z out)(L:∀(D C:A1) (s':A2) (H':Hp) (us:List V),H2 D=U->L2.AU X AN σ H' s'->lQ X AN H' C->(∃m,s'.heap.Ns C m)->AV H2 H'->H' D=Z (.lst us)->aP X.K H' out us->RR (.ref D) C (.ok .next) s'):
  A7 (ii X) X.A (newList []) (λn H=>A7 (ii X) X.A (newFunctionEnv scope X.env.globals cl [] X.env.qual U .none (Z X.env)) (λq x=>
   AF (ii X) X.A (.compStart (.ListComp elt [⟨tgt,iter,ifs,0⟩] scope pos) 0 (.ref it) n { q with scope:=relabel scope X.env }) (RR n q.locals) x) E H) E k:=
 Uv (B:=B) (Ac:=EL X.K) (O0:=.lst []) (N:=100000) O F y t (λC i j fp=>gT (G C i j fp)) v (Nat.le_add_right ..) I u T st s Y l (ZH (yR l) z) (λD C s' H' o a b c d e f g=>by obtain⟨us,rfl,r⟩:=g;exact L D C s' H' us a b c d e f r)
  ZT (λ_=>⟨QR _,[],0,.nil,zr _ rfl⟩) (λ_=>⟨[],rfl,aP.nil⟩) EL.kp (λ_ _ _=>S) codeAny_compStart_list λh=>h
end
def iC(K:B4)(f:Ev->Y (O Dt)):TI:=λσ H R=>∃H0 ρ ds,bF K H0 H σ ρ/\f ρ=Z ds/\∀J H',AV H H'->B6 K J ds H'->R J H'
def X0(X:Cx)(tg iter:Expr)(f:Ev->Y (O Dt)):Prop:=PI X tg iter (iC X.K f)
structure EV (X:Cx) (tg iter:Expr) (f:Ev->Option (List Dt)):Prop where
 run:X0 X tg iter f
def Xm:Bx->Y (O Dt)
 |.z (.lst ds)=>Z ds
 |.z (.tup ds)=>Z ds
 |.z (.str x)=>Z (BQ x)
 |.o ds=>Z ds
 |.l ds=>Z ds
 |_=>U
section
variable{f:Ev->Y Bx}{fs:Ev->Y (O Bx)}{xs:AZ}{gt:Dt->Ev->Y Ev}{p:Ev->Y Bool}{fe:Ev->Y Bx}{fi:Ev->Y (O Dt)}
theorem Qg(h:EA X tgt iter fi):EV X tgt iter fi:=⟨have h:=h.run;λAN s σ H R I q=>by
 obtain⟨H0,ρ,ds,E,e,q⟩:=q;exact h AN s σ H R I ⟨H0,ρ,ds,E,e,λJ H' s' y=>q J H' s' (y H' (AV.refl H') (λ_ _=>S) (λ_ _ _ _=>S) λ_ _ _=>S)⟩⟩
theorem jA(h:QV X e f):EV X tgt e (λρ=>(f ρ).bind Xm):=⟨have h:=h.run;λAN s σ H R I q=>by
 refine Xf h AN s σ H R I ?_;obtain⟨H0,ρ,ds,E,e,q⟩:=q;obtain⟨b,eb,e⟩:=AT e;refine⟨H0,ρ,b,E,eb,λv H1 j p i=>?_⟩;cases b with
 |z d=>
  cases d with
  |tup k=>
   cases e;simp only[aX,AW]at i;obtain⟨a,vs,rfl,c,g⟩:=i;exact .inr (.inl ⟨a,rfl,⟨vs,c⟩,q _ _ j (.tup c g)⟩)
  |lst k=>
   cases e;obtain⟨a,vs,rfl,c,g⟩:=i.Gf rfl;exact .inl ⟨a,rfl,⟨vs,c⟩,q _ _ j (.list c g)⟩
  |str x=>
   cases e;simp only[aX,AW]at i;obtain⟨rfl,_⟩:=i;exact .inr (.inr ⟨x,rfl,q _ _ j (.str x)⟩)
  |_=>cases e
 |l k=>
  cases e;obtain⟨a,vs,rfl,c,g⟩:=i.Gf rfl;exact .inl ⟨a,rfl,⟨vs,c⟩,q _ _ j (.list c g)⟩
 |o k=>
  cases e;obtain⟨a,vs,rfl,c,g⟩:=i.Gf rfl;exact .inl ⟨a,rfl,⟨vs,c⟩,q _ _ j (.list c g)⟩
 |n _=>cases e
 |m _ _=>cases e⟩
def gO(fi:Ev->Y (O Dt))(gt:Dt->Ev->Y Ev)(p:Ev->Y Bool)(fe:Ev->Y Bx)(is:O Nat)(n:Nat):Ev->Y Bx:=λρ=>(fi ρ).bind λds=>
 if ds.length<=100000 then(zU gt p fe (jF is ρ++aw n U) ds).bind λout=>Z (.o out)else U
theorem gZ(ts:AZ)(O:qK X scope cl xs is)(P:X.calm=true)(hi:EV X tgt iter fi)(g:∀C c d fp,ED (Bt X (xs++ts) scope cl C c d fp) tgt gt)(i:∀C c d fp,Jp (Bt X (xs++ts) scope cl C c d fp) ifs p)(f:∀C c d fp,QV (Bt X (xs++ts) scope cl C c d fp) elt fe)(M:D8 is.length (is.length+ts.length) gt)(hs:∀x,foldedSetIterable iter X.env x=pure x:=by intro _;rfl):QV X (.ListComp elt [⟨tgt,iter,ifs,0⟩] scope pos) (gO fi gt p fe is ts.length):=⟨have hi:=hi.run;have g:=λC c d fp=>(g C c d fp).run;have i:=λC c d fp=>(i C c d fp).run;have f:=λC c d fp=>(f C c d fp).run;λAN s σ H Q I h=>by
 obtain⟨H0,ρ,b,E,e,q⟩:=h;obtain⟨ds,l,e⟩:=AT e;split at e
 ·rename_i L;obtain⟨out,u,e⟩:=AT e;cases e;rw[eval_ListComp];refine KI (use:=U) S hs O.clos O.kind O.names ?_;refine ig (hi AN s σ H (λJ H'=>AV H H'/\B6 X.K J ds H') I ⟨H0,ρ,ds,E,l,λJ H' s' y=>⟨s',y⟩⟩) λv s1 h1=>ig h1 λa3 s2 h2=>?_;obtain⟨it,fp,tn,J,H2,rfl,I2,T,st,k,j,Y⟩:=h2;refine xK (B:=R6) (RR:=λG C=>compPost (ii X) X.A X.xe U (EP X AN σ Q) G C) (ts:=ts) (xs:=xs) O P g i f M I2 ((E.grow j).caps is ts.length) (Xj T) st k Y L u ?_;intro D C s' H' us z t W ⟨m,hn⟩ s2' hD' r';refine⟨m,hn,λh' N=>⟨.ref D,H',?_,rfl,q _ _ (j.trans s2') (λa ea=>by cases ea;exact j.free z) ⟨D,us,rfl,hD',r'⟩⟩⟩;obtain⟨f0,f1,f2,f3,F,f5⟩:=W;exact t.turned (t':=s'.toks) (λb o n e=>(N.2 b n).trans e) f0 f1 f3 F f5
 ·cases e⟩
def B5:Bx->Bx
 |.o ds=>.l ds
 |.m ds _=>.n ds
 |b=>b
def iO:Bx->Bool
 |.o _=>true
 |.m _ _=>true
 |_=>false
def Xn(K:B4)(n:Nat)(F:O Bx->Y Bx):Sp:=λvs H Q _=>vs.length=n/\∃bs r,sZ K H bs vs/\bs.all (λb=>!iO b)=true/\F bs=Z r/\∀v H',AV H H'->Nw H r v->aX K H' r v->Q v H'
def fL(n:Nat)(g:Ev->Y As):O Bx->Y Bx:=λbs=>(g (bs.map Z++aw (n-bs.length) U)).bind λr=>match r with
 |.rt b=>Z b
 |.nx _=>Z (.z .non)
 |_=>U
theorem bF.start{K:B4}{H:Hp}{N:AZ}{bs:O Bx}{vs:O V}(r:sZ K H bs vs)(k:bs.all (λb=>!iO b)=true):bF K H H (L2.start N vs) (bs.map Z++aw (N.length-bs.length) U):=by
 have h:bs.length=vs.length:=Paired.length r;have get:∀(i:Nat) b,(bs.map Z++aw (N.length-bs.length) U)[i]?=Z (Z b)->bs[i]?=Z b:=λi b e=>by
  by_cases hi:i<bs.length
  ·rw[Z3 (by simpa using hi),Zs]at e;cases q:bs[i]? with
   |none=>rw[q]at e;cases e
   |some l=>rw[q]at e;simpa using e
  ·rw[qv (by simp;omega),jI]at e;split at e<;>cases e
 have f:∀(i:Nat) c,(bs.map Z++aw (N.length-bs.length) U)[i]?=Z (Z c)->vN c=true->False:=λi c e d=>by
  have:=List.all_eq_true.mp k _ (ZN (get i _ e));cases c with
  |o ds=>cases this
  |m ds _=>cases this
  |_=>cases d
 refine⟨?_,λi b e=>?_,λi j c a b e d=>(f i c e d).elim,AV.refl H,λi c a e d=>(f i c e d).elim⟩
 ·unfold L2.start;simp[h]
 ·have e':=get i b e;have hi:i<bs.length:=(ay.mp e').1;have:∀{bs:O Bx} {vs:O V} {i:Nat} {b:Bx},AI (aX K H) bs vs->bs[i]?=Z b->∃v,vs[i]?=Z v/\aX K H b v:=by
   intro bs vs i b r
   induction r generalizing i with
   |nil=>intro e;simp at e
   |cons p t g=>
    intro e;cases i with
    |zero=>simp at e;subst e;exact⟨_,rfl,p⟩
    |succ i=>obtain⟨v,e1,e2⟩:=g (i:=i) (by simpa using e);exact⟨v,by simpa using e1,e2⟩
  obtain⟨v,e1,e2⟩:=this r e';refine⟨v,?_,e2⟩;unfold L2.start;rw[Z3 (by simp;omega),Zs,e1];rfl
end
theorem ba{f:A1}{g:Ev->Y As}(F:G8 K x qual st f fd)(S:bH N ps (aM st))(m:∀(a:A0) (A:A5) (outer:O Env) (s:A2) (H:Hp) (E:XK),jo k (A.deeper (AK qual (aM st) s.heap.objs.size f a))->Ue (sV Ge P w K mg base N qual (aM st) f a A outer s H E).Z2 (gY st) g):
  lR P w K mg base Ge (k+1) f fd ps (Xn K ps.length (fL N.length g)):=by
 refine F.ok S (λvs H Q E h=>h.1) λa A outer s H vs Q E d h=>?_;obtain⟨o,bs,r,l,n,e,q⟩:=h;refine⟨_,m a A outer s H E d,?_⟩;obtain⟨c,er,e⟩:=AT e;refine⟨H,_,c,bF.start l n,er,?_⟩;cases c with
 |rt b=>cases e;exact λv H' s' j c=>q v H' s' j c
 |nx ρ=>cases e;exact λσ H' i=>q _ H' i.base trivial (by unfold aX AW;rfl)
 |bk ρ=>cases e
 |ct ρ=>cases e
section
variable{f:A1}{F:O Bx->Y Bx}{p:Pos}{fs:Ev->Y (O Bx)}
theorem LQ{K:B4}{H:Hp}:∀{bs:O Bx} {vs:O V},sZ K H bs vs->sZ K H (bs.map B5) vs
 |_,_,.nil=>.nil
 |b::bs,_,.cons h t=>by
  refine .cons ?_ (LQ t);cases b with
  |z d=>exact h
  |l ds=>exact h
  |o ds=>obtain⟨a,vs,e,q,r⟩:=h;exact⟨a,vs,e,.inl q,r⟩
  |n ds=>exact h
  |m ds _=>obtain⟨a,vs,e,q,r⟩:=h;exact⟨a,vs,e,.inl q,r.1⟩
theorem R7:∀bs:O Bx,(bs.map B5).all (λb=>!iO b)=true
 |[]=>rfl
 |b::bs=>by
  rw[Zl,kC,R7 bs];cases b<;>rfl
def cV(n:Nat)(F:O Bx->Y Bx)(fs:Ev->Y (O Bx)):Ev->Y Bx:=λρ=>(fs ρ).bind λbs=>if bs.length=n then F (bs.map B5)else U
theorem Bu(G:lR X.prog X.w X.K X.mg X.base Ge k f fd ps (Xn X.K n F))(j:jo k X.A)(o:Gl X x)(t:X.mg x=Z (.ref f))(hk:keepIn X.K (.ref f)=true)(g:BM X.K fd ps [])(a:Wa X (e::es) fs)(u:db x:=by decide)(he:A9 (e::es) X.env=(false,eval e X.env)::A9 es X.env:=by rfl)(i:(AD pos (A9 es X.env)).any (·.1)=false:=by rfl):QV X (.Call (.Name x p) (e::es) [] pos) (cV n F fs):=⟨have a:=a.run;FT (Sj G j o t hk g .nil (RE) a u he i) λσ H Q h=>by
 obtain⟨H0,ρ,r,E,e,q⟩:=h;obtain⟨bs,eb,e⟩:=AT e;refine⟨H0,ρ,bs,E,eb,λvs H1 b c=>?_⟩;split at e
 ·rename_i d;rw[JP];exact⟨by rw[<-Paired.length c];exact d,_,r,LQ c,R7 bs,e,λv H2 s l m=>q v H2 (b.trans s) (l.old b) m⟩
 ·cases e⟩
end
end P1
variable{b:P1.Bx}{d:P1.Dt}{q:P1.Ev->Y Bool}{F:O P1.Bx->Y P1.Bx}{f:P1.Ev->Y P1.Bx}{g:P1.Ev->Y P1.As}{p:P1.Ev->Y Bool}{ds:O P1.Dt}{fa:P1.Ev->Y P1.Bx}{ρ:P1.Ev}{fb fc:P1.Ev->Y P1.Bx}{g1 g2:P1.Ev->Y P1.As}{gs:O (Int×A1×O P1.Dt)}{gt:P1.Dt->P1.Ev->Y P1.Ev}{gb:P1.Ev->Y P1.As}{fi:P1.Ev->Y (O P1.Dt)}{fe:P1.Ev->Y P1.Bx}{Ac:A1->L2.Hp->O P1.Dt->L2.HO->Prop}{fk fo fv:P1.Ev->Y P1.Bx}{fr:P1.Ev->Y (O (AJ×P1.Dt))}{f1:P1.Ev->Y P1.Bx}{b0:P1.Bx}{gx:P1.Ev->Y P1.Dt}{tab:O (AJ×(O P1.Bx->Y P1.Bx))}{kf:O P1.Dt->Y (O (O L2.AY))}{dB:P1.Bx}
namespace P1
open L2 SeqAt
open AutoSeq1 (wpAny_loadPart')
def Gh(h:A6)(a:A1):Prop:=∃o ep,h.get? a=Z o/\o.ExactDict/\o.data=.dict #[] ep
section
variable{b:A1}
theorem xM{vs:O (AY×A0)}(q:AO=[])(r:KV AO vs)(d:h.DictOf (eG P w) a vs):Gh h a:=by
 subst q;cases r;obtain⟨o,es,ep,h1,h2,b,_,c,_⟩:=d;have:es=#[]:=by
  have:=c.length;apply Array.eq_empty_of_size_eq_zero;simpa using this
 subst this;exact⟨o,ep,h1,h2,b⟩
theorem Gh.dict(P:A3)(w:A4)(x:Gh h a):h.DictOf (strKind P w) a []:=by
 obtain⟨o,ep,h1,h2,b⟩:=x;exact⟨o,#[],ep,h1,h2,b,λe c=>by simp at c,.nil,yf⟩
theorem N3(g:(a==sysModules)=false)(d:(b==sysModules)=false)(e:Gh s.heap a)(f:Gh s.heap b)(c:A.units<cLine):RcAt A s (.ref a) (.ref b) true:=λprog w E Q h=>
 PySem.W.keq_eq (knd:=strKind prog w) g d (e.dict prog w) (f.dict prog w) c (λ_=>.nil) h
theorem i7(g:(a==sysModules)=false)(d:(b==sysModules)=false)(e:Gh s.heap a)(f:Gh s.heap b)(c:A.units<cLine):RcNeAt A s (.ref a) (.ref b) false:=λprog w E Q h=>
 PySem.W.keq_ne (r:=true) (knd:=strKind prog w) g d (e.dict prog w) (f.dict prog w) c (λ_=>.nil) h
theorem LR(o:AE)(b:AJ)(u:Tok):Meets (Builtin.«dict.__eq__» ⟨[.ref a,.str b u],[]⟩) (λ_ R s=>(s.heap.get? a=Z o/\o.cls=.type "dict")/\R (.ok (.ret .notImplemented)) s):=
 .of_wp λprog w A R s h=>by
  have c:s.TypeIs (.ref a) "dict":=⟨o,h.1.1,h.1.2⟩;show A7 _ _ (Builtin.Dict.dictSlotArgs "__eq__" ⟨[.ref a,.str b u],[]⟩ >>= _) _ _ s;refine zb ?_;unfold Builtin.Dict.dictSlotArgs;refine zb (wpAny_notOrdered_dict c ?_);show A7 _ _ (pure (Value.ref a,Value.str b u)) _ _ s;refine ze ?_;refine zb (Q3 (T :="str") (typeIs_str s b u) PySem.F.sub_str_dict ?_);simp only[YN,jb];refine zb (kB ?_);exact ze ⟨_,rfl,h.2⟩
theorem Ma(b:AJ)(u:Tok)(es:Array DictEntry)(ep:Nat)(e:Y A1)(sl:Array (Y A0)):Meets (Builtin.«str.__eq__» ⟨[.str b u,.ref a],[]⟩) (λ_ R s=>s.heap.get? a=Z { cls:=.type "dict",dict:=e,data:=.dict es ep,slots:=sl }/\R (.ok (.ret .notImplemented)) s):=
 .of_wp λprog w A R s h=>by obtain⟨hp,g,d,tk,os⟩:=s;obtain⟨c,h⟩:=h;wp_walk using wpAny_loadPart' c,yT c;exact⟨_,rfl,h⟩
theorem Hg(x:AJ)(t:Tok)(d:Gh s.heap a)(g:A.units<cLine):RcAt A s (.str x t) (.ref a) false:=λprog w E Q h=>by
 obtain⟨⟨l,i,j,sl⟩,ep,c,⟨e,n,m⟩,f⟩:=d;simp only at e f;subst e f;exact rc_eq_decline_or (k:=false) (typeIs_str s x t) ⟨_,c,rfl⟩ () PySem.F.sub_dict_str PySem.F.slot_str_eq PySem.F.slot_dict_eq_refl
  (λ_ b=>call_meets PySem.F.slot_str_eq (typeIs_str s x t) PySem.F.entry_str_eq (PySem.F.args_str_eq_2 _ _) (Ma x t #[] ep i sl) ⟨c,b⟩)
  (λ_ b=>call_meets PySem.F.slot_dict_eq_refl ⟨_,c,rfl⟩ PySem.F.entry_dict_eq (PySem.F.args_dict_eq_2 _ _) (LR _ x t) ⟨⟨c,rfl⟩,b⟩)
  (λ_ b=>K2 (rfl:isSame (.str x t) (.ref a)=pure false) b) (.inr g) h
theorem Mf(o:AE)(b:AJ)(u:Tok):Meets (Builtin.«dict.__ne__» ⟨[.ref a,.str b u],[]⟩) (λ_ R s=>(s.heap.get? a=Z o/\o.cls=.type "dict")/\R (.ok (.ret .notImplemented)) s):=
 .of_wp λprog w A R s h=>by
  have c:s.TypeIs (.ref a) "dict":=⟨o,h.1.1,h.1.2⟩;show A7 _ _ (Builtin.Dict.dictSlotArgs "__ne__" ⟨[.ref a,.str b u],[]⟩ >>= _) _ _ s;refine zb ?_;unfold Builtin.Dict.dictSlotArgs;refine zb (wpAny_notOrdered_dict c ?_);show A7 _ _ (pure (Value.ref a,Value.str b u)) _ _ s;refine ze ?_;refine zb (Q3 (T :="str") (typeIs_str s b u) PySem.F.sub_str_dict ?_);simp only[YN,jb];refine zb (kB ?_);exact ze ⟨_,rfl,h.2⟩
theorem Mg(b:AJ)(u:Tok)(es:Array DictEntry)(ep:Nat)(e:Y A1)(sl:Array (Y A0)):Meets (Builtin.«str.__ne__» ⟨[.str b u,.ref a],[]⟩) (λ_ R s=>s.heap.get? a=Z { cls:=.type "dict",dict:=e,data:=.dict es ep,slots:=sl }/\R (.ok (.ret .notImplemented)) s):=
 .of_wp λprog w A R s h=>by obtain⟨hp,g,d,tk,os⟩:=s;obtain⟨c,h⟩:=h;wp_walk using wpAny_loadPart' c,yT c;exact⟨_,rfl,h⟩
theorem Uw(x:AJ)(t:Tok)(d:Gh s.heap a)(g:A.units<cLine):RcNeAt A s (.str x t) (.ref a) true:=λprog w E Q h=>by
 obtain⟨⟨l,i,j,sl⟩,ep,c,⟨e,n,m⟩,f⟩:=d;simp only at e f;subst e f;exact rc_ne_decline_or (k:=false) (typeIs_str s x t) ⟨_,c,rfl⟩ () PySem.F.sub_dict_str PySem.F.slot_str_ne PySem.F.slot_dict_ne_refl
  (λ_ b=>call_meets PySem.F.slot_str_ne (typeIs_str s x t) PySem.F.entry_str_ne (PySem.F.args_str_ne_2 _ _) (Mg x t #[] ep i sl) ⟨c,b⟩)
  (λ_ b=>call_meets PySem.F.slot_dict_ne_refl ⟨_,c,rfl⟩ PySem.F.entry_dict_ne (PySem.F.args_dict_ne_2 _ _) (Mf _ x t) ⟨⟨c,rfl⟩,b⟩)
  (λ_ b=>K2 (rfl:isSame (.str x t) (.ref a)=pure false) b) (.inr g) h
theorem Ux(x:AJ)(t:Tok)(d:Gh s.heap a)(b:A.units<cLine):EqAt A s (.str x t) (.ref a) false:=λprog w E Q h=>by
 unfold eqBool;refine qq ?_;refine wpAny_ite_split (λc=>absurd (eq_of_beq c) nofun) (λ_=>?_);exact zb (Hg x t d b prog w E _ (j0 h))
end
mutual
def uP:Dt->Nat
 |.tup xs=>xO xs+1
 |.lst xs=>xO xs+1
 |_=>1
def xO:O Dt->Nat
 |[]=>0
 |d::ds=>max (uP d) (xO ds)
end
mutual
def uQ:Dt->Dt->Y Bool
 |.non,.non=>Z true
 |.non,.bl _=>Z false|.non,.int _=>Z false|.non,.str _=>Z false|.non,.tup _=>Z false|.non,.lst _=>Z false
 |.bl a,.bl b=>Z (a==b)
 |.bl a,.int b=>Z ((if a then 1 else 0)==b)
 |.bl _,.non=>Z false|.bl _,.str _=>Z false|.bl _,.tup _=>Z false|.bl _,.lst _=>Z false
 |.int a,.int b=>Z (a==b)
 |.int a,.bl b=>Z (a==(if b then 1 else 0))
 |.int _,.non=>Z false|.int _,.str _=>Z false|.int _,.tup _=>Z false|.int _,.lst _=>Z false
 |.str a,.str b=>Z (a==b)
 |.str _,.non=>Z false|.str _,.bl _=>Z false|.str _,.int _=>Z false|.str _,.tup _=>Z false|.str _,.lst _=>Z false|.str _,.emp=>Z false
 |.tup xs,.tup ys=>kJ xs ys
 |.tup _,.non=>Z false|.tup _,.bl _=>Z false|.tup _,.int _=>Z false|.tup _,.str _=>Z false|.tup _,.lst _=>Z false
 |.lst xs,.lst ys=>kJ xs ys
 |.emp,.emp=>Z true
 |.lst _,.non=>Z false|.lst _,.bl _=>Z false|.lst _,.int _=>Z false|.lst _,.str _=>Z false|.lst _,.tup _=>Z false
 |_,_=>U
def kJ:O Dt->O Dt->Y Bool
 |[],[]=>Z true
 |[],_::_=>Z false
 |_::_,[]=>Z false
 |x::xs,y::ys=>match uQ x y with
  |some b=>match kJ xs ys with
   |some c=>Z (b&&c)
   |none=>U
  |none=>U
end
mutual
theorem Mh:∀{d:Dt} {k:Bool},uQ d d=Z k->k=true
 |.non,_,e=>by cases e;rfl
 |.bl b,_,e=>by cases e;simp
 |.int b,_,e=>by cases e;simp
 |.str b,_,e=>by cases e;simp
 |.tup xs,_,e=>yS (ds:=xs) e
 |.lst xs,_,e=>yS (ds:=xs) e
 |.emp,_,e=>by cases e;rfl
theorem yS:∀{ds:O Dt} {k:Bool},kJ ds ds=Z k->k=true
 |[],_,e=>by simp only[kJ]at e;cases e;rfl
 |d::ds,_,e=>by
  simp only[kJ]at e;cases h:uQ d d with
  |none=>rw[h]at e;cases e
  |some b=>
   rw[h]at e;simp only at e;cases h2:kJ ds ds with
   |none=>rw[h2]at e;cases e
   |some c=>
    rw[h2]at e;cases e;rw[Mh h,yS h2];rfl
end
theorem Bv(xs ys:O Dt):uQ (.tup xs) (.tup ys)=kJ xs ys:=rfl
theorem tD:∀{xs ys:O Dt} {k:Bool},kJ xs ys=Z k->∃e:Nat->Bool,(∀(j:Nat) x y,xs[j]?=Z x->ys[j]?=Z y->uQ x y=Z (e j))/\k=((da (min xs.length ys.length)).all e&&xs.length==ys.length)
 |[],[],k,h=>by simp only[kJ]at h;cases h;exact⟨λ_=>true,λj x y e=>by simp at e,by simp⟩
 |[],y::ys,k,h=>by simp only[kJ]at h;cases h;exact⟨λ_=>true,λj x y e=>by simp at e,by simp⟩
 |x::xs,[],k,h=>by simp only[kJ]at h;cases h;exact⟨λ_=>true,λj x y _ e=>by simp at e,by simp⟩
 |x::xs,y::ys,k,h=>by
  simp only[kJ]at h;cases h1:uQ x y with
  |none=>rw[h1]at h;cases h
  |some b=>
   rw[h1]at h;simp only at h;cases h2:kJ xs ys with
   |none=>rw[h2]at h;cases h
   |some c=>
    rw[h2]at h;cases h;obtain⟨e,g,d⟩:=tD h2;refine⟨λj=>match j with|0=>b|j+1=>e j,λj u v a ev=>?_,?_⟩
    ·cases j with
     |zero=>simp at a ev;subst a ev;exact h1
     |succ j=>exact g j u v (by simpa using a) (by simpa using ev)
    ·have:min (x::xs).length (y::ys).length=min xs.length ys.length+1:=by simp only[Qr];omega
     rw[this,je,kC,ik,d];have f:((x::xs).length==(y::ys).length)=(xs.length==ys.length):=by
      rw[KU];simp
     rw[f,Bool.and_assoc];rfl
theorem tH:∀{ds:O Dt} {j:Nat} {d:Dt},ds[j]?=Z d->uP d<=xO ds
 |[],_,_,e=>by simp at e
 |d::ds,0,_,e=>by simp at e;subst e;simp only[xO];exact Nat.le_max_left _ _
 |d::ds,j+1,_,e=>by
  simp only[xO];exact ZH (tH (ds:=ds) (j:=j) (by simpa using e)) (Nat.le_max_right _ _)
theorem Bw(I:L2.AU X AN σ H s)(h:sO X.K H a vs):∃b,s.heap.get? a=Z b/\b.cls=.type "tuple":=by
 obtain⟨AQ,_,⟨b,e,c,_⟩,_⟩:=I.tuple h;exact⟨b,e,c⟩
theorem BJ(I:L2.AU X AN σ H s)(h:sI X.K H a vs):∃b,s.heap.get? a=Z b/\b.cls=.type "list":=by
 obtain⟨AQ,_,⟨b,n,e,c,_⟩,_⟩:=I.list h;exact⟨b,e,c⟩
theorem qL(I:L2.AU X AN σ H s)(h:H a=Z (.jm o (.dK []))):∃b,s.heap.get? a=Z b/\b.cls=.type "dict":=by
 obtain⟨e,_,_,vs,_,b,es,ep,e2,ex,_⟩:=I.hok a _ h;exact⟨b,e2,ex.1⟩
theorem yU{n m:String}(h:∃b,s.heap.get? a=Z b/\b.cls=.type n)(q:∃b,s.heap.get? a=Z b/\b.cls=.type m)(d:n≠m):False:=by
 obtain⟨o,e,c⟩:=h;obtain⟨o',e',c'⟩:=q;rw[e]at e';cases e';rw[c]at c';exact d (by injection c')
mutual
theorem AW.inj(I:L2.AU X AN σ H s):∀{d e:Dt} {v:V},AW X.K H d v->AW X.K H e v->d=e
 |.non,e,v,h,q=>by
  simp only[AW]at h;subst h;cases e<;>simp only[AW]at q<;>first|rfl|(cases q;done)|(obtain⟨a,b,z,_⟩:=q;cases z;done)|(obtain⟨z,_⟩:=q;cases z;done)
 |.bl _,e,v,h,q=>by
  simp only[AW]at h;subst h;cases e<;>simp only[AW]at q<;>first|(cases q;rfl)|(cases q;done)|(obtain⟨a,b,z,_⟩:=q;cases z;done)|(obtain⟨z,_⟩:=q;cases z;done)
 |.int _,e,v,h,q=>by
  simp only[AW]at h;subst h;cases e<;>simp only[AW]at q<;>first|(cases q;rfl)|(cases q;done)|(obtain⟨a,b,z,_⟩:=q;cases z;done)|(obtain⟨z,_⟩:=q;cases z;done)
 |.str x,e,v,h,q=>by
  simp only[AW]at h;have g:v=.str x:=h.1;subst g;cases e with
  |str y=>
   simp only[AW]at q;have z:V.str x=V.str y:=q.1;injection z with z;rw[z]
  |tup es=>simp only[AW]at q;obtain⟨a,b,z,_⟩:=q;cases z
  |lst es=>simp only[AW]at q;obtain⟨a,b,z,_⟩:=q;cases z
  |emp=>simp only[AW]at q;obtain⟨a,b,z,_⟩:=q;cases z
  |_=>simp only[AW]at q;cases q
 |.tup ds,e,v,h,q=>by
  simp only[AW]at h;obtain⟨a,vs,rfl,sq,r⟩:=h;cases e with
  |tup es=>
   simp only[AW]at q;obtain⟨b,us,z,c,f⟩:=q;cases z;have:=I.yP sq c;subst this;rw[aP.inj I r f]
  |lst es=>
   simp only[AW]at q;obtain⟨b,us,z,c,f⟩:=q;cases z;exact(yU (Bw I sq) (BJ I c.sq) ()).elim
  |emp=>
   simp only[AW]at q;obtain⟨b,o,z,c⟩:=q;cases z;exact(yU (Bw I sq) (qL I c) ()).elim
  |str x=>simp only[AW]at q;have z:=q.1;cases z
  |_=>simp only[AW]at q;cases q
 |.lst ds,e,v,h,q=>by
  simp only[AW]at h;obtain⟨a,vs,rfl,sq,r⟩:=h;cases e with
  |lst es=>
   simp only[AW]at q;obtain⟨b,us,z,c,f⟩:=q;cases z;have:=I.K8 sq.sq c.sq;subst this;rw[aP.inj I r f]
  |tup es=>
   simp only[AW]at q;obtain⟨b,us,z,c,f⟩:=q;cases z;exact(yU (BJ I sq.sq) (Bw I c) ()).elim
  |emp=>
   simp only[AW]at q;obtain⟨b,o,z,c⟩:=q;cases z;exact(yU (BJ I sq.sq) (qL I c) ()).elim
  |str x=>simp only[AW]at q;have z:=q.1;cases z
  |_=>simp only[AW]at q;cases q
 |.emp,e,v,h,q=>by
  simp only[AW]at h;obtain⟨a,o,rfl,sq⟩:=h;cases e with
  |emp=>rfl
  |tup es=>
   simp only[AW]at q;obtain⟨b,us,z,c,f⟩:=q;cases z;exact(yU (qL I sq) (Bw I c) ()).elim
  |lst es=>
   simp only[AW]at q;obtain⟨b,us,z,c,f⟩:=q;cases z;exact(yU (qL I sq) (BJ I c.sq) ()).elim
  |str x=>simp only[AW]at q;have z:=q.1;cases z
  |_=>simp only[AW]at q;cases q
theorem aP.inj(I:L2.AU X AN σ H s):∀{ds es:O Dt} {vs:O V},aP X.K H ds vs->aP X.K H es vs->ds=es
 |[],es,vs,h,q=>by
  simp only[aP]at h;subst h;cases es with
  |nil=>rfl
  |cons e es=>simp only[aP]at q;obtain⟨_,_,z,_⟩:=q;cases z
 |d::ds,es,vs,h,q=>by
  simp only[aP]at h;obtain⟨v,r,rfl,h1,h2⟩:=h;cases es with
  |nil=>simp only[aP]at q;cases q
  |cons e es=>
   simp only[aP]at q;obtain⟨b,a,z,q1,q2⟩:=q;cases z;rw[AW.inj I h1 q1,aP.inj I h2 q2]
end
theorem NF(I:L2.AU X AN σ H s):∀(n:Nat) {A:A5} {d e:Dt} {x y:V} {u v:A0} {k:Bool},min (uP d) (uP e)<=n->A.units+n<cLine->AW X.K H d x->AW X.K H e y->B0 x u->B0 y v->uQ d e=Z k->EqAt A s u v k:=by
 intro n
 induction n with
 |zero=>
  intro A d e x y u v k M;have h1:1<=uP d:=by cases d<;>simp only[uP]<;>omega
  have h2:1<=uP e:=by cases e<;>simp only[uP]<;>omega
  omega
 |succ n ih=>
  intro A d e x y u v k M hA m c w g ek;have h:A.units<cLine:=by omega
  by_cases G:u=v/\∃a,u=.ref a
  ·obtain⟨rfl,a,rfl⟩:=G;have hx:x=.ref a:=by have:=w.abs;simpa[IZ]using this.symm
   have hy:y=.ref a:=by have:=g.abs;simpa[IZ]using this.symm
   subst hx hy;have:=AW.inj I m c;subst this;rw[Mh ek];exact EqAt.same _
  ·have items:∀{ds es:O Dt} {vs us:O V} {AQ l:O A0} {f:Nat->Bool},min (xO ds) (xO es)<=n->aP X.K H ds vs->aP X.K H es us->AX vs AQ->AX us l->(∀(j:Nat) x y,ds[j]?=Z x->es[j]?=Z y->uQ x y=Z (f j)) →
     ∀j (h1:j<AQ.toArray.size) (h2:j<l.toArray.size),EqAt A.in1 s AQ.toArray[j] l.toArray[j] (f j):=by
    intro ds es vs us AQ l f hm W r2 w1 w2 D j h1 h2;have l1:=w1.length;have l2:=w2.length;have l3:=W.length;have l4:=r2.length;have j1:j<AQ.length:=by simpa using h1
    have j2:j<l.length:=by simpa using h2
    have P:ds[j]?=Z ds[j]:=by simp
    have d2:es[j]?=Z es[j]:=by simp
    obtain⟨a,ea,B⟩:=W.get P;obtain⟨b,eb,C⟩:=r2.get d2;obtain⟨p,ep,rp⟩:=w1.get ea;obtain⟨q,eq,rq⟩:=w2.get eb;have e1:AQ.toArray[j]=p:=by simpa[j1]using ep
    have e2:l.toArray[j]=q:=by simpa[j2]using eq
    rw[e1,e2];have m1:=tH P;have m2:=tH d2;exact ih () (by rw[units_in1];omega) B C rp rq (D j _ _ P d2)
   cases d with
   |non=>
    cases m;cases w;cases e with
    |non=>cases c;cases g;cases ek;exact EqAt.same _
    |bl b=>cases c;cases g;cases ek;exact EqAt.none_bool b
    |int b=>cases c;obtain⟨t,rfl⟩:=g;cases ek;exact EqAt.none_int b t
    |str b=>obtain⟨rfl,_⟩:=c;obtain⟨t,rfl⟩:=g;cases ek;exact EqAt.none_str b t
    |tup es=>obtain⟨b,us,rfl,sq,_⟩:=c;cases g;cases ek;obtain⟨_,_,p,_⟩:=I.tuple sq;exact EqAt.none_tuple p h
    |lst es=>obtain⟨b,us,rfl,sq,_⟩:=c;cases g;cases ek;obtain⟨_,_,p,_⟩:=I.list sq.sq;exact EqAt.none_list p.isList h
    |emp=>cases ek
   |bl a=>
    cases m;cases w;cases e with
    |non=>cases c;cases g;cases ek;exact EqAt.bool_none a
    |bl b=>cases c;cases g;cases ek;exact EqAt.bool_bool a b
    |int b=>cases c;obtain⟨t,rfl⟩:=g;cases ek;exact EqAt.bool_int a b t
    |str b=>obtain⟨rfl,_⟩:=c;obtain⟨t,rfl⟩:=g;cases ek;exact EqAt.bool_str a b t
    |tup es=>obtain⟨b,us,rfl,sq,_⟩:=c;cases g;cases ek;obtain⟨_,_,p,_⟩:=I.tuple sq;exact EqAt.bool_tuple a p h
    |lst es=>obtain⟨b,us,rfl,sq,_⟩:=c;cases g;cases ek;obtain⟨_,_,p,_⟩:=I.list sq.sq;exact EqAt.bool_list a p.isList h
    |emp=>cases ek
   |int a=>
    cases m;obtain⟨i,rfl⟩:=w;cases e with
    |non=>cases c;cases g;cases ek;exact EqAt.int_none a i
    |bl b=>cases c;cases g;cases ek;exact EqAt.int_bool a i b
    |int b=>cases c;obtain⟨t,rfl⟩:=g;cases ek;exact EqAt.int_int a i b t
    |str b=>obtain⟨rfl,_⟩:=c;obtain⟨t,rfl⟩:=g;cases ek;exact EqAt.int_str a i b t
    |tup es=>obtain⟨b,us,rfl,sq,_⟩:=c;cases g;cases ek;obtain⟨_,_,p,_⟩:=I.tuple sq;exact EqAt.int_tuple a i p h
    |lst es=>obtain⟨b,us,rfl,sq,_⟩:=c;cases g;cases ek;obtain⟨_,_,p,_⟩:=I.list sq.sq;exact EqAt.int_list a i p.isList h
    |emp=>cases ek
   |str a=>
    obtain⟨rfl,_⟩:=m;obtain⟨i,rfl⟩:=w;cases e with
    |non=>cases c;cases g;cases ek;exact EqAt.str_none a i
    |bl b=>cases c;cases g;cases ek;exact EqAt.str_bool a i b
    |int b=>cases c;obtain⟨t,rfl⟩:=g;cases ek;exact EqAt.str_int a i b t
    |str b=>obtain⟨rfl,_⟩:=c;obtain⟨t,rfl⟩:=g;cases ek;exact EqAt.str_str a i b t
    |tup es=>obtain⟨b,us,rfl,sq,_⟩:=c;cases g;cases ek;obtain⟨_,_,p,_⟩:=I.tuple sq;exact EqAt.str_tuple a i p h
    |lst es=>obtain⟨b,us,rfl,sq,_⟩:=c;cases g;cases ek;obtain⟨_,_,p,_⟩:=I.list sq.sq;exact EqAt.str_list a i p.isList h
    |emp=>
     simp only[AW]at c;obtain⟨p,o,rfl,e⟩:=c;cases g;cases ek;obtain⟨_,_,vs,r,q⟩:=vP I.hok (.inr ⟨o,e⟩);exact Ux a i (xM S r q) h
   |tup ds=>
    obtain⟨a,vs,rfl,N,B⟩:=m;cases w;obtain⟨AQ,F,p,_⟩:=I.tuple N;cases e with
    |non=>cases c;cases g;cases ek;exact EqAt.tuple_none p h
    |bl b=>cases c;cases g;cases ek;exact EqAt.tuple_bool b p h
    |int b=>cases c;obtain⟨t,rfl⟩:=g;cases ek;exact EqAt.tuple_int b t p h
    |str b=>obtain⟨rfl,_⟩:=c;obtain⟨t,rfl⟩:=g;cases ek;exact EqAt.tuple_str b t p h
    |lst es=>obtain⟨b,us,rfl,sq,_⟩:=c;cases g;cases ek;obtain⟨_,_,p2,_⟩:=I.list sq.sq;exact EqAt.tuple_list p p2.isList h
    |tup es=>
     obtain⟨b,us,rfl,Q,C⟩:=c;cases g;obtain⟨l,E,p2,_⟩:=I.tuple Q;change kJ _ _=Z _ at ek;obtain⟨f,D,rfl⟩:=tD ek;have J:a≠b:=λz=>G ⟨by rw[z],a,rfl⟩;have z:=EqAt.of_refs J (RcAt.tuples (A:=A) (e:=f) p p2 h (items (by simp only[uP]at M;omega) B C F E D));have q1:AQ.toArray.size=ds.length:=by rw[zv,<-F.length,B.length]
     have q2:l.toArray.size=es.length:=by rw[zv,<-E.length,C.length]
     rw[q1,q2]at z;exact z
    |emp=>cases ek
   |lst ds=>
    obtain⟨a,vs,rfl,N,B⟩:=m;cases w;obtain⟨AQ,F,p,_⟩:=I.list N.sq;cases e with
    |non=>cases c;cases g;cases ek;exact EqAt.list_none p.isList h
    |bl b=>cases c;cases g;cases ek;exact EqAt.list_bool b p.isList h
    |int b=>cases c;obtain⟨t,rfl⟩:=g;cases ek;exact EqAt.list_int b t p.isList h
    |str b=>obtain⟨rfl,_⟩:=c;obtain⟨t,rfl⟩:=g;cases ek;exact EqAt.list_str b t p.isList h
    |tup es=>obtain⟨b,us,rfl,sq,_⟩:=c;cases g;cases ek;obtain⟨_,_,p2,_⟩:=I.tuple sq;exact EqAt.list_tuple p.isList p2 h
    |lst es=>
     obtain⟨b,us,rfl,Q,C⟩:=c;cases g;obtain⟨l,E,p2,_⟩:=I.list Q.sq;change kJ _ _=Z _ at ek;obtain⟨f,D,rfl⟩:=tD ek;have J:a≠b:=λz=>G ⟨by rw[z],a,rfl⟩;have q1:AQ.toArray.size=ds.length:=by rw[zv,<-F.length,B.length]
     have q2:l.toArray.size=es.length:=by rw[zv,<-E.length,C.length]
     by_cases a3:AQ.toArray.size=l.toArray.size
     ·have z:=EqAt.of_refs J (RcAt.lists (A:=A) (e:=f) p.isList p2.isList a3 h (items (by simp only[uP]at M;omega) B C F E D));have L:ds.length=es.length:=by omega
      rw[q1]at z;rw[L,il,beq_self_eq_true,kX,<-L];exact z
     ·have L:(ds.length==es.length)=false:=by rw[beq_eq_false_iff_ne];omega
      rw[L,hB];exact EqAt.of_refs J (RcAt.lists_lengths p.isList p2.isList (by simpa using a3) h)
    |emp=>cases ek
   |emp=>
    cases e<;>first|(cases ek;done)|skip;simp only[AW]at m c;obtain⟨a,o,rfl,e1⟩:=m;obtain⟨b,o',rfl,e2⟩:=c;cases w;cases g;cases ek;obtain⟨_,m1,vs,r,q⟩:=vP I.hok (.inr ⟨o,e1⟩);obtain⟨_,m2,a4,r',q'⟩:=vP I.hok (.inr ⟨o',e2⟩);exact EqAt.of_refs (λz=>G ⟨by rw[z],a,rfl⟩) (N3 m1 m2 (xM S r q) (xM S r' q') h)
theorem Mi(I:L2.AU X AN σ H s){es:O Dt}{us:O V}{c:O A0}{f:Nat->Bool}(F:min (xO ds) (xO es)<=n)(G:A.units+n+1<cLine)(e:aP X.K H ds vs)(h:aP X.K H es us)(i:AX vs AQ)(g:AX us c)(k:∀(j:Nat) x y,ds[j]?=Z x->es[j]?=Z y->uQ x y=Z (f j)):∀j (h1:j<AQ.toArray.size) (h2:j<c.toArray.size),EqAt A.in1 s AQ.toArray[j] c.toArray[j] (f j):=by
 intro j h1 h2;have z:=i.length;have C:=g.length;have E:=e.length;have B:=h.length;have w:j<AQ.length:=by simpa using h1
 have u:j<c.length:=by simpa using h2
 have d:ds[j]?=Z (ds[j]'()):=by simp
 have d2:es[j]?=Z (es[j]'()):=by simp
 obtain⟨a,ea,o⟩:=e.get d;obtain⟨b,eb,v⟩:=h.get d2;obtain⟨p,ep,l⟩:=i.get ea;obtain⟨q,m,t⟩:=g.get eb;have e1:AQ.toArray[j]=p:=by simpa[w]using ep
 have e2:c.toArray[j]=q:=by simpa[u]using m
 rw[e1,e2];have D:=tH d;have m2:=tH d2;exact NF I n () (by rw[units_in1];omega) o v l t (k j _ _ d d2)
def jQ(K:B4)(H:Hp):Dt->V->Prop
 |.lst ds,v=>∃a vs,v=.ref a/\sI K H a vs/\aP K H ds vs
 |d,v=>AW K H d v
def lU:Bx->Bool
 |.n _=>true
 |.m _ _=>true
 |_=>false
def toD:Bx->Dt
 |.z d=>d
 |.l ds=>.lst ds
 |.o ds=>.lst ds
 |.n _=>.non
 |.m _ _=>.non
theorem aX.toD{v:V}(h:aX K H b v)(a:lU b=false):jQ K H (toD b) v:=by
 cases b with
 |z d=>
  cases d with
  |lst ds=>exact h.Gf rfl
  |_=>exact h
 |l ds=>exact h.Gf rfl
 |o ds=>exact h.Gf rfl
 |n _=>cases a
 |m _ _=>cases a
theorem R8(I:L2.AU X AN σ H s){e:Dt}{x y:V}{k:Bool}(Q:min (uP d) (uP e)<=100)(hA:X.A.units+100<cLine)(z:jQ X.K H d x)(h:jQ X.K H e y)(B:B0 x u)(i:B0 y v)(ek:uQ d e=Z k):RcAt X.A s u v k/\RcNeAt X.A s u v (!k):=by
 have g:X.A.units<cLine:=by omega
 cases d with
 |non=>
  cases z;cases B;cases e with
  |non=>
   cases h;cases i;cases ek;exact⟨.none_none,.none_none⟩
  |bl c=>
   cases h;cases i;cases ek;exact⟨.none_bool c,.none_bool c⟩
  |int c=>
   cases h;obtain⟨t2,rfl⟩:=i;cases ek;exact⟨.none_int c t2,.none_int c t2⟩
  |str c=>
   obtain⟨rfl,_⟩:=h;obtain⟨t2,rfl⟩:=i;cases ek;exact⟨.none_str c t2,.none_str c t2⟩
  |tup c=>
   obtain⟨a2,w,rfl,j,l⟩:=h;cases i;obtain⟨t,m,p2,_⟩:=I.tuple j;cases ek;exact⟨.none_tuple p2 g,.none_tuple p2 g⟩
  |lst c=>
   obtain⟨a2,w,rfl,j,l⟩:=h;cases i;obtain⟨t,m,p2,_⟩:=I.list j;cases ek;exact⟨.none_list p2.isList g,.none_list p2.isList g⟩
  |emp=>cases ek
 |bl x1=>
  cases z;cases B;cases e with
  |non=>
   cases h;cases i;cases ek;exact⟨.bool_none x1,.bool_none x1⟩
  |bl c=>
   cases h;cases i;cases ek;exact⟨.bool_bool x1 c,.bool_bool x1 c⟩
  |int c=>
   cases h;obtain⟨t2,rfl⟩:=i;cases ek;exact⟨.bool_int x1 c t2,.bool_int x1 c t2⟩
  |str c=>
   obtain⟨rfl,_⟩:=h;obtain⟨t2,rfl⟩:=i;cases ek;exact⟨.bool_str x1 c t2,.bool_str x1 c t2⟩
  |tup c=>
   obtain⟨a2,w,rfl,j,l⟩:=h;cases i;obtain⟨t,m,p2,_⟩:=I.tuple j;cases ek;exact⟨.bool_tuple x1 p2 g,.bool_tuple x1 p2 g⟩
  |lst c=>
   obtain⟨a2,w,rfl,j,l⟩:=h;cases i;obtain⟨t,m,p2,_⟩:=I.list j;cases ek;exact⟨.bool_list x1 p2.isList g,.bool_list x1 p2.isList g⟩
  |emp=>cases ek
 |int x1=>
  cases z;obtain⟨t1,rfl⟩:=B;cases e with
  |non=>
   cases h;cases i;cases ek;exact⟨.int_none x1 t1,.int_none x1 t1⟩
  |bl c=>
   cases h;cases i;cases ek;exact⟨.int_bool x1 t1 c,.int_bool x1 t1 c⟩
  |int c=>
   cases h;obtain⟨t2,rfl⟩:=i;cases ek;exact⟨.int_int x1 t1 c t2,.int_int x1 t1 c t2⟩
  |str c=>
   obtain⟨rfl,_⟩:=h;obtain⟨t2,rfl⟩:=i;cases ek;exact⟨.int_str x1 t1 c t2,.int_str x1 t1 c t2⟩
  |tup c=>
   obtain⟨a2,w,rfl,j,l⟩:=h;cases i;obtain⟨t,m,p2,_⟩:=I.tuple j;cases ek;exact⟨.int_tuple x1 t1 p2 g,.int_tuple x1 t1 p2 g⟩
  |lst c=>
   obtain⟨a2,w,rfl,j,l⟩:=h;cases i;obtain⟨t,m,p2,_⟩:=I.list j;cases ek;exact⟨.int_list x1 t1 p2.isList g,.int_list x1 t1 p2.isList g⟩
  |emp=>cases ek
 |str x1=>
  obtain⟨rfl,_⟩:=z;obtain⟨t1,rfl⟩:=B;cases e with
  |non=>
   cases h;cases i;cases ek;exact⟨.str_none x1 t1,.str_none x1 t1⟩
  |bl c=>
   cases h;cases i;cases ek;exact⟨.str_bool x1 t1 c,.str_bool x1 t1 c⟩
  |int c=>
   cases h;obtain⟨t2,rfl⟩:=i;cases ek;exact⟨.str_int x1 t1 c t2,.str_int x1 t1 c t2⟩
  |str c=>
   obtain⟨rfl,_⟩:=h;obtain⟨t2,rfl⟩:=i;cases ek;exact⟨.str_str x1 t1 c t2,.str_str x1 t1 c t2⟩
  |tup c=>
   obtain⟨a2,w,rfl,j,l⟩:=h;cases i;obtain⟨t,m,p2,_⟩:=I.tuple j;cases ek;exact⟨.str_tuple x1 t1 p2 g,.str_tuple x1 t1 p2 g⟩
  |lst c=>
   obtain⟨a2,w,rfl,j,l⟩:=h;cases i;obtain⟨t,m,p2,_⟩:=I.list j;cases ek;exact⟨.str_list x1 t1 p2.isList g,.str_list x1 t1 p2.isList g⟩
  |emp=>
   simp only[jQ,AW]at h;obtain⟨p,o,rfl,e⟩:=h;cases i;cases ek;obtain⟨_,_,vs,r,q⟩:=vP I.hok (.inr ⟨o,e⟩);exact⟨Hg x1 t1 (xM S r q) g,Uw x1 t1 (xM S r q) g⟩
 |tup x1=>
  obtain⟨a1,W,rfl,L,C⟩:=z;cases B;obtain⟨E,D,p1,_⟩:=I.tuple L;cases e with
  |non=>
   cases h;cases i;cases ek;exact⟨.tuple_none p1 g,.tuple_none p1 g⟩
  |bl c=>
   cases h;cases i;cases ek;exact⟨.tuple_bool c p1 g,.tuple_bool c p1 g⟩
  |int c=>
   cases h;obtain⟨t2,rfl⟩:=i;cases ek;exact⟨.tuple_int c t2 p1 g,.tuple_int c t2 p1 g⟩
  |str c=>
   obtain⟨rfl,_⟩:=h;obtain⟨t2,rfl⟩:=i;cases ek;exact⟨.tuple_str c t2 p1 g,.tuple_str c t2 p1 g⟩
  |tup c=>
   obtain⟨a2,w,rfl,j,l⟩:=h;cases i;obtain⟨t,m,p2,_⟩:=I.tuple j;change kJ _ _=Z _ at ek;obtain⟨f,J,rfl⟩:=tD ek;have q1:E.toArray.size=x1.length:=by rw[zv,<-D.length,C.length]
   have q2:t.toArray.size=c.length:=by rw[zv,<-m.length,l.length]
   have it:=Mi I (n:=99) (A:=X.A) (by simp only[uP]at Q;omega) () C l D m J;rw[<-q1,<-q2];exact⟨.tuples p1 p2 g it,.tuples p1 p2 g it⟩
  |lst c=>
   obtain⟨a2,w,rfl,j,l⟩:=h;cases i;obtain⟨t,m,p2,_⟩:=I.list j;cases ek;exact⟨.tuple_list p1 p2.isList g,.tuple_list p1 p2.isList g⟩
  |emp=>cases ek
 |lst x1=>
  obtain⟨a1,W,rfl,L,C⟩:=z;cases B;obtain⟨E,D,p1,_⟩:=I.list L;cases e with
  |non=>
   cases h;cases i;cases ek;exact⟨.list_none p1.isList g,.list_none p1.isList g⟩
  |bl c=>
   cases h;cases i;cases ek;exact⟨.list_bool c p1.isList g,.list_bool c p1.isList g⟩
  |int c=>
   cases h;obtain⟨t2,rfl⟩:=i;cases ek;exact⟨.list_int c t2 p1.isList g,.list_int c t2 p1.isList g⟩
  |str c=>
   obtain⟨rfl,_⟩:=h;obtain⟨t2,rfl⟩:=i;cases ek;exact⟨.list_str c t2 p1.isList g,.list_str c t2 p1.isList g⟩
  |tup c=>
   obtain⟨a2,w,rfl,j,l⟩:=h;cases i;obtain⟨t,m,p2,_⟩:=I.tuple j;cases ek;exact⟨.list_tuple p1.isList p2 g,.list_tuple p1.isList p2 g⟩
  |lst c=>
   obtain⟨a2,w,rfl,j,l⟩:=h;cases i;obtain⟨t,m,p2,_⟩:=I.list j;change kJ _ _=Z _ at ek;obtain⟨f,J,rfl⟩:=tD ek;have q1:E.toArray.size=x1.length:=by rw[zv,<-D.length,C.length]
   have q2:t.toArray.size=c.length:=by rw[zv,<-m.length,l.length]
   have it:=Mi I (n:=99) (A:=X.A) (by simp only[uP]at Q;omega) () C l D m J;by_cases G:E.toArray.size=t.toArray.size
   ·have F:x1.length=c.length:=by omega
    rw[F,il,beq_self_eq_true,kX,<-F,<-q1];exact⟨.lists p1.isList p2.isList G g it,.lists p1.isList p2.isList G g it⟩
   ·have F:(x1.length==c.length)=false:=by rw[beq_eq_false_iff_ne];omega
    rw[F,hB];exact⟨.lists_lengths p1.isList p2.isList (by simpa using G) g,.lists_lengths p1.isList p2.isList (by simpa using G) g⟩
  |emp=>cases ek
 |emp=>
  cases e<;>first|(cases ek;done)|skip;simp only[jQ,AW]at z h;obtain⟨a,o,rfl,e1⟩:=z;obtain⟨b,o',rfl,e2⟩:=h;cases B;cases i;cases ek;obtain⟨_,P,vs,r,q⟩:=vP I.hok (.inr ⟨o,e1⟩);obtain⟨_,m2,a3,M,N⟩:=vP I.hok (.inr ⟨o',e2⟩);exact⟨N3 P m2 (xM S r q) (xM S M N) g,i7 P m2 (xM S r q) (xM S M N) g⟩
def BO(a b:Bx):Y Bx:=if lU a=true\/lU b=true then U else if min (uP (toD a)) (uP (toD b))<=100 then(uQ (toD a) (toD b)).bind λk=>Z (.z (.bl k))else U
def Jr(a b:Bx):Y Bx:=if lU a=true\/lU b=true then U else if min (uP (toD a)) (uP (toD b))<=100 then(uQ (toD a) (toD b)).bind λk=>Z (.z (.bl (!k)))else U
theorem of_eq(f:X.A.units+100<cLine):Ax X (AG .Eq) BO:=by
 intro AN s σ H x y v u Q I l j h;obtain⟨a,b,c,i,m,e,q⟩:=h;unfold BO at e;split at e
 ·cases e
 rename_i d;have o:lU a=false:=by cases h:lU a with|false=>rfl|true=>exact absurd (.inl h) d
 have g:lU b=false:=by cases h:lU b with|false=>rfl|true=>exact absurd (.inr h) d
 split at e
 ·rename_i n;obtain⟨k,ek,e⟩:=AT e;cases e;exact(R8 I n f (i.toD o) (m.toD g) l j ek).1 X.prog X.w X.xe _ ⟨.bl k,H,I,rfl,q _ H (AV.refl H) trivial (by unfold aX AW;rfl)⟩
 ·cases e
theorem tK(f:X.A.units+100<cLine):Ax X (AG .NotEq) Jr:=by
 intro AN s σ H x y v u Q I l j h;obtain⟨a,b,c,i,m,e,q⟩:=h;unfold Jr at e;split at e
 ·cases e
 rename_i d;have o:lU a=false:=by cases h:lU a with|false=>rfl|true=>exact absurd (.inl h) d
 have g:lU b=false:=by cases h:lU b with|false=>rfl|true=>exact absurd (.inr h) d
 split at e
 ·rename_i n;obtain⟨k,ek,e⟩:=AT e;cases e;exact(R8 I n f (i.toD o) (m.toD g) l j ek).2 X.prog X.w X.xe _ ⟨.bl (!k),H,I,rfl,q _ H (AV.refl H) trivial (by unfold aX AW;rfl)⟩
 ·cases e
theorem Bc{i:Int}:aX K H (.z (.int i)) (.int i):=by unfold aX AW;rfl
theorem Js{b:Bool}:aX K H (.z (.bl b)) (.bl b):=by unfold aX AW;rfl
theorem FM(h:x.length<=AA):aX K H (.z (.str x)) (.str x):=by unfold aX AW;exact⟨rfl,h⟩
theorem Jt{i:Int}{v:V}(h:aX K H (.z (.int i)) v):v=.int i:=by simpa only[aX,AW]using h
theorem Xo{v:V}(h:aX K H (.z (.str x)) v):v=.str x/\x.length<=AA:=by simpa only[aX,AW]using h
theorem FL{v:V}(h:aX K H (.z (.tup ds)) v):∃a vs,v=.ref a/\sO K H a vs/\aP K H ds vs:=by simpa only[aX,AW]using h
def i2(g:Int->Int->Y Dt):Bx->Bx->Y Bx
 |.z (.int i),.z (.int j)=>(g i j).bind λd=>Z (.z d)
 |_,_=>U
theorem xP{f:A0->A0->Sem A0}{r:R2}{g:Int->Int->Y Dt}(o:sU X f r)(h:∀i j d H Q,g i j=Z d->(∀v,AW X.K H d v->Q v H)->r (.int i) (.int j) H Q):Ax X f (i2 g):=sU.imp o λx y H Q q=>by
 obtain⟨a,b,c,l,n,e,q⟩:=q;unfold i2 at e;split at e
 ·rename_i i j;obtain⟨d,k,e⟩:=AT e;cases e;rw[Jt l,Jt n];exact h i j d H Q k λv m=>q v H (AV.refl H) trivial m
 ·cases e
theorem ET{i:Int}:AW K H (.int i) (.int i):=by unfold AW;rfl
theorem F5{b:Bool}:AW K H (.bl b) (.bl b):=by unfold AW;rfl
abbrev D5:=i2 λi j=>Z (.int (i-j))
abbrev FX:=i2 λi j=>Z (.bl (decide (i<=j)))
abbrev EW:=i2 λi j=>Z (.bl (decide (j<i)))
abbrev Hn:=i2 λi j=>Z (.bl (decide (j<=i)))
abbrev o8:=i2 λi j=>if 0<j/\j<1073741824 then Z (.int (i / j))else U
abbrev fW:=i2 λi j=>if 0<j then Z (.int (i%j))else U
abbrev G':=i2 λi j=>if 0<=j/\j<=1000/\i.natAbs<2 ^ 64 then Z (.int (i ^ j.toNat))else U
theorem Xp:Ax X (binaryOp .Sub) D5:=xP X' λi j d H Q e q=>by cases e;exact⟨i,j,rfl,rfl,q _ ET⟩
theorem DM:Ax X (AG .LtE) FX:=xP PZ λi j d H Q e q=>by cases e;exact⟨i,j,rfl,rfl,q _ F5⟩
theorem Xq:Ax X (AG .Gt) EW:=xP VY λi j d H Q e q=>by cases e;exact⟨i,j,rfl,rfl,q _ F5⟩
theorem af:Ax X (AG .GtE) Hn:=xP TN λi j d H Q e q=>by cases e;exact⟨i,j,rfl,rfl,q _ F5⟩
theorem jR:Ax X (binaryOp .FloorDiv) o8:=xP fA λi j d H Q e q=>by
 split at e
 ·rename_i h;cases e;exact⟨i,j,rfl,rfl,h,q _ ET⟩
 ·cases e
theorem bV:Ax X (binaryOp .Mod) fW:=xP cE λi j d H Q e q=>by
 split at e
 ·rename_i h;cases e;exact⟨i,j,rfl,rfl,h,q _ ET⟩
 ·cases e
theorem P3:Ax X (binaryOp .Pow) G':=xP XI λi j d H Q e q=>by
 split at e
 ·rename_i h;cases e;exact⟨i,j,rfl,rfl,⟨h.1,by omega,h.2.2⟩,q _ ET⟩
 ·cases e
def Xr:Bx->Y Bx
 |.z (.int i)=>Z (.z (.int (-i)))
 |_=>U
theorem Y':N4 X (unaryOp .USub) Xr:=DL.imp ac λx H Q q=>by
 obtain⟨a,c,b,e,q⟩:=q;unfold Xr at e;split at e
 ·rename_i i;cases e;exact⟨i,Jt b,q _ H (AV.refl H) trivial Bc⟩
 ·cases e
def Qj:Nat:=1000000
theorem OO:Qj<=AA:=by decide
theorem ah{b:A1}{us:O V}{Q:VK}(I:L2.AU X AN σ H s)(n:sI X.K H l vs)(i:sI X.K H b us)(j:vs.length+us.length<=AA)(q:∀p,H p=U->Q (.ref p) (B1 H p (.lst (vs++us)))):
  A7 (ii X) X.A (binaryOp .Add (.ref l) (.ref b)) (EP X AN σ Q) X.xe s:=by
 obtain⟨AQ,d,⟨⟨B,D,z,sl⟩,k,e1,c1,g,f⟩,z1⟩:=I.list n;obtain⟨a,h,⟨⟨cls2,v,y,m⟩,t,e2,c2,d2,c⟩,z2⟩:=I.list i;simp only at c1 g f c2 d2 c;subst c1 g f c2 d2 c;have u:=d.length;have x:=h.length;have e:AQ.toArray++a.toArray=(AQ++a).toArray:=by simp
 refine concat_meets ⟨_,e1,rfl⟩ ⟨_,e2,rfl⟩ noFill_list_add seq_list_add PySem.F.slot_list_add PySem.F.entry_list_add (PySem.F.args_list_add_2 _ _) (list_addW l b AQ.toArray a.toArray k t U U sl m (by rw[zv,zv];omega)) ⟨e1,e2,?_⟩;rw[e];exact⟨.ref s.heap.objs.size,_,I.laid (t':=s.toks) (o:=.lst (vs++us)) (λb C q=>zd _ q) (zl _) ⟨by rw[zC];exact j,_,0,d.append h,zr _ rfl⟩,rfl,q _ (I.hok.fresh (zl _))⟩
theorem Xt{b:A1}{us:O V}{Q:VK}(I:L2.AU X AN σ H s)(f:sO X.K H l vs)(d:sO X.K H b us)(j:vs.length+us.length<=AA)(q0:vs=[]->Q (.ref b) H)(q1:us=[]->Q (.ref l) H)(q2:∀p,H p=U->Q (.ref p) (B1 H p (.tup (vs++us)))):
  A7 (ii X) X.A (binaryOp .Add (.ref l) (.ref b)) (EP X AN σ Q) X.xe s:=by
 by_cases a:vs=[]
 ·obtain⟨AQ,i,⟨⟨t,h,q,sl⟩,e1,c1,o,e⟩,z1⟩:=I.tuple f;obtain⟨g,u,⟨⟨cls2,n,v,m⟩,e2,c2,k,c⟩,z2⟩:=I.tuple d;simp only at c1 e c2 c;subst c1 e c2 c;have:AQ=[]:=i.Bq.mpr a;exact concat_meets ⟨_,e1,rfl⟩ ⟨_,e2,rfl⟩ noFill_tuple_add seq_tuple_add PySem.F.slot_tuple_add xl (Y3 _ _)
   (tuple_addW0 l b AQ.toArray g.toArray o k h n sl m (by simp[this])) ⟨e1,e2,⟨.ref b,H,I,rfl,q0 a⟩⟩
 ·exact S0 AN s σ H (.ref l) (.ref b) (.ref l) (.ref b) Q I S S ⟨l,b,vs,us,rfl,rfl,f,d,a,j,q1,λ_=>q2⟩
def dO:Bx->Bx->Y Bx
 |.z (.int i),.z (.int j)=>Z (.z (.int (i+j)))
 |.z (.str i),.z (.str j)=>if i.length+j.length<=Qj then Z (.z (.str (i++j)))else U
 |.z (.tup xs),.z (.tup ys)=>if xs.length+ys.length<=Qj then Z (.z (.tup (xs++ys)))else U
 |a,b=>(qe a).bind λxs=>(qe b).bind λys=>if xs.length+ys.length<=Qj then Z (.o (xs++ys))else U
theorem DB(i j:AJ):(i++j).length=i.length+j.length:=by
 show(i.cps++j.cps).size=_;rw[ku];rfl
theorem bQ:Ax X (binaryOp .Add) dO:=by
 intro AN s σ H x y v u Q I o n h;obtain⟨a,b,c,g,t,e,q⟩:=h;have A:=OO;unfold dO at e;split at e
 ·rename_i i j;cases e;exact U2 AN s σ H x y v u Q I o n ⟨i,j,Jt g,Jt t,q _ H (AV.refl H) trivial Bc⟩
 ·rename_i i j;split at e
  ·rename_i w;cases e;exact PL AN s σ H x y v u Q I o n ⟨i,j,(Xo g).1,(Xo t).1,by omega,q _ H (AV.refl H) trivial (FM (by rw[DB];omega))⟩
  ·cases e
 ·rename_i xs ys;split at e
  ·rename_i w;cases e;obtain⟨l,vs,rfl,sl,f⟩:=FL g;obtain⟨m,us,rfl,k,d⟩:=FL t;cases o;cases n;have h1:=f.length;have h2:=d.length;refine Xt I sl k () (λz=>q _ H (AV.refl H) trivial ?_) (λz=>q _ H (AV.refl H) trivial ?_) λp hp=>q _ _ (bD hp) trivial ?_
   ·unfold aX AW;refine⟨m,us,rfl,k,?_⟩;have:xs=[]:=by subst z;exact gz (by simpa using h1.symm)
    rw[this,KO];exact d
   ·unfold aX AW;refine⟨l,vs,rfl,sl,?_⟩;have:ys=[]:=by subst z;exact gz (by simpa using h2.symm)
    rw[this,JP];exact f
   ·unfold aX AW;exact⟨p,_,rfl,.inl (.inl aQ),(f.append d).kp (.of (bD hp))⟩
  ·cases e
 ·obtain⟨xs,ea,e⟩:=AT e;obtain⟨ys,eb,e⟩:=AT e;split at e
  ·rename_i w;cases e;obtain⟨l,vs,rfl,sl,f⟩:=g.Gf ea;obtain⟨m,us,rfl,k,d⟩:=t.Gf eb;cases o;cases n;have h1:=f.length;have h2:=d.length;refine ah I sl k () λp hp=>q _ _ (bD hp) (λa ea=>by cases ea;exact hp) ⟨p,_,rfl,aQ,(f.append d).kp (.of (bD hp))⟩
  ·cases e
def wB:Bx->Bx->Y Bx
 |.z (.int i),.z (.int j)=>if(-(2 ^ 64)<i/\i<2 ^ 64)\/(-(2 ^ 64)<j/\j<2 ^ 64)then Z (.z (.int (i*j)))else U
 |.z (.str x),.z (.int n)=>if n<=1000 ∧ -1000<=n/\x.length<=1000 then Z (.z (.str (Txt.mul x n)))else U
 |_,_=>U
theorem vQ(x:Array Nat):∀(n:Nat) (a:Array Nat),((aw n x).foldl (·++·) a).size=a.size+n*x.size
 |0,a=>by simp
 |n+1,a=>by
  rw[YI,KP,vQ x n,ku,lx];omega
theorem Ju(x:AJ)(n:Int):(Txt.mul x n).length<=n.toNat*x.length+x.length:=by
 unfold Txt.mul;split
 ·exact QR _
 ·split
  ·exact Nat.le_add_left _ _
  ·show((aw n.toNat x.cps).foldl (·++·) #[]).size<=_;rw[vQ];show(#[]:Array Nat).size+n.toNat*x.cps.size<=n.toNat*x.cps.size+x.cps.size;simp
theorem qM:Ax X (binaryOp .Mult) wB:=by
 intro AN s σ H x y v u Q I m l h;obtain⟨a,b,c,g,o,e,q⟩:=h;unfold wB at e;split at e
 ·rename_i i j;split at e
  ·rename_i f;cases e;exact Pc AN s σ H x y v u Q I m l ⟨i,j,Jt g,Jt o,f,q _ H (AV.refl H) trivial Bc⟩
  ·cases e
 ·rename_i d n;split at e
  ·rename_i f;cases e;obtain⟨rfl,hx⟩:=Xo g;have z:=Jt o;subst z;obtain⟨t,rfl⟩:=m;obtain⟨w,rfl⟩:=l;have A:AA=16777216:=sizeLine_eq;have B:n.toNat*d.length<=1000*1000:=Nat.mul_le_mul () f.2.2;refine SB.mul ⟨?_,λh1 h2=>?_,λh1 h2=>?_⟩ λw k=>⟨.str _,H,I.tok _,⟨_,rfl⟩,q _ H (AV.refl H) trivial (FM (ZH (Ju d n) ()))⟩
   ·have e1:decide (n < -(2 ^ 63:Int))=false:=ZU ();have e2:decide (n>=2 ^ 63)=false:=ZU ();rw[e1,e2];rfl
   ·have p:0<n:=by omega
    have:(1000:Int)<=(2 ^ 63-1) / n:=(Int.le_ediv_iff_mul_le p).mpr ();omega
   ·show decide (d.length*n.toNat>AA)=false;rw[Nat.mul_comm];exact ZU ()
  ·cases e
 ·cases e
def zW(i j:AJ):Bool:=!(Builtin.Str.occurrences j i 0 j.length 1).isEmpty
def xQ:Dt->Bool
 |.non=>true
 |.bl _=>true
 |.int _=>true
 |.str _=>true
 |_=>false
def CY(x:Dt)(ys:O Dt):Y Bool:=if xQ x=true/\ys.all xQ=true then Z (ys.any λy=>match uQ y x with|some true=>true|_=>false)else U
def mR:Bx->Y (O Dt)
 |.z (.lst ds)=>Z ds
 |.z (.tup ds)=>Z ds
 |.l ds=>Z ds
 |.o ds=>Z ds
 |_=>U
def EN:Bx->Bx->Y Bool
 |.z (.str i),.z (.str j)=>Z (zW i j)
 |.z d,b=>(mR b).bind λys=>CY d ys
 |_,_=>U
def Fn(a b:Bx):Y Bx:=(EN a b).bind λk=>Z (.z (.bl k))
def GI(a b:Bx):Y Bx:=(EN a b).bind λk=>Z (.z (.bl (!k)))
theorem Ml{v:V}(r:AW K H d v)(f:xQ d=true):rN v=true:=by
 cases d<;>first|(cases f;done)|skip
 all_goals simp only[AW]at r
 ·subst r;rfl
 ·subst r;rfl
 ·subst r;rfl
 ·obtain⟨rfl,_⟩:=r;rfl
theorem Hh{K:B4}{H:Hp}:∀{ds:O Dt} {vs:O V},aP K H ds vs->ds.all xQ=true->vs.all rN=true
 |[],_,h,_=>by simp only[aP]at h;subst h;rfl
 |d::ds,_,h,f=>by
  simp only[aP]at h;obtain⟨v,r,rfl,h1,h2⟩:=h;rw[kC,ZZ]at f;rw[kC,Ml h1 f.1,Hh h2 f.2];rfl
theorem Jv(b:Bool):(match Z b with|some true=>true|_=>false)=b:=by cases b<;>rfl
theorem VT{e:Dt}{x y:V}(a:AW K H d x)(b:AW K H e y)(fd:xQ d=true)(fe:xQ e=true):D2 x y=(match uQ d e with|some true=>true|_=>false):=by
 cases d<;>first|(cases fd;done)|skip
 all_goals (cases e<;>first|(cases fe;done)|skip)
 all_goals simp only[AW]at a b
 all_goals first
  |(subst a;subst b;exact(Jv _).symm)
  |(obtain⟨rfl,_⟩:=a;subst b;exact(Jv _).symm)
  |(subst a;obtain⟨rfl,_⟩:=b;exact(Jv _).symm)
  |(obtain⟨rfl,_⟩:=a;obtain⟨rfl,_⟩:=b;exact(Jv _).symm)
theorem R9{K:B4}{H:Hp}{d:Dt}{x:V}(a:AW K H d x)(fd:xQ d=true):∀{ds:O Dt} {vs:O V},aP K H ds vs->ds.all xQ=true->Fm x vs=ds.any λy=>match uQ y d with|some true=>true|_=>false
 |[],_,h,_=>by simp only[aP]at h;subst h;rfl
 |e::ds,_,h,f=>by
  simp only[aP]at h;obtain⟨v,r,rfl,h1,h2⟩:=h;rw[kC,ZZ]at f;have:=R9 a fd h2 f.2;unfold Fm at this ⊢;rw[KG,KG,VT h1 a f.1 fd,this]
theorem tL{v:V}(h:aX K H b v)(e:mR b=Z ds):∃a vs,v=.ref a/\(sI K H a vs\/sO K H a vs)/\aP K H ds vs:=by
 cases b with
 |z d=>
  cases d<;>first|(cases e;done)|skip
  ·cases e;obtain⟨a,vs,e,q,r⟩:=FL h;exact⟨a,vs,e,.inr q,r⟩
  ·cases e;obtain⟨a,vs,e,q,r⟩:=h.Gf rfl;exact⟨a,vs,e,.inl q,r⟩
 |l c=>
  cases e;obtain⟨a,vs,e,q,r⟩:=h.Gf rfl;exact⟨a,vs,e,.inl q,r⟩
 |o c=>
  cases e;obtain⟨a,vs,e,q,r⟩:=h.Gf rfl;exact⟨a,vs,e,.inl q,r⟩
 |n _=>cases e
 |m _ _=>cases e
theorem Hi{a:Bx}{x y:V}{k:Bool}(g:aX X.K H a x)(l:aX X.K H b y)(e:EN a b=Z k):
  (∃i j,x=.str i/\y=.str j/\k=zW i j)\/(∃p xs,y=.ref p/\(sI X.K H p xs\/sO X.K H p xs)/\rN x=true/\xs.all rN=true/\k=Fm x xs):=by
 unfold EN at e;split at e
 ·rename_i i j;cases e;exact .inl ⟨i,j,(Xo g).1,(Xo l).1,rfl⟩
 ·rename_i d _;obtain⟨ys,m,e⟩:=AT e;unfold CY at e;split at e
  ·rename_i c;cases e;obtain⟨p,vs,rfl,sq,f⟩:=tL l m;have h:AW X.K H d x:=g;exact .inr ⟨p,vs,rfl,sq,Ml h c.1,Hh f c.2,(R9 h c.1 f c.2).symm⟩
  ·cases e
 ·cases e
theorem UV:Ax X (AG .In) Fn:=by
 intro AN s σ H x y v u Q I f d h;obtain⟨a,b,c,l,g,e,q⟩:=h;obtain⟨k,ek,e⟩:=AT e;cases e;rcases Hi l g ek with⟨i,j,rfl,rfl,rfl⟩|⟨p,xs,rfl,sq,f1,f2,rfl⟩
 ·exact Uk AN s σ H _ _ v u Q I f d ⟨i,j,rfl,rfl,q _ H (AV.refl H) trivial Js⟩
 ·exact Um AN s σ H _ _ v u Q I f d ⟨p,xs,rfl,sq,f1,f2,q _ H (AV.refl H) trivial Js⟩
theorem Xu:Ax X (AG .NotIn) GI:=by
 intro AN s σ H x y v u Q I f d h;obtain⟨a,b,c,l,g,e,q⟩:=h;obtain⟨k,ek,e⟩:=AT e;cases e;rcases Hi l g ek with⟨i,j,rfl,rfl,rfl⟩|⟨p,xs,rfl,sq,f1,f2,rfl⟩
 ·exact Jd AN s σ H _ _ v u Q I f d ⟨i,j,rfl,rfl,q _ H (AV.refl H) trivial Js⟩
 ·exact Jc AN s σ H _ _ v u Q I f d ⟨p,xs,rfl,sq,f1,f2,q _ H (AV.refl H) trivial Js⟩
def Qk:Bx->Bool
 |.z .non=>true
 |_=>false
theorem Uy{v:V}(h:aX K H b v):decide (v=.non)=Qk b:=by
 cases b with
 |z d=>
  cases d<;>simp only[aX,AW]at h
  ·subst h;rfl
  ·subst h;rfl
  ·subst h;rfl
  ·obtain⟨rfl,_⟩:=h;rfl
  ·obtain⟨_,_,rfl,_⟩:=h;rfl
  ·obtain⟨_,_,rfl,_⟩:=h;rfl
  ·obtain⟨_,_,rfl,_⟩:=h;rfl
 |l ds=>obtain⟨_,_,rfl,_⟩:=h;rfl
 |o ds=>obtain⟨_,_,rfl,_⟩:=h;rfl
 |n ds=>obtain⟨_,_,rfl,_⟩:=h;rfl
 |m ds _=>obtain⟨_,_,rfl,_⟩:=h;rfl
def CG(a:Bx):Bx->Y Bx
 |.z .non=>Z (.z (.bl (!Qk a)))
 |_=>U
theorem Jw:Ax X (AG .IsNot) CG:=sU.imp UM λx y H Q q=>by
 obtain⟨a,b,c,f,d,e,q⟩:=q;unfold CG at e;split at e
 ·cases e;simp only[aX,AW]at d;exact⟨d,by rw[Uy f];exact q _ H (AV.refl H) trivial Js⟩
 ·cases e
def g8:Bx->Bx->Y Bx
 |.z (.str x),.z (.int i)=>(Av x.cps.toList i).bind λc=>Z (.z (.str ⟨#[c]⟩))
 |b,.z (.int i)=>(mR b).bind λds=>(Av ds i).bind λd=>Z (.z d)
 |_,_=>U
theorem WP{i:Int}(r:aP K H ds vs)(e:Av ds i=Z d):∃v,Av vs i=Z v/\AW K H d v:=by
 unfold Av at e ⊢;rw[r.length];obtain⟨j,a,e⟩:=AT e;rw[a];exact r.get e
theorem bK{a b:Expr}(l:QV X a fa)(k:QV X b fb)(hs:RZ b:=by intro _ _;with_unfolding_all rfl):QV X (.Subscript a b pos) (b2 g8 fa fb):=⟨have l:=l.run;have k:=k.run;FT (WQ dm l k hs) λσ H Q h=>by
 obtain⟨H0,ρ,c,E,e,q⟩:=h;obtain⟨a,ea,e⟩:=AT e;obtain⟨b,eb,e⟩:=AT e;refine⟨H0,ρ,a,E,ea,λv H1 f B A=>⟨H0,ρ,b,E.grow f,eb,λu H2 g C n=>?_⟩⟩;have j:=A.same g;unfold g8 at e;split at e
 ·rename_i x i;obtain⟨c',z,e⟩:=AT e;cases e;exact .inr (.inr ⟨_,_,c',(Xo j).1,Jt n,(Xo j).2,z,q _ _ (f.trans g) trivial (FM (by show(1:Nat)<=AA;decide))⟩)
 ·obtain⟨ds,t,e⟩:=AT e;obtain⟨d,s,e⟩:=AT e;cases e;obtain⟨p,vs,rfl,sq,y⟩:=tL j t;obtain⟨w,o,m⟩:=WP y s;have hi:=Jt n;rcases sq with sq|sq
  ·exact .inl ⟨p,vs,_,w,rfl,hi,sq,o,q _ _ (f.trans g) trivial m⟩
  ·exact .inr (.inl ⟨p,vs,_,w,rfl,hi,sq,o,q _ _ (f.trans g) trivial m⟩)
 ·cases e⟩
theorem Xv:AH "int"=Z (.type "int"):=by decide +kernel
theorem bz:AH "str"=Z (.type "str"):=by decide +kernel
theorem lV:AH "tuple"=Z (.type "tuple"):=by decide +kernel
theorem uR:AH "list"=Z (.type "list"):=by decide +kernel
theorem pW:AH "isinstance"=Z (.builtin "isinstance"):=by decide +kernel
theorem fY:AH "len"=Z (.builtin "len"):=by decide +kernel
theorem gp:AH "abs"=Z (.builtin "abs"):=by decide +kernel
theorem yV:AH "all"=Z (.builtin "all"):=by decide +kernel
theorem OG:AH "min"=Z (.builtin "min"):=by decide +kernel
theorem Ql:AH "max"=Z (.builtin "max"):=by decide +kernel
theorem fP:AH "sorted"=Z (.builtin "sorted"):=by decide +kernel
theorem cm:AH "sum"=Z (.builtin "sum"):=by decide +kernel
def eN:Dt->Bool
 |.str _=>true
 |_=>false
theorem OS(I:L2.AU X AN σ H s){x:V}{Q:VK}(f:jQ X.K H d x)(g:B0 x v)(q:Q (.bl (eN d)) H):A7 (ii X) X.A (call (.builtin "isinstance") [v,.type "str"]) (EP X AN σ Q) X.xe s:=by
 cases d with
 |non=>simp only[jQ,AW]at f;subst f;cases g;exact IsiPair.NoneType_str ⟨.bl _,H,I.tok _,rfl,q⟩
 |bl b=>simp only[jQ,AW]at f;subst f;cases g;exact IsiPair.bool_str ⟨.bl _,H,I.tok _,rfl,q⟩
 |int b=>simp only[jQ,AW]at f;subst f;obtain⟨t,rfl⟩:=g;exact IsiPair.int_str ⟨.bl _,H,I.tok _,rfl,q⟩
 |str b=>simp only[jQ,AW]at f;obtain⟨rfl,_⟩:=f;obtain⟨t,rfl⟩:=g;exact IsiPair.str_str ⟨.bl _,H,I,rfl,q⟩
 |tup ds=>simp only[jQ,AW]at f;obtain⟨a,vs,rfl,sq,_⟩:=f;cases g;obtain⟨_,_,p,_⟩:=I.tuple sq;exact IsiPair.isTuple_str p (λ_ _ e=>e) ⟨.bl _,H,I.tok _,rfl,q⟩
 |lst ds=>simp only[jQ]at f;obtain⟨a,vs,rfl,sq,_⟩:=f;cases g;obtain⟨_,_,p,_⟩:=I.list sq;exact IsiPair.isList_str p.isList (λ_ _ e=>e) ⟨.bl _,H,I.tok _,rfl,q⟩
 |emp=>simp only[jQ,AW]at f;obtain⟨a,o,rfl,sq⟩:=f;cases g;obtain⟨h,e,c⟩:=qL I sq;exact IsiPair.dict_str e c ⟨.bl _,H,I.tok _,rfl,q⟩
theorem wC{p:Pos}(he:QV X e f)(m:Gl X "isinstance")(o:X.mg "isinstance"=U)(n:Gl X "str")(i:X.mg "str"=U)(hs:A9 [e,.Name "str" p2] X.env=[(false,eval e X.env),(false,eval (.Name "str" p2) X.env)]:=by rfl):QV X (.Call (.Name "isinstance" p) [e,.Name "str" p2] [] pos) (b1 (λb=>if lU b=true then U else Z (.z (.bl (eN (toD b))))) f):=⟨by
 have he:=he.run;have j:fU X (.builtin "isinstance") (λxs H Q=>∃b x,xs=[x,.ty "str"]/\aX X.K H b x/\lU b=false/\Q (.bl (eN (toD b))) H):=by
  intro AN s σ H xs us Q I r h;obtain⟨b,x,rfl,t,g,q⟩:=h;obtain⟨u,y,rfl,a,k⟩:=CM r;cases k;exact OS I (t.toD g) a q
 have w:PA X [e,.Name "str" p2] (nQ (tF X.K f) (nQ (tC (.ty "str")) Ar)):=aY he (aY (Bm n i (v:=.ty "str") (u:=.type "str") bz S) cX) (by rw[hs]<;>rfl);refine FT (fV j m o pW w () () (by rw[hs]<;>rfl) S) λσ H Q h=>?_;obtain⟨H0,ρ,c,E,e,q⟩:=h;obtain⟨b,eb,e⟩:=AT e;split at e
 ·cases e
 rename_i l;cases e;exact⟨H0,ρ,b,E,eb,λv H1 d A a=>⟨b,v,rfl,a,by simpa using l,q _ _ d trivial Js⟩⟩⟩
def Ap:Dt->Bool
 |.tup _=>true
 |_=>false
theorem Uz(I:L2.AU X AN σ H s){x:V}{Q:VK}(f:jQ X.K H d x)(g:B0 x v)(q:Q (.bl (Ap d)) H):A7 (ii X) X.A (call (.builtin "isinstance") [v,.type "tuple"]) (EP X AN σ Q) X.xe s:=by
 cases d with
 |non=>simp only[jQ,AW]at f;subst f;cases g;exact IsiPair.NoneType_tuple ⟨.bl _,H,I.tok _,rfl,q⟩
 |bl b=>simp only[jQ,AW]at f;subst f;cases g;exact IsiPair.bool_tuple ⟨.bl _,H,I.tok _,rfl,q⟩
 |int b=>simp only[jQ,AW]at f;subst f;obtain⟨t,rfl⟩:=g;exact IsiPair.int_tuple ⟨.bl _,H,I.tok _,rfl,q⟩
 |str b=>simp only[jQ,AW]at f;obtain⟨rfl,_⟩:=f;obtain⟨t,rfl⟩:=g;exact IsiPair.str_tuple ⟨.bl _,H,I.tok _,rfl,q⟩
 |tup ds=>simp only[jQ,AW]at f;obtain⟨a,vs,rfl,sq,_⟩:=f;cases g;obtain⟨_,_,p,_⟩:=I.tuple sq;exact IsiPair.isTuple_tuple p (λ_ _ e=>e) ⟨.bl _,H,I,rfl,q⟩
 |lst ds=>simp only[jQ]at f;obtain⟨a,vs,rfl,sq,_⟩:=f;cases g;obtain⟨_,_,p,_⟩:=I.list sq;exact IsiPair.isList_tuple p.isList (λ_ _ e=>e) ⟨.bl _,H,I.tok _,rfl,q⟩
 |emp=>simp only[jQ,AW]at f;obtain⟨a,o,rfl,sq⟩:=f;cases g;obtain⟨h,e,c⟩:=qL I sq;exact IsiPair.dict_tuple e c ⟨.bl _,H,I.tok _,rfl,q⟩
theorem mU{p:Pos}(he:QV X e f)(m:Gl X "isinstance")(o:X.mg "isinstance"=U)(n:Gl X "tuple")(i:X.mg "tuple"=U)(hs:A9 [e,.Name "tuple" p2] X.env=[(false,eval e X.env),(false,eval (.Name "tuple" p2) X.env)]:=by rfl):QV X (.Call (.Name "isinstance" p) [e,.Name "tuple" p2] [] pos) (b1 (λb=>if lU b=true then U else Z (.z (.bl (Ap (toD b))))) f):=⟨by
 have he:=he.run;have j:fU X (.builtin "isinstance") (λxs H Q=>∃b x,xs=[x,.ty "tuple"]/\aX X.K H b x/\lU b=false/\Q (.bl (Ap (toD b))) H):=by
  intro AN s σ H xs us Q I r h;obtain⟨b,x,rfl,t,g,q⟩:=h;obtain⟨u,y,rfl,a,k⟩:=CM r;cases k;exact Uz I (t.toD g) a q
 have w:PA X [e,.Name "tuple" p2] (nQ (tF X.K f) (nQ (tC (.ty "tuple")) Ar)):=aY he (aY (Bm n i (v:=.ty "tuple") (u:=.type "tuple") lV S) cX) (by rw[hs]<;>rfl);refine FT (fV j m o pW w () () (by rw[hs]<;>rfl) S) λσ H Q h=>?_;obtain⟨H0,ρ,c,E,e,q⟩:=h;obtain⟨b,eb,e⟩:=AT e;split at e
 ·cases e
 rename_i l;cases e;exact⟨H0,ρ,b,E,eb,λv H1 d A a=>⟨b,v,rfl,a,by simpa using l,q _ _ d trivial Js⟩⟩⟩
def BU:Dt->Bool
 |.lst _=>true
 |_=>false
theorem Xw(I:L2.AU X AN σ H s){x:V}{Q:VK}(f:jQ X.K H d x)(g:B0 x v)(q:Q (.bl (BU d)) H):A7 (ii X) X.A (call (.builtin "isinstance") [v,.type "list"]) (EP X AN σ Q) X.xe s:=by
 cases d with
 |non=>simp only[jQ,AW]at f;subst f;cases g;exact IsiPair.NoneType_list ⟨.bl _,H,I.tok _,rfl,q⟩
 |bl b=>simp only[jQ,AW]at f;subst f;cases g;exact IsiPair.bool_list ⟨.bl _,H,I.tok _,rfl,q⟩
 |int b=>simp only[jQ,AW]at f;subst f;obtain⟨t,rfl⟩:=g;exact IsiPair.int_list ⟨.bl _,H,I.tok _,rfl,q⟩
 |str b=>simp only[jQ,AW]at f;obtain⟨rfl,_⟩:=f;obtain⟨t,rfl⟩:=g;exact IsiPair.str_list ⟨.bl _,H,I.tok _,rfl,q⟩
 |tup ds=>simp only[jQ,AW]at f;obtain⟨a,vs,rfl,sq,_⟩:=f;cases g;obtain⟨_,_,p,_⟩:=I.tuple sq;exact IsiPair.isTuple_list p (λ_ _ e=>e) ⟨.bl _,H,I.tok _,rfl,q⟩
 |lst ds=>simp only[jQ]at f;obtain⟨a,vs,rfl,sq,_⟩:=f;cases g;obtain⟨_,_,p,_⟩:=I.list sq;exact IsiPair.isList_list p.isList (λ_ _ e=>e) ⟨.bl _,H,I,rfl,q⟩
 |emp=>simp only[jQ,AW]at f;obtain⟨a,o,rfl,sq⟩:=f;cases g;obtain⟨h,e,c⟩:=qL I sq;exact IsiPair.dict_list e c ⟨.bl _,H,I.tok _,rfl,q⟩
theorem Mp{p:Pos}(he:QV X e f)(m:Gl X "isinstance")(o:X.mg "isinstance"=U)(n:Gl X "list")(i:X.mg "list"=U)(hs:A9 [e,.Name "list" p2] X.env=[(false,eval e X.env),(false,eval (.Name "list" p2) X.env)]:=by rfl):QV X (.Call (.Name "isinstance" p) [e,.Name "list" p2] [] pos) (b1 (λb=>if lU b=true then U else Z (.z (.bl (BU (toD b))))) f):=⟨by
 have he:=he.run;have j:fU X (.builtin "isinstance") (λxs H Q=>∃b x,xs=[x,.ty "list"]/\aX X.K H b x/\lU b=false/\Q (.bl (BU (toD b))) H):=by
  intro AN s σ H xs us Q I r h;obtain⟨b,x,rfl,t,g,q⟩:=h;obtain⟨u,y,rfl,a,k⟩:=CM r;cases k;exact Xw I (t.toD g) a q
 have w:PA X [e,.Name "list" p2] (nQ (tF X.K f) (nQ (tC (.ty "list")) Ar)):=aY he (aY (Bm n i (v:=.ty "list") (u:=.type "list") uR S) cX) (by rw[hs]<;>rfl);refine FT (fV j m o pW w () () (by rw[hs]<;>rfl) S) λσ H Q h=>?_;obtain⟨H0,ρ,c,E,e,q⟩:=h;obtain⟨b,eb,e⟩:=AT e;split at e
 ·cases e
 rename_i l;cases e;exact⟨H0,ρ,b,E,eb,λv H1 d A a=>⟨b,v,rfl,a,by simpa using l,q _ _ d trivial Js⟩⟩⟩
def a9(K:B4)(f:Ev->Y (Y Int)):TO:=λσ H Q=>∃H0 ρ o,bF K H0 H σ ρ/\f ρ=Z o/\∀H',AV H H'->Q o H'
def XZ(X:Cx)(e:Y Expr)(f:Ev->Y (Y Int)):Prop:=PO X e (a9 X.K f)
structure FU (X:Cx) (e:Option Expr) (f:Ev->Option (Option Int)):Prop where
 run:XZ X e f
theorem MG{e:Y Expr}{t t':TO}(h:PO X e t)(m:∀ σ H Q,t' σ H Q->t σ H Q):PO X e t':=λAN s σ H Q I q=>h AN s σ H Q I (m σ H Q q)
def iG:Ev->Y (Y Int):=λ_=>Z U
theorem eZ  :FU X U iG:=⟨MG OV λσ H Q h=>by
 obtain⟨H0,ρ,o,E,e,q⟩:=h;cases e;exact q H (AV.refl H)⟩
def L3:Bx->Y (Y Int)
 |.z (.int i)=>Z (Z i)
 |_=>U
def jN(f:Ev->Y Bx):Ev->Y (Y Int):=λρ=>(f ρ).bind L3
theorem dR(h:QV X e f):FU X (Z e) (jN f):=⟨have h:=h.run;MG (aa h) λσ H Q q=>by
 obtain⟨H0,ρ,o,E,e,q⟩:=q;obtain⟨b,eb,e⟩:=AT e;refine⟨H0,ρ,b,E,eb,λv H1 a d c=>?_⟩;unfold L3 at e;split at e
 ·rename_i i;cases e;exact⟨i,Jt c,q H1 a⟩
 ·cases e⟩
def C8(xs:O Dt)(lo hi:Y Int):O Dt:=(xs.drop (HT.iD xs.length 0 lo)).take (HT.iD xs.length xs.length hi-HT.iD xs.length 0 lo)
theorem Mq(r:aP K H ds vs)(lo hi:Y Int):aP K H (C8 ds lo hi) (Lg vs lo hi):=by
 unfold C8 Lg;rw[r.length];exact(r.drop _).take _
theorem Xx(ds:O Dt)(h1:HT.iD ds.length 0 lo=0)(h2:HT.iD ds.length ds.length hi=ds.length):C8 ds lo hi=ds:=by
 unfold C8;rw[h1,h2];simp
theorem xR{t sl:A1}{c b:A0}{Q:BA}(a:IsTup s.heap t items)(hs:s.heap.IsSliceOf sl c b .none)(pl:IsPart c lo)(i:IsPart b hi)(h1:HT.iD items.size 0 lo=0)(h2:HT.iD items.size items.size hi=items.size)(h:Q (.ref t) s):A7 (A8 prog w) A (getItem (.ref t) (.ref sl)) Q E s:=by
 obtain⟨os,f,g,j⟩:=id hs;have e:s.TypeIs (.ref sl) "slice":=⟨os,f,g⟩;unfold getItem
 try with_reducible refine qq ?_
 first|refine zb (ze ?_)|skip
 refine zb (wpAny_sequenceKey a.typeIs () ?_);refine zb (QQ (name:=Str.ofString "__getitem__") a.typeIs PyProof.Rows.slot_tuple_getitem
  (Qb PyProof.Rows.slot_tuple_getitem a.typeIs entry_tuple_getitem ?_ (args_tuple_getitem _ _)))
 show A7 _ _ (Builtin.Tuple.tupleItemsOf (.ref t) >>= _) _ _ s;refine zb (tupleItemsOf_ a ?_);refine zb (jS e ?_);rw[zt ()];refine zb (HT.qb hs pl i ?_);have d:(((HT.iD items.size 0 lo:Nat):Int)==0&&(1:Int)==1&&(HT.iD items.size items.size hi-HT.iD items.size 0 lo)==items.size)=true:=by
  rw[h1,h2];simp
 show A7 _ _ (if(((HT.iD items.size 0 lo:Nat):Int)==0&&(1:Int)==1&&(HT.iD items.size items.size hi-HT.iD items.size 0 lo)==items.size)=true then _ else _) _ _ s;rw[zt d]
 first
  |refine zb (zb (jS a.typeIs (ze ?_)))
  |refine zb (jS a.typeIs (zb (ze ?_)))
  |refine zb (jS a.typeIs ?_)
 rw[zt ()]
 first
  |exact zb (kB (ze ⟨_,rfl,ze h⟩))
  |exact zb (kB (zb (ze (ze ⟨_,rfl,ze h⟩))))
def EM(b:Bx)(lo hi:Y Int):Y Bx:=match b with
 |.z (.str x)=>Z (.z (.str (Txt.slice x lo hi)))
 |.z (.tup ds)=>Z (.z (.tup (C8 ds lo hi)))
 |b=>(qe b).bind λds=>Z (.o (C8 ds lo hi))
def bS(K:B4):V->Y Int->Y Int->Hp->VK->Prop:=λx lo hi H Q=>∃b c,aX K H b x/\EM b lo hi=Z c/\∀w H',AV H H'->Nw H c w->aX K H' c w->Q w H'
theorem b8:G0 X (bS X.K):=by
 intro AN s σ H x v J C lo hi sl Q I z w pl m h;obtain⟨b,c,A,e,q⟩:=h;unfold EM at e;split at e
 ·rename_i y;cases e;obtain⟨rfl,g⟩:=Xo A;obtain⟨t,rfl⟩:=z;refine⟨"str", _,F.slot_str_getitem.lookup,typeIs_str _ _ _,?_⟩;obtain⟨o,e1,e2,e3⟩:=w;have n:∀D k,EP X AN σ Q (.str (Txt.slice y lo hi) D) { s with toks:=k }:=λD k=>⟨.str _,H,I.tok _,⟨_,rfl⟩,q _ H (AV.refl H) trivial (FM (ZH (Txt.slice_le y _ _) g))⟩;cases pl with
  |none=>
   cases m with
   |none=>exact ya (l:=U) (u:=U) (st:=U) ⟨o,e1,e2,e3⟩ S (post_val_or_str ⟨ZH (Txt.slice_le y _ _) g,n⟩)
   |int j B=>exact ya (l:=U) (u:=Z (j,B)) (st:=U) ⟨o,e1,e2,e3⟩ S (post_val_or_str ⟨ZH (Txt.slice_le y _ _) g,n⟩)
  |int i G=>
   cases m with
   |none=>exact ya (l:=Z (i,G)) (u:=U) (st:=U) ⟨o,e1,e2,e3⟩ S (post_val_or_str ⟨ZH (Txt.slice_le y _ _) g,n⟩)
   |int j B=>exact ya (l:=Z (i,G)) (u:=Z (j,B)) (st:=U) ⟨o,e1,e2,e3⟩ S (post_val_or_str ⟨ZH (Txt.slice_le y _ _) g,n⟩)
 ·rename_i ds;cases e;obtain⟨a,vs,rfl,sq,d⟩:=FL A;by_cases f:HT.iD vs.length 0 lo=0/\HT.iD vs.length vs.length hi=vs.length
  ·cases z;obtain⟨AQ,r,L,N⟩:=I.tuple sq;have E:AQ.toArray.size=vs.length:=by rw[zv];exact r.length.symm
   refine⟨"tuple", _,PyProof.Rows.slot_tuple_getitem.lookup,L.typeIs,xR L w pl m (by rw[E];exact f.1) (by rw[E];exact f.2) ⟨.ref a,H,I,rfl,q _ H (AV.refl H) trivial ?_⟩⟩;rw[Xx ds (by rw[<-d.length];exact f.1) (by rw[<-d.length];exact f.2)];exact A
  ·refine Pw AN s σ H _ v J C lo hi sl Q I z w pl m ⟨a,vs,rfl,sq,f,λp hp=>q _ _ (bD hp) trivial ?_⟩;unfold aX AW;exact⟨p,_,rfl,.inl (.inl aQ),(Mq d lo hi).kp (.of (bD hp))⟩
 ·obtain⟨ds,M,e⟩:=AT e;cases e;obtain⟨a,vs,rfl,sq,d⟩:=A.Gf M;exact OY AN s σ H _ v J C lo hi sl Q I z w pl m ⟨a,vs,rfl,sq,λp hp=>q _ _ (bD hp) (λa ea=>by cases ea;exact hp) ⟨p,_,rfl,aQ,(Mq d lo hi).kp (.of (bD hp))⟩⟩
def CJ(f:Ev->Y Bx)(fl fh:Ev->Y (Y Int)):Ev->Y Bx:=λρ=>(f ρ).bind λb=>(fl ρ).bind λlo=>(fh ρ).bind λhi=>EM b lo hi
theorem mJ{lo hi:Y Expr}{fl fh:Ev->Y (Y Int)}(he:QV X e f)(i:FU X lo fl)(d:FU X hi fh):QV X (.Subscript e (.Slice lo hi U p2) pos) (CJ f fl fh):=⟨have he:=he.run;have i:=i.run;have d:=d.run;FT (WL b8 he i d) λσ H Q h=>by
 obtain⟨H0,ρ,c,E,e,q⟩:=h;obtain⟨b,eb,e⟩:=AT e;obtain⟨lo,el,e⟩:=AT e;obtain⟨hi,o,e⟩:=AT e;refine⟨H0,ρ,b,E,eb,λv H1 a t p=>⟨H0,ρ,lo,E.grow a,el,λH2 g=>⟨H0,ρ,hi,E.grow (a.trans g),o,λu j=>?_⟩⟩⟩;have k:=(a.trans g).trans j;exact⟨b,c,(p.same g).same j,e,λw n l m s=>q w n (k.trans l) (m.old k) s⟩⟩
def jG:O Bx->Y Bx
 |[.z (.str x)]=>Z (.z (.int x.length))
 |[b]=>(mR b).bind λds=>Z (.z (.int ds.length))
 |_=>U
theorem BT(r:sZ K H [b] vs):∃v,vs=[v]/\aX K H b v:=by
 cases r with
 |cons p t=>cases t;exact⟨_,rfl,p⟩
theorem Dx{c:Bx}(r:sZ K H [b,c] vs):∃v u,vs=[v,u]/\aX K H b v/\aX K H c u:=by
 cases r with
 |cons p t=>
  cases t with
  |cons p' a=>cases a;exact⟨_,_,rfl,p,p'⟩
theorem fZ:oY X (.builtin "len") jG:=fU.imp (Je.or Jf) λxs H Q q=>by
 obtain⟨bs,c,b,e,q⟩:=q;unfold jG at e;split at e
 ·rename_i x;cases e;obtain⟨v,rfl,a⟩:=BT b;obtain⟨rfl,hx⟩:=Xo a;exact .inr ⟨x,rfl,hx,q _ H (AV.refl H) trivial Bc⟩
 ·obtain⟨ds,d,e⟩:=AT e;cases e;obtain⟨v,rfl,a⟩:=BT b;obtain⟨p,vs,rfl,sq,f⟩:=tL a d;exact .inl ⟨p,vs,rfl,sq,by rw[f.length];exact q _ H (AV.refl H) trivial Bc⟩
 ·cases e
def Xy:O Bx->Y Bx
 |[.z (.int i)]=>Z (.z (.int (if i<0 then -i else i)))
 |_=>U
theorem WS:oY X (.builtin "abs") Xy:=fU.imp WD λxs H Q q=>by
 obtain⟨bs,c,b,e,q⟩:=q;unfold Xy at e;split at e
 ·rename_i i;cases e;obtain⟨v,rfl,a⟩:=BT b;have:=Jt a;subst this;exact⟨i,rfl,q _ H (AV.refl H) trivial Bc⟩
 ·cases e
def UG:O Bx->Y Bx
 |[.z (.int i)]=>Z (.z (.int i))
 |[.z (.bl k)]=>Z (.z (.int (if k then 1 else 0)))
 |_=>U
theorem Xz:oY X (.type "int") UG:=fU.imp Ul λxs H Q q=>by
 obtain⟨bs,c,b,e,q⟩:=q;unfold UG at e;split at e
 ·rename_i i;cases e;obtain⟨v,rfl,a⟩:=BT b;have:=Jt a;subst this;exact .inl ⟨i,rfl,q _ H (AV.refl H) trivial Bc⟩
 ·rename_i k;cases e;obtain⟨v,rfl,a⟩:=BT b;simp only[aX,AW]at a;subst a;exact .inr ⟨k,rfl,q _ H (AV.refl H) trivial Bc⟩
 ·cases e
def tM:O Bx->Y Bx
 |[b]=>(mR b).bind λds=>Z (.o ds)
 |_=>U
theorem xT:oY X (.type "list") tM:=fU.imp Jg λxs H Q q=>by
 obtain⟨bs,c,h,e,q⟩:=q;unfold tM at e;split at e
 ·obtain⟨ds,d,e⟩:=AT e;cases e;obtain⟨v,rfl,g⟩:=BT h;obtain⟨p,vs,rfl,sq,f⟩:=tL g d;exact⟨p,vs,rfl,sq,λl b=>q _ _ (bD b) (λa ea=>by cases ea;exact b) ⟨l,vs,rfl,aQ,f.kp (.of (bD b))⟩⟩
 ·cases e
def nW:O Bx->Y Bx
 |[b]=>(mR b).bind λds=>Z (.z (.tup ds))
 |_=>U
theorem nY:oY X (.type "tuple") nW:=fU.imp Gd λxs H Q q=>by
 obtain⟨bs,c,g,e,q⟩:=q;unfold nW at e;split at e
 ·obtain⟨ds,d,e⟩:=AT e;cases e;obtain⟨v,rfl,f⟩:=BT g;obtain⟨p,vs,rfl,sq,a⟩:=tL f d;refine⟨p,vs,rfl,?_⟩;rcases sq with sq|sq
  ·refine .inl ⟨sq,λl b=>q _ _ (bD b) trivial ?_⟩;unfold aX AW;exact⟨l,vs,rfl,.inl (.inl aQ),a.kp (.of (bD b))⟩
  ·refine .inr ⟨sq,q _ H (AV.refl H) trivial ?_⟩;unfold aX AW;exact⟨p,vs,rfl,sq,a⟩
 ·cases e
def Hj:O Dt->Y (O Bool)
 |[]=>Z []
 |.bl b::ds=>(Hj ds).bind λbs=>Z (b::bs)
 |_=>U
theorem CK{K:B4}{H:Hp}:∀{ds:O Dt} {bs:O Bool} {vs:O V} {us:O A0},Hj ds=Z bs->aP K H ds vs->AX vs us->us=bs.map Value.bool
 |[],_,_,_,e,r,w=>by
  cases e;simp only[aP]at r;subst r;cases w;rfl
 |d::ds,_,_,_,e,r,w=>by
  simp only[aP]at r;obtain⟨v,a,rfl,h1,h2⟩:=r;cases d<;>first|(cases e;done)|skip;simp only[Hj]at e;obtain⟨bs,e1,e⟩:=AT e;cases e;simp only[AW]at h1;subst h1;cases w with
  |cons p t=>
   cases p;rw[CK e1 h2 t];rfl
theorem CO(bs:O Bool):((da bs.length).all λi=>bs.getD i false)=bs.all id:=by
 rw[KU,QI,QI];constructor
 ·intro h b a;obtain⟨i,hi,rfl⟩:=kH.mp a;have:=h i (by simpa using hi);simpa[List.getD,hi]using this
 ·intro h i hi;have hi:i<bs.length:=by simpa using hi
  have:=h bs[i] (kq hi);simpa[List.getD,hi]using this
def C3:O Bx->Y Bx
 |[b]=>(qe b).bind λds=>(Hj ds).bind λbs=>Z (.z (.bl (bs.all id)))
 |_=>U
theorem Mr(bs:O Bool):TruthOf prog w A (λi v=>(bs.map Value.bool).toArray[i]?=Z v) λi=>bs.getD i false:=λi v s Q E h q=>by
 have h':(bs.map Value.bool)[i]?=Z v:=by simpa using h
 rw[Zs]at h';cases e:bs[i]? with
 |none=>rw[e]at h';cases h'
 |some b=>
  rw[e]at h';cases h';have:bs.getD i false=b:=by simp[List.getD,e]
  have a:Q b s:=by rw[<-this];exact q
  exact j0 a
theorem yW(y:X.calm=true):oY X (.builtin "all") C3:=by
 intro AN s σ H xs us Q I r h;obtain⟨bs,c,B,e,q⟩:=h;unfold C3 at e;split at e
 ·obtain⟨ds,l,e⟩:=AT e;obtain⟨ks,ek,e⟩:=AT e;cases e;obtain⟨v,rfl,z⟩:=BT B;obtain⟨a,vs,rfl,sq,x⟩:=z.Gf l;obtain⟨u,rfl,C⟩:=BH r;cases C;obtain⟨AQ,w,pl,D⟩:=I.list sq;have d:=CK ek x w;have j:a<s.heap.objs.size:=by obtain⟨o,n,e,_⟩:=pl;exact zw e
  refine call_all_walk (yi pl.isList ?_);refine⟨s.heap.objs.size,_,_,_,_,_,λi=>ks.getD i false,rfl,Walks.list (by show X.A.handled=U;exact I.ok.hd y) s.heap.objs.size a (ZE j) AQ.toArray,⟨⟨_,zr _ rfl,rfl,rfl⟩,pl.isList.push _⟩,?_,λh' tk k=>?_⟩
  ·rw[d];exact Mr ks
  ·have g:AQ.toArray.size=ks.length:=by rw[d];simp
   rw[g,CO];have t:L2.AU X AN σ H { s with heap:=s.heap.push { cls:=.type "list_iterator",data:=.fields #[.ref a,.int 0 0] } }:=I.kept (t':=s.toks) λb o e=>zd _ e;refine⟨.bl _,H,?_,rfl,q _ H (AV.refl H) trivial Js⟩;obtain⟨f0,f1,f2,f3,p,f⟩:=I.Ga (b:=s.heap.objs.size) (H':=H) (zl _) (I.hok.fresh (zl _));exact t.turned (it:=s.heap.objs.size) (λb o m e=>k b o (by simpa using m) e) f0 f1 f3 p f
 ·cases e
end P1
namespace P1
open L2
def gv(i:Nat):Ev->Y Bx:=λρ=>wz ρ i
def lD(g:Bx->Bx->Y Bx)(fa fb:Ev->Y Bx):Ev->Y Bool:=λρ=>(b2 g fa fb ρ).bind Ji
def tV(f:Ev->Y Bx):Ev->Y Bool:=λρ=>(f ρ).bind Fk
def aK:Ev->Y (O Bx):=λ_=>Z []
def rP(p:Dt->Bool)(f:Ev->Y Bx):Ev->Y Bx:=b1 (λb=>if lU b=true then U else Z (.z (.bl (p (toD b))))) f
def eF:Ev->Y As:=λρ=>Z (.nx ρ)
def fM(f:Ev->Y Bx):Ev->Y As:=λρ=>(f ρ).bind Xd
def B7(i:Nat)(f:Ev->Y Bx):Ev->Y As:=λρ=>(f ρ).bind λb=>(Fc ρ i b).bind λa=>Z (.nx a)
def yX(gt:Dt->Ev->Y Ev)(f:Ev->Y Bx):Ev->Y As:=λρ=>(f ρ).bind λb=>match b with|.z d=>(gt d ρ).bind λa=>Z (.nx a)|_=>U
def Ms(i:Nat)(f:Ev->Y Bx):Ev->Y As:=λρ=>(f ρ).bind (Xe ρ i)
def wD(fi:Ev->Y (O Dt))(gt:Dt->Ev->Y Ev)(gb:Ev->Y As):Ev->Y As:=λρ=>(fi ρ).bind λds=>Ba gt gb ds ρ
def E8(f:Ev->Y Bx):Ev->Y (O Dt):=λρ=>(f ρ).bind GW
def Jx(f:Ev->Y Bx):Ev->Y (O Dt):=λρ=>(f ρ).bind Xm
def UJ(fs:Ev->Y (O Bx)):Ev->Y (O Dt):=λρ=>(fs ρ).bind HR
def Go(fs:Ev->Y (O Bx)):Ev->Y (O Dt):=λρ=>(fs ρ).bind HV
def nZ(i:Nat):Dt->Ev->Y Ev:=λd ρ=>Z (ρ.set i (Z (.z d)))
def wF:Ev->Y Bool:=λ_=>Z true
theorem d7:Jp X [] wF:=⟨.inl ⟨rfl,rfl⟩⟩
theorem n6(h:QB X c p):Jp X [c] p:=⟨have h:=h.run;.inr ⟨c,rfl,h⟩⟩
theorem R':Gg X scope cl [] []:=trivial
theorem VQ{xs:AZ}(n:X.N[i]?=Z x)(k:X.env.kindOf x=Z .cell\/X.env.kindOf x=Z .free)(a:(relabel scope X.env).names.lookup x=Z .cell\/(relabel scope X.env).names.lookup x=Z .free)(c:∃c,cl.lookup x=Z c)(r:Gg X scope cl xs is):Gg X scope cl (x::xs) (i::is):=⟨⟨n,k,a,c⟩,r⟩
theorem mem_of_lookup{a:O (AJ×NameKind)}{x:AJ}{k:NameKind}:a.lookup x=Z k->(x,k)∈a:=kD
theorem dL{xs:AZ}(clos:closureFor scope X.env=pure cl)(kind:scope.kind=.function)(cell:scope.names.all (λy=>decide (y.2≠.cell)||(cl.lookup y.1).isNone)=true)(names:scope.names.all (λy=>decide (y.2=.local->scope.names.lookup y.1=Z .local))=true)(sub:CL X.env.cells cl)(has:(relabel scope X.env).names.all (λy=>!(y.2==.cell||y.2==.free)||(cl.lookup y.1).isSome||scope.names.contains (y.1,.cell))=true)(cap:Gg X scope cl xs is):qK X scope cl xs is where
 clos:=clos
 kind:=kind
 cell:=λy a b=>by
  have:=List.all_eq_true.mp cell y a;simp only[b,ne_eq,not_true_eq_false,Kt,hH,Option.isNone_iff_eq_none]at this;exact this
 names:=λy a=>yn (List.all_eq_true.mp names y a)
 sub:=sub
 has:=λx hx=>by
  have h:∃k,(relabel scope X.env).names.lookup x=Z k/\(k==NameKind.cell||k==NameKind.free)=true:=by
   rcases hx with hx|hx
   ·exact⟨_,hx,rfl⟩
   ·exact⟨_,hx,rfl⟩
  obtain⟨k,e,hk⟩:=h;have:=List.all_eq_true.mp has _ (mem_of_lookup e);simp only[hk,hL,hH,eA]at this;rcases this with h|h
  ·exact .inr (dV.mp h)
  ·exact .inl (ky.mp h)
 cap:=cap
theorem Sd(r:jo k A):A.units+100<cLine:=by have:=r.un;omega
theorem eC(h:∀b:O Int,b.length<=63->F [.z (.lst (b.map .int))]=Z (.z (.bl true)))(j:∀b:O Int,b.length<=63->F [.l (b.map .int)]=Z (.z (.bl true)))(K:B4)(H:Hp)(a:A1)(b:O Int)(f:b.length<=63)(_:Cb H)(c:sI K H a (b.map V.int)):
  Xn K 1 F [.ref a] H (λv _=>v=.bl true) λ_ _ _=>False:=by
 have g:∀d:O Int,aP K H (d.map Dt.int) (d.map V.int):=λd=>by
  induction d with
  |nil=>exact aP.nil
  |cons m d i=>exact aP.cons (by unfold AW;rfl) i
 have e:∀v (H':Hp),AV H H'->Nw H (.z (.bl true)) v->aX K H' (.z (.bl true)) v->v=.bl true:=λv H' _ _ r=>by simpa only[aX,AW]using r
 rcases c with c|c
 ·exact⟨rfl,[.l (b.map .int)],_,.cons ⟨a,_,rfl,c,g b⟩ .nil,rfl,j b f,e⟩
 ·refine⟨rfl,[.z (.lst (b.map .int))],_,.cons ?_ .nil,rfl,h b f,e⟩;unfold aX AW;exact⟨a,_,rfl,.inr c,g b⟩
theorem VX{f:A1}(F:G8 K x qual st f fd)(S:bH N ps (aM st))(c:N.length=n)(b:ps.length=m)(d:∀(a:A0) (A:A5) (outer:O Env) (s:A2) (H:Hp) (E:XK),jo k (A.deeper (AK qual (aM st) s.heap.objs.size f a))->Ue (sV Ge P w K mg base N qual (aM st) f a A outer s H E).Z2 (gY st) g):
  lR P w K mg base Ge (k+1) f fd ps (Xn K m (fL n g)):=by
 subst c b;exact ba F S d
section
variable{st:Expr}{fs:Ev->Y Bx}
theorem Mt(I:L2.AU X AN σ H s)(h:H a=Z (.dK [])):∃o,L2.AU X AN σ (B1 H a (.jm o (.dK []))) s:=by
 have hk:=I.hok a _ h;obtain⟨z1,z2,z3,g,o,i,j,e,ex⟩:=hk;refine⟨o,⟨I.ok,I.os,I.bare,⟨I.base.keep,I.base.slot,λb d q1 q2 q3=>?_,I.base.there,λb xs q=>?_,λb d u q=>?_,λb ps q=>?_⟩,I.loc,I.cell,?_,λx c q=>?_,λp hp=>?_,?_,I.len⟩⟩
 ·have:=I.base.free b d q1 q2 q3;rw[aF (bf h this).symm];exact this
 ·have:=I.base.tups b xs q;rw[aF (ji this h (by intro z;cases z))];exact this
 ·have:=I.base.nP b d u q;rw[aF (ji this h (by intro z;cases z))];exact this
 ·obtain⟨m,this⟩:=I.base.qD b ps q;rw[aF (ji this h (by intro z;cases z))];exact⟨m,this⟩
 ·rw[aF (bf h I.free).symm];exact I.free
 ·rw[aF (bf h (I.jj x c q)).symm];exact I.jj x c q
 ·obtain⟨q1,q2,q3⟩:=I.pin p hp;refine⟨q1,?_,q3⟩;rw[aF (bf h q2).symm];exact q2
 ·intro b u q;by_cases f:b=a
  ·subst f;rw[aQ]at q;cases q;exact⟨e,z1,z2,z3,g,o,i,j,e,ex⟩
  ·rw[aF f]at q;refine(I.hok b u q).stay (λc v _ w=>w) (λc w=>?_) (λc xs w=>?_) λc o' k w=>?_
   ·rw[aF (ji w h (by intro z;cases z))];exact w
   ·rw[aF (ji w h (by intro z;cases z))];exact w
   ·rw[aF (ji w h (by intro z;cases z))];exact w
theorem XC  :QV X (.Dict [] [] pos) (cB .emp):=⟨by
 intro AN s σ H Q I q;obtain⟨H0,ρ,b,E,e,q⟩:=q;cases e;refine ig (Lj AN s σ H (λv H'=>∃p,v=.ref p/\H p=U/\H'=B1 H p (.dK [])) I λp hp=>⟨p,rfl,hp,rfl⟩) λu i h=>?_;obtain⟨v,H1,d,f,p,rfl,hp,rfl⟩:=h;obtain⟨o,g⟩:=Mt d aQ;refine⟨.ref p,_,g,f,q _ _ (λc j a=>?_) trivial ?_⟩
 ·rw[aF (bf a hp),aF (bf a hp)];exact a
 ·simp only[aX,AW];exact⟨p,o,rfl,aQ⟩⟩
theorem Qm(n:Nat):Builtin.Slice.slicePlaces ((n:Int)-1) (-1) (-1)=n:=by
 unfold Builtin.Slice.slicePlaces;simp only[show ¬ ((-1:Int)>0) by decide,qr,show -(-1:Int)=1 by decide,Int.ediv_one];split<;>omega
theorem yZ{sl:A1}{u:Tok}{Q:Int×Int×Nat->A2->Prop}(hs:s.heap.IsSliceOf sl .none .none (.int (-1) u))(h:Q ((n:Int)-1,-1,n) s):A7 (A8 prog w) A (Builtin.Slice.sliceApplied (.ref sl) (pure (n:Int))) Q E s:=by
 obtain⟨os,b,c,a⟩:=id hs;unfold Builtin.Slice.sliceApplied Builtin.Slice.sliceFields;refine zb (zb (qh b a (x:=.none) S (zb (qh b a (x:=.none) S (zb (qh b a (x:=.int (-1) u) S (ze ?_)))))));refine zb (HT.nR (.int (-1) u) ?_);show A7 _ _ (if((-1:Int)==0)=true then _ else _) _ _ s;rw[ZA ()];refine zb (HT.nR .none (zb (HT.nR .none (zb (ze ?_)))));show A7 _ _ (pure ((n:Int)-1,(-1:Int),Builtin.Slice.slicePlaces ((n:Int)-1) (-1) (-1))) _ _ s;rw[Qm];exact ze h
theorem Jy{α β:Type}{f:α->Y β}{g:α->β}:∀l:O α,(∀a∈l,f a=Z (g a))->l.filterMap f=l.map g
 |[],_=>rfl
 |a::l,h=>by
  rw[KB,h a (zh ..),Zl,Jy l λb c=>h b (zi _ c)]
theorem XD(xs:Array A0):((da xs.size).filterMap λ(m:Nat)=>xs[(((xs.size:Nat):Int)-1+(m:Int)*(-1)).toNat]?).toArray=xs.toList.reverse.toArray:=by
 congr 1;rw[Jy (g:=λm=>xs.toList.getD (xs.size-1-m) .none)]
 ·apply List.ext_getElem
  ·simp
  ·intro k h1 h2;have hk:k<xs.size:=by simpa using h1
   rw[ml,List.getElem_range,List.getElem_reverse,JA,zo (by simp;omega)];simp
 ·intro m a;have a:=dg.mp a;have e:(((xs.size:Nat):Int)-1+(m:Int)*(-1)).toNat=xs.size-1-m:=by omega
  have b:xs.size-1-m<xs.size:=by omega
  rw[e,kr b,JA,zo (by simpa using b)];simp
theorem xU{t sl:A1}{u:Tok}{Q:BA}(b:IsTup s.heap t items)(hs:s.heap.IsSliceOf sl .none .none (.int (-1) u))(h:Q (.ref s.heap.objs.size) { s with heap:=s.heap.push { cls:=.type "tuple",data:=.seq items.toList.reverse.toArray } })(hsz:items.size<=AA):A7 (A8 prog w) A (getItem (.ref t) (.ref sl)) Q E s:=by
 have a:sizeOk (.seq items.toList.reverse.toArray):=by
  show items.toList.reverse.toArray.size<=AA;rw[zv,gJ,Q4];exact hsz
 obtain⟨os,e,f,g⟩:=id hs;have c:s.TypeIs (.ref sl) "slice":=⟨os,e,f⟩;unfold getItem
 try with_reducible refine qq ?_
 first|refine zb (ze ?_)|skip
 refine zb (wpAny_sequenceKey b.typeIs () ?_);refine zb (QQ (name:=Str.ofString "__getitem__") b.typeIs PyProof.Rows.slot_tuple_getitem
  (Qb PyProof.Rows.slot_tuple_getitem b.typeIs entry_tuple_getitem ?_ (args_tuple_getitem _ _)))
 show A7 _ _ (Builtin.Tuple.tupleItemsOf (.ref t) >>= _) _ _ s;refine zb (tupleItemsOf_ b ?_);refine zb (jS c ?_);rw[zt ()];refine zb (yZ hs ?_);have d:¬ ((((items.size:Int)-1)==0&&(-1:Int)==1&&items.size==items.size)=true):=by
  rw[show((-1:Int)==1)=false from rfl,hB,kK];exact zI
 show A7 _ _ (if(((items.size:Int)-1)==0&&(-1:Int)==1&&items.size==items.size)=true then _ else _) _ _ s;rw[ZA d,XD]
 first
  |exact zb (m:=Builtin.Tuple.tupleExact _) (ZT (ze ⟨_,rfl,ze h⟩) a)
  |exact zb (m:=Builtin.Tuple.tupleExact _) (ZT (zb (ze (ze ⟨_,rfl,ze h⟩))) a)
  |exact zb (zb (m:=Builtin.Tuple.tupleExact _) (ZT (ze (ze ⟨_,rfl,ze h⟩)) a))
  |exact zb (zb (m:=Builtin.Tuple.tupleExact _) (ZT (ze ⟨_,rfl,ze h⟩) a))
def UL:Bx->Bx->Y Bx
 |.z (.tup ds),.z (.int i)=>if i = -1 then Z (.z (.tup ds.reverse))else U
 |_,_=>U
theorem aP.rev{K:B4}{H:Hp}:∀{ds:O Dt} {vs:O V},aP K H ds vs->aP K H ds.reverse vs.reverse
 |[],_,h=>by simp only[aP]at h;subst h;exact aP.nil
 |d::ds,_,h=>by
  simp only[aP]at h;obtain⟨v,r,rfl,b,a⟩:=h;rw[Y1,Y1];exact aP.append (aP.rev a) (aP.cons b aP.nil)
theorem UW{a c:Bx}(h:UL a b=Z c):∃ds,a=.z (.tup ds)/\b=.z (.int (-1))/\c=.z (.tup ds.reverse):=by
 unfold UL at h;split at h
 ·rename_i ds i;split at h
  ·rename_i hi;subst hi;cases h;exact⟨ds,rfl,rfl,rfl⟩
  ·cases h
 ·cases h
theorem SI(he:QV X e f)(l:QV X st fs)(C:∀v i:A0,subscripted (.Slice U U (Z st) p2) false v i=operate [v,i] (getItem v i):=by intro _ _;with_unfolding_all rfl):QV X (.Subscript e (.Slice U U (Z st) p2) pos) (b2 UL f fs):=⟨by
 have he:=he.run;have l:=l.run;intro AN s σ H Q I h;obtain⟨H0,ρ,c,E,g,q⟩:=h;obtain⟨a,ea,g⟩:=AT g;obtain⟨b,eb,g⟩:=AT g;refine Subscript_ (ig (he AN s σ H (λx H1=>AV H H1/\aX X.K H1 a x) I ⟨H0,ρ,a,E,ea,λv H1 k G m=>⟨k,m⟩⟩) λv k ⟨x,H1,I1,m,sm1,BT⟩=>?_);refine wpAny_Slice ?_;rw[evalPart_none];refine ze ?_;refine ze ?_;rw[evalPart_some];refine ig (l AN k σ H1 (λy H2=>AV H1 H2/\aX X.K H2 b y) I1 ⟨H0,ρ,b,E.grow sm1,eb,λv H2 d F n=>⟨d,n⟩⟩) λvk d ⟨y,H2,I2,n,sm2,Dx⟩=>?_;obtain⟨ds,rfl,rfl,rfl⟩:=UW g;have D:y=.int (-1):=by simpa only[aX,AW]using Dx
 subst D;obtain⟨tk,rfl⟩:=n;obtain⟨p,vs,rfl,sq,z⟩:∃p vs,x=.ref p/\sO X.K H2 p vs/\aP X.K H2 ds vs:=by
  have:=BT.same sm2;simpa only[aX,AW]using this
 cases m;have j:L2.AU X AN σ H2 { d with heap:=d.heap.push { cls:=.type "slice",data:=.fields #[.none,.none,.int (-1) tk] } }:=I2.kept (t':=d.toks) λb B q=>zd _ q;obtain⟨AQ,r,u,t⟩:=j.tuple sq;show A7 (ii X) X.A (subscriptTail e (.Slice U U (Z st) p2) (.ref p) (.ref d.heap.objs.size)) (EP X AN σ Q) X.xe { d with heap:=d.heap.push { cls:=.type "slice",data:=.fields #[.none,.none,.int (-1) tk] } };refine tail_any (ops:=[.ref p,.ref d.heap.objs.size]) u.typeIs PyProof.Rows.slot_tuple_getitem.lookup (xU u (Heap.IsSliceOf.new ..) ?_ (by rw[zv,<-r.length];exact t)) (C _ _);refine⟨.ref _,_,j.laid (t':=d.toks) (o:=.tup vs.reverse) (λb B q=>zd _ q) (zl _) ?_,rfl,q _ _ ((sm1.trans sm2).trans (bD (j.hok.fresh (zl _)))) trivial ?_⟩
 ·exact⟨by rw[gJ];exact t,_,r.reverse,qC.new _ _⟩
 ·simp only[aX,AW];exact⟨_,_,rfl,.inl (.inl aQ),(aP.rev z).kp (.of (bD (j.hok.fresh (zl _))))⟩⟩
end
def Z5:Bx->Bx->Y Bx
 |.z (.int i),.z (.int j)=>Z (.z (.bl (decide (i<j))))
 |.z (.str x),.z (.str y)=>Z (.z (.bl (decide (x.cps.toList<y.cps.toList))))
 |_,_=>U
theorem Jz:Ax X (AG .Lt) Z5:=by
 intro AN s σ H x y v u Q I g f h;obtain⟨a,b,c,d,k,e,q⟩:=h;unfold Z5 at e;split at e
 ·rename_i i j;cases e;exact ck AN s σ H x y v u Q I g f ⟨i,j,Jt d,Jt k,q _ H (AV.refl H) trivial (by unfold aX;exact F5)⟩
 ·rename_i i j;cases e;obtain⟨rfl,_⟩:=Xo d;obtain⟨rfl,_⟩:=Xo k;obtain⟨t,rfl⟩:=g;obtain⟨l,rfl⟩:=f;exact PySem.P.lt_str ⟨.bl _,H,I,rfl,q _ H (AV.refl H) trivial (by unfold aX;exact F5)⟩
 ·cases e
def o9:O Dt->Y AZ
 |[]=>Z []
 |.str x::r=>(o9 r).bind λys=>Z (x::ys)
 |_=>U
theorem kO{K:B4}{H:Hp}:∀{ds:O Dt} {vs:O V} {ys:AZ},aP K H ds vs->o9 ds=Z ys->vs=ys.map V.str/\∀y∈ys,y.length<=AA
 |[],_,_,h,e=>by cases e;simp only[aP]at h;subst h;exact⟨rfl,λy a=>by cases a⟩
 |.str x::ds,_,_,h,e=>by
  simp only[o9]at e;obtain⟨ys,e1,e2⟩:=AT e;cases e2;simp only[aP]at h;obtain⟨v,r,rfl,c,b⟩:=h;obtain⟨rfl,hx⟩:v=.str x/\x.length<=AA:=by simpa only[AW]using c
  obtain⟨rfl,h2⟩:=kO b e1;refine⟨rfl,λy a=>?_⟩;rcases List.mem_cons.mp a with rfl|a
  ·exact hx
  ·exact h2 y a
 |.non::_,_,_,_,e=>by cases e
 |.bl _::_,_,_,_,e=>by cases e
 |.int _::_,_,_,_,e=>by cases e
 |.tup _::_,_,_,_,e=>by cases e
 |.lst _::_,_,_,_,e=>by cases e
 |.emp::_,_,_,_,e=>by cases e
theorem n8{K:B4}{H:Hp}:∀{ys:AZ},(∀y∈ys,y.length<=AA)->aP K H (ys.map Dt.str) (ys.map V.str)
 |[],_=>aP.nil
 |y::ys,h=>aP.cons (by unfold AW;exact⟨rfl,h y (zh ..)⟩) (n8 λz a=>h z (zi _ a))
theorem kW:∀{ys:AZ} {AQ:O A0},AX (ys.map V.str) AQ->StrsAre AQ ys
 |[],_,h=>by cases h;exact .nil
 |y::ys,_,h=>by
  cases h with
  |cons r t=>
   obtain⟨tk,rfl⟩:=r;exact .cons y tk (kW t)
theorem uT:∀{AQ:O A0} {ys:AZ},StrsAre AQ ys->AX (ys.map V.str) AQ
 |_,_,.nil=>.nil
 |_,_,.cons y t h=>.cons ⟨t,rfl⟩ (uT h)
theorem JB:fU X (.builtin "sorted") (λxs H Q=>∃p ys,xs=[.ref p]/\sI X.K H p (ys.map V.str)/\ys.length<64/\∀l zs,H l=U->zs.Perm ys->sortedS zs=true->Q (.ref l) (B1 H l (.lst (zs.map V.str)))):=by
 intro AN s σ H xs us Q I r h;obtain⟨p,ys,rfl,k,m,q⟩:=h;obtain⟨u,rfl,j⟩:=BH r;cases j;obtain⟨AQ,c,pl,d⟩:=I.list k;have g:=c.length;rw[zk]at g d;refine sorted_strs pl.isList (kW c) () λout zs f hp i=>?_;obtain⟨n,en⟩:=sortedAll_at s.heap AQ out;refine⟨.ref (s.heap.objs.size+1),_,I.laid (t':=s.toks) (a:=s.heap.objs.size+1) (o:=.lst (zs.map V.str)) (λb o e=>sortedAll_old e) (JI _) ?_,rfl,q _ zs (I.hok.fresh (JI _)) hp i⟩;refine⟨by rw[zk,hp.length_eq];exact d,out.toList,n,uT f,?_⟩;rw[en]
def FW(a b:AJ):Prop:=ltCps b.cps.toList a.cps.toList=false
theorem xV:∀(p:AJ) (l:AZ),risingS p l=true->(p::l).Pairwise FW
 |p,[],_=>by simp
 |p,x::r,h=>by
  have h':(!ltCps x.cps.toList p.cps.toList&&risingS x r)=true:=h;rw[ZZ]at h';have c:=xV x r h'.2;have hx:FW p x:=by simpa[FW]using h'.1
  refine du.mpr ⟨λy b=>?_,c⟩;rcases List.mem_cons.mp b with rfl|b
  ·exact hx
  ·have a:FW x y:=JS c b;unfold FW at hx a ⊢;rw[ltCps_eq]at hx a ⊢;simp only[ke]at hx a ⊢;exact List.le_trans (α:=Nat) hx a
theorem JC{l:AZ}(h:sortedS l=true):l.Pairwise FW:=by
 cases l with
 |nil=>exact .nil
 |cons p l=>exact xV p l h
theorem Mu{a b:AJ}(h:FW a b)(h':FW b a):a=b:=by
 unfold FW at h h';rw[ltCps_eq]at h h';simp only[ke]at h h';have:=mm (as:=a.cps.toList) (bs:=b.cps.toList) h h';cases a;cases b;simp only[Str.mk.injEq];exact mn.mp this
theorem xW:∀{l c:AZ},l.Perm c->l.Pairwise FW->c.Pairwise FW->l=c
 |[],c,h,_,_=>by rw[List.nil_perm.mp h]
 |a::l,[],h,_,_=>by cases List.perm_nil.mp h
 |a::l,b::c,h,p,p'=>by
  have e:a=b:=by
   have d:a∈b::c:=h.mem_iff.mp (zh ..);have f:b∈a::l:=h.mem_iff.mpr (zh ..);rcases List.mem_cons.mp d with h1|h1
   ·exact h1
   ·rcases List.mem_cons.mp f with h2|h2
    ·exact h2.symm
    ·exact Mu (JS p h2) (JS p' h1)
  subst e;rw[xW ((List.perm_cons a).mp h) (du.mp p).2 (du.mp p').2]
def U0(a b:AJ):Bool:=!ltCps b.cps.toList a.cps.toList
def aV(ys:AZ):AZ:=ys.mergeSort U0
theorem bx(ys:AZ):(aV ys).Perm ys:=gP ys U0
theorem f9(ys:AZ):(aV ys).Pairwise FW:=by
 have h:=xm (le:=U0) (λa b c h1 h2=>by
  unfold U0 at *
  rw[ltCps_eq]at *
  simp only[Jn,ke]at *
  exact List.le_trans (α:=Nat) h1 h2) (λa b=>by
  unfold U0;rw[ltCps_eq,ltCps_eq];simp only[eA,Jn,ke];exact List.le_total a.cps.toList b.cps.toList) ys
 exact h.imp λ{a b} hh=>by simpa[U0,FW]using hh
theorem CN{zs:AZ}(hp:zs.Perm ys)(hs:sortedS zs=true):zs=aV ys:=xW (hp.trans (bx ys).symm) (JC hs) (f9 ys)
def zX:O Bx->Y Bx
 |[b]=>(qe b).bind λds=>(o9 ds).bind λys=>if ys.length<64 then Z (.o ((aV ys).map Dt.str))else U
 |_=>U
theorem uU:oY X (.builtin "sorted") zX:=fU.imp JB λxs H Q q=>by
 obtain⟨bs,c,n,e,q⟩:=q;unfold zX at e;split at e
 ·rename_i b;obtain⟨ds,g,e⟩:=AT e;obtain⟨ys,m,e⟩:=AT e;split at e
  ·rename_i f;cases e;obtain⟨v,rfl,k⟩:=BT n;obtain⟨p,vs,rfl,sq,i⟩:=k.Gf g;obtain⟨rfl,o⟩:=kO i m;refine⟨p,ys,rfl,sq,f,λl zs d hp j=>?_⟩;rw[CN hp j];refine q _ _ (bD d) (λa ea=>by cases ea;exact d) ⟨l,_,rfl,aQ,n8 λy h=>o y ((bx ys).mem_iff.mp h)⟩
  ·cases e
 ·cases e
def Mw(x:AJ)(b:Bx):Y Bx:=(qe b).bind λds=>(o9 ds).bind λys=>if(ys.map (·.length)).sum+ys.length*x.length<=100000 then Z (.z (.str (Txt.join x ys)))else U
theorem fN:LO X "str.join" (λx xs H Q=>∃y p ys,x=.str y/\xs=[.ref p]/\sI X.K H p (ys.map V.str)/\(ys.map (·.length)).sum+ys.length*y.length<=100000/\Q (.str (Txt.join y ys)) H):=by
 intro AN s σ H x xs v us Q I c a h;obtain⟨y,p,ys,rfl,rfl,sq,f,q⟩:=h;obtain⟨t,rfl⟩:=c;obtain⟨u,rfl,d⟩:=BH a;cases d;obtain⟨AQ,b,pl,g⟩:=I.list sq;exact join_list pl.isList (kW b) () λe k=>⟨.str _,H,I.tok _,⟨_,rfl⟩,q⟩
theorem bg{p1:Pos}(h:QV X e f)(hx:x.length<=AA:=by decide)(t:attributeBase (.Constant (.str x) j p1) "join" X.env (eval (.Constant (.str x) j p1) X.env)=eval (.Constant (.str x) j p1) X.env:=by rfl)(g:((AD cpos (A9 [e] X.env)).all (λx=>!x.1)&&(backToKw cpos (keywordEach [] X.env)).all (λx=>x.1.isSome)&&decide ([e].length+([]:O AC).length+(if([]:O AC).isEmpty then 0 else 1)<30))=true:=by rfl)(s:(apos.endLine==cpos.line)=true:=by rfl)(hs:A9 [e] X.env=(false,eval e X.env)::A9 [] X.env:=by rfl):QV X (.Call (.Attribute (.Constant (.str x) j p1) "join" apos) [e] [] cpos) (b1 (Mw x) f):=⟨have h:=h.run;FT (Cj (T :="str") F.plainAttrs_str F.slot_str_join F.type_str_join fN (W9 (hx:=hx)) (Lx h R4 hs) t g s hs S) λσ H Q q=>by
  obtain⟨H0,ρ,c,E,e,q⟩:=q;obtain⟨a,ea,e⟩:=AT e;refine⟨H0,ρ,_,E,rfl,λv H1 b A l=>?_⟩;obtain⟨rfl,z⟩:v=.str x/\x.length<=AA:=by simpa only[aX,AW]using l
  refine⟨rfl,H0,ρ,[a],E.grow b,by simp only[aq,ea,KA],λvs H2 o n=>?_⟩;obtain⟨w,rfl,u⟩:=BT n;unfold Mw at e;obtain⟨ds,d,e⟩:=AT e;obtain⟨ys,m,e⟩:=AT e;split at e
  ·rename_i i;cases e;obtain⟨p,y,rfl,sq,k⟩:=u.Gf d;obtain⟨rfl,B⟩:=kO k m;refine⟨x,p,ys,rfl,rfl,sq,i,q _ _ (b.trans o) trivial ?_⟩;unfold aX AW;exact⟨rfl,joinOk_length (joinOk_of ())⟩
  ·cases e⟩
def Qn:O Bx->Y Bx
 |[.z (.int a),.z (.int b)]=>Z (.z (.int (if b>a then b else a)))
 |_=>U
def XF:O Bx->Y Bx
 |[.z (.int a),.z (.int b)]=>Z (.z (.int (if b<a then b else a)))
 |_=>U
theorem Ll{a:Bx}(h:sZ K H [a,b] vs):∃v w,vs=[v,w]/\aX K H a v/\aX K H b w:=by
 cases h with
 |cons p t=>
  cases t with
  |cons p' c=>cases c;exact⟨_,_,rfl,p,p'⟩
theorem Qo(f:X.calm=true):oY X (.builtin "max") Qn:=by
 intro AN s σ H xs us Q I r h;obtain⟨bs,c,l,e,q⟩:=h;unfold Qn at e;split at e
 ·rename_i a b;cases e;obtain⟨v,w,rfl,g,j⟩:=Ll l;have m:=Jt g;have k:=Jt j;subst m k;obtain⟨u,p,rfl,n,i⟩:=AX.two r;obtain⟨t,rfl⟩:=n;obtain⟨o,rfl⟩:=i;refine max_two_ints (I.ok.hd f) λh' tk kp=>?_;by_cases d:b>a
  ·rw[zt d]at q ⊢;exact⟨.int b,H,I.kept kp,⟨_,rfl⟩,q _ H (AV.refl H) trivial Bc⟩
  ·rw[ZA d]at q ⊢;exact⟨.int a,H,I.kept kp,⟨_,rfl⟩,q _ H (AV.refl H) trivial Bc⟩
 ·cases e
theorem RY(f:X.calm=true):oY X (.builtin "min") XF:=by
 intro AN s σ H xs us Q I r h;obtain⟨bs,c,l,e,q⟩:=h;unfold XF at e;split at e
 ·rename_i a b;cases e;obtain⟨v,w,rfl,g,j⟩:=Ll l;have m:=Jt g;have k:=Jt j;subst m k;obtain⟨u,p,rfl,n,i⟩:=AX.two r;obtain⟨t,rfl⟩:=n;obtain⟨o,rfl⟩:=i;refine min_two_ints (I.ok.hd f) λh' tk kp=>?_;by_cases d:b<a
  ·rw[zt d]at q ⊢;exact⟨.int b,H,I.kept kp,⟨_,rfl⟩,q _ H (AV.refl H) trivial Bc⟩
  ·rw[ZA d]at q ⊢;exact⟨.int a,H,I.kept kp,⟨_,rfl⟩,q _ H (AV.refl H) trivial Bc⟩
 ·cases e
def CP(AO:O (AY×Dt))(x:AY):Y Dt:=(AO.find? λa=>decide (a.1=x)).map (·.2)
theorem rZ.nil:rZ K H [] []:=⟨rfl,aP.nil,λp hp=>by cases hp⟩
theorem rZ.inv{p:AY×Dt}{AO:O (AY×Dt)}{ks:O (AY×V)}(h:rZ K H (p::AO) ks):∃v r,ks=(p.1,v)::r/\AW K H p.2 v/\FO p.1/\rZ K H AO r:=by
 obtain⟨h1,h2,a⟩:=h;cases ks with
 |nil=>simp at h1
 |cons q r=>
  simp only[Zl,YE]at h1;obtain⟨e,h1⟩:=h1;simp only[Zl,aP]at h2;obtain⟨v,d,e2,c,b⟩:=h2;simp only[YE]at e2;obtain⟨rfl,rfl⟩:=e2;exact⟨q.2,r,by rw[<-e],c,a p (zh ..),h1,b,λx hx=>a x (zi _ hx)⟩
theorem rZ.len{AO:O (AY×Dt)}{ks:O (AY×V)}(h:rZ K H AO ks):ks.length=AO.length:=by
 have:=congrArg mh h.1;simpa using this
theorem rZ.look:∀{AO:O (AY×Dt)} {ks:O (AY×V)} {x:AY} {d:Dt},rZ K H AO ks->CP AO x=Z d->∃v,qd ks x=Z v/\AW K H d v
 |[],_,_,_,_,e=>by cases e
 |p::AO,_,x,d,h,e=>by
  obtain⟨v,r,rfl,b,c,a⟩:=h.inv;unfold CP at e;by_cases hp:p.1=x
  ·rw[List.find?_cons_of_pos (by simpa using hp)]at e;cases e;exact⟨v,sX (by rw[hp]),b⟩
  ·rw[List.find?_cons_of_neg (by simpa using hp)]at e;obtain⟨w,e1,e2⟩:=rZ.look a e;exact⟨w,(sY (by simpa using hp)).trans e1,e2⟩
section
variable{ek o:Expr}{pos':Pos}
theorem fg  :QV X (.Dict [] [] pos) (λ_=>Z (.m [] U)):=⟨FT Lj λσ H Q h=>by
 obtain⟨H0,ρ,b,E,e,q⟩:=h;cases e;intro p hp;exact q _ _ (bD hp) (λa ea=>by cases ea;exact hp) ⟨p,[],rfl,aQ,rZ.nil,λb h=>by cases h⟩⟩
def F7:Bx->Y AY
 |.z (.str x)=>Z (.inr x)
 |.z (.int i)=>Z (.inl i)
 |_=>U
theorem X9{k:AY}{v:V}(e:F7 b=Z k)(r:aX K H b v):v=kV k/\FO k:=by
 unfold F7 at e;split at e
 ·cases e;simp only[aX,AW]at r;exact r
 ·cases e;simp only[aX,AW]at r;exact⟨r,trivial⟩
 ·cases e
def Hl:Bx->Bx->Y Bx
 |.n AO,b=>(F7 b).bind λk=>(CP AO k).bind λd=>Z (.z d)
 |_,_=>U
theorem Qp{a c:Bx}(h:Hl a b=Z c):∃AO k d,a=.n AO/\F7 b=Z k/\CP AO k=Z d/\c=.z d:=by
 unfold Hl at h;split at h
 ·obtain⟨k,ek,h⟩:=AT h;obtain⟨d,e,h⟩:=AT h;cases h;exact⟨_,k,d,rfl,ek,e,rfl⟩
 ·cases h
theorem PD(y:X.A.units+100<cLine)(f:QV X o fo)(hk:QV X ek fk)(hs:IM ek:=by intro _ _;rfl):QV X (.Subscript o ek pos) (b2 Hl fo fk):=⟨have f:=f.run;have hk:=hk.run;FT (S3 () f hk hs) λσ H Q h=>by
 obtain⟨H0,ρ,c,E,e,q⟩:=h;obtain⟨a,ea,e⟩:=AT e;obtain⟨b,eb,e⟩:=AT e;refine⟨H0,ρ,a,E,ea,λv H1 g B s=>⟨H0,ρ,b,E.grow g,eb,λw H2 i z u=>?_⟩⟩;obtain⟨AO,x,d,rfl,j,k,rfl⟩:=Qp e;obtain⟨p,ks,rfl,t,n⟩:=s.same i;obtain⟨m,ev,l⟩:=n.look k;obtain⟨rfl,_⟩:=X9 j u;exact⟨p,m,rfl,.inl ⟨ks,x,t,rfl,ev.symm⟩,q _ _ (g.trans i) trivial l⟩⟩
end
section
variable{a b:Expr}{fs:Ev->Y (O Bx)}
theorem cU{j}(hx:x.length<=AA:=by decide):QV X (.Constant (.str x) j pos) (cB (.str x)):=⟨P1.W9 (hx:=hx)⟩
end
section
variable{a b:Expr}{fs:Ev->Y (O Bx)}
variable{AS:O Expr}
theorem aj(h1:QV X e f)(h2:Wa X es fs)(hs:A9 (e::es) X.env=(false,eval e X.env)::A9 es X.env:=by rfl):Wa X (e::es) (aq f fs):=⟨P1.Lx (h1:=h1.run) (h2:=h2.run) (hs:=hs)⟩
theorem aB  :Wa X [] (λ_=>Z []):=⟨P1.R4 ⟩
end
theorem g7{f:A1}(F:G8 K x qual st f fd)(S:bH N ps (aM st))(b:N.length=n)(d:ps.length=m)(e:∀(a:A0) (A:A5) (outer:O Env) (s:A2) (H:Hp) (E:XK),jo k (A.deeper (AK qual (aM st) s.heap.objs.size f a))->Ut (sV Ge P w K mg base N qual (aM st) f a A outer s H E).Z2 (gY st) g):
  lR P w K mg base Ge (k+1) f fd ps (Xn K m (fL n g)):=VX F S b d λa A outer s H E c=>(e a A outer s H E c).run
theorem bF.aho(E:bF K H0 H σ ρ)(i:Nat):bF K H0 H σ (ρ.set i U):=by
 have d:∀(j:Nat) (b:Bx),(ρ.set i U)[j]?=Z (Z b)->ρ[j]?=Z (Z b):=λj b e=>by
  rw[Ki]at e;split at e
  ·split at e<;>cases e
  ·exact e
 refine⟨by rw[qi];exact E.len,λj b e=>E.val j b (d j b e),λj k c a b e1 f e2 e3 g h=>E.own j k c a b (d _ _ e1) f e2 (d _ _ e3) g h,E.base,λj c a e1 f e2=>E.new j c a (d _ _ e1) f e2⟩
def kill(is:O Nat)(ρ:Ev):Ev:=is.foldl (λρ i=>ρ.set i U) ρ
theorem bF.kill{K:B4}{H0 H:Hp}{σ:L2.St}:∀(is:O Nat) {ρ:Ev},bF K H0 H σ ρ->bF K H0 H σ (P1.kill is ρ)
 |[],_,E=>E
 |i::is,_,E=>bF.kill is (E.aho i)
def jk(is:O Nat):Ev->Y As:=λρ=>Z (.nx (kill is ρ))
theorem XH{c:O AB}(is:O Nat)(h:Ue X c g):Ue X c (aO g (jk is)):=GS h λD σ H q=>by
 obtain⟨H0,ρ,r,E,e,q⟩:=q;obtain⟨a,e1,e⟩:=AT e;refine⟨H0,ρ,a,E,e1,?_⟩;cases a with
 |nx f=>cases e;exact λσ' H' d=>q σ' H' (d.kill is)
 |rt b=>cases e;exact q
 |bk b=>cases e;exact q
 |ct b=>cases e;exact q
theorem cZ{a:O AB}(is:O Nat)(h:Ut X a g):Ut X a (aO g (jk is)):=⟨XH is h.run⟩
end P1
namespace S1
section
variable(rk:A0->Nat)
def at_(xs:Array Keyed)(i:Nat):Nat:=match xs[i]? with
 |some p=>rk p.1
 |none=>0
def Up(xs:Array Keyed)(k:Nat):Prop:=∀i j,i<=j->j<k->at_ rk xs i<=at_ rk xs j
def CS(xs:Array Keyed)(k:Nat):Prop:=∀i j,i<=j->j<k->at_ rk xs j<=at_ rk xs i
structure Bs (kd:SortKind) (b:Array Keyed) (st:SortSt):Prop where
 pm:(arrOf st).Perm b
 kd:kindOf st=kd
 fl:failedOf st=none
 pd:pendingOf st=#[]
variable{rk}{b:Array Keyed}
theorem Bs.sz{st:SortSt}(h:Bs kd b st):(AM st).size=b.size:=h.pm.size_eq
theorem Bs.arr{st:SortSt}{xs:Array Keyed}(h:Bs kd b st)(hp:xs.Perm (AM st)):Bs kd b (PyProof.Rows.setArr st xs):=⟨hp.trans h.pm,h.kd,h.fl,h.pd⟩
theorem tO{xs ys:Array Keyed}(h:xs[i]?=ys[j]?):at_ rk xs i=at_ rk ys j:=by unfold at_;rw[h]
theorem XJ{xs:Array Keyed}{p d:Nat}(hs:p<xs.size)(a:d<=p)(k:Nat):at_ rk (bubble xs p d) k=if k=p-d then at_ rk xs p else if p-d<k/\k<=p then at_ rk xs (k-1)else at_ rk xs k:=by
 have e:=getElem?_bubble hs d a k;by_cases q:k=p-d
 ·simp only[zt q]at e ⊢;exact tO e
 ·simp only[ZA q]at e ⊢;by_cases q2:p-d<k/\k<=p
  ·simp only[zt q2]at e ⊢;exact tO e
  ·simp only[ZA q2]at e ⊢;exact tO e
theorem Qq{xs:Array Keyed}(a:j<=xs.size)(k:Nat):at_ rk (mirror xs i j ((j-i) / 2)) k=if i<=k/\k<j then at_ rk xs (i+j-1-k)else at_ rk xs k:=by
 have e:=getElem?_mirror_all (i:=i) a k;by_cases q:i<=k/\k<j
 ·simp only[zt q]at e ⊢;exact tO e
 ·simp only[ZA q]at e ⊢;exact tO e
theorem xX{xs:Array Keyed}(a:j<=xs.size)(he:∀k,i<=k->k<j->at_ rk xs k=at_ rk xs (j-1))(k:Nat):at_ rk (mirror xs i j ((j-i) / 2)) k=at_ rk xs k:=by
 rw[Qq a];by_cases q:i<=k/\k<j
 ·rw[zt q,he (i+j-1-k) () (),he k q.1 q.2]
 ·rw[ZA q]
end
section
variable{b:Array Keyed}
def U3(prog:A3)(w:A4)(A:A5)(s:A2)(kd:SortKind)(rk:A0->Nat)(b:Array Keyed):Prop:=
 ∀(E:BA) (p q:Keyed) (Q:Bool->A2->Prop),p∈b.toList->q∈b.toList->Q (decide (rk p.1<rk q.1)) s->A7 (A8 prog w) A (keyLt' kd p.1 q.1) Q E s
theorem Mx{st:SortSt}{Q:Y Bool->SortSt->Prop}(d:U3 prog w A s kd rk b)(B:Bs kd b st)(hi:i<b.size)(c:j<b.size)(h:Q (Z (decide (at_ rk (AM st) i<at_ rk (AM st) j))) st):wpS (A8 prog w) A E s (ltAt' i j) Q st:=by
 have get:∀k,k<b.size->∃p,(AM st)[k]?=Z p/\p∈b.toList:=λk hk=>by
  have a:k<(AM st).size:=by rw[B.sz];exact hk
  exact⟨(AM st)[k],getElem?_pos _ k a,(dz.mp B.pm).mem_iff.mp (by simp)⟩
 obtain⟨p,e1,e⟩:=get i hi;obtain⟨q,e2,m2⟩:=get j c;have h:Q (Z (decide (rk p.1<rk q.1))) st:=by unfold at_ at h;rw[e1,e2]at h;exact h
 rw[ltAt'_eq];refine AL (wpS_get ?_);show wpS _ _ _ _ (elem' (AM st) i >>= λx=>elem' (AM st) j >>= λy=>lt' x y) Q st;rw[elem'_eq,elem'_eq,e1,e2];refine AL (wpS_pure ?_);refine AL (wpS_pure ?_);rw[lt'_eq];refine AL (wpS_get ?_);rw[B.kd];exact AL (wpS_lift (kU (d _ p q _ e m2 ⟨rfl,wpS_pure h⟩)))
theorem ME{st:SortSt}{a:Nat}{Q:AscSt->SortSt->Prop}(f:U3 prog w A s kd rk b)(o:n<=b.size)(v:1<=a)(l:a<=n)(B:Bs kd b st)(hs:Up rk (AM st) a)(h:∀m,a<=m->m<=n->Up rk (AM st) m->(m=n\/at_ rk (AM st) m<at_ rk (AM st) (m-1))->Q (U,m) st):wpS (A8 prog w) A E s (ascLoop a n) Q st:=by
 unfold ascLoop;refine wpS_forRange (I:=λx c t=>t=st/\c=(U,x)/\Up rk (AM st) x) ?_ ?_ ⟨rfl,rfl,hs⟩
 ·rintro x c t g p ⟨rfl,rfl,d⟩;refine AL (Mx f B () () ?_);by_cases q:at_ rk (AM t) x<at_ rk (AM t) (x-1)
  ·simp only[q,y8,jb];exact wpS_pure (h x g () d (.inr q))
  ·simp only[q,Kt,zS,qr];refine wpS_pure ⟨rfl,rfl,λi j k u=>?_⟩;by_cases hx:j<x
   ·exact d i j k hx
   ·have e:j=x:=by omega
    subst e;by_cases hi:i=j
    ·rw[hi];exact zl _
    ·have:=d i (j-1) () ();omega
 ·rintro c t ⟨rfl,rfl,d⟩;rw[show max a n=n by omega]at d ⊢;exact h n l (zl _) d (.inl S)
theorem Mz{st:SortSt}{Q:Y Nat->SortSt->Prop}(e:U3 prog w A s kd rk b)(d:n<=b.size)(h1:1<=m)(g:m<=n)(B:Bs kd b st)(hs:CS rk (AM st) m)(h:∀k t,Bs kd b t->1<=k->k<=n->Up rk (AM t) k->Q (Z k) t):wpS (A8 prog w) A E s (tail3 m n) Q st:=by
 unfold tail3;have a:m<=(AM st).size:=by rw[B.sz];omega
 refine AL (wpS_reverse ?_);have c:Bs kd b (PyProof.Rows.setArr st (mirror (AM st) 0 m ((m-0) / 2))):=B.arr (mirror_perm _ _ _ _);refine AL (ME e d h1 g c (λi j q p=>?_) λk o f l _=>wpS_pure (h k _ c () f l));show at_ rk (mirror (AM st) 0 m ((m-0) / 2)) i<=at_ rk (mirror (AM st) 0 m ((m-0) / 2)) j;rw[Qq a,Qq a,zt ⟨by omega,by omega⟩,zt ⟨by omega,by omega⟩];exact hs _ _ () ()
theorem To{st:SortSt}{Q:DescSt->SortSt->Prop}(g:U3 prog w A s kd rk b)(z:n<=b.size)(h1:1<=m)(o:m<=n)(B:Bs kd b st)(hs:CS rk (AM st) m)(h:∀k e t,Bs kd b t->m<=k->k<=n->CS rk (AM t) k->e+1<=k->(∀i,k-(e+1)<=i->i<k->at_ rk (AM t) i=at_ rk (AM t) (k-1))->Q (U,k,e) t):wpS (A8 prog w) A E s (descLoop m n) Q st:=by
 unfold descLoop;refine wpS_forRange (I:=λx c t=>∃e,c=(U,x,e)/\Bs kd b t/\CS rk (AM t) x/\e+1<=x/\∀i,x-(e+1)<=i->i<x->at_ rk (AM t) i=at_ rk (AM t) (x-1)) ?_ ?_ ⟨0,rfl,B,hs,by omega,λi q1 q2=>by rw[show i=m-1 by omega]⟩
 ·rintro x c t p C ⟨e,rfl,a,dn,f,d⟩;have v:x<=(AM t).size:=by rw[a.sz];omega
  have grow:∀xs:Array Keyed,(∀k,at_ rk xs k=at_ rk (AM t) k)->at_ rk (AM t) x<=at_ rk (AM t) (x-1)->CS rk xs (x+1):=λxs hk G i j u D=>by
   rw[hk,hk];by_cases hx:j<x
   ·exact dn i j u hx
   ·have y:j=x:=by omega
    subst y;by_cases hi:i=j
    ·rw[hi];exact zl _
    ·have:=dn i (j-1) () ();omega
  dsimp only;refine AL (Mx g a () () ?_);by_cases q:at_ rk (AM t) x<at_ rk (AM t) (x-1)
  ·simp only[q,y8,jb];by_cases l:e>0
   ·rw[zt l];exact AL (wpS_reverse (wpS_pure ⟨0,rfl,a.arr (mirror_perm _ _ _ _),grow _ (xX v d) (),by omega,λi q1 q2=>by rw[show i=x by omega];rfl⟩))
   ·rw[ZA l];exact wpS_pure ⟨0,rfl,a,grow _ (λ_=>S) (),by omega,λi q1 q2=>by rw[show i=x by omega];rfl⟩
  ·simp only[q,Kt,zS,qr];refine AL (Mx g a () () ?_);by_cases q2:at_ rk (AM t) (x-1)<at_ rk (AM t) x
   ·simp only[q2,y8,jb];exact wpS_pure (h x e t a p () dn f d)
   ·simp only[q2,Kt,zS,qr];refine wpS_pure ⟨e+1,rfl,a,grow _ (λ_=>S) (),by omega,λi q3 F=>?_⟩;rw[show x+1-1=x by omega];by_cases hi:i=x
    ·rw[hi]
    ·rw[d i () ()];omega
 ·rintro c t ⟨e,rfl,a,dn,f,d⟩;rw[show max m n=n by omega]at dn f d ⊢;exact h n e t a o (zl _) dn f d
theorem MQ{st:SortSt}{Q:Y Nat->SortSt->Prop}(c:U3 prog w A s kd rk b)(a:n<=b.size)(p:m+1<=n)(B:Bs kd b st)(hs:CS rk (AM st) (m+1))(h:∀k t,Bs kd b t->1<=k->k<=n->Up rk (AM t) k->Q (Z k) t):wpS (A8 prog w) A E s (descPart m n) Q st:=by
 unfold descPart;refine AL (wpS_lift (kB ⟨rfl,?_⟩));refine AL (To c a () p B hs λk e t d v f dn x l=>?_);have g:k<=(AM t).size:=by rw[d.sz];omega
 by_cases o:e>0
 ·simp only[zt o];refine AL (wpS_reverse (Mz c a () f (d.arr (mirror_perm _ _ _ _)) (λi j u q=>?_) h));show at_ rk (mirror (AM t) _ _ _) j<=at_ rk (mirror (AM t) _ _ _) i;rw[xX g l,xX g l];exact dn i j u q
 ·simp only[ZA o];exact Mz c a () f d dn h
theorem UQ{st:SortSt}{Q:Y Nat->SortSt->Prop}(a:U3 prog w A s kd rk b)(d:n<=b.size)(h1:1<=n)(B:Bs kd b st)(h:∀k t,Bs kd b t->1<=k->k<=n->Up rk (AM t) k->Q (Z k) t):wpS (A8 prog w) A E s (countRun' 0 n) Q st:=by
 rw[countRun0_eq];refine AL (ME a d (zl 1) h1 B (λi j g f=>by rw[show i=j by omega];exact zl _) λm o m2 c or=>?_);by_cases e:m=n
 ·simp only[zt (show(m==n)=true by simpa using e)];exact wpS_pure (h m st B o m2 c)
 ·simp only[ZA (show ¬ (m==n)=true by simpa using e)];have lt:=or.resolve_left e;have l:m<=(AM st).size:=by rw[B.sz];omega
  by_cases g1:m>1
  ·rw[zt g1];refine AL (Mx a B () () ?_);by_cases q:at_ rk (AM st) 0<at_ rk (AM st) (m-1)
   ·simp only[q,y8,jb];exact wpS_pure (h m st B o m2 c)
   ·simp only[q,Kt,zS,qr];have all:∀k,0<=k->k<m->at_ rk (AM st) k=at_ rk (AM st) (m-1):=λk _ hk=>by
     have a1:=c 0 k () hk;have a2:=c k (m-1) () ();omega
    refine AL (wpS_reverse (MQ a d () (B.arr (mirror_perm _ _ _ _)) (λi j g f=>?_) h));show at_ rk (mirror (AM st) _ _ _) j<=at_ rk (mirror (AM st) _ _ _) i;rw[xX l all,xX l all];by_cases p:j<m
    ·rw[all i () (),all j () p];exact zl _
    ·have u:j=m:=by omega
     subst u;by_cases hi:i=j
     ·rw[hi];exact zl _
     ·rw[all i () ()];omega
  ·rw[ZA g1];have e1:m=1:=by omega
   subst e1;refine MQ a d () B (λi j g f=>?_) h;by_cases hi:i=j
   ·rw[hi];exact zl _
   ·rw[show i=0 by omega,show j=1 by omega];exact Q1 lt
theorem L9{st:SortSt}{g:Nat}{Q:Bool->SortSt->Prop}(v:U3 prog w A s kd rk b)(G:n<=b.size)(L:g<=n)(B:Bs kd b st)(hs:Up rk (AM st) g)(h:∀t,Bs kd b t->Up rk (AM t) n->Q true t):wpS (A8 prog w) A E s (binarySort' 0 n g) Q st:=by
 rw[binarySort'_eq];simp only[ip];refine AL (wpS_mono (wpS_forRange (I:=λk c t=>c=(U,io)/\Bs kd b t/\Up rk (AM t) (min k n)) (Q:=λc t=>c=(U,io)/\Bs kd b t/\Up rk (AM t) n) ?_ ?_ ?_) ?_)
 ·rintro k c t K H ⟨rfl,f,d⟩;rw[show min k n=k by omega]at d;have hk:k<b.size:=by omega
  refine AL (wpS_mono (wpS_forRange (I:=λx c a=>a=t/\∃l r,c=(U,l,r)/\l<=r/\r<=k/\r-l<=k-x/\(∀i,i<l->at_ rk (AM t) i<=at_ rk (AM t) k)/\(∀i,r<=i->i<k->at_ rk (AM t) k<at_ rk (AM t) i))
   (Q:=λc a=>a=t/\∃l r,c=(U,l,r)/\l<=k/\(∀i,i<l->at_ rk (AM t) i<=at_ rk (AM t) k)/\(∀i,l<=i->i<k->at_ rk (AM t) k<at_ rk (AM t) i)) ?_ ?_ ?_) ?_)
  ·rintro x c a _ hx ⟨rfl,l,r,rfl,y,m,C,lo,hi⟩;dsimp only;by_cases o:l>=r
   ·rw[zt o];have e:l=r:=by omega
    subst e;exact wpS_pure ⟨rfl,l,l,rfl,m,lo,hi⟩
   ·rw[ZA o];refine AL (Mx v f hk () ?_);by_cases q:at_ rk (AM a) k<at_ rk (AM a) ((l+r) / 2)
    ·simp only[q,y8,jb];refine wpS_pure ⟨rfl,l,(l+r) / 2,rfl,by omega,by omega,by omega,lo,λi q1 q2=>?_⟩;have:=d ((l+r) / 2) i q1 q2;omega
    ·simp only[q,Kt,zS,qr];refine wpS_pure ⟨rfl,(l+r) / 2+1,r,rfl,by omega,by omega,by omega,λi q1=>?_,hi⟩;have:=d i ((l+r) / 2) () ();omega
  ·rintro c a ⟨rfl,l,r,rfl,y,m,C,lo,hi⟩;have e:l=r:=by omega
   subst e;exact⟨rfl,l,l,rfl,m,lo,hi⟩
  ·exact⟨rfl,0,k,rfl,by omega,by omega,by omega,λi hi=>by omega,λi q1 q2=>by omega⟩
  ·rintro c a ⟨rfl,l,r,rfl,J,lo,hi⟩;show wpS _ _ _ _ (moveDown' k l >>= λ_=>pure (ForInStep.yield (U,io))) _ _;rw[moveDown'_eq];refine AL (wpS_modify (wpS_pure ⟨rfl,f.arr (bubble_perm _ _ _),?_⟩));rw[show min (k+1) n=k+1 by omega];have u:k<(AM a).size:=by rw[f.sz];exact hk
   intro i j p F;show at_ rk (bubble (AM a) k (k-l)) i<=at_ rk (bubble (AM a) k (k-l)) j;rw[XJ u (),XJ u (),show k-(k-l)=l by omega]
   repeat' split
   all_goals first
    |(exfalso;omega)
    |exact zl _
    |exact lo _ ()
    |exact Q1 (hi _ () ())
    |exact d _ _ () ()
 ·rintro c t ⟨D,f,d⟩;refine⟨D,f,?_⟩;rwa [show min (max (max g 1) n) n=n by omega]at d
 ·refine⟨rfl,B,λi j p F=>?_⟩;by_cases z:g=0
  ·rw[show i=j by omega];exact zl _
  ·exact hs i j p ()
 ·rintro c t ⟨rfl,f,d⟩;exact wpS_pure (h t f d)
def Dn(kd:SortKind)(rk:A0->Nat)(b:Array Keyed)(st:SortSt):Prop:=(AM st).Perm b/\failedOf st=U/\pendingOf st=#[(0,b.size,0)]/\Up rk (AM st) b.size
theorem Bs.dn{st:SortSt}(B:Bs kd b st)(a:Up rk (AM st) b.size):Dn kd rk b (setPending st ((pendingOf st).push (0,b.size,0))):=⟨B.pm,B.fl,(by show(pendingOf st).push _=_;rw[B.pd];rfl),a⟩
theorem Hm{st:SortSt}{Q:Unit->SortSt->Prop}(g:U3 prog w A s kd rk b)(B:Bs kd b st)(h2:2<=b.size)(l:b.size<64)
  (h:∀t,(AM t).Perm b->failedOf t=U->Up rk (AM t) b.size->Q io t):wpS (A8 prog w) A E s sortRuns' Q st:=by
 rw[sortRuns'_eq];refine AL (wpS_get ?_);have v:minRun' b.size b.size 0=b.size:=by
  obtain⟨f,k⟩:∃f,b.size=f+1:=⟨b.size-1,by omega⟩;have q:minRun' (f+1) b.size 0=b.size:=(minRun'_succ f b.size 0).trans (zt l);rwa [<-k]at q
 simp only[B.sz,v];have j:∀{t:SortSt},Bs kd b t->(pendingOf t).back?=U:=λB=>by rw[B.pd];rfl
 refine AL (wpS_mono (wpS_forRange (I:=λx c t=>(x=0/\c=(U,0)/\Bs kd b t)\/(1<=x/\c=(U,b.size)/\Dn kd rk b t)) (Q:=λc t=>c=(U,b.size)/\Dn kd rk b t) ?_ ?_ (.inl ⟨rfl,rfl,B⟩)) ?_)
 ·rintro x c t _ hx (⟨rfl,rfl,p⟩|⟨y,rfl,D⟩)
  ·dsimp only;rw[ZA ()];simp only[Nat.sub_zero,il,ip];refine AL (UQ g (zl _) () p λm t2 a z m2 d=>?_);dsimp only;by_cases lt:m<b.size
   ·rw[zt lt];refine AL (wpS_lift (kB ⟨rfl,AL (L9 g (zl _) m2 a d λtq i n=>?_)⟩));simp only[hL,zS,qr];refine AL (wpS_get ?_);rw[j i];exact AL (wpS_modify (wpS_pure (.inr ⟨by omega,rfl,i.dn n⟩)))
   ·rw[ZA lt];have e:m=b.size:=by omega
    subst e;refine AL (wpS_get ?_);rw[j a];exact AL (wpS_modify (wpS_pure (.inr ⟨by omega,rfl,a.dn d⟩)))
  ·dsimp only;rw[zt (zl _)];exact wpS_pure ⟨rfl,D⟩
 ·rintro c t (⟨hx,_,_⟩|⟨_,o,D⟩)
  ·omega
  ·exact⟨o,D⟩
 ·rintro c t ⟨rfl,D⟩;dsimp only;refine AL (wpS_mono (wpS_forRange (I:=λ_ c u=>u=t/\c=(U,io)) (Q:=λc u=>u=t/\c=(U,io)) ?_ (λ_ _ q=>q) ⟨rfl,rfl⟩) ?_)
  ·rintro x c u _ _ ⟨rfl,rfl⟩;refine AL (wpS_get ?_);rw[zt (by rw[D.2.2.1];exact zl 1)];exact wpS_pure ⟨rfl,rfl⟩
  ·rintro c u ⟨rfl,rfl⟩;exact wpS_pure (h _ D.1 D.2.1 D.2.2.2)
def Rn(prog:A3)(w:A4)(A:A5)(kd:SortKind)(rk:A0->Nat)(b:Array Keyed):Prop:=∀(E:BA) (s:A2) (st:SortSt) (Q:Unit->SortSt->Prop),U3 prog w A s kd rk b->Bs kd b st->2<=b.size →
 (∀t,(AM t).Perm b->failedOf t=U->Up rk (AM t) b.size->Q io t)->wpS (A8 prog w) A E s sortRuns' Q st
theorem TC(h:b.size<64):Rn prog w A kd rk b:=λ_ _ _ _ a B h2 q=>Hm a B h2 h q
def FK(a:A1)(s s':A2):Prop:=∀c o,c≠a->s.heap.get? c=Z o->s'.heap.get? c=Z o
theorem bp{vs:O A0}{P:Fin->A2->Prop}(f:s.heap.get? a=Z (seqObj "list" vs.toArray n))(u:2<=vs.length->∀s',FK a s s'->∀Q:SortKind->A2->Prop,Q kd s'->A7 (A8 prog w) A (keyKind' vs.toArray) Q E s')(m:∀s',FK a s s'->U3 prog w A s' kd rk (pairsOf vs))(v:vs.length<=AA)(x:Rn prog w A kd rk (pairsOf vs))(h:∀st:SortSt,(AM st).Perm (pairsOf vs)->Up rk (AM st) (pairsOf vs).size->P (.done (.ret .none)) { s with heap:=sortedHeap s.heap a vs ((AM st).map (·.2)) }):
  A7 (A8 prog w) A (Builtin.«list.sort» ⟨[.ref a],[]⟩) P E s:=by
 rw[list_sort_plain];have y:=zw f;refine zb (listItems_at f S (zb (listUpdate_at f S ?_)));obtain⟨e1,g1⟩:∃e1,(s.heap.update a (Obj.mapSeq λ_=>#[])).get? a=Z (seqObj "list" #[] e1):=⟨_,get?_update_seq f λ_=>#[]⟩;refine zb (seqEpoch_at g1 S (zb (wpAny_newTuple (zb (Y2 (qq ?_))))));have z1:(s.heap.update a (Obj.mapSeq λ_=>#[])).objs.size=s.heap.objs.size:=mr ..;have keep:∀c,c<s.heap.objs.size->(((s.heap.update a (Obj.mapSeq λ_=>#[])).push (seqObj "tuple" vs.toArray 0)).push (seqObj "list" #[] 0)).get? c=(s.heap.update a (Obj.mapSeq λ_=>#[])).get? c:=λc b=>by
  rw[l6 _ _ _ (by rw[size_push',z1];exact ZE (qA b)),l6 _ _ _ (by rw[z1];exact ZE b)]
 have d:=(keep a y).trans g1;have old:FK a s { s with heap:=((s.heap.update a (Obj.mapSeq λ_=>#[])).push (seqObj "tuple" vs.toArray 0)).push (seqObj "list" #[] 0) }:=λc o b e=>by
  show(((s.heap.update a (Obj.mapSeq λ_=>#[])).push (seqObj "tuple" vs.toArray 0)).push (seqObj "list" #[] 0)).get? c=Z o;rw[keep c (zw e),KF _ _ _ _ b];exact e
 show A7 _ _ _ _ _ { s with heap:=((s.heap.update a (Obj.mapSeq λ_=>#[])).push (seqObj "tuple" vs.toArray 0)).push (seqObj "list" #[] 0) };have z:vs.toArray.size=vs.length:=by simp
 have g:∀st:SortSt,(AM st).Perm (pairsOf vs)->((AM st).map (·.2)).size<=AA+1:=λst hp=>by
  have q:((AM st).map (·.2)).size=vs.length:=(Array.size_map ..).trans (hp.size_eq.trans (pairsOf_size _));rw[q];exact l7 v
 by_cases h2:vs.toArray.size<2
 ·simp only[zt h2];refine zb (ze ?_);rw[StateT.run_pure];refine zb (ze (zb (seqEpoch_at d S (zb (listUpdate_at d S ?_ (hsz2:=g (SortSt.mk' general' (pairsOf vs) #[] 7 U) (Array.Perm.refl _)))))));simp only[bne_self_eq_false,zS,qr];refine ze (h (SortSt.mk' general' (pairsOf vs) #[] 7 U) (Array.Perm.refl _) λi j B p=>?_);rw[pairsOf_size]at p;rw[show i=j by omega];exact zl _
 ·simp only[ZA h2];refine zb (u () _ old _ ?_);refine zb (ZY (x _ _ (SortSt.mk' kd (pairsOf vs) #[] 7 U) (λ_ t=>(AM t).Perm (pairsOf vs)/\failedOf t=U/\Up rk (AM t) (pairsOf vs).size) (m _ old) ⟨Array.Perm.refl _,rfl,rfl,rfl⟩ (by rw[pairsOf_size];omega) λt q1 q2 q3=>⟨q1,q2,q3⟩) ?_ λ_ _ q=>q);rintro⟨⟨⟩,t⟩ s' ⟨rfl,hp,k,l⟩;dsimp only;refine zb (seqEpoch_at d S (zb (listUpdate_at d S ?_ (hsz2:=g t hp))));rw[k];simp only[bne_self_eq_false,zS,qr];exact ze (h t hp l)
theorem Qs{x:A0}{vs:O A0}{Q:BA}(i:∀(b:BA) (Q':O A0->A2->Prop),(∀h' tk,s.heap.objs.size<=h'.objs.size->(∀c o,s.heap.get? c=Z o->h'.get? c=Z o)->Q' vs { s with heap:=h',toks:=tk })->A7 (A8 prog w) A.in1 (collect x) Q' b s)
  (p:2<=vs.length->∀(b:BA) (a:A5) (s':A2),(∀c o,s.heap.get? c=Z o->s'.heap.get? c=Z o)->∀Q:SortKind->A2->Prop,Q kd s'->A7 (A8 prog w) a (keyKind' vs.toArray) Q b s') (g:∀(a:A5) (s':A2),(∀c o,s.heap.get? c=Z o->s'.heap.get? c=Z o)->U3 prog w a s' kd rk (pairsOf vs)) (k:vs.length<=AA) (t:∀a:A5,Rn prog w a kd rk (pairsOf vs))
  (h:∀(l:A1) (h':A6) (tk n:Nat) (st:SortSt),(AM st).Perm (pairsOf vs)->Up rk (AM st) (pairsOf vs).size->s.heap.objs.size<=l->(∀c o,s.heap.get? c=Z o->h'.get? c=Z o)->h'.get? l=Z (seqObj "list" ((AM st).map (·.2)) n)->Q (.ref l) { s with heap:=h',toks:=tk }):
  A7 (A8 prog w) A (call (.builtin "sorted") [x]) Q E s:=by
 refine YY kind_sorted plain_sorted entry_sorted (args_sorted1 _) ?_;unfold Builtin.«sorted»;refine zb (m:=checkCount "sorted" 1 1 _) (ze (zb (i _ _ λh1 tk j ext=>zb (Y2 ?_))));have d:(h1.push (seqObj "list" vs.toArray 0)).get? h1.objs.size=Z (seqObj "list" vs.toArray 0):=zr _ rfl;have old:∀s':A2,FK h1.objs.size { s with heap:=h1.push (seqObj "list" vs.toArray 0),toks:=tk } s'->∀c o,s.heap.get? c=Z o->s'.heap.get? c=Z o:=λs' q c o e=>
  q c o (ZE (zw (ext c o e))) (zd _ (ext c o e))
 refine zb (qq (Qb slot_list_sort ⟨_,d,rfl⟩ entry_list_sort (bp d (λq s' o=>p q _ _ s' (old s' o)) (λs' o=>g _ s' (old s' o)) k (t _) λst q1 q2=>⟨_,rfl,ze ⟨_,rfl,?_⟩⟩) (args_list_sort _)));obtain⟨n,en⟩:=sortedHeap_at (out:=(AM st).map (·.2)) d;refine h h1.objs.size _ tk n st q1 q2 j (λc o e=>?_) en;have f:=zw (ext c o e);rw[sortedHeap_old (ZE f) (by rw[qk];exact qA f)];exact zd _ (ext c o e)
theorem U4{x:A0}{vs:O A0}{Q:BA}(f:∀(b:BA) (Q':O A0->A2->Prop),(∀h' tk,s.heap.objs.size<=h'.objs.size->(∀c o,s.heap.get? c=Z o->h'.get? c=Z o)->Q' vs { s with heap:=h',toks:=tk })->A7 (A8 prog w) A.in1 (collect x) Q' b s)
  (g:2<=vs.length->∀(b:BA) (a:A5) (s':A2),(∀c o,s.heap.get? c=Z o->s'.heap.get? c=Z o)->∀Q:SortKind->A2->Prop,Q kd s'->A7 (A8 prog w) a (keyKind' vs.toArray) Q b s') (e:∀(a:A5) (s':A2),(∀c o,s.heap.get? c=Z o->s'.heap.get? c=Z o)->U3 prog w a s' kd rk (pairsOf vs)) (d:vs.length<64)
  (h:∀(l:A1) (h':A6) (tk n:Nat) (st:SortSt),(AM st).Perm (pairsOf vs)->Up rk (AM st) (pairsOf vs).size->s.heap.objs.size<=l->(∀c o,s.heap.get? c=Z o->h'.get? c=Z o)->h'.get? l=Z (seqObj "list" ((AM st).map (·.2)) n)->Q (.ref l) { s with heap:=h',toks:=tk }):
  A7 (A8 prog w) A (call (.builtin "sorted") [x]) Q E s:=
 Qs f g e (ZH (Q1 d) (by rw[sizeLine_eq];omega)) (λ_=>TC (by rw[pairsOf_size];exact d)) h
end
end S1
namespace S1
open L2
theorem U5(fb:Bool)(x y:A0):keyLt' (tuples' fb) x y=(do
  let xs <-Builtin.List.listItems x
  let ys <-Builtin.List.listItems y
  for ((p,q),i) in (xs.toList.zip ys.toList).zipIdx do
   if !(<-eqBool p q)then return <-oneLt' (fb&&i==0) p q
  return decide (xs.size<ys.size)):=rfl
def U6:AY->AY->Bool
 |.inl a,.inl b=>decide (a<b)
 |.inr x,.inr y=>decide (x.cps.toList<y.cps.toList)
 |.inl _,.inr _=>true
 |.inr _,.inl _=>false
def Sg:AY->AY->Bool
 |.inl _,.inl _=>true
 |.inr _,.inr _=>true
 |_,_=>false
def oh:O AY->O AY->Bool
 |[],[]=>false
 |[],_::_=>true
 |_::_,[]=>false
 |x::xs,y::ys=>if x=y then oh xs ys else U6 x y
def D0:O AY->O AY->Prop
 |x::xs,y::ys=>Sg x y=true/\D0 xs ys
 |_,_=>True
theorem EF{x y:AY}{p q:A0}{Q:Bool->A2->Prop}(hp:j7 x p=true)(c:j7 y q=true)(h:Q (decide (x=y)) s):A7 (A8 prog w) A (eqBool p q) Q E s:=
 (eG prog w).eqBool (a:=x) (b:=y) hp c h
theorem WZ{fb:Bool}{x y:AY}{p q:A0}{Q:Bool->A2->Prop}(hs:Sg x y=true)(hp:j7 x p=true)(a:j7 y q=true)(h:Q (U6 x y) s):A7 (A8 prog w) A (oneLt' fb p q) Q E s:=by
 rcases bW hp with⟨i,t,rfl,rfl⟩|⟨z,t,rfl,rfl⟩
 ·rcases bW a with⟨j,u,rfl,rfl⟩|⟨z,u,rfl,rfl⟩
  ·cases fb with
   |true=>exact oneLt_int h
   |false=>
    rw[oneLt'_eq];simp only[zS,qr];refine zb (show A7 _ _ (AG .Lt (.int i t) (.int j u)) _ _ _ from lt_int ?_);exact j0 h
  ·cases hs
 ·rcases bW a with⟨j,u,rfl,rfl⟩|⟨b,u,rfl,rfl⟩
  ·cases hs
  ·cases fb with
   |true=>exact oneLt_str h
   |false=>
    rw[oneLt'_eq];simp only[zS,qr];refine zb (show A7 _ _ (AG .Lt (.str z t) (.str b u)) _ _ _ from PySem.P.lt_str ?_);exact j0 h
def Ks(ks:O AY)(AQ:O A0):Prop:=AI (λk v=>j7 k v=true) ks AQ
def DE:O AY->O AY->Y Bool
 |x::xs,y::ys=>if x=y then DE xs ys else Z (U6 x y)
 |_,_=>U
theorem XM:∀ks a:O AY,oh ks a=match DE ks a with|some r=>r|none=>decide (ks.length<a.length)
 |[],[]=>rfl
 |[],_::_=>by simp[oh,DE]
 |_::_,[]=>rfl
 |x::xs,y::ys=>by
  simp only[oh,DE];by_cases e:x=y
  ·rw[zt e,zt e,XM xs ys];simp only[Qr,Nat.add_lt_add_iff_right]
  ·rw[ZA e,ZA e]
def turn(fb:Bool):(A0×A0)×Nat->Y Bool×Unit->Sem (ForInStep (Y Bool×Unit)):=λx _=>match x with
 |((p,q),i)=>do
  let e <-eqBool p q
  if(!e)=true then do
    let r <-oneLt' (fb&&i==0) p q
    pure (ForInStep.done (Z r,io))
   else pure (ForInStep.yield (U,io))
theorem L5(fb:Bool):∀(ks b:O AY) (AQ a:O A0) (i:Nat) (R:Y Bool×Unit->A2->Prop),Ks ks AQ->Ks b a->D0 ks b->R (DE ks b,io) s->A7 (A8 prog w) A (forIn ((AQ.zip a).zipIdx i) ((U,io):Y Bool×Unit) (turn fb)) R E s:=by
 intro ks
 induction ks with
 |nil=>intro b AQ a i R h _ _ h1;cases h;exact ze h1
 |cons x xs f=>
  intro b AQ a i R h h' c h1;cases h with
  |@cons _ p _ AQ hp hk=>
   cases h' with
   |nil=>exact ze h1
   |@cons y q ys a d g=>
    rw[YU,List.zipIdx_cons,List.forIn_cons];refine zb ?_;show A7 _ _ (eqBool p q >>= _) _ _ _;refine zb (EF hp d ?_);by_cases e:x=y
    ·simp only[e,y8,hL,zS,qr];refine ze (f ys AQ a (i+1) R hk g c.2 ?_);simp only[DE,zt e]at h1;exact h1
    ·simp only[e,Kt,YN,jb];refine zb (WZ c.1 hp d (ze (ze ?_)));simp only[DE,ZA e]at h1;exact h1
theorem T2{fb:Bool}{c:A1}{g f:AE}{d:O A0}{b:O AY}{Q:Bool->A2->Prop}(q:s.heap.get? a=Z g)(p:g.data=.seq AQ.toArray n)(o:s.heap.get? c=Z f)(k:f.data=.seq d.toArray m)(hk:Ks ks AQ)(i:Ks b d)(hs:D0 ks b)(h:Q (oh ks b) s):A7 (A8 prog w) A (keyLt' (tuples' fb) (.ref a) (.ref c)) Q E s:=by
 rw[U5];refine zb (listItems_at q p (zb (listItems_at o k ?_)));have l:AQ.length=ks.length:=(Paired.length hk).symm;have j:d.length=b.length:=(Paired.length i).symm;refine zb (L5 fb ks b AQ d 0 _ hk i hs ?_);rw[XM]at h;cases e:DE ks b with
 |some r=>rw[e]at h;exact ze h
 |none=>
  rw[e]at h;refine ze ?_;simpa[l,j]using h
theorem dS(x:AY):U6 x x=false:=by
 cases x with
 |inl a=>simp[U6]
 |inr a=>simp[U6]
theorem U7{x y z:AY}(h:U6 x y=true)(h':U6 y z=true):U6 x z=true:=by
 cases x<;>cases y<;>cases z<;>simp only[U6,QA,zS,reduceCtorEq]at h h' ⊢
 ·omega
 ·exact List.lt_trans h h'
theorem T1{x y:AY}(h:U6 x y=false)(h':U6 y x=false):x=y:=by
 cases x<;>cases y<;>simp only[U6,ke,Bool.true_eq_false,reduceCtorEq]at h h'
 ·congr 1;omega
 ·rename_i a b;have:=mm (as:=a.cps.toList) (bs:=b.cps.toList) h' h;cases a;cases b;simp only at this;rw[mn.mp this]
theorem CQ:∀xs:O AY,oh xs xs=false
 |[]=>rfl
 |x::xs=>by simp only[oh,jb];exact CQ xs
theorem ou:∀{xs ys zs:O AY},oh xs ys=true->oh ys zs=true->oh xs zs=true
 |[],[],_,h,_=>by cases h
 |[],_::_,[],_,h'=>by cases h'
 |[],_::_,_::_,_,_=>rfl
 |_::_,[],_,h,_=>by cases h
 |_::_,_::_,[],_,h'=>by cases h'
 |x::xs,y::ys,z::zs,h,h'=>by
  simp only[oh]at h h' ⊢;by_cases e1:x=y
  ·subst e1;rw[zt rfl]at h;by_cases e2:x=z
   ·subst e2;rw[zt rfl]at h' ⊢;exact ou h h'
   ·rw[ZA e2]at h' ⊢;exact h'
  ·rw[ZA e1]at h;by_cases e2:y=z
   ·subst e2;rw[ZA e1];exact h
   ·rw[ZA e2]at h';have:=U7 h h';rw[ZA (λe=>by subst e;rw[dS]at this;cases this)];exact this
theorem xY:∀{xs ys:O AY},oh xs ys=false->oh ys xs=false->xs=ys
 |[],[],_,_=>rfl
 |[],_::_,h,_=>by cases h
 |_::_,[],_,h'=>by cases h'
 |x::xs,y::ys,h,h'=>by
  simp only[oh]at h h';by_cases e:x=y
  ·subst e;rw[zt rfl]at h h';rw[xY h h']
  ·rw[ZA e]at h;rw[ZA (Q2 e)]at h';exact absurd (T1 h h') e
def wG(xs ys:O AY):Bool:=!oh ys xs
theorem CT(a b c:O AY)(h:wG a b=true)(h':wG b c=true):wG a c=true:=by
 unfold wG at *
 simp only[Jn]at *
 cases f:oh c a with
 |false=>rfl
 |true=>
  cases d:oh a b with
  |true=>rw[ou f d]at h';cases h'
  |false=>
   have e:=xY d h;subst e;rw[f]at h';cases h'
theorem CV(a b:O AY):(wG a b||wG b a)=true:=by
 unfold wG;cases h:oh b a with
 |false=>rfl
 |true=>
  cases h':oh a b with
  |false=>rfl
  |true=>have:=ou h h';rw[CQ]at this;cases this
theorem U8{a b:O AY}(h:wG a b=true)(h':wG b a=true):a=b:=by
 unfold wG at *
 simp only[Jn]at *
 exact xY h' h
theorem zY{α:Type}{le:α->α->Prop}(d:∀a b,le a b->le b a->a=b):∀{l c:O α},l.Perm c->l.Pairwise le->c.Pairwise le->l=c
 |[],c,h,_,_=>by rw[List.nil_perm.mp h]
 |a::l,[],h,_,_=>by cases List.perm_nil.mp h
 |a::l,b::c,h,p,p'=>by
  have e:a=b:=by
   have g:a∈b::c:=h.mem_iff.mp (zh ..);have f:b∈a::l:=h.mem_iff.mpr (zh ..);rcases List.mem_cons.mp g with h1|h1
   ·exact h1
   ·rcases List.mem_cons.mp f with h2|h2
    ·exact h2.symm
    ·exact d a b (JS p h2) (JS p' h1)
  subst e;rw[zY d ((List.perm_cons a).mp h) (du.mp p).2 (du.mp p').2]
def wH(d9:O (O AY)):O (O AY):=d9.mergeSort wG
theorem zZ(d9:O (O AY)):(wH d9).Perm d9:=gP ..
theorem MF(d9:O (O AY)):(wH d9).Pairwise (λa b=>wG a b=true):=xm CT CV d9
theorem Ho{out:O (O AY)}(hp:out.Perm d9)(hs:out.Pairwise (λa b=>wG a b=true)):out=wH d9:=zY (λ_ _=>U8) (hp.trans (zZ d9).symm) hs (MF d9)
def Cc(d9:O (O AY))(k:O AY):Nat:=d9.countP λu=>oh u k
theorem Hq{α:Type}{p q:α->Bool}:∀{l:O α},(∀x∈l,p x=true->q x=true)->(∃x∈l,p x=false/\q x=true)->l.countP p<l.countP q
 |[],_,⟨x,hx,_⟩=>by cases hx
 |a::l,h,⟨x,hx,h1,h2⟩=>by
  have le:l.countP p<=l.countP q:=kG λy b=>h y (zi _ b);rw[mu,mu];rcases List.mem_cons.mp hx with rfl|hx
  ·rw[h1,h2];simp;omega
  ·have:=Hq (λy b=>h y (zi _ b)) ⟨x,hx,h1,h2⟩;have c:=h a (zh ..);cases hp:p a with
   |true=>rw[c hp];simp;omega
   |false=>simp;omega
theorem Sh{a b:O AY}(e:a∈d9):decide (Cc d9 a<Cc d9 b)=oh a b:=by
 cases h:oh a b with
 |true=>
  refine qS (Hq (λu _ c=>ou c h) ⟨a,e,CQ a,h⟩)
 |false=>
  refine ZU (dw.mpr (kG λu _ c=>?_));cases d:oh b a with
  |true=>exact ou c d
  |false=>rw[xY h d];exact c
def oW(h:A6)(ks:O AY)(v:A0):Prop:=∃(a:A1) (o:AE) (AQ:O A0) (n:Nat),v=.ref a/\h.get? a=Z o/\o.cls=.type "tuple" ∧ o.data=.seq AQ.toArray n/\Ks ks AQ
theorem oW.keep{h':A6}(q:oW h ks v)(k:∀c o,h.get? c=Z o->h'.get? c=Z o):oW h' ks v:=by
 obtain⟨a,o,AQ,n,e,g,c,d,p⟩:=q;exact⟨a,o,AQ,n,e,k _ _ g,c,d,p⟩
theorem OW{k l:AY}(h:j7 k v=true)(h':j7 l v=true):k=l:=by
 rcases bW h with⟨i,t,rfl,rfl⟩|⟨x,t,rfl,rfl⟩
 ·rcases bW h' with⟨j,u,rfl,e⟩|⟨y,u,rfl,e⟩
  ·cases e;rfl
  ·cases e
 ·rcases bW h' with⟨j,u,rfl,e⟩|⟨y,u,rfl,e⟩
  ·cases e
  ·cases e;rfl
theorem Ks.inj:∀{ks a:O AY} {AQ:O A0},Ks ks AQ->Ks a AQ->ks=a
 |_,_,[],h,h'=>by cases h;cases h';rfl
 |_,_,v::AQ,h,h'=>by
  cases h with
  |cons p t=>cases h' with
   |cons p' t'=>rw[OW p p',Ks.inj t t']
theorem oW.inj{h:A6}{ks f:O AY}{v:A0}(q:oW h ks v)(k:oW h f v):ks=f:=by
 obtain⟨a,o,AQ,n,rfl,g,c,d,p⟩:=q;obtain⟨m,o',j,l,e,b,c',i,p'⟩:=k;cases e;rw[g]at b;cases b;rw[d]at i;injection i with e1 e2;have e3:AQ=j:=by simpa using congrArg lr e1
 subst e3;exact p.inj p'
theorem Sq{f:α->Sem β}:∀(xs:O α) (ys:O β) (Q:O β->A2->Prop),AI (λx y=>∀(a:BA) (Q':β->A2->Prop),Q' y s->A7 (A8 prog w) A (f x) Q' a s) xs ys->Q ys s->A7 (A8 prog w) A (xs.mapM f) Q E s:=by
 intro xs
 induction xs with
 |nil=>intro ys Q p h;cases p;rw[List.mapM_nil];exact ze h
 |cons x xs b=>
  intro ys Q p q;cases p with
  |cons h t=>
   rw[List.mapM_cons];exact zb (h _ _ (zb (b _ _ t (ze q))))
theorem XQ(v:A0):firstOfTuple' v=(do
  if(<-typeOf v) != .type "tuple" then return U
  return (<-Builtin.List.listItems v)[0]?):=rfl
theorem U9{k:AY}(q:oW s.heap (k::ks) v):∃u,j7 k u=true/\∀(b:BA) (Q':Y A0->A2->Prop),Q' (Z u) s->A7 (A8 prog w) A (firstOfTuple' v) Q' b s:=by
 obtain⟨a,o,AQ,n,rfl,g,c,d,p⟩:=q;cases p with
 |@cons _ u _ AQ hp t=>
  refine⟨u,hp,λb Q' h=>?_⟩;rw[XQ];refine zb (jS (T :="tuple") ⟨o,g,c⟩ ?_);rw[ZA ()];exact zb (listItems_at g d (ze h))
theorem XR{k:AY}(h:j7 k u=true)(a:BA)(Q':BA)(q:Q' (.type (if k.isLeft then "int" else "str")) s):A7 (A8 prog w) A (typeOf u) Q' a s:=by
 rcases bW h with⟨i,t,rfl,rfl⟩|⟨x,t,rfl,rfl⟩
 ·exact jS (typeIs_int s i t) q
 ·exact jS (typeIs_str s x t) q
theorem Va{vs:O A0}{Q:SortKind->A2->Prop}(g:AI (oW s.heap) d9 vs)(f:∀k∈d9,k≠[])(B:∀k∈d9,∀l∈d9,D0 k l)(h2:1<=vs.length)(h:Q (tuples' true) s):A7 (A8 prog w) A (keyKind' vs.toArray) Q E s:=by
 have step:∀(d9:O (O AY)) (vs:O A0),AI (oW s.heap) d9 vs->(∀k∈d9,k≠[])->∃us:O A0,AI (λv u=>∀(b:BA) (Q':Y A0->A2->Prop),Q' (Z u) s->A7 (A8 prog w) A (firstOfTuple' v) Q' b s) vs us/\AI (λ(k:O AY) u=>∃x r,k=x::r/\j7 x u=true) d9 us:=by
  intro d9 vs g
  induction g with
  |nil=>intro _;exact⟨[],.nil,.nil⟩
  |@cons k v d9 vs q t c=>
   intro f;obtain⟨us,p1,p2⟩:=c λk hk=>f k (zi _ hk);cases k with
   |nil=>exact absurd S (f _ (zh ..))
   |cons x r=>
    obtain⟨u,d,C⟩:=U9 (prog:=prog) (w:=w) (A:=A) q;exact⟨u::us,.cons C p1,.cons ⟨x,r,rfl,d⟩ p2⟩
 obtain⟨us,p1,p2⟩:=step d9 vs g f;have p:us.length=vs.length:=(Paired.length p1).symm;have y:∀{l:O A0} {m:O A0},AI (λv u=>∀(b:BA) (Q':Y A0->A2->Prop),Q' (Z u) s->A7 (A8 prog w) A (firstOfTuple' v) Q' b s) l m->AI (λv u=>∀(b:BA) (Q':Y A0->A2->Prop),Q' u s->A7 (A8 prog w) A (firstOfTuple' v) Q' b s) l (m.map Z):=λh=>by
  induction h with
  |nil=>exact .nil
  |cons q t c=>exact .cons q c
 rw[keyKind'_eq,l8,map_eq_pure_bind];refine zb (zb (Sq vs (us.map Z) _ (y p1) (ze ?_)));have o:(us.map Z).toArray.all (·.isSome)=true:=by simp
 rw[zt o];refine zb (kB ?_);have n:(us.map Z).toArray.filterMap id=us.toArray:=by simp
 rw[n,oneTypeOnly'_eq,l8,map_eq_pure_bind];have ty:∀(d9:O (O AY)) (us:O A0),AI (λ(k:O AY) u=>∃x r,k=x::r/\j7 x u=true) d9 us->∃ts:O A0,AI (λu t=>∀(b:BA) (Q':BA),Q' t s->A7 (A8 prog w) A (typeOf u) Q' b s) us ts/\AI (λ(k:O AY) t=>∃x r,k=x::r/\t=.type (if x.isLeft then "int" else "str")) d9 ts:=by
  intro d9 us hp
  induction hp with
  |nil=>exact⟨[],.nil,.nil⟩
  |@cons k u d9 us q t c=>
   obtain⟨ts,q1,q2⟩:=c;obtain⟨x,r,rfl,hx⟩:=q;exact⟨_::ts,.cons (λb Q' h=>XR hx b Q' h) q1,.cons ⟨x,r,rfl,rfl⟩ q2⟩
 obtain⟨ts,q1,q2⟩:=ty d9 us p2;refine zb (zb (zb (Sq us ts _ q1 (ze ?_))));have lt:ts.length=vs.length:=by rw[<-Paired.length q1,p]
 cases q2 with
 |nil=>simp at lt;omega
 |@cons G H J i F D=>
  obtain⟨a,r,rfl,rfl⟩:=F;have same:∀t∈i,t=Value.type (if a.isLeft then "int" else "str"):=by
   have z:∀(d9:O (O AY)) (ts:O A0),AI (λ(k:O AY) t=>∃x r,k=x::r/\t=Value.type (if x.isLeft then "int" else "str")) d9 ts->(∀k∈d9,D0 (a::r) k)->∀t∈ts,t=Value.type (if a.isLeft then "int" else "str"):=by
    intro d9 ts hp
    induction hp with
    |nil=>intro _ t e;cases e
    |@cons k t d9 ts q _ c=>
     intro j u d;rcases List.mem_cons.mp d with rfl|d
     ·obtain⟨x,I,rfl,rfl⟩:=q;have:=(j _ (zh ..)).1;cases a<;>cases x<;>first|rfl|cases this
     ·exact c (λk hk=>j k (zi _ hk)) u d
   exact z _ _ D λk hk=>B _ (zh ..) k (zi _ hk)
  have e0:(Value.type (if a.isLeft then "int" else "str")::i).toArray[0]?=Z (Value.type (if a.isLeft then "int" else "str")):=by simp
  have e1:((Value.type (if a.isLeft then "int" else "str")::i).toArray.all λx=>x==Value.type (if a.isLeft then "int" else "str"))=true:=by
   simp only[List.all_toArray,QI];intro t e;rcases List.mem_cons.mp e with rfl|e
   ·simp
   ·rw[same t e];simp
  rw[e0];simp only[e1,jb];refine ze (ze ?_);have e2:((Z (Value.type (if a.isLeft then "int" else "str"))).any λx=>x !=Value.type "tuple")=true:=by
   cases a with
   |inl _=>exact(by decide:((Z (Value.type "int")).any λx=>x !=Value.type "tuple")=true)
   |inr _=>exact(by decide:((Z (Value.type "str")).any λx=>x !=Value.type "tuple")=true)
  rw[e2];exact h
def BY(d9:O (O AY))(vs:O A0)(v:A0):O AY:=match (vs.zip d9).find? (λp=>p.1==v)with
 |some p=>p.2
 |none=>[]
theorem nM{h:A6}:∀{d9:O (O AY)} {vs:O A0},AI (oW h) d9 vs->∀v∈vs,BY d9 vs v∈d9/\oW h (BY d9 vs v) v
 |_,_,.nil,v,hv=>by cases hv
 |k::d9,u::vs,.cons q t,v,hv=>by
  unfold BY;rw[YU,JO];by_cases e:u=v
  ·subst e;simp only[beq_self_eq_true];exact⟨zh ..,q⟩
  ·have e':(u==v)=false:=by simpa using e
   simp only[e'];have b:v∈vs:=by
    rcases List.mem_cons.mp hv with h|h
    ·exact absurd h.symm e
    ·exact h
   have a:=nM t v b;exact⟨zi _ a.1,a.2⟩
theorem z7{h:A6}:∀{d9:O (O AY)} {vs:O A0},AI (oW h) d9 vs->∀(K:A0->O AY),(∀v∈vs,oW h (K v) v)->vs.map K=d9
 |_,_,.nil,_,_=>rfl
 |k::d9,v::vs,.cons q t,K,hK=>by
  rw[Zl,(hK v (zh ..)).inj q,z7 t K λu a=>hK u (zi _ a)]
theorem CW{h:A6}:∀{vs:O A0} {K:A0->O AY},(∀v∈vs,oW h (K v) v)->AI (oW h) (vs.map K) vs
 |[],_,_=>.nil
 |v::vs,K,hK=>.cons (hK v (zh ..)) (CW λu a=>hK u (zi _ a))
theorem XS{vs:O A0}(b:AI (oW s.heap) d9 vs)(m:∀k∈d9,∀l∈d9,D0 k l):U3 prog w A s (tuples' true) (λv=>Cc d9 (BY d9 vs v)) (pairsOf vs):=by
 intro E p q Q hp f h;rw[pairsOf_toList]at hp f;obtain⟨i,t1⟩:=nM b p.1 (mem_zip_self hp).2;obtain⟨m2,t2⟩:=nM b q.1 (mem_zip_self f).2;rw[Sh i]at h;have j:=m _ i _ m2;obtain⟨a,o,AQ,n,e,g,c,d,k⟩:=t1;obtain⟨B,o',y,z,e',t,c',x,u⟩:=t2;rw[e,e'];exact T2 g d t x k u j h
theorem X3{vs:O A0}(a:AI (oW h) d9 vs){xs:Array Keyed}(hp:xs.Perm (pairsOf vs))(f:Up (λv=>Cc d9 (BY d9 vs v)) xs (pairsOf vs).size):AI (oW h) (wH d9) (xs.map (·.2)).toList:=by
 have d:xs.toList.Perm (vs.zip vs):=by rw[<-pairsOf_toList];exact dz.mp hp
 have c:∀p∈xs.toList,p.1=p.2/\p.1∈vs:=λp q=>mem_zip_self (d.mem_iff.mp q);have e:(xs.map (·.2)).toList=xs.toList.map (·.1):=by
  rw[mv];exact QE λp q=>(c p q).1.symm
 have pv:(xs.toList.map (·.1)).Perm vs:=by
  have:=d.map Prod.fst;rwa [List.map_fst_zip (zl _)]at this
 have l:wH d9=(xs.toList.map (·.1)).map (BY d9 vs):=by
  refine(Ho ?_ ?_).symm
  ·have:=pv.map (BY d9 vs);rwa [z7 a _ λv q=>(nM a v q).2]at this
  ·rw[List.pairwise_iff_getElem];intro i j hi g k;have m:i<xs.size:=by simpa using hi
   have b:j<xs.size:=by simpa using g
   have u:=f i j (Q1 k) (by rw[<-hp.size_eq];exact b);unfold at_ at u;rw[getElem?_pos xs i m,getElem?_pos xs j b]at u;have m2:=(nM a xs[j].1 (c xs[j] (by simp)).2).1;simp only[ml,Array.getElem_toList];unfold wG;rw[<-Sh m2,ZU (dw.mpr u)];rfl
 rw[l,e];refine CW λv q=>(nM a v ?_).2;exact pv.mem_iff.mp q
end S1
namespace P1
open L2 S1
theorem CZ{T:String}{vs:O A0}{Q:O A0->A2->Prop}(g:s.heap.get? l=Z o)(b:o.cls=.type T)(d:T ="list" ∨ T ="tuple")(a:o.data=.seq vs.toArray n)(j:vs.length<=AA)(h:∀h' tk,s.heap.objs.size<=h'.objs.size->(∀c o,s.heap.get? c=Z o->h'.get? c=Z o)->Q vs { s with heap:=h',toks:=tk }):A7 (A8 prog w) A (collect (.ref l)) Q E s:=by
 unfold collect;refine zb (wpAny_runValue (jn entry_proto_collect' ?_));show A7 _ _ (newList [] >>= λq=>again (.builtin "list.__iadd__" ⟨[q,.ref l],[]⟩)) _ _ s;refine zb (Y2 (ze ⟨Code.quiet_builtin _ (by decide +kernel),jn entry_list_iadd' ?_⟩));show A7 _ _ (Builtin.List.listExtendWith (.ref s.heap.objs.size) (.ref l) (.ref s.heap.objs.size)) _ _ _;unfold Builtin.List.listExtendWith;have g1:(s.heap.push (seqObj "list" #[] 0)).get? l=Z o:=zd _ g;refine zb (jS (T:=T) ⟨o,g1,b⟩ ?_);have f:(Value.type T==Value.type "list" || Value.type T==Value.type "tuple")=true:=by rcases d with rfl|rfl<;>decide
 rw[zt (by rw[Bool.or_assoc,f];simp)];refine zb (listItems_at g1 a (zb (listItems_at (xs:=#[]) (n:=0) (zr _ S) S ?_)));rw[ZA (by simp)];have g2:(s.heap.push (seqObj "list" #[] 0)).get? s.heap.objs.size=Z (seqObj "list" #[] 0):=zr _ rfl;refine zb (listUpdate_at (xs:=#[]) (n:=0) g2 S (ze ?_) (QR _) (by show(#[]++vs.toArray).size<=AA+1;simp only[ku,zv,iP];omega));show A7 (A8 prog w) A (load s.heap.objs.size >>= _) Q E _;refine zb (yT (get?_update_seq g2 _) ?_);show A7 _ _ (pure ((#[]:Array A0)++vs.toArray).toList) Q E _;rw[show((#[]:Array A0)++vs.toArray).toList=vs by simp];refine ze (h _ s.toks ?_ λc i e=>?_)
 ·rw[mr,size_push'];exact JI _
 ·rw[KF _ _ _ _ (ZE (zw e))];exact zd _ e
def FS:Dt->Y AY
 |.int i=>Z (.inl i)
 |.str x=>Z (.inr x)
 |_=>U
def z8:O Dt->Y (O AY)
 |[]=>Z []
 |d::ds=>(FS d).bind λk=>(z8 ds).bind λks=>Z (k::ks)
def Dc:Dt->Y (O AY)
 |.tup ds=>z8 ds
 |_=>U
def tU:O Dt->Y (O (O AY))
 |[]=>Z []
 |d::ds=>(Dc d).bind λk=>(tU ds).bind λks=>Z (k::ks)
def dK:AY->Dt
 |.inl i=>.int i
 |.inr x=>.str x
def C6(ks:O AY):Dt:=.tup (ks.map dK)
theorem X2{k:AY}(h:FS d=Z k):d=dK k:=by
 cases d<;>cases h<;>rfl
theorem MJ:∀{ds:O Dt} {ks:O AY},z8 ds=Z ks->ds=ks.map dK
 |[],_,h=>by cases h;rfl
 |d::ds,_,h=>by
  obtain⟨k,e1,h⟩:=AT h;obtain⟨ks,e2,h⟩:=AT h;cases h;rw[Zl,X2 e1,MJ e2]
theorem X4(h:Dc d=Z ks):d=C6 ks:=by
 cases d with
 |tup ds=>exact congrArg Dt.tup (MJ h)
 |_=>cases h
theorem Hr:∀{ds:O Dt} {d9:O (O AY)},tU ds=Z d9->ds=d9.map C6
 |[],_,h=>by cases h;rfl
 |d::ds,_,h=>by
  obtain⟨k,e1,h⟩:=AT h;obtain⟨ks,e2,h⟩:=AT h;cases h;rw[Zl,X4 e1,Hr e2]
theorem XX{k:AY}{v:V}(h:AW K H (dK k) v):v=kV k:=by
 cases k with
 |inl i=>exact(show v=.int i by simpa only[dK,AW]using h)
 |inr x=>exact(show v=.str x/\x.length<=AA by simpa only[dK,AW]using h).1
theorem Ht{K:B4}{H:Hp}:∀{ks:O AY} {vs:O V},aP K H (ks.map dK) vs->vs=ks.map kV
 |[],_,h=>by simp only[kP,aP]at h;exact h
 |k::ks,_,h=>by
  simp only[Zl,aP]at h;obtain⟨v,r,rfl,h1,h2⟩:=h;rw[XX h1,Ht h2,Zl]
theorem U1(X:Cx):∀{us:O A0},AX (ks.map kV) us->Ks ks us:=by
 induction ks with
 |nil=>intro us h;cases h;exact .nil
 |cons k ks a=>
  intro us h;cases h with
  |cons r t=>exact .cons (R0 (P:=X.prog) (w:=X.w) r) (a t)
theorem JD{AN:O (A1×AE)}{σ:L2.St}{H:Hp}{s:A2}(I:AU X AN σ H s):∀{d9:O (O AY)} {vs:O V} {AQ:O A0},aP X.K H (d9.map C6) vs->AX vs AQ->AI (oW s.heap) d9 AQ
 |[],_,_,h,r=>by
  simp only[kP,aP]at h;subst h;cases r;exact .nil
 |k::d9,_,_,h,r=>by
  simp only[Zl,aP]at h;obtain⟨v,vs,rfl,h1,h2⟩:=h;cases r with
  |cons f i=>
   refine .cons ?_ (JD I h2 i);simp only[C6,AW]at h1;obtain⟨a,j,rfl,sq,e⟩:=h1;obtain⟨AQ,b,⟨o,g,c,n,d⟩,_⟩:=I.tuple sq;cases f;rw[Ht e]at b;exact⟨a,o,AQ,n,rfl,g,c,d,U1 X b⟩
theorem Hu{AN:O (A1×AE)}{σ:L2.St}{H:Hp}{s:A2}(I:AU X AN σ H s){d9:O (O AY)}{vs:O V}{AQ:O A0}(h:aP X.K H (d9.map C6) vs)(r:AX vs AQ):∀{c:O (O AY)} {out:O A0},AI (oW s.heap) c out->(∀u∈out,u∈AQ)->∃zs,AX zs out/\aP X.K H (c.map C6) zs
 |_,_,.nil,_=>⟨[],.nil,aP.nil⟩
 |l::c,u::out,.cons q t,hm=>by
  obtain⟨zs,z1,z2⟩:=Hu I h r t λx hx=>hm x (zi _ hx);have d:∀(d9:O (O AY)) (vs:O V) (AQ:O A0),aP X.K H (d9.map C6) vs->AX vs AQ->u∈AQ->∃v,B0 v u/\AW X.K H (C6 l) v:=by
   intro d9
   induction d9 with
   |nil=>
    intro vs AQ h r a;simp only[kP,aP]at h;subst h;cases r;cases a
   |cons k d9 f=>
    intro vs AQ h r a;simp only[Zl,aP]at h;obtain⟨v,vs,rfl,h1,h2⟩:=h;cases r with
    |@cons _ j _ _ b g=>
     rcases List.mem_cons.mp a with rfl|a
     ·have e:k=l:=by
       have:=JD I (d9:=[k]) (vs:=[v]) (AQ:=[u]) (by simp only[Zl,kP];exact aP.cons h1 aP.nil) (.cons b .nil);cases this with
       |cons i _=>exact i.inj q
      subst e;exact⟨v,b,h1⟩
     ·exact f vs _ h2 g a
  obtain⟨v,b,h1⟩:=d d9 vs AQ h r (hm u (zh ..));exact⟨v::zs,.cons b z1,by rw[Zl];exact aP.cons h1 z2⟩
def Gi(k l:O AY):Bool:=((k.zip l).all λp=>Sg p.1 p.2)
theorem Qt:∀{k l:O AY},Gi k l=true->D0 k l
 |[],_,_=>by simp[D0]
 |_::_,[],_=>by simp[D0]
 |x::k,y::l,h=>by
  unfold Gi at h;rw[YU,kC,ZZ]at h;exact⟨h.1,Qt h.2⟩
def GG(d9:O (O AY)):Bool:=decide (d9.length<64)&&(d9.all (λk=>!k.isEmpty)&&d9.all λk=>d9.all λl=>Gi k l)
def qN:O Bx->Y Bx
 |[b]=>(mR b).bind λds=>(tU ds).bind λd9=>if GG d9=true then Z (.o ((wH d9).map C6))else U
 |_=>U
theorem uV{v:V}(h:aX K H b v)(e:mR b=Z ds):∃a vs,v=.ref a/\(sI K H a vs\/sO K H a vs)/\aP K H ds vs:=by
 cases b with
 |z d=>
  cases d<;>first|(cases e;done)|skip
  ·cases e;simp only[aX,AW]at h;obtain⟨a,vs,e,q,r⟩:=h;exact⟨a,vs,e,.inr q,r⟩
  ·cases e;simp only[aX,AW]at h;obtain⟨a,vs,e,q,r⟩:=h;exact⟨a,vs,e,.inl q.sq,r⟩
 |l c=>cases e;obtain⟨a,vs,e,q,r⟩:=h;exact⟨a,vs,e,.inl (.inl q),r⟩
 |o c=>cases e;obtain⟨a,vs,e,q,r⟩:=h;exact⟨a,vs,e,.inl (.inl (.inl q)),r⟩
 |n _=>cases e
 |m _ _=>cases e
theorem tW:oY X (.builtin "sorted") qN:=by
 intro AN s σ H xs us Q I rx h;obtain⟨bs,c,rb,e,q⟩:=h;unfold qN at e;split at e
 ·rename_i b;obtain⟨ds,C,e⟩:=AT e;obtain⟨d9,ek,e⟩:=AT e;split at e
  ·rename_i A;cases e;simp only[GG,ZZ,QA,QI,Jn]at A;obtain⟨a4,W,B⟩:=A;obtain⟨v,rfl,F⟩:=BT rb;obtain⟨p,vs,rfl,sq,w⟩:=uV F C;obtain⟨u,rfl,K⟩:=BH rx;cases K;have a3:=Hr ek;subst a3;have L:∃(AQ:O A0) (o:AE) (T:String) (n:Nat),AX vs AQ/\s.heap.get? p=Z o/\o.cls=.type T/\(T ="list" ∨ T ="tuple")/\o.data=.seq AQ.toArray n/\vs.length<=AA:=by
    rcases sq with sq|sq
    ·obtain⟨AQ,f,pl,j⟩:=I.list sq;obtain⟨o,g,c,n,d⟩:=pl.isList;exact⟨AQ,o,_,n,f,g,c,.inl rfl,d,j⟩
    ·obtain⟨AQ,f,⟨o,g,c,n,d⟩,j⟩:=I.tuple sq;exact⟨AQ,o,_,n,f,g,c,.inr rfl,d,j⟩
   obtain⟨AQ,o,T,n,f,g,M,hT,N,j⟩:=L;have a6:AQ.length=d9.length:=by rw[<-f.length,w.length,zk]
   have tv:=JD I w f;refine U4 (kd:=tuples' true) (rk:=λv=>Cc d9 (BY d9 AQ v)) (vs:=AQ) (λE' Q' x=>CZ g M hT N (by rw[<-f.length];exact j) x)
    (λh2 E' A' s' k Q' x=>Va (Paired.imp' (λ_ _ z=>oW.keep z k) tv) (λk hk=>by have:=W k hk;cases k with|nil=>cases this|cons _ _=>exact mw _ _) (λk hk l i=>Qt (B k hk l i)) () x)
    (λA' s' k=>XS (Paired.imp' (λ_ _ z=>oW.keep z k) tv) λk hk l i=>Qt (B k hk l i)) () λl h' tk m st hp J i ext P=>?_
   have out:=X3 tv hp J;have D:∀u∈((AM st).map (·.2)).toList,u∈AQ:=λu y=>by
    rw[mv]at y;obtain⟨pr,E,rfl⟩:=ax.mp y;have G:pr∈AQ.zip AQ:=by rw[<-pairsOf_toList];exact(dz.mp hp).mem_iff.mp E
    have:=mem_zip_self G;rw[<-this.1];exact this.2
   obtain⟨zs,z1,z2⟩:=Hu I w f out D;have a5:zs.length=d9.length:=by rw[z2.length,zk,(zZ d9).length_eq]
   have t:H l=U:=I.hok.fresh i;refine⟨.ref l,_,I.laid (t':=tk) (a:=l) (o:=.lst zs) ext i ⟨by rw[a5];exact Q1 (ZO a4 ()),_,m,z1,?_⟩,rfl,q _ _ (bD t) (λa ea=>by cases ea;exact t) ⟨l,zs,rfl,aQ,z2.kp (.of (bD t))⟩⟩;rw[P]
  ·cases e
 ·cases e
end P1
namespace S6
def MK(xs:Array Nat):Prop:=∀i j,i<j->j<xs.size->xs.getD i 0<xs.getD j 0
theorem D3{xs:Array Nat}{a b:Nat}(h:k<xs.size):xs.getD k a=xs.getD k b:=by simp[Array.getD,h]
theorem Dg(xs:Array Nat)(j:Nat)(a:MK xs):∀(fuel lo hi:Nat),lo<=hi->hi<=xs.size->hi-lo<=fuel->(∀k,k<lo->xs.getD k 0<j)->(∀k,hi<=k->k<xs.size->j<=xs.getD k 0) →
  cf.go xs j fuel lo hi<=xs.size/\(∀k,k<cf.go xs j fuel lo hi->xs.getD k 0<j)/\∀k,cf.go xs j fuel lo hi<=k->k<xs.size->j<=xs.getD k 0
 |0,lo,hi,h1,h2,h3,h4,h5=>by
  have e:lo=hi:=by omega
  subst e;unfold cf.go;exact⟨h2,h4,h5⟩
 |fuel+1,lo,hi,h1,h2,h3,h4,h5=>by
  unfold cf.go;by_cases d:lo<hi
  ·rw[zt d];dsimp only;have c:(lo+hi) / 2<xs.size:=by omega
   rw[D3 (b:=0) c];by_cases q:xs.getD ((lo+hi) / 2) 0<j
   ·rw[zt q];refine Dg xs j a fuel _ hi () h2 () (λk hk=>?_) h5;by_cases e:k=(lo+hi) / 2
    ·rw[e];exact q
    ·exact eo (a k _ () c) q
   ·rw[ZA q];refine Dg xs j a fuel lo _ () () () h4 λk hk f=>?_;by_cases e:k=(lo+hi) / 2
    ·rw[e];omega
    ·have:=a _ k (by omega:(lo+hi) / 2<k) f;omega
  ·rw[ZA d];have e:lo=hi:=by omega
   subst e;exact⟨h2,h4,h5⟩
theorem Ct{xs:Array Nat}(a:MK xs)(j:Nat):cf xs j<=xs.size/\(∀k,k<cf xs j->xs.getD k 0<j)/\∀k,cf xs j<=k->k<xs.size->j<=xs.getD k 0:=
 Dg xs j a xs.size 0 xs.size (QR _) (zl _) () (λk h=>absurd h (iR _)) λk h h'=>absurd h' ()
theorem Vb{b:Source}{Q:Nat->A2->Prop}(a:n≠0)(h:∀i d,i<n->Q i { s with drawn:=d }):A7 M A (choose b n) Q E s:=
 λe p c=>⟨a,h _ _ (Nat.mod_lt _ (Nat.pos_of_ne_zero a))⟩
theorem JF{α:Type}:∀{xs:O α} {i:Nat} (hi:i<xs.length),(xs[i]::xs.eraseIdx i).Perm xs
 |x::xs,0,_=>Kk _
 |x::xs,i+1,h=>by
  rw[kM,List.getElem_cons_succ];exact(List.Perm.swap _ _ _).trans ((JF (xs:=xs) (i:=i) (by simpa using h)).cons x)
theorem aT:∀(n:Nat) (xs:O α) (s:A2) (Q:O α->A2->Prop),xs.length=n->(∀ys d,ys.Perm xs->Q ys { s with drawn:=d })->A7 M A (drawOrder n xs) Q E s:=by
 intro n
 induction n with
 |zero=>
  intro xs s Q a h;cases xs with
  |nil=>
   unfold drawOrder;exact ze (h [] s.drawn (Kk _))
  |cons x xs=>simp at a
 |succ n b=>
  intro xs s Q a h;cases xs with
  |nil=>simp at a
  |cons x xs=>
   unfold drawOrder;refine zb (Vb (by simp) λi d hi=>?_);have e:(x::xs)[i]?=Z (x::xs)[i]:=by simp[hi]
   rw[e];dsimp only;refine zb (b ((x::xs).eraseIdx i) _ _ (by rw[k6,zt hi];simp at a ⊢;omega) λys c hp=>ze ?_);exact h _ c ((List.Perm.cons _ hp).trans (JF hi))
theorem Ss{α:Type}(next:Nat->Nat):∀(n k:Nat) (xs:O α) (out:Array α),xs.length=n->(pickOrder.go next n k xs out).toList.Perm (out.toList++xs)
 |0,k,[],out,_=>by unfold pickOrder.go;simp
 |n+1,k,x::xs,out,hl=>by
  unfold pickOrder.go;have hi:next k%(x::xs).length<(x::xs).length:=Nat.mod_lt _ (by simp);have e:(x::xs)[next k%(x::xs).length]?=Z (x::xs)[next k%(x::xs).length]:=by rw[zo hi]
  rw[e];dsimp only;refine(Ss next n (k+1) _ _ (by rw[k6,zt hi];simp at hl ⊢;omega)).trans ?_;rw[ma,QN];exact(Kk _).append (JF hi)
theorem Vc(next:Nat->Nat)(xs:Array α):(pickOrder next xs).toList.Perm xs.toList:=by
 have:=Ss next xs.size 0 xs.toList #[] (by simp);simpa[pickOrder]using this
structure Wk (w:World) (h:Heap) (a:Addr) (es:Array (Int×Value)) (ep:Nat) (t:SetTable):Prop where
 at_:∃o,h.get? a=some o/\o.cls=.type "set" ∧ o.data=.set es ep t
 fit:t.fits es.size=true
 led:w.params.followText "set-order"=false->t.led=true
 non:(1<es.size->t.plain=false)\/MK t.place
theorem Wk.keep{h':A6}{es:Array (Int×A0)}{t:SetTable}(x:Wk w h a es ep t)(k:∀o,h.get? a=Z o->h'.get? a=Z o):Wk w h' a es ep t:=
 ⟨let ⟨o,e,r⟩:=x.at_;⟨o,k o e,r⟩,x.fit,x.led,x.non⟩
def It(h:A6)(it a:A1)(first:A0)(i n ep:Nat):Prop:=∃o,h.get? it=Z o/\o.cls=.type "set_iterator" ∧ o.data=.fields #[first,.int (i:Int) 0,.ref a,.int (n:Int) 0,.int (ep:Int) 0]
theorem It.keep{h':A6}{f:A0}(x:It h it a f i n ep)(k:∀o,h.get? it=Z o->h'.get? it=Z o):It h' it a f i n ep:=
 let ⟨o,e,r⟩:=x;⟨o,k o e,r⟩
theorem It.ty{f:A0}(x:It s.heap it a f i n ep):s.TypeIs (.ref it) "set_iterator":=let ⟨o,e,c,_⟩:=x;⟨o,e,c⟩
theorem iY:Slot "set_iterator" "__next__" "set_iterator.__next__":=
 .of (owner :="set_iterator") (n :="__next__") (by rw[typeLookup_type,builtinLookup_eq_fast];kernel_rfl) (by decide +kernel) (by decide +kernel) (by decide +kernel)
  (by first|exact .inl (by decide +kernel)|exact .inr (by decide +kernel)) (by rw[isSubtype_type];kernel_rfl)
theorem xZ:Slot "set_iterator" "__iter__" "set_iterator.__iter__":=
 .of (owner :="set_iterator") (n :="__iter__") (by rw[typeLookup_type,builtinLookup_eq_fast];kernel_rfl) (by decide +kernel) (by decide +kernel) (by decide +kernel)
  (by first|exact .inl (by decide +kernel)|exact .inr (by decide +kernel)) (by rw[isSubtype_type];kernel_rfl)
theorem Gj:entryFor table "set_iterator.__next__"=Z Builtin.«set_iterator.__next__»:=entryFor_of_tree (by kernel_rfl)
theorem Bd:entryFor table "set.__iter__"=Z Builtin.«frozenset.__iter__»:=entryFor_alias (id' :="frozenset.__iter__") (by kernel_rfl) S (by decide +kernel) (by kernel_rfl)
theorem Gk:entryFor table "set_iterator.__iter__"=Z Builtin.«dict_keyiterator.__iter__»:=entryFor_alias (id' :="dict_keyiterator.__iter__") (by kernel_rfl) S (by decide +kernel) (by kernel_rfl)
theorem X5:Manifest.owners.lookup (String.ofList "rotareti_tes".toList.reverse)=Z Manifest.sig_set_iterator:=by kernel_rfl
theorem JG(a:A0):argsOk "set_iterator.__next__" ⟨[a],[]⟩:=by
 unfold argsOk;rw[signature?_of (id :="set_iterator.__next__") (n :="__txen__".toList) (o :="rotareti_tes".toList) (by kernel_rfl) X5];kernel_rfl
theorem JH(a:A0):argsOk "set_iterator.__iter__" ⟨[a],[]⟩:=by
 unfold argsOk;rw[signature?_of (id :="set_iterator.__iter__") (n :="__reti__".toList) (o :="rotareti_tes".toList) (by kernel_rfl) X5];kernel_rfl
section
variable{es:Array (Int×A0)}{t:SetTable}
theorem BK{first:A0}(d:It s.heap it a first i es.size ep)(g:Wk w s.heap a es ep t)(h:A7 (A8 prog w) A.in1 (if let .int slot _:=first then(do
    match <-setNext a slot.toNat (i:Int).toNat (ep:Int).toNat with
    |some (x,next)=>
     setField (.ref it) 0 (rawInt next)
     setField (.ref it) 1 (rawInt ((i:Int)+1))
     ret x
    |none=>setField (.ref it) 2 .none;raiseNew (<-newExc (.type "StopIteration") []))
   else(do
    let Z places <-seqItems? first|unsupported "internal:set_iterator"
    match places[(i:Int).toNat]? with
    |some (.int place _)=>
     let x <-setNextDrawn a place.toNat (ep:Int).toNat
     setField (.ref it) 1 (rawInt ((i:Int)+1))
     ret x
    |some _=>unsupported "internal:set_iterator"
    |none=>setField (.ref it) 0 (rawInt 0);setField (.ref it) 2 .none;raiseNew (<-newExc (.type "StopIteration") []))) (λf s'=>∃v,f=.done (.ret v)/\Q (Z v) s') (λe s'=>s'.TypeIs e "StopIteration" ∧ Q U s') s):A7 (A8 prog w) A (pyNext (.ref it)) Q E s:=by
 obtain⟨o,n,q,l⟩:=id d;obtain⟨u,k,p,j⟩:=g.at_;unfold pyNext;refine zb (kU (QQ (name:=Str.ofString "__next__") d.ty iY (Qb iY d.ty Gj ?_ (JG _))));unfold Builtin.«set_iterator.__next__»;refine zb (ze ?_);refine zb (wpAny_fieldsOf n l ?_);show A7 _ _ (setEntries a >>= _) _ _ s;refine zb (wpAny_setEntries_of k j g.fit ?_);rw[ZA (by simp)];refine ZY h (λf s' c=>?_) λe s' c=>?_
 ·obtain⟨v,rfl,m⟩:=c;exact⟨v,rfl,ze m⟩
 ·refine zb (Q3 (T :="StopIteration") (b:=true) c.1 isSubtype_stop ?_);exact ze c.2
theorem Sv{hp:A6}(d:A.handled=U)(h:∀h',(∀b o,hp.get? b=Z o->h'.get? b=Z o)->Q U { s with heap:=h' }):
  A7 (A8 prog w) A.in1 (do raiseNew (<-newExc (.type "StopIteration") [])) (λ(c:Fin) s'=>∃v,c=.done (.ret v)/\Q (Z v) s') (λe s'=>s'.TypeIs e "StopIteration" ∧ Q U s') { s with heap:=hp }:=by
 refine zb ?_;simp only[newExc,newTuple];refine zb (ZT ?_ (by size_fits));refine zb (m:=firstArgMember _ _) (K2 (a:=Value.none) (by first|rfl|(simp only[firstArgMember];rfl)) ?_);refine ZT ?_ (by size_fits);simp only[raiseNew];refine zb (wpAny_handled ?_);rw[show A.in1.handled=U from d];refine zb (ze (wpAny_throw ⟨⟨_,zr _ rfl,rfl⟩,?_⟩));exact h _ λb o e=>zd _ (zd _ e)
theorem It.put{f:A0}(e:It h it a f i n ep)(x:A0):It (h.update it (Obj.mapFields (·.setIfInBounds 0 x))) it a x i n ep:=by
 obtain⟨o,d,c,b⟩:=e;exact⟨_,qB _ d (k8 (js b _)),(Obj.cls_mapFields ..).trans c,by rw[js b];simp⟩
theorem It.step{f:A0}(e:It h it a f i n ep):It (h.update it (Obj.mapFields (·.setIfInBounds 1 (rawInt ((i:Int)+1))))) it a f (i+1) n ep:=by
 obtain⟨o,d,c,b⟩:=e;exact⟨_,qB _ d (k8 (js b _)),(Obj.cls_mapFields ..).trans c,by rw[js b];simp[rawInt]⟩
theorem It.field{f:A0}{x:A0}{Q:Unit->A2->Prop}(d:It s.heap it a f i n ep)(hk:k<5)(h:Q io { s with heap:=s.heap.update it (Obj.mapFields (·.setIfInBounds k x)) }):A7 (A8 prog w) A (setField (.ref it) k x) Q E s:=by
 obtain⟨o,c,e,b⟩:=d;exact ye c b (by simpa using hk) h
theorem qm{f:AE->AE}{b:A1}(a:b≠it)(e:h.get? b=Z o):(h.update it f).get? b=Z o:=by rw[KF _ _ _ _ a];exact e
theorem X6{slot next:Nat}{x:A0}(c:It s.heap it a (.int (slot:Int) 0) i es.size ep)(k:Wk w s.heap a es ep t)(f:∀{g:A5} {j:BA} {Q':Y (A0×Nat)->A2->Prop},Q' (Z (x,next)) s->A7 (A8 prog w) g (setNext a slot i ep) Q' j s)(h:∀h',It h' it a (.int (next:Int) 0) (i+1) es.size ep->(∀b o,b≠it->s.heap.get? b=Z o->h'.get? b=Z o)->Q (Z x) { s with heap:=h' }):A7 (A8 prog w) A (pyNext (.ref it)) Q E s:=by
 refine BK c k ?_;show A7 _ _ (setNext a slot i ep >>= _) _ _ s;refine zb (f ?_);refine zb (c.field () ?_);refine zb ((c.put _).field (s:={ s with heap:=_ }) () ?_);exact ze ⟨x,rfl,h _ ((c.put _).step) λb o d e=>qm d (qm d e)⟩
theorem Dh{slot:Nat}(l:A.handled=U)(c:It s.heap it a (.int (slot:Int) 0) i es.size ep)(m:Wk w s.heap a es ep t)(d:∀{g:A5} {j:BA} {Q':Y (A0×Nat)->A2->Prop},Q' U s->A7 (A8 prog w) g (setNext a slot i ep) Q' j s)(h:∀h',(∀b o,b≠it->s.heap.get? b=Z o->h'.get? b=Z o)->Q U { s with heap:=h' }):A7 (A8 prog w) A (pyNext (.ref it)) Q E s:=by
 refine BK c m ?_;show A7 _ _ (setNext a slot i ep >>= _) _ _ s;refine zb (d ?_);refine zb (c.field () (Sv l λh' k=>h h' λb o f e=>k b o (qm f e)))
theorem c8{tp:A1}{g:AE}{c:Nat}{x:Int×A0}(d:It s.heap it a (.ref tp) i es.size ep)(f:Wk w s.heap a es ep t)(v:s.heap.get? tp=Z g)(q:g.data=.seq (pl.map λ(k:Nat)=>rawInt (k:Int)).toArray c)(u:pl[i]?=Z j)(hx:es[j]?=Z x)(h:∀h',It h' it a (.ref tp) (i+1) es.size ep->(∀b o,b≠it->s.heap.get? b=Z o->h'.get? b=Z o)->Q (Z x.2) { s with heap:=h' }):A7 (A8 prog w) A (pyNext (.ref it)) Q E s:=by
 refine BK d f ?_;show A7 _ _ (seqItems? (.ref tp) >>= _) _ _ s;refine zb (m:=seqItems? (.ref tp)) ?_;unfold seqItems?;refine zb (yT v ?_);rw[q];refine ze ?_;dsimp only;rw[kc,show((pl.map λ(k:Nat)=>rawInt (k:Int)).toArray)[i]?=Z (rawInt (j:Int)) by simp[u]];show A7 _ _ (setNextDrawn a j ep >>= _) _ _ s;obtain⟨z,p,y,l⟩:=f.at_;refine zb (m:=setNextDrawn a j ep) ?_;unfold setNextDrawn;refine zb (Kb p l f.fit ?_);dsimp only;rw[ZA (by simp),hx];refine ze ?_;refine zb (d.field () ?_);exact ze ⟨x.2,rfl,h _ d.step λb o n e=>qm n e⟩
theorem MN{tp:A1}{g:AE}{c:Nat}(n:A.handled=U)(d:It s.heap it a (.ref tp) i es.size ep)(p:Wk w s.heap a es ep t)(q:s.heap.get? tp=Z g)(j:g.data=.seq (pl.map λ(k:Nat)=>rawInt (k:Int)).toArray c)(l:pl[i]?=U)(h:∀h',(∀b o,b≠it->s.heap.get? b=Z o->h'.get? b=Z o)->Q U { s with heap:=h' }):A7 (A8 prog w) A (pyNext (.ref it)) Q E s:=by
 refine BK d p ?_;show A7 _ _ (seqItems? (.ref tp) >>= _) _ _ s;refine zb (m:=seqItems? (.ref tp)) ?_;unfold seqItems?;refine zb (yT q ?_);rw[j];refine ze ?_;dsimp only;rw[kc,show((pl.map λ(k:Nat)=>rawInt (k:Int)).toArray)[i]?=U by simpa using l];refine zb (d.field () ?_);refine zb ((d.put _).field (s:={ s with heap:=_ }) () (Sv n λh' k=>h h' λb o f e=>k b o (qm f (qm f e))))
theorem uW{Q:Bool->A2->Prop}(h:Q (w.params.followText "set-order") s):A7 (A8 prog w) A setsByText Q E s:=by
 unfold setsByText;exact zb (wpAny_askSetting (ze h))
theorem JK{f:A0}{Q:BA}(b:It s.heap it a f i n ep)(h:Q (.ref it) s):A7 (A8 prog w) A (pyIter (.ref it)) Q E s:=by
 refine wpAny_pyIter_slot b.ty xZ (Qb xZ b.ty Gk ?_ (JH _));show A7 _ _ (ret (.ref it)) _ _ s;exact ze ⟨_,rfl,"set_iterator", _,b.ty,iY.lookup,h⟩
def JL(w:A4)(a:A1)(ep:Nat)(es:Array (Int×A0)):O A0:=(pickOrder (w.params.setOrder a ep) es).toList.map (·.2)
theorem za:(JL w a ep es).Perm (es.toList.map (·.2)):=(Vc _ _).map _
theorem Hv{slot:Nat}{Q:Y (A0×Nat)->A2->Prop}(c:w.params.followText "set-order"=true)(b:Wk w s.heap a es ep t)(h:Q (((JL w a ep es)[i]?).map λv=>(v,slot)) s):A7 (A8 prog w) A (setNext a slot i ep) Q E s:=by
 obtain⟨j,f,g,d⟩:=b.at_;unfold setNext;refine zb (Kb f d b.fit (zb (uW ?_)));rw[c];simp only[↓reduceIte,bne_self_eq_false,zS];refine zb (m:=setWalk a) ?_;unfold setWalk;refine zb (Kb f d b.fit (zb (uW ?_)));rw[c];simp only[↓reduceIte];refine zb (wpAny_askSetting (ze (ze ?_)));have e:(pickOrder (w.params.setOrder a ep) es)[i]?.map (λe=>(e.2,slot))=((JL w a ep es)[i]?).map λv=>(v,slot):=by
  unfold JL;rw[Zs,mH,yB];rfl
 rw[<-e]at h;exact h
theorem Qu(l:A.handled=U)(g:w.params.followText "set-order"=true)(p:a≠it)(c:es.size<=AA):Walks prog w A it [it,a] [it] es.size (λi v=>(JL w a ep es)[i]?=Z v) (λi h=>It h it a (.int 0 0) i es.size ep/\Wk w h a es ep t) where
 sub:=λb d=>by simp at d;simp[d]
 frame:=λ_ _ _ st hk=>⟨st.1.keep λo e=>hk it (by simp) o e,st.2.keep λo e=>hk a (by simp) o e⟩
 item:=λi s Q E hi st f=>by
  have n:(JL w a ep es).length=es.size:=by rw[za.length_eq];simp
  obtain⟨v,j⟩:∃v,(JL w a ep es)[i]?=Z v:=⟨(JL w a ep es)[i]'(),by rw[zo]⟩;refine X6 (slot:=0) (next:=0) (x:=v) st.1 st.2 (λ{A' E' Q'} hq=>Hv g st.2 (by rw[j];exact hq)) λh' m k=>?_;exact f v h' s.toks j ⟨m,st.2.keep λo e=>k a o p e⟩ λb o d e=>k b o (λx=>d (by simp[x])) e
 done:=λs Q E st f=>by
  have n:(JL w a ep es).length=es.size:=by rw[za.length_eq];simp
  refine Dh (slot:=0) l st.1 st.2 (λ{A' E' Q'} hq=>Hv g st.2 (by rw[QP ()];exact hq)) λh' k=>?_;exact f h' s.toks λb o d e=>k b o (λx=>d (by simp[x])) e
 self:=λ_ _ _ _ st f=>JK st.1 f
def Vd(pl:O Nat)(es:Array (Int×A0)):O A0:=pl.filterMap λj=>es[j]?.map (·.2)
theorem Ve(h:pl.Perm (da es.size)):(Vd pl es).Perm (es.toList.map (·.2)):=by
 refine(h.filterMap _).trans ?_;rw[show(da es.size).filterMap (λj=>es[j]?.map (·.2))=((da es.size).filterMap λj=>es[j]?).map (·.2) by rw[List.map_filterMap],filterMap_getElem?_range]
theorem MP:∀{pl:O Nat},(∀j∈pl,j<es.size)->∀(i:Nat) (j:Nat),pl[i]?=Z j->(Vd pl es)[i]?=es[j]?.map (·.2)
 |[],_,_,_,h=>by simp at h
 |k::pl,hb,i,j,h=>by
  have hk:=hb k (zh ..);have e:Vd (k::pl) es=es[k].2::Vd pl es:=by simp[Vd,hk]
  rw[e];cases i with
  |zero=>cases(show k=j by simpa using h);simp[hk]
  |succ i=>rw[xn];exact MP (λj a=>hb j (zi _ a)) i j (by simpa using h)
theorem Qv{tp:A1}(m:A.handled=U)(u:a≠it)(n:tp≠it)(hp:pl.Perm (da es.size)):Walks prog w A it [it,a,tp] [it] es.size (λi v=>(Vd pl es)[i]?=Z v)
  (λi h=>It h it a (.ref tp) i es.size ep/\Wk w h a es ep t/\∃f c,h.get? tp=Z f/\f.data=.seq (pl.map λ(k:Nat)=>rawInt (k:Int)).toArray c) where
 sub:=λb d=>by simp at d;simp[d]
 frame:=λ_ _ _ st hk=>⟨st.1.keep λo e=>hk it (by simp) o e,st.2.1.keep λo e=>hk a (by simp) o e,let ⟨f,c,e,r⟩:=st.2.2;⟨f,c,hk tp (by simp) f e,r⟩⟩
 item:=λi s Q E hi st g=>by
  obtain⟨f,c,e1,e2⟩:=st.2.2;have q:pl.length=es.size:=by rw[hp.length_eq];simp
  have d:∀j∈pl,j<es.size:=λj l=>dg.mp (hp.mem_iff.mp l);have l:pl[i]?=Z (pl[i]'()):=by rw[zo]
  have hx:es[pl[i]'()]?=Z (es[pl[i]'()]'(d _ (kq _))):=by rw[kr]
  refine c8 st.1 st.2.1 e1 e2 l hx λh' p k=>?_;exact g _ h' s.toks (by rw[MP d i _ l,hx];rfl) ⟨p,st.2.1.keep λo e=>k a o u e,f,c,k tp f n e1,e2⟩ λb o d e=>k b o (λx=>d (by simp[x])) e
 done:=λs Q E st g=>by
  obtain⟨f,c,e1,e2⟩:=st.2.2;have q:pl.length=es.size:=by rw[hp.length_eq];simp
  refine MN m st.1 st.2.1 e1 e2 (by rw[QP ()]) λh' k=>?_;exact g h' s.toks λb o d e=>k b o (λx=>d (by simp[x])) e
 self:=λ_ _ _ _ st g=>JK st.1 g
def rQ(t:SetTable)(i:Nat):Nat:=if i=0 then 0 else t.place.getD (i-1) 0+1
theorem Vf{P:Y (A0×Nat)->Prop}{r:Y (A0×Nat)}(hp:t.place.size=es.size)(c:MK t.place)(hi:i<=es.size)
  (g:r=match es[cf t.place (rQ t i)]?,t.place[cf t.place (rQ t i)]? with
   |some (_,x),Z j=>Z (x,j+1)
   |_,_=>U) (h:P (((es.toList.map (·.2))[i]?).map λv=>(v,rQ t (i+1)))):P r:=by
 subst g;have f:cf t.place (rQ t i)=i:=by
  obtain⟨b1,b2,a⟩:=Ct c (rQ t i);generalize cf t.place (rQ t i)=b at *
  unfold rQ at b2 a;by_cases d:i=0
  ·subst d;rcases Nat.eq_zero_or_pos b with q|q
   ·exact q
   ·exact absurd (b2 0 q) (iR _)
  ·rw[ZA d]at b2 a;rcases Nat.lt_trichotomy b i with q|q|q
   ·have:=a (i-1) () ();omega
   ·exact q
   ·have:=b2 i q;have:=c (i-1) i () ();omega
 rw[f];have e2:rQ t (i+1)=t.place.getD i 0+1:=by unfold rQ;rw[ZA (Nat.succ_ne_zero i)];rfl
 rw[e2]at h;by_cases q:i<es.size
 ·have e:i<t.place.size:=by omega
  rw[kr q,kr e];have e3:t.place.getD i 0=t.place[i]:=by simp[Array.getD,e]
  rw[e3,Zs,yB,kr q]at h;exact h
 ·rw[jz ()];rw[Zs,yB,jz ()]at h;exact h
theorem Di{Q:Y (A0×Nat)->A2->Prop}(d:w.params.followText "set-order"=false)(c:Wk w s.heap a es ep t)(k:(!t.plain&&decide (es.size>1))=false)(f:MK t.place)(hi:i<=es.size)(h:Q (((es.toList.map (·.2))[i]?).map λv=>(v,rQ t (i+1))) s):A7 (A8 prog w) A (setNext a (rQ t i) i ep) Q E s:=by
 obtain⟨n,j,m,g⟩:=c.at_;have hp:t.place.size=es.size:=by
  have:=c.fit;simp only[lh,ZZ,beq_iff_eq]at this;exact this.1
 unfold setNext;refine zb (Kb j g c.fit (zb (uW ?_)));rw[d];simp only[zS,↓reduceIte];split
 ·rename_i b;have b:(!t.plain&&decide (es.size>1))=true:=b;rw[k]at b;cases b
 ·have l:A7 (A8 prog w) A (if(!t.led&&!es.isEmpty)=true then unsupported "set:maker-not-led" else pure PUnit.unit) (λ_ s'=>s'=s) E s:=by
   rw[c.led d];exact ze rfl
  refine zb (ZY l (λ_ s' e=>?_) λ_ _ x=>x);subst e;refine ze ?_;exact Vf (P:=λr=>Q r s') hp f hi S h
theorem M4(m:A.handled=U)(f:w.params.followText "set-order"=false)(j:(!t.plain&&decide (es.size>1))=false)(g:MK t.place)(p:a≠it):Walks prog w A it [it,a] [it] es.size (λi v=>(es.toList.map (·.2))[i]?=Z v) (λi h=>It h it a (.int (rQ t i:Nat) 0) i es.size ep/\Wk w h a es ep t) where
 sub:=λb c=>by simp at c;simp[c]
 frame:=λ_ _ _ st hk=>⟨st.1.keep λo e=>hk it (by simp) o e,st.2.keep λo e=>hk a (by simp) o e⟩
 item:=λi s Q E hi st d=>by
  obtain⟨v,l⟩:∃v,(es.toList.map (·.2))[i]?=Z v:=⟨(es.toList.map (·.2))[i]'(by simpa using hi),by rw[zo]⟩;refine X6 (x:=v) st.1 st.2 (λ{A' E' Q'} hq=>Di f st.2 j g (Q1 hi) (by rw[l];exact hq)) λh' n k=>?_;exact d v h' s.toks l ⟨n,st.2.keep λo e=>k a o p e⟩ λb o c e=>k b o (λx=>c (by simp[x])) e
 done:=λs Q E st d=>by
  refine Dh m st.1 st.2 (λ{A' E' Q'} hq=>Di f st.2 j g (zl _) (by rw[QP (by simp)];exact hq)) λh' k=>?_;exact d h' s.toks λb o c e=>k b o (λx=>c (by simp[x])) e
 self:=λ_ _ _ _ st d=>JK st.1 d
theorem X7(f:Wk w s.heap a es ep t)(H:es.size<=AA){Q:BA}
  (h:∀(it:A1) (h':A6) (d:Drawn) (fp:O A1) (St:Nat->A6->Prop) (I:O A0),I.Perm (es.toList.map (·.2))->(∀C:A5,C.handled=U->Walks prog w C it fp [it] es.size (λi v=>I[i]?=Z v) St)->St 0 h'->s.heap.objs.size<=it->it<h'.objs.size →
   (∀b∈fp,b=a\/s.heap.objs.size<=b)->(∀b∈fp,b<h'.objs.size)->(∀b o,s.heap.get? b=Z o->h'.get? b=Z o)->Q (.ref it) { s with heap:=h',drawn:=d }):A7 (A8 prog w) A (pyIter (.ref a)) Q E s:=by
 obtain⟨P,g,N,B⟩:=id f.at_;have K:s.TypeIs (.ref a) "set":=⟨P,g,N⟩;have p:a<s.heap.objs.size:=zw g;refine wpAny_pyIter_slot K F.slot_set_iter (Qb F.slot_set_iter K Bd ?_ (F.args_set_iter_1 _));show A7 _ _ (Builtin.Frozenset.sizeOf a >>= _) _ _ s;refine zb (m:=Builtin.Frozenset.sizeOf a) (zb (wpAny_setEntries_of g B f.fit (ze ?_)));have u:A7 (A8 prog w) A.in1 (setDrawn a) (λb s'=>s'=s/\b=(!(w.params.followText "set-order")&&(!t.plain&&decide (es.size>1)))) E s:=by
  unfold setDrawn;exact zb (Kb g B f.fit (zb (uW (ze ⟨rfl,rfl⟩))))
 refine zb (ZY u (λb s' e=>?_) λ_ _ x=>x);obtain⟨rfl,rfl⟩:=e;dsimp only;by_cases l:w.params.followText "set-order"=true
 ·rw[l];simp only[hL,kK,zS,qr];refine zb (ze ?_);refine zb (m:=setEpoch a) (wpAny_setEpoch_of g B f.fit ?_);refine zb (ZT (ze ⟨_,rfl,"set_iterator", _,⟨_,zr _ rfl,rfl⟩,iY.lookup,?_⟩));have:=h s'.heap.objs.size (s'.heap.push { cls:=.type "set_iterator",data:=.fields #[.int 0 0,.int 0 0,.ref a,.int es.size 0,.int ep 0] }) s'.drawn [s'.heap.objs.size,a] _ _ za (λC y=>Qu y l (t:=t) (ep:=ep) (ZE p) H)
   ⟨⟨_,zr _ rfl,rfl,rfl⟩,f.keep λo e=>zd _ e⟩ (zl _) (by rw[qk];exact QY _) (λb c=>by simp at c;rcases c with rfl|rfl;exact .inr (zl _);exact .inl S)
   (λb c=>by simp at c;rw[qk];rcases c with rfl|rfl;exact QY _;exact qA p) λb o e=>zd _ e
  exact this
 ·have l:w.params.followText "set-order"=false:=by simpa using l
  rw[l];simp only[YN,kb];cases u:(!t.plain&&decide (es.size>1))with
  |false=>
   have M:MK t.place:=by
    rcases f.non with q|q
    ·have X:es.size<=1:=by
      rcases Nat.lt_or_ge 1 es.size with z|z
      ·rw[q z]at u;simp at u;omega
      ·exact z
     have hp:t.place.size=es.size:=by
      have:=f.fit;simp only[lh,ZZ,beq_iff_eq]at this;exact this.1
     intro i j h1 h2;omega
    ·exact q
   rw[ZA ()];refine zb (ze ?_);refine zb (m:=setEpoch a) (wpAny_setEpoch_of g B f.fit ?_);refine zb (ZT (ze ⟨_,rfl,"set_iterator", _,⟨_,zr _ rfl,rfl⟩,iY.lookup,?_⟩));have:=h s'.heap.objs.size (s'.heap.push { cls:=.type "set_iterator",data:=.fields #[.int 0 0,.int 0 0,.ref a,.int es.size 0,.int ep 0] }) s'.drawn [s'.heap.objs.size,a] _ _ (Kk _) (λC y=>M4 y l u M (t:=t) (ep:=ep) (ZE p))
    ⟨⟨_,zr _ rfl,rfl,rfl⟩,f.keep λo e=>zd _ e⟩ (zl _) (by rw[qk];exact QY _) (λb c=>by simp at c;rcases c with rfl|rfl;exact .inr (zl _);exact .inl S)
    (λb c=>by simp at c;rw[qk];rcases c with rfl|rfl;exact QY _;exact qA p) λb o e=>zd _ e
   exact this
  |true=>
   rw[zt rfl];refine zb (aT _ _ _ _ (by simp) λpl d hp=>?_);refine zb (wpAny_newTuple ?_ (by rw[zk,hp.length_eq,md];exact H));refine zb (m:=setEpoch a) (wpAny_setEpoch_of (zd _ g) B f.fit ?_);refine zb (ZT (ze ⟨_,rfl,"set_iterator", _,⟨_,zr _ rfl,rfl⟩,iY.lookup,?_⟩));generalize D:s'.heap.push { cls:=.type "tuple",data:=.seq (pl.map λ(k:Nat)=>rawInt (k:Int)).toArray }=G;have n:G.objs.size=s'.heap.objs.size+1:=by rw[<-D,qk]
   have W:G.get? s'.heap.objs.size=Z { cls:=.type "tuple",data:=.seq (pl.map λ(k:Nat)=>rawInt (k:Int)).toArray }:=by rw[<-D];exact zr _ rfl
   have J:∀b o,s'.heap.get? b=Z o->G.get? b=Z o:=λb o e=>by rw[<-D];exact zd _ e
   have L:a<G.objs.size:=by rw[n];exact qA p
   have:=h G.objs.size (G.push { cls:=.type "set_iterator",data:=.fields #[.ref s'.heap.objs.size,.int 0 0,.ref a,.int es.size 0,.int ep 0] }) d [G.objs.size,a,s'.heap.objs.size] _ _ (Ve hp) (λC y=>Qv y (t:=t) (ep:=ep) (tp:=s'.heap.objs.size) (ZE L) (by rw[n];exact ZE (QY _)) hp)
    ⟨⟨_,zr _ rfl,rfl,rfl⟩,f.keep λo e=>zd _ (J _ _ e),_,0,zd _ W,rfl⟩ (by rw[n];exact JI _) (by rw[qk];exact QY _)
    (λb c=>by simp at c;rcases c with rfl|rfl|rfl;exact .inr (by rw[n];exact JI _);exact .inl rfl;exact .inr (zl _))
    (λb c=>by
     simp at c;rw[qk];rcases c with rfl|rfl|rfl
     ·exact QY _
     ·exact qA L
     ·exact qA (by rw[n];exact QY _)) λb o e=>zd _ (J _ _ e)
   exact this
end
end S6
namespace S6
open P1
section
variable{es:Array (Int×A0)}{t:SetTable}
theorem Vg{b:O A0}{a:Array A0}(f:b.length=n)(h:ItemsOf (λi v=>b[i]?=Z v) a n):a.toList=b:=by
 apply ib;intro j;by_cases d:j<n
 ·have c:j<a.size:=by rw[h.1];exact d
  have e:a.toList[j]?=Z a[j]:=by simp[c]
  rw[e,h.2 j a[j] (by simp[c])]
 ·rw[QP (by rw[Q4,h.1];omega),QP ()]
theorem M5{Q:O A0->A2->Prop}(C:A.handled=none)(D:Wk w s.heap a es ep t)(B:es.size<=AA)
  (L:∀g h' d tk,g.Perm (es.toList.map (·.2))->s.heap.objs.size<=h'.objs.size->(∀b o,s.heap.get? b=Z o->h'.get? b=Z o)->Q g { s with heap:=h',drawn:=d,toks:=tk }):
  A7 (A8 prog w) A (collect (.ref a)) Q E s:=by
 obtain⟨m,h,k,b0⟩:=id D.at_;have hT:s.TypeIs (.ref a) "set":=⟨m,h,k⟩;have z:a<s.heap.objs.size:=zw h;unfold collect;refine zb (wpAny_runValue (jn F.entry_proto_collect ?_));rw[Around.under_plainId F.plain_proto_collect _];show A7 _ A.in1 (newList [] >>= λq=>again (.builtin "list.__iadd__" ⟨[q,.ref a],[]⟩)) _ _ s;refine zb (ZT (ze ⟨plainId_quiet F.plain_list_iadd _,jn F.entry_list_iadd ?_⟩));rw[Around.under_plainId F.plain_list_iadd _];show A7 _ A.in1 (Builtin.List.listExtendWith (.ref s.heap.objs.size) (.ref a) (.ref s.heap.objs.size)) _ _ _;unfold Builtin.List.listExtendWith;generalize l:(s.heap.push { cls:=.type "list",data:=.seq ([]:O A0).toArray })=H;have i:∀b o,s.heap.get? b=Z o->H.get? b=Z o:=λb o e=>by rw[<-l];exact zd _ e
 have y:H.objs.size=s.heap.objs.size+1:=by rw[<-l,qk]
 have gH:H.get? s.heap.objs.size=Z (seqObj "list" #[] 0):=by rw[<-l];exact zr _ rfl
 have P:Wk w H a es ep t:=D.keep λo e=>i a o e;refine zb (jS (T :="set") ⟨m,i _ _ h,k⟩ ?_);have h1:Builtin.List.listSameRef (.ref s.heap.objs.size) (.ref a)=false:=by simp[Builtin.List.listSameRef];exact kl z
 simp only[h1,show(Value.type "set"==Value.type "list")=false by decide,show(Value.type "set"==Value.type "tuple")=false by decide,Bool.or_false,zS,qr];refine zb (X7 (s:={ s with heap:=H }) P B λit G d fp St g hp W a6 X a7 a5 b3 p=>?_);refine zb (qq ?_);unfold Builtin.List.listLengthHint;have j:Shared.TypeIs { s with heap:=G,drawn:=d } (.ref a) "set":=⟨m,p _ _ (i _ _ h),k⟩;refine zb (wpAny_specialOf (T :="set") j F.slot_set_len.lookup ?_)
 wp_delta
 refine zb (Q3 (T :="set") (b:=true) j (by rw[isSubtype_type];kernel_rfl) ?_);show A7 _ A.in1 (typeOf (Value.ref a) >>= _) _ _ _;refine zb (jS (T :="set") j (ze ?_));rw[zt ()];show A7 _ A.in1 (Builtin.List.listTouch (Value.ref s.heap.objs.size) >>= λ_=>again (Code.builtin "list.extend.loop" ⟨[Value.ref s.heap.objs.size,Value.ref it,Value.ref s.heap.objs.size],[]⟩)) _ _ _;have n:G.get? s.heap.objs.size=Z (seqObj "list" #[] 0):=p _ _ gH;unfold Builtin.List.listTouch;refine zb (zb (listUpdate_at n S (listUpdate_at (get?_update_seq n _) S ?_ (by show _<=_;decide) (by show _<=_;decide)) (by show _<=_;decide) (by show _<=_;decide)));have I:s.heap.objs.size∉fp:=λf=>by
  rcases a5 _ f with e|e
  ·exact kl z e
  ·have e:H.objs.size<=s.heap.objs.size:=e;rw[y]at e;exact absurd e (Nat.not_succ_le_self _)
 have v:=get?_update_seq (get?_update_seq n (λx=>x.push Value.none)) (λx=>x.pop);generalize N:(G.update s.heap.objs.size (Obj.mapSeq λx=>x.push Value.none)).update s.heap.objs.size (Obj.mapSeq λx=>x.pop)=U at v;have keep:∀b,b≠s.heap.objs.size->U.get? b=G.get? b:=λb c=>by rw[<-N,KF _ _ _ _ c,KF _ _ _ _ c]
 have M:St 0 U:=(W A C).frame 0 G U a6 λb c o e=>by rw[keep b λx=>I (x▸c)];exact e
 show A7 _ A.in1 (again _) _ _ { s with heap:=U,drawn:=d };have ho:g.length=es.size:=by rw[hp.length_eq];simp
 refine ze ⟨plainId_quiet F.plain_extend_loop _,codeAny_extend_loopS (W A.in1 C).toS B s.heap.objs.size I _ es.size 0 { s with heap:=U,drawn:=d } #[] _ S (QR _) M v (ItemsOf.nil _) λs' a4 c' u K a3=>?_⟩;show A7 _ A (load s.heap.objs.size >>= _) _ _ s';refine zb (yT K (ze ?_));show Q a4.toList s';rw[Vg ho a3];have J:=L g s'.heap s'.drawn s'.toks hp (Q1 (zw K)) λb ob e=>by
  have c:=zw e;refine u.heap b ob (λf=>?_) ((keep b (ZE c)).trans (p _ _ (i _ _ e)));simp only[ja,jv,or_false]at f;rcases f with f|f
  ·exact ZE c f
  ·have:H.objs.size<=it:=X;rw[y,<-f]at this;exact absurd c (dw.mpr (ia this))
 have e1:s'.gens=s.gens:=u.gens;have e2:s'.os=s.os:=u.os;rw[<-e1,<-e2]at J;exact J
end
theorem JM{α:Type}[DecidableEq α]:∀{xs ys:O α},xs.Nodup->ys.Nodup->(∀z,z∈xs↔z∈ys)->xs.Perm ys
 |[],ys,_,_,h=>by
  have:ys=[]:=List.eq_nil_iff_forall_not_mem.mpr λz a=>by simpa using(h z).mpr a
  subst this;exact .refl _
 |x::xs,ys,hx,hy,h=>by
  have c:x∈ys:=(h x).mp (zh ..);have b:=cc.mp hx;refine((JM b.2 (hy.erase x) λz=>?_).cons x).trans (y9 c).symm;rw[hy.mem_erase_iff];constructor
  ·intro a;exact⟨λe=>b.1 (e▸a),(h z).mp (zi _ a)⟩
  ·intro⟨hn,a⟩;rcases List.mem_cons.mp ((h z).mpr a)with e|e
   ·exact absurd e hn
   ·exact e
theorem z9{R:α->β->Prop}:∀{l a:O β},a.Perm l->∀{ys:O α},AI R ys l->∃b,b.Perm ys/\AI R b a:=by
 intro l a hp
 replace hp:=hp.symm
 induction hp with
 |nil=>intro ys h;exact⟨ys,.refl _,h⟩
 |cons x _ f=>intro ys h;cases h with|cons r t=>obtain⟨zs,z1,z2⟩:=f t;exact⟨_::zs,z1.cons _,.cons r z2⟩
 |swap x y l=>intro ys h;cases h with|cons r t=>cases t with|cons e c=>exact⟨_,List.Perm.swap _ _ _,.cons e (.cons r c)⟩
 |trans _ _ d j=>intro ys h;obtain⟨zs,z1,z2⟩:=d h;obtain⟨us,g,i⟩:=j z2;exact⟨us,g.trans z1,i⟩
theorem Qw{R:α->β->Prop}{xs:O α}{us:O β}{ys:O α}{vs:O β}(h:AI R xs us)(k:AI R ys vs):AI R (xs++ys) (us++vs):=by
 induction h with
 |nil=>exact k
 |cons r _ a=>exact .cons r a
theorem OL(t:SetTable)(es:Array (Int×A0))(h:Int)(x:A0):(layNew t es h x).2.1.led=t.led:=by
 unfold layNew;split
 ·dsimp only[SetTable.put,SetTable.orStandIn];generalize lh _ _=b;cases b<;>rfl
 ·rfl
theorem Vh(t:SetTable)(es:Array (Int×A0))(n:Nat):(relayAll t es n).2.1.led=t.led/\(t.plain=false->(relayAll t es n).2.1.plain=false):=by
 unfold relayAll;split
 ·rename_i a f e;have d:a.led=t.led/\a.plain=t.plain:=by
   unfold SetTable.relaid SetTable.laid at e;cases c:SetTable.layClean (SetTable.sizeAbove n-1) (es.map (·.1))with
   |none=>rw[c]at e;cases e
   |some g=>rw[c]at e;cases e;exact⟨rfl,rfl⟩
  dsimp only;generalize (coversAll f es.size&&_)=b;cases b
  ·exact⟨rfl,λ_=>S⟩
  ·exact⟨d.1,λhp=>d.2.trans hp⟩
 ·exact⟨rfl,λ_=>S⟩
def Vi(prog:A3)(w:A4)(y:AJ)(e:Int×A0):Prop:=∃tk,e=((strKind prog w).hash y,.str y tk)
structure X8 (prog:Program) (w:World) (ys:AZ) (es:Array (Int×Value)) (t:SetTable):Prop where
 rel:Paired (Vi prog w) ys es.toList
 nd:ys.Nodup
 fit:t.fits es.size=true
 led:w.params.followText "set-order"=false->t.led=true
 non:0<es.size->t.plain=false
def Tx(prog:A3)(w:A4)(h:A6)(a:A1)(ys:AZ):Prop:=∃o es ep t,h.get? a=Z o/\o.ExactSet/\o.data=.set es ep t/\X8 prog w ys es t
theorem Tx.keep{h':A6}(x:Tx prog w h a ys)(k:∀o,h.get? a=Z o->h'.get? a=Z o):Tx prog w h' a ys:=
 let ⟨o,es,ep,t,e,r⟩:=x;⟨o,es,ep,t,k o e,r⟩
theorem X8.elems{es:Array (Int×A0)}{t:SetTable}(x:X8 prog w ys es t):ElemsOf (strKind prog w) es.toList:=by
 have:∀{ys:AZ} {l:O (Int×A0)},AI (Vi prog w) ys l->ElemsOf (strKind prog w) l:=by
  intro ys l h
  induction h with
  |nil=>intro e a;cases a
  |cons r _ b=>
   intro e a;rcases List.mem_cons.mp a with rfl|a
   ·obtain⟨tk,rfl⟩:=r;exact⟨⟨_,strKind_is _ _ _ _,rfl⟩,rfl⟩
   ·exact b e a
 exact this x.rel
theorem X8.size{es:Array (Int×A0)}{t:SetTable}(x:X8 prog w ys es t):es.size=ys.length:=by rw[x.rel.length];simp
theorem Sw{z:AJ}{e:Int×A0}(h:Vi prog w y e):(strKind prog w).is z e.2=true↔z=y:=by
 obtain⟨tk,rfl⟩:=h;constructor
 ·intro q;exact(strKind prog w).inj _ _ _ q (strKind_is _ _ _ _)
 ·rintro rfl;exact strKind_is _ _ _ _
theorem Dj{y:AJ}:∀{ys:AZ} {l:O (Int×A0)},AI (Vi prog w) ys l->((l.findIdx? λe=>(strKind prog w).is y e.2)=U↔y∉ys)
 |_,_,.nil=>by simp
 |z::ys,e::l,.cons r t=>by
  rw[ly];by_cases q:(strKind prog w).is y e.2=true
  ·rw[zt q,(Sw r).mp q];simp
  ·rw[ZA q];have:y≠z:=λe'=>q ((Sw r).mpr e');rw[Option.map_eq_none_iff,Dj t];simp[this]
theorem Yb{tk:Nat}{Q:Bool->A2->Prop}(hS:Tx prog w s.heap a ys)(b3:ys.length+1<scanBound)(h:∀b h' I,Heap.SameBut a s.heap h'->Tx prog w h' a I->(∀z,z∈I↔z∈ys\/z=y)->I.length<=ys.length+1->Q b { s with heap:=h' }):A7 (A8 prog w) A (setAddHashed a (.str y tk) ((strKind prog w).hash y)) Q E s:=by
 obtain⟨o,es,ep,t,p,a5,n,x⟩:=id hS;have d0:=x.size;have d3:es.size+1<scanBound:=by rw[d0];exact b3
 have a3:=x.elems;have b6:=strKind_is prog w y tk;unfold setAddHashed setAddHashedIn;refine qq (zb (Kb p n x.fit ?_));dsimp only;rw[byScan_of (knd:=strKind prog w) (x:=.str y tk) S () a3];simp only[↓reduceIte];unfold setAddByScan;refine zb (zb (kB (zb (wpAny_setScan_of b6 p n x.fit a3 ?_))));cases J:es.toList.findIdx? (λe=>(strKind prog w).is y e.2)with
 |some j=>
  dsimp only;have f:y∈ys:=by
   by_cases q:y∈ys
   ·exact q
   ·rw[(Dj x.rel).mpr q]at J;cases J
  refine ze (ze (h _ s.heap ys (Heap.SameBut.refl a s.heap) hS (λz=>⟨.inl,λq=>q.elim id λe=>e▸f⟩) (JI _)))
 |none=>
  dsimp only;have f:y∉ys:=(Dj x.rel).mp J;have gw:∀(b:Bool) {K:A2} {Q':Unit->A2->Prop},Q' io K->A7 (A8 prog w) A (match b with|true=>rule "set.scan.the-table-gave-way" | false=>pure io) Q' E K:=
   λb _ _ hq=>by cases b;exact ze hq;exact kB hq
  have i:=layNew_perm t es ((strKind prog w).hash y) (.str y tk);have l:=layNew_fits t es ((strKind prog w).hash y) (.str y tk);have k:=OL t es ((strKind prog w).hash y) (.str y tk);generalize layNew t es ((strKind prog w).hash y) (.str y tk)=L at i l k ⊢;obtain⟨c,t1,b5,d1⟩:=L;dsimp only at i l k ⊢;rw[ma]at i;refine zb (gw _ ?_);have b4:AI (Vi prog w) (ys++[y]) (es.toList++[((strKind prog w).hash y,.str y tk)]):=Qw x.rel (.cons ⟨tk,rfl⟩ .nil);obtain⟨D,p1,M⟩:=z9 i b4;have a4:D.Nodup:=p1.nodup_iff.mpr (List.nodup_append.mpr ⟨x.nd,by simp,λu hu v hv=>by simp at hv;subst hv;exact λe=>f (e▸hu)⟩);have m1:∀z,z∈D↔z∈ys\/z=y:=λz=>by rw[p1.mem_iff];simp
  have N:D.length=ys.length+1:=by rw[p1.length_eq];simp
  have z1:c.size=es.size+1:=by rw[<-Q4,i.length_eq];simp
  have a6:∀t2:SetTable,t2.fits c.size=true->t2.led=t1.led->t2.plain=false->A7 (A8 prog w) A (do
    storeSet a c t2
    if(!b5&&t2.tooFull)=true then do
      (match (relayAll t2 c (dq c.size)).2.2 with|true=>rule "set.scan.the-table-gave-way" | false=>pure io)
      storeSet a (relayAll t2 c (dq c.size)).1 (relayAll t2 c (dq c.size)).2.1
      pure (Z true)
     else pure (Z true)) (λr s'=>∃b,r=Z b/\Q b s') E s:=by
   intro t2 f2 l2 p2;have W:∀(hp:A6) (B:AE) (e1 e2:Array (Int×A0)) (H:Nat) (X d:SetTable),hp.get? a=Z B->B.data=.set e1 H X->(hp.update a (Obj.putSet e2 d)).get? a=Z { B with data:=.set e2 (H+1) d }:=λhp B e1 e2 H X d g q=>by
    have:=qB (Obj.putSet e2 d) g (by rw[putSet_of e2 d q];rfl);rw[putSet_of e2 d q]at this;exact this
   have g1:=W s.heap o es c ep t t2 p n;refine zb (wpAny_storeSet_of p n ?_ (fits_of_scanBound ()));split
   ·have hp:=relayAll_perm t2 c (dq c.size);have F:=relayAll_fits t2 c (dq c.size);have C:=Vh t2 c (dq c.size);generalize relayAll t2 c (dq c.size)=Rl at hp F C ⊢;obtain⟨P,t3,d2⟩:=Rl;dsimp only at hp F C ⊢;obtain⟨c5,G,r2⟩:=z9 hp M;refine zb (gw _ ?_);refine zb (wpAny_storeSet_of g1 S ?_ (fits_of_scanBound (by rw[<-Q4,hp.length_eq,Q4];omega)));have g2:=W _ _ c P _ t2 t3 g1 rfl;exact ze ⟨true,rfl,h _ _ c5 ((kF ..).trans (kF ..)) ⟨_,P,_,t3,g2,a5,rfl,r2,G.nodup_iff.mpr a4,F,λq=>(C.1.trans l2).trans (k.trans (x.led q)),λ_=>C.2 p2⟩ (λz=>by rw[G.mem_iff];exact m1 z) (by rw[G.length_eq];exact ew N)⟩
   ·exact ze ⟨true,rfl,h _ _ D (kF ..) ⟨_,c,_,t2,g1,a5,rfl,M,a4,f2,λq=>l2.trans (k.trans (x.led q)),λ_=>p2⟩ m1 (ew N)⟩
  have b0:∀{m:Sem (Y Bool)},A7 (A8 prog w) A m (λr s'=>∃b,r=Z b/\Q b s') E s->A7 (A8 prog w) A m (λr s'=>A7 (A8 prog w) A (match r with|some a7=>pure a7|none=>setAddHashedIn a (.str y tk) ((strKind prog w).hash y) 99999) Q E s') E s:=λf=>ZY f (λr s' q=>by obtain⟨b,rfl,q⟩:=q;exact ze q) λ_ _ q=>q;refine b0 ?_;split
  ·refine zb ?_;rw[hashByValue_scannable 8 (x:=.str y tk) rfl];refine ze ?_;exact a6 { t1 with plain:=false } (SetTable.fits_plain_off l) S rfl
  ·rename_i hp;refine zb (ze ?_);simp only[↓reduceIte];exact a6 t1 l S (by simpa using hp)
def By(w:A4):AE:={ cls:=.type "set",dict:=U,data:=.set #[] 0 (.fresh 0 0 (!w.params.followText "set-order")) }
structure EE (prog:Program) (w:World) (S:Addr) (wr:List Addr) {κ:Type} (C:Heap->List κ->Prop) (P:Nat->Value->Prop) (val:Nat->κ) (n:Nat):Prop where
 keep:∀h h' ys,C h ys->(∀b o,b∉wr->h.get? b=some o->h'.get? b=some o)->C h' ys
 add:∀(A:Around) (E:BA) (s:Shared) (i:Nat) (v:Value) (ys:List κ) (Q:Bool->Shared->Prop),A.units<cLine->i<n->P i v->C s.heap ys->ys.length<=i →
  (∀b h' tk ys',Heap.SameBut S s.heap h'->C h' ys'->(∀z,z∈ys'↔z∈ys\/z=val i)->ys'.length<=i+1->s.toks<=tk->Q b { s with heap:=h',toks:=tk })->wpAny (model prog w) A (setAdd S v) Q E s
section
variable{R:Result->A2->Prop}{I:A1}{wr:O A1}{P:Nat->A0->Prop}{St:Nat->A2->Prop}{C:A6->O κ->Prop}{val:Nat->κ}
theorem Yc(W:WalksS prog w A.in1 I fp wr (λa b=>b=a) n P St)(S:A1)(K:S∉fp)(ad:EE prog w S wr C P val n)(D:A.units+1<cLine):
  ∀(k i:Nat) (s:A2) (ys:O κ),n-i=k->i<=n->St i s->C s.heap ys->(∀z,z∈ys↔∃j,j<i/\z=val j)->ys.length<=i →
   (∀s' d,Moved (S::wr) (λa b=>b=a) s s'->C s'.heap d->(∀z,z∈d↔∃j,j<n/\z=val j)->R (.ok (.ret .none)) s') →
   AF (A8 prog w) A (.builtin "set.update.loop" ⟨[.ref S,.ref I],[]⟩) R s:=by
 have sub:∀b,b∈wr->b∈S::wr:=λb q=>zi _ q;intro k
 induction k with
 |zero=>
  intro i s ys hk hi st h l u m;have:i=n:=by omega
  subst this;refine jn F.entry_set_update_loop ?_;rw[Around.under_plainId xo _];show A7 _ A.in1 (pyNext (.ref I) >>= _) _ _ s;refine zb (W.done s _ _ st λs' c=>?_);show A7 _ A.in1 (ret Value.none) _ _ s';exact ze (m s' ys (c.mono sub) (ad.keep _ _ _ h c.heap) l)
 |succ k B=>
  intro i s ys hk hi st h l u m;have g:i<n:=by omega
  refine jn F.entry_set_update_loop ?_;rw[Around.under_plainId xo _];show A7 _ A.in1 (pyNext (.ref I) >>= _) _ _ s;refine zb (W.item i s _ _ g st λv s' y X c=>?_);show A7 _ A.in1 (holding [v] (setAdd S v) >>= _) _ _ s';refine zb (qq (ad.add _ _ s' i v ys _ D g y (ad.keep _ _ _ h c.heap) u λb h' tk d t x J G p=>?_));refine ze ⟨plainId_quiet xo _,B (i+1) _ d () g (W.frame _ s' _ _ X p λb f o e=>?_) x (λz=>?_) G λL E M N H=>?_⟩
  ·rw[t.2 b λq=>K (q▸f)];exact e
  ·rw[J z,l z];constructor
   ·rintro(⟨j,Q,e⟩|e)
    ·exact⟨j,by omega,e⟩
    ·exact⟨i,by omega,e⟩
   ·rintro⟨j,Q,e⟩;by_cases q:j=i
    ·exact .inr (q▸e)
    ·exact .inl ⟨j,by omega,e⟩
  ·refine m L E (Moved.trans W.gtrans ((c.mono sub).then_heap p λb o f e=>?_) M) N H;rw[t.2 b λq=>f (by rw[q];exact zh)];exact e
end
theorem Qx(x:A0){Q₁:BA}(h:Q₁ (.ref s.heap.objs.size) { s with heap:=s.heap.push (By w) }):
  AF (A8 prog w) A (.call (.builtin "set.__new__") ⟨[.type "set",x],[]⟩) (wants Q₁ E) s:=by
 refine codeAny_of_tree ?_;show A7 _ A.in1 (do checkBuiltinCall "set.__new__" ⟨[.type "set",x],[]⟩;again (.builtin "set.__new__" ⟨[.type "set",x],[]⟩)) _ _ s;refine zb (K2 (F.newCall_set_1 x) (ze ⟨plainId_quiet F.plain_set_new _,jn F.entry_set_new ?_⟩));rw[Around.under_plainId F.plain_set_new _];unfold Builtin.«set.__new__» Builtin.Frozenset.newClass;have a:=sub_set_self;obtain⟨hp,g,d,tk,os⟩:=s;dsimp only
 wp_walk
 refine wpAny_askSetting (ze ?_);dsimp only;simp only[newObj];refine zb (wpAny_alloc (ze ?_));exact ze h
theorem C4:isSubtype (.type "tuple") (.type "set")=pure false:=by rw[isSubtype_type];kernel_rfl
theorem BS:isSubtype (.type "tuple") (.type "frozenset")=pure false:=by rw[isSubtype_type];kernel_rfl
theorem Yd(hU:A.units+60<cLine){T:String}{C:A6->O κ->Prop}{P:Nat->A0->Prop}{val:Nat->κ}{Q:BA}(hh:A.handled=U)(K:s.heap.get? l=Z o)(a5:o.cls=.type T)(D:T ="list" ∨ T ="tuple")(a3:∀(d:A5) (E':BA) (Q':BA) (f:A6),d.handled=U->(∀b a,s.heap.get? b=Z a->f.get? b=Z a) →
   (∀(h':A6) (St:Nat->A6->Prop),(∀d,d.handled=U->Walks prog w d f.objs.size [f.objs.size,l] [f.objs.size] n P St)->St 0 h'->(∀b a,f.get? b=Z a->h'.get? b=Z a)->Q' (.ref f.objs.size) { s with heap:=h' })->A7 (A8 prog w) d (pyIter (.ref l)) Q' E' { s with heap:=f })(ad:EE prog w s.heap.objs.size [s.heap.objs.size+1] C P val n)(b0:∀h',h'.get? s.heap.objs.size=Z (By w)->(∀b a,s.heap.get? b=Z a->h'.get? b=Z a)->C h' [])(h:∀(h':A6) (tk:Nat) (ys:O κ),C h' ys->(∀z,z∈ys↔∃j,j<n/\z=val j)->(∀b a,s.heap.get? b=Z a->h'.get? b=Z a)->Q (.ref s.heap.objs.size) { s with heap:=h',toks:=tk }):
  A7 (A8 prog w) A (call (.type "set") [.ref l]) Q E s:=by
 obtain⟨c,tl,d2⟩:=F.called_set.mro;have d0:=F.called_set.made;have d4:=F.called_set.sub;have a6:l<s.heap.objs.size:=zw K;refine yY (codeAny_of_tree ?_);show A7 _ _ (callAny (.type "set") _) _ _ _;refine ze ⟨Code.quiet_builtin _ (by decide +kernel),jn F.entry_type_call ?_⟩;rw[Around.under_plain (weight_type_call_type "set" [.ref l] []) rfl];have h1:=F.called_set.notType;have h2:=F.called_set.canCreate;have b6:=F.typeCall_set_1 (.ref l)
 repeat (any_goals (first|assumption|wp_step))
 refine Kx (Qx (.ref l) (E:=E) (Q₁:=λM I=>M=.ref s.heap.objs.size/\I={ s with heap:=s.heap.push (By w) }) ⟨rfl,rfl⟩) λr I v=>?_;cases r with
 |error e=>exact v
 |ok fl=>
  cases fl with
  |ret M=>
   obtain⟨rfl,rfl⟩:=v;generalize t:s.heap.push (By w)=H;have J:H.objs.size=s.heap.objs.size+1:=by rw[<-t,qk]
   have y:H.get? s.heap.objs.size=Z (By w):=by rw[<-t];exact zr _ rfl
   have k:∀b a,s.heap.get? b=Z a->H.get? b=Z a:=λb a e=>by rw[<-t];exact zd _ e
   have a4:Shared.TypeIs { s with heap:=H } (.ref s.heap.objs.size) "set":=⟨_,y,rfl⟩;have d1:=F.called_set.init.lookup;have d3:=F.called_set.init.bind (.ref s.heap.objs.size)
   repeat (any_goals (first|assumption|wp_step))
   refine Kx (codeAny_call_builtin (R:=wants (λr g=>r=.none/\∃h' tk ys,g={ s with heap:=h',toks:=tk }/\C h' ys/\(∀z,z∈ys↔∃j,j<n/\z=val j)/\(∀b a,s.heap.get? b=Z a->h'.get? b=Z a)) E) F.called_set.init.plain F.entry_set_init (check_set_init_1 a4 ?_)) λb3 g x=>?_
   ·have m:Shared.TypeIs { s with heap:=H } (.ref l) T:=⟨o,k _ _ K,a5⟩;have i1:isSubtype (.type T) (.type "set")=pure false:=by rcases D with rfl|rfl;exact F.sub_list_set;exact C4
    have i2:isSubtype (.type T) (.type "frozenset")=pure false:=by rcases D with rfl|rfl;exact F.sub_list_frozenset;exact BS
    have i3:(Value.type T==Value.type "dict")=false:=by rcases D with rfl|rfl<;>decide
    show A7 _ _ (Builtin.«set.__init__» ⟨[.ref s.heap.objs.size,.ref l],[]⟩) _ _ _;have L:∀d:A5,d.handled=U->d.units+4<cLine->A7 (A8 prog w) d (Builtin.Frozenset.updateFrom "set.__init__" s.heap.objs.size (.ref l)) (λ_ g=>∃h' tk ys,g={ s with heap:=h',toks:=tk }/\C h' ys/\(∀z,z∈ys↔∃j,j<n/\z=val j)/\(∀b a,s.heap.get? b=Z a->h'.get? b=Z a)) E { s with heap:=H }:=by
     intro d N c5;unfold Builtin.Frozenset.updateFrom Builtin.Frozenset.isAnySet;refine zb (zb (Q3 m i1 ?_));refine Q3 m i2 ?_;simp only[zS,qr];refine zb (jS m ?_);simp only[i3,zS,qr];refine zb (a3 d _ _ H N k λG St W b4 B=>?_);rw[J]at W;rw[J];have a7:s.heap.objs.size∉[s.heap.objs.size+1,l]:=λq=>by
      simp only[ja,jv,or_false]at q;rcases q with q|q
      ·exact ZE (QY _) q
      ·exact kl a6 q
     refine zb (wpAny_runValue (Yc (W d.in1 N).toS s.heap.objs.size a7 ad () (n-0) 0 _ [] S (QR _) b4 (b0 G (B _ _ y) λb a e=>B _ _ (k _ _ e)) (λz=>⟨λq=>(by cases q),λ⟨j,q,_⟩=>absurd q (iR _)⟩) (zl _) λs' ys i c1 c2=>?_));refine ze ⟨s'.heap,s'.toks,ys,?_,c1,c2,λb a e=>?_⟩
     ·have e1:s'.gens=s.gens:=i.gens;have e2:s'.os=s.os:=i.os;have e3:s'.drawn=s.drawn:=i.drawn;rw[<-e1,<-e2,<-e3]
     ·have p:=zw e;refine i.heap b a (λq=>?_) (B _ _ (k _ _ e));simp only[ja,jv,or_false]at q;rcases q with q|q
      ·exact ZE p q
      ·exact ZE (qA p) q
    have p:(By w).data=.set #[] 0 (.fresh 0 0 (!w.params.followText "set-order")):=rfl;unfold Builtin.«set.__init__» noKeywords;generalize b5:Builtin.Frozenset.updateFrom=UF at L ⊢;unfold By at y
    wp_walk
    refine ZY (L _ (by simp[hh]) (by simp;omega)) (λu g q=>?_) λ_ _ q=>q;obtain⟨h',tk,ys,rfl,q⟩:=q;show A7 _ _ (ret Value.none) _ _ _;exact ze ⟨rfl,h',tk,ys,rfl,q⟩
   ·cases b3 with
    |error e=>exact x
    |ok X=>
     cases X with
     |ret r=>
      obtain⟨rfl,h',tk,ys,rfl,c1,c2,c3⟩:=x
      repeat (any_goals (first|assumption|wp_step))
      exact h _ _ _ c1 c2 c3
     |_=>exact False.elim x
  |_=>exact False.elim v
end S6
namespace S6
open PySem
structure Tb (t:SetTable):Prop where
 mask:t.mask=7\/t.mask=31\/t.mask=127
 dum:t.dummies=#[]
 rise:MK t.place
 bd:∀j:Nat,j∈t.place->j<=t.mask
 full:t.place.size<=t.mask
def X1(a:Nat)(p:SetTable.Probe):SetTable.Probe:=
 if p.more>0 then { p with j:=p.j+1,more:=p.more-1 }else
 { p with j:=(dA a p.i p.perturb).1,more:=mE a (dA a p.i p.perturb).1-(dA a p.i p.perturb).1,i:=(dA a p.i p.perturb).1,perturb:=(dA a p.i p.perturb).2 }
def VS(a i perturb:Nat):SetTable.Probe:={ j:=i,more:=mE a i-i,i,perturb,dummy:=U }
def IN(a:Nat)(h:Int):Nat->SetTable.Probe
 |0=>VS a (hO h%(a+1)) (hO h)
 |n+1=>X1 a (IN a h n)
def nx(M i:Nat):Nat:=(i*5+1)%M
def lp(a:Nat)(h:Int):Nat->Nat×Nat
 |0=>(hO h%(a+1),hO h)
 |l+1=>dA a (lp a h l).1 (lp a h l).2
structure Tok (t:SetTable) (es:Array (Int×Value)):Prop extends Tb t where
 size:t.place.size=es.size
 reach:∀(i j:Nat) e,t.place[i]?=some j->es[i]?=some e->∃n,n<10*SetTable.turns t.mask/\(IN t.mask e.1 n).j=j/\∀m,m<n->(IN t.mask e.1 m).j∈t.place
theorem Jy{α β:Type}{f:α->Y β}{g:α->β}:∀{xs:O α},(∀x∈xs,f x=Z (g x))->xs.filterMap f=xs.map g
 |[],_=>rfl
 |x::xs,h=>by
  rw[KB,h x (zh ..),Zl,Jy λy a=>h y (zi _ a)]
end S6
namespace S6
open P1 L2
abbrev cr(prog:A3)(w:A4)(ks:O AY):Int:=tupleKeyHash (eG prog w) ks
def TE(prog:A3)(w:A4)(h:A6)(z:O AY×A1)(e:Int×A0):Prop:=e=(cr prog w z.1,.ref z.2)/\IsTupleKey (eG prog w) h z.1 z.2
end S6
namespace S1
open L2
end S1
namespace S6
end S6
namespace S1
def B7:Nat->StateT SortSt Sem Unit:=sortPriv% PySem.Builtin.setMinGallop
section
variable{b:Array Keyed}
end
section
variable(le:Keyed->Keyed->Prop)
variable{le}{out xs ys:O Keyed}
end
section
variable{b:Array Keyed}
abbrev Le(rk:A0->Nat):Keyed->Keyed->Prop:=λp q=>rk p.1<=rk q.1
section
variable{x y:Array Keyed}
abbrev OZ:=Y (Array Keyed)×Array Keyed×Nat×Nat×Nat×Nat×Nat
section
variable{P:ForInStep OZ->SortSt->Prop}
end
abbrev brk(o:Y α)(f:α->StateT SortSt Sem β)(g:Unit->StateT SortSt Sem β):StateT SortSt Sem β:=Break.runK.match_1 (motive:=λ_=>StateT SortSt Sem β) o f g
section
variable{a b c:Type}
end
end
end
section
variable{b:Array Keyed}
variable{x y:Array Keyed}
abbrev US:=Y (Array Keyed)×Nat×Nat×Array Keyed×Nat×Nat×Nat
section
variable{P:ForInStep US->SortSt->Prop}
end
end
section
variable{b:Array Keyed}
end
section
variable(rk:A0->Nat)(lo:Nat)
abbrev al(xs:Array Keyed)(i:Nat):Nat:=at_ rk xs (lo+i)
def Lu(xs:Array Keyed)(k:Nat):Prop:=∀i j,i<=j->j<k->al rk lo xs j<=al rk lo xs i
end
section
variable{b:Array Keyed}{lo:Nat}{u:SortSt}
theorem grow{xs ys:Array Keyed}{x:Nat}(dn:Lu rk lo xs x)(hk:∀k,al rk lo ys k=al rk lo xs k)(b:1<=x->al rk lo xs x<=al rk lo xs (x-1)):Lu rk lo ys (x+1):=λi j a d=>by
 rw[hk,hk];by_cases hx:j<x
 ·exact dn i j a hx
 ·have c:j=x:=by omega
  subst c;by_cases hi:i=j
  ·rw[hi];exact zl _
  ·have:=dn i (j-1) () ();have:=b ();omega
end
section
variable(rk:A0->Nat)
def Ds:Nat->O (O Keyed)->O (Nat×Nat×Nat)->Prop
 |_,[],[]=>True
 |lo,g::gs,(a,n,_)::ps=>a=lo/\n=g.length/\g≠[]/\g.Pairwise (Le rk)/\Ds (lo+g.length) gs ps
 |_,_,_=>False
variable{rk}
end
section
variable{b:Array Keyed}
structure St (rk:Value->Nat) (kd:SortKind) (b:Array Keyed) (R:List Keyed) (gs:List (List Keyed)) (t:SortSt):Prop where
 kd:kindOf t=kd
 fl:failedOf t=none
 pm:(arrOf t).Perm b
 ar:(arrOf t).toList=gs.flatten++R
 ds:Ds rk 0 gs (pendingOf t).toList
end
end S1
namespace S6
open PySem
end S6
namespace P1
open L2 S6
def mj:AZ->AZ
 |[]=>[]
 |y::ys=>if y∈ys then mj ys else y::mj ys
theorem uc:∀{ys:AZ} {z:AJ},z∈mj ys↔z∈ys
 |[],z=>by simp[mj]
 |y::ys,z=>by
  unfold mj;split
  ·rename_i h;rw[uc,ja];exact⟨.inr,λq=>q.elim (λe=>e▸h) id⟩
  ·rw[ja,uc,ja]
theorem yc:∀(ys:AZ),(mj ys).Nodup
 |[]=>by simp[mj]
 |y::ys=>by
  unfold mj;split
  ·exact yc ys
  ·rename_i h;exact cc.mpr ⟨λq=>h (uc.mp q),yc ys⟩
theorem M6:∀(ys:AZ),(mj ys).length<=ys.length
 |[]=>by simp[mj]
 |y::ys=>by
  have:=M6 ys;unfold mj;split<;>simp<;>omega
theorem Aa:∀{vs:O A0} {ys:AZ},StrsAre vs ys->∀(i:Nat) (v:A0),vs[i]?=Z v->∃y t,ys[i]?=Z y/\v=.str y t
 |_,_,.nil,i,v,h=>by simp at h
 |_,_,.cons y t r,0,v,h=>by simp at h;exact⟨y,t,rfl,h.symm⟩
 |_,_,.cons y t r,i+1,v,h=>by
  obtain⟨z,t',e,a⟩:=Aa r i v (by simpa using h);exact⟨z,t',by simpa using e,a⟩
theorem Ab{prog:A3}{w:A4}:∀{ys:AZ} {l:O (Int×A0)},AI (Vi prog w) ys l->StrsAre (l.map (·.2)) ys
 |_,_,.nil=>.nil
 |_,_,.cons r t=>by obtain⟨tk,rfl⟩:=r;exact .cons _ _ (Ab t)
theorem JN:∀{l c:O A0},c.Perm l->∀{ys:AZ},StrsAre l ys->∃d,d.Perm ys/\StrsAre c d:=by
 intro l c hp
 replace hp:=hp.symm
 induction hp with
 |nil=>intro ys h;exact⟨ys,.refl _,h⟩
 |cons x _ g=>intro ys h;cases h with|cons y k t=>obtain⟨zs,z1,z2⟩:=g t;exact⟨y::zs,z1.cons _,.cons y k z2⟩
 |swap x y l=>intro ys h;cases h with|cons a k t=>cases t with|cons b n e=>exact⟨_,List.Perm.swap _ _ _,.cons b n (.cons a k e)⟩
 |trans _ _ f m=>intro ys h;obtain⟨zs,z1,z2⟩:=f h;obtain⟨us,i,j⟩:=m z2;exact⟨us,i.trans z1,j⟩
section
def F8(X:Cx)(a:A1)(zs:AZ):HO:=.ext λh=>Tx X.prog X.w h a zs
def On(X:Cx):O V->Hp->VK->Prop:=λxs H Q=>∃v b ds ys,xs=[v]/\aX X.K H b v/\mR b=Z ds/\o9 ds=Z ys/\ys.length<4000/\∀a zs H',AV H H'->H' a=Z (F8 X a zs)->(∀z,z∈zs↔z∈ys)->zs.Nodup->Q (.ref a) H'
theorem M7{S:A1}(hs:StrsAre AQ ys)(z:ys.length<4000):EE X.prog X.w S [S+1] (λh zs=>Tx X.prog X.w h S zs) (λi v=>AQ.toArray[i]?=Z v) (λi=>ys.getD i "") AQ.length where
 keep:=λh h' zs t k=>t.keep λo e=>k S o (by simp only[ja,jv,or_false];exact ZE (QY _)) e
 add:=λA E s i v zs Q _ hi c f x h=>by
  obtain⟨y,t,a,rfl⟩:=Aa hs i v (by simpa using c);have u:i<ys.length:=by
   rcases Nat.lt_or_ge i ys.length with q|q
   ·exact q
   ·rw[QP q]at a;cases a
  have n:ys.getD i ""=y:=by simp[List.getD,a]
  unfold setAdd;refine qq (zb ((strKind X.prog X.w).pyHash (strKind_is X.prog X.w y t) ?_));have g:scanBound=4096:=rfl;refine Yb (s:={ s with toks:=s.toks+1 }) f (by rw[g];omega) λb h' p j d m l=>?_;exact h b h' _ p j d (by rw[n];exact m) () (JI _)
theorem Sn(hc:X.calm=true)(hu:X.A.units+100<cLine):fU X (.type "set") (On X):=by
 intro AN s σ H xs us Q I r h;obtain⟨v,b,ds,ys,rfl,rb,ed,ey,hl,q⟩:=h;obtain⟨u,rfl,ru⟩:=BH r;obtain⟨p,vs,rfl,sq,rs⟩:=uV rb ed;obtain⟨rfl,hy⟩:=kO rs ey;cases ru;have M:=I.ok.hd hc;have W:∀(h':A6) (tk:Nat) (zs:AZ) (AQ:O A0),StrsAre AQ ys->AQ.length=ys.length->Tx X.prog X.w h' s.heap.objs.size zs->(∀z,z∈zs↔∃j,j<AQ.length/\z=ys.getD j "")->(∀b F,s.heap.get? b=Z F->h'.get? b=Z F)->EP X AN σ Q (.ref s.heap.objs.size) { s with heap:=h',toks:=tk }:=by
  intro h' tk zs AQ _ m tx C k;have a3:=I.hok.fresh (zl s.heap.objs.size);refine⟨.ref s.heap.objs.size,_,I.laid (t':=tk) (a:=s.heap.objs.size) (o:=F8 X s.heap.objs.size zs) k (zl _) ?_,rfl,q _ zs _ (bD a3) aQ (λz=>?_) ?_⟩
  ·obtain⟨o,es,ep,t,N,_⟩:=id tx;exact⟨tx,⟨o,N⟩,λh1 h2 t1 k1=>Tx.keep t1 k1⟩
  ·rw[C z];constructor
   ·rintro⟨j,E,rfl⟩;rw[m]at E;simp[List.getD,E]
   ·intro G;obtain⟨j,E,e⟩:=kg G;exact⟨j,by rw[m];exact E,by simp[List.getD,E,e]⟩
  ·obtain⟨o,es,ep,t,N,_,_,x⟩:=tx;exact x.nd
 rcases sq with sq|sq
 ·obtain⟨AQ,B,pl,G⟩:=I.list sq;have y:=kW B;have m:AQ.length=ys.length:=by rw[<-B.length,zk]
  obtain⟨o,g,c,n,d⟩:=pl.isList;refine Yd () (T :="list") M g c (.inl S) (P:=λi v=>AQ.toArray[i]?=Z v) (n:=AQ.length) (λK E' Q' l D f L=>?_) (M7 y hl) (λh' e k=>?_) λh' tk zs tx C k=>W h' tk zs AQ y m tx C k
  ·refine yi (items:=AQ.toArray) ⟨o,f _ _ g,c,n,d⟩ ?_;have J:p≠l.objs.size:=ZE (zw (f _ _ g));refine L _ (λi h=>h.IsListIter l.objs.size p i/\h.IsList p AQ.toArray) (λK D=>by have:=Walks.list (prog:=X.prog) (w:=X.w) D l.objs.size p J AQ.toArray;rw[zv]at this;exact this) ⟨⟨_,zr _ rfl,rfl,rfl⟩,⟨o,zd _ (f _ _ g),c,n,d⟩⟩ λb F e=>zd _ e
  ·exact⟨_,#[],0,_,e,⟨rfl,rfl,rfl⟩,rfl,.nil,yf,rfl,λq=>by simp[mM,q],λq=>absurd q (QU _)⟩
 ·obtain⟨AQ,B,pl,G⟩:=I.tuple sq;have y:=kW B;have m:AQ.length=ys.length:=by rw[<-B.length,zk]
  obtain⟨o,g,c,n,d⟩:=id pl;refine Yd () (T :="tuple") M g c (.inr S) (P:=λi v=>AQ.toArray[i]?=Z v) (n:=AQ.length) (λK E' Q' l D f L=>?_) (M7 y hl) (λh' e k=>?_) λh' tk zs tx C k=>W h' tk zs AQ y m tx C k
  ·refine K0 (items:=AQ.toArray) ⟨o,f _ _ g,c,n,d⟩ ?_;have J:p≠l.objs.size:=ZE (zw (f _ _ g));refine L _ (λi h=>h.IsTupleIter l.objs.size p i/\h.IsTuple p AQ.toArray) (λK D=>by have:=Walks.tuple (prog:=X.prog) (w:=X.w) D l.objs.size p J AQ.toArray;rw[zv]at this;exact this) ⟨⟨_,zr _ rfl,rfl,rfl⟩,⟨o,zd _ (f _ _ g),c,n,d⟩⟩ λb F e=>zd _ e
  ·exact⟨_,#[],0,_,e,⟨rfl,rfl,rfl⟩,rfl,.nil,yf,rfl,λq=>by simp[mM,q],λq=>absurd q (QU _)⟩
theorem TK(I:AU X AN σ H s){zs:AZ}(h:H a=Z (F8 X a zs)):Tx X.prog X.w s.heap a zs:=(I.hok _ _ h).1
theorem Vj{d:Drawn}(I:AU X AN σ H s):AU X AN σ H { s with drawn:=d }:=⟨I.ok,I.os,I.bare,I.base,I.loc,I.cell,I.free,I.jj,I.pin,I.hok,I.len⟩
def bv(X:Cx):O V->Hp->VK->Prop:=λxs H Q=>∃a zs,xs=[.ref a]/\H a=Z (F8 X a zs)/\zs.length<64/\(∀z∈zs,z.length<=AA)/\∀l H',AV H H'->H l=U->H' l=Z (.lst ((aV zs).map V.str))->Q (.ref l) H'
theorem Sl(z:X.calm=true):fU X (.builtin "sorted") (bv X):=by
 intro AN s σ H xs us Q I r h;obtain⟨a,zs,rfl,L,a3,W,q⟩:=h;obtain⟨u,rfl,M⟩:=BH r;cases M;obtain⟨o,es,ep,t,D,G,A,x⟩:=TK I L;have v:=x.size;have J:Wk X.w s.heap a es ep t:=⟨⟨o,D,G.1,A⟩,x.fit,x.led,.inl λq=>x.non ()⟩;refine YY kind_sorted plain_sorted entry_sorted (args_sorted1 _) ?_;unfold Builtin.«sorted»;refine zb (m:=checkCount "sorted" 1 1 _) (ze (zb (M5 (by exact I.ok.hd z) J (by rw[v,sizeLine_eq];omega) λc h1 d tk hp k ext=>?_)));obtain⟨ys,K,g⟩:=JN hp (Ab x.rel);have B:c.length<64:=by rw[hp.length_eq];simp;omega
 refine zb (Y2 ?_);have f:(h1.push (seqObj "list" c.toArray 0)).get? h1.objs.size=Z (seqObj "list" c.toArray 0):=zr _ rfl;refine zb (qq (Qb slot_list_sort ⟨_,f,rfl⟩ entry_list_sort (list_sort_treeK strKind_oneLt f g.keysOf (λP N AS e=>keyKind_strs (by rw[<-e];exact g)) B λi a1 a2=>⟨_,rfl,ze ⟨_,rfl,?_⟩⟩) (args_list_sort _)));obtain⟨us,y,E,p⟩:=sorted_out_str g a1 a2;obtain⟨n,en⟩:=sortedHeap_at (out:=(AM i).map (·.2)) f;have C:=CN (E.trans K) p;subst C;have l:=I.hok.fresh (a:=h1.objs.size) k;have F:=Vj (d:=d) (I.laid (t':=tk) (a:=h1.objs.size) (o:=.lst ((aV zs).map V.str)) (h':=sortedHeap (h1.push (seqObj "list" c.toArray 0)) h1.objs.size c ((AM i).map (·.2))) (λb o e=>by
  have e1:=ext b o e;have j:=zw e1;rw[sortedHeap_old (ZE j) (by rw[qk];exact qA j)];exact zd _ e1) k ⟨by rw[zk,(bx _).length_eq,sizeLine_eq];omega,((AM i).map (·.2)).toList,n,uT y,by rw[en]⟩)
 exact⟨.ref h1.objs.size,_,F,rfl,q _ _ (bD l) l aQ⟩
def tS(X:Cx)(f:Ev->Y AZ):TE:=λσ H Q=>∃H0 ρ ys,bF X.K H0 H σ ρ/\f ρ=Z ys/\ys.length<4000/\∀a zs H',AV H H'->H' a=Z (F8 X a zs)->(∀z,z∈zs↔z∈ys)->zs.Nodup->(∀z∈zs,z.length<=AA)->Q (.ref a) H'
def Hd(X:Cx)(e:Expr)(f:Ev->Y AZ):Prop:=PE X e (tS X f)
def Ye(b:Bx):Y AZ:=(mR b).bind o9
variable{fs:Ev->Y AZ}{p:Pos}
theorem UC(n:X.calm=true)(k:X.A.units+100<cLine)(t:Gl X "set")(w:X.mg "set"=U)(y:PV X e f)(he:A9 (e::[]) X.env=(false,eval e X.env)::A9 [] X.env:=by rfl):Hd X (.Call (.Name "set" p) [e] [] pos) (λρ=>(f ρ).bind Ye):=by
 refine FT (GZ (T :="set") (Sn n k) t w S (aY y cX he) (he:=he)) λσ H Q h=>?_;obtain⟨H0,ρ,ys,E,c,x,q⟩:=h;obtain⟨b,eb,c⟩:=AT c;obtain⟨ds,d,i⟩:=AT c;refine⟨H0,ρ,b,E,eb,λv H1 j B g=>⟨v,b,ds,ys,rfl,g,d,i,x,λa zs H2 u e2 m s=>?_⟩⟩;refine q a zs H2 (j.trans u) e2 m s λz o=>?_;obtain⟨p',vs,rfl,sq,l⟩:=uV g d;exact(kO l i).2 z ((m z).mp o)
theorem dC(j:X.calm=true)(n:Gl X "sorted")(t:X.mg "sorted"=U)(u:Hd X e fs)(he:A9 (e::[]) X.env=(false,eval e X.env)::A9 [] X.env:=by rfl):PV X (.Call (.Name "sorted" p) [e] [] pos) (λρ=>(fs ρ).bind λys=>if ys.length<4000/\(mj ys).length<64 then Z (.o ((aV (mj ys)).map Dt.str))else U):=by
 refine FT (fV (id :="sorted") (Sl j) n t S (aY u cX he) (he:=he)) λσ H Q h=>?_;obtain⟨H0,ρ,b,E,c,q⟩:=h;obtain⟨ys,k,c⟩:=AT c;split at c
 ·rename_i v;cases c;refine⟨H0,ρ,ys,E,k,by omega,λa zs H1 d e1 m f g=>⟨a,zs,rfl,e1,?_,g,λl H2 s i e2=>?_⟩⟩
  ·have:=(JM f (yc ys) λz=>by rw[m z,uc]).length_eq;omega
  ·have pm:=JM f (yc ys) λz=>by rw[m z,uc]
   have es:aV zs=aV (mj ys):=xW ((bx zs).trans (pm.trans (bx _).symm)) (f9 zs) (f9 _);rw[es]at e2;exact q _ H2 (d.trans s) (λa ea=>by cases ea;exact d.free i) ⟨l,_,rfl,e2,n8 λy h=>g y (pm.mem_iff.mpr ((bx _).mem_iff.mp h))⟩
 ·cases c
end
section
variable{xs:AZ}
end
theorem M8:∀{ds:O Dt} {ys:AZ},o9 ds=Z ys->ds=ys.map Dt.str
 |[],_,e=>by cases e;rfl
 |.str x::ds,_,e=>by
  simp only[o9]at e;obtain⟨ys,e1,e2⟩:=AT e;cases e2;rw[Zl,<-M8 e1]
 |.non::_,_,e=>by cases e
 |.bl _::_,_,e=>by cases e
 |.int _::_,_,e=>by cases e
 |.tup _::_,_,e=>by cases e
 |.lst _::_,_,e=>by cases e
 |.emp::_,_,e=>by cases e
section
variable{xs:AZ}
structure M' (X:Cx) (e:Expr) (f:Ev->Option AZ):Prop where
 run:Hd X e f
def GL(f:Ev->Y Bx):Ev->Y AZ:=λρ=>(f ρ).bind Ye
def Sx(fs:Ev->Y AZ):Ev->Y Bx:=λρ=>(fs ρ).bind λys=>if ys.length<4000/\(mj ys).length<64 then Z (.o ((aV (mj ys)).map Dt.str))else U
variable{fs:Ev->Y AZ}{p':Pos}
theorem S2(b:X.calm=true)(a:X.A.units+100<cLine)(c:Gl X "set")(d:X.mg "set"=U)(g:QV X e f)(he:A9 (e::[]) X.env=(false,eval e X.env)::A9 [] X.env:=by rfl):M' X (.Call (.Name "set" p') [e] [] pos) (GL f):=⟨UC b a c d g.run he⟩
theorem br(c:X.calm=true)(a:Gl X "sorted")(b:X.mg "sorted"=U)(d:M' X e fs)(he:A9 (e::[]) X.env=(false,eval e X.env)::A9 [] X.env:=by rfl):QV X (.Call (.Name "sorted" p') [e] [] pos) (Sx fs):=⟨dC c a b d.run he⟩
end
end P1
namespace P1
open L2 S1 S6
section
variable [DecidableEq α]
end
section
def FF(ks:O AY):Bool:=ks.any λk=>k.isRight
variable{fs:Ev->Y (O (O AY))}{p:Pos}
end
end P1
namespace P1
open L2
section
variable{kx vx:Expr}{xs:AZ}
end
section
variable{ks:O (AY×V)}
theorem Dk(j:∀f u,X.H₀ a≠Z (.jm f u))(I:L2.AU X AN σ H s)(e:H a=Z (.jm o (.dK ks))):L2.AU X AN σ (B1 H a (.dK ks)) s:=by
 have g:∀{b:A1} {u:HO},H b=Z u->u≠.jm o (.dK ks)->b≠a:=λq n z=>by subst z;rw[e]at q;cases q;exact n rfl
 have h:∀{b:A1},H b=U->b≠a:=λq z=>by subst z;rw[e]at q;cases q
 refine⟨I.ok,I.os,I.bare,⟨I.base.keep,I.base.slot,λb f q n hx=>?_,I.base.there,λb xs q=>?_,λb f u q=>?_,λb ps q=>?_⟩,I.loc,I.cell,?_,λx c q=>?_,λp hp=>?_,λb f q=>?_,I.len⟩
 ·have:=I.base.free b f q n hx;rw[aF (h this)];exact this
 ·have:=I.base.tups b xs q;rw[aF (g this λz=>by cases z)];exact this
 ·have:=I.base.nP b f u q;rw[aF (λz=>by subst z;exact j _ _ q)];exact this
 ·obtain⟨m,this⟩:=I.base.qD b ps q;exact⟨m,by rw[aF (g this λz=>by cases z)];exact this⟩
 ·have:=I.free;rw[aF (h this)];exact this
 ·have:=I.jj x c q;rw[aF (h this)];exact this
 ·obtain⟨p1,p2,p3⟩:=I.pin p hp;exact⟨p1,by rw[aF (h p2)];exact p2,p3⟩
 ·have st:∀{c:A1} {w:HO},eU X.prog X.w H s.heap c w->eU X.prog X.w (B1 H a (.dK ks)) s.heap c w:=λx=>
   x.stay (λ_ _ _ r=>r) (λd r=>by rw[aF (g r λz=>by cases z)];exact r) (λd xs r=>by rw[aF (g r λz=>by cases z)];exact r) λd o' k r=>by rw[aF (g r λz=>by cases z)];exact r
  by_cases i:b=a
  ·subst i;rw[aQ]at q;cases q;exact st (I.hok _ _ e).2
  ·rw[aF i]at q;exact st (I.hok _ _ q)
theorem O'(I:L2.AU X AN σ H s)(e:H a=Z (.dK ks))(b:s.heap.get? a=Z o):L2.AU X AN σ (B1 H a (.jm o (.dK ks))) s:=by
 have:=I.write (t':=s.toks) (h':=s.heap) (x:=a) (e:=a) (o:=.jm o (.dK ks)) (by rw[e];exact True.intro) (.inl S) (λ_ _ _ z=>z) ⟨o,b⟩ ⟨b,(I.hok _ _ e).stay (λ_ _ _ r=>r) (λd r=>by rw[aF (ji r e (by intro z;cases z))];exact r) (λd xs r=>by rw[aF (ji r e (by intro z;cases z))];exact r) λd o' c r=>by rw[aF (ji r e (by intro z;cases z))];exact r⟩;exact this
theorem XO(I:L2.AU X AN σ H s)(e:H a=Z (.dK ks)):∀b u,X.H₀ a≠Z (.jm b u):=λb u q=>by
 have:=I.base.nP a b u q;rw[e]at this;cases this
mutual
theorem AW.Dk{K:B4}(e:H a=Z (.jm o (.dK ks)))(hk:ks≠[]):∀{d:Dt} {v:V},AW K H d v->AW K (B1 H a (.dK ks)) d v
 |.non,_,h=>by simpa only[AW]using h
 |.bl _,_,h=>by simpa only[AW]using h
 |.int _,_,h=>by simpa only[AW]using h
 |.str _,_,h=>by simpa only[AW]using h
 |.tup ds,_,h=>by
  simp only[AW]at h ⊢;obtain⟨b,vs,e1,q,r⟩:=h;refine⟨b,vs,e1,?_,aP.Dk e hk r⟩;rcases q with (q|⟨c,q⟩)|q
  ·exact .inl (.inl (by rw[aF (λz=>by subst z;rw[e]at q;cases q)];exact q))
  ·exact .inl (.inr ⟨c,by rw[aF (λz=>by subst z;rw[e]at q;cases q)];exact q⟩)
  ·exact .inr q
 |.lst ds,_,h=>by
  simp only[AW]at h ⊢;obtain⟨b,vs,e1,q,r⟩:=h;refine⟨b,vs,e1,?_,aP.Dk e hk r⟩;rcases q with⟨c,q⟩|q
  ·exact .inl ⟨c,by rw[aF (λz=>by subst z;rw[e]at q;cases q)];exact q⟩
  ·exact .inr q
 |.emp,_,h=>by
  simp only[AW]at h ⊢;obtain⟨b,c,e1,q⟩:=h;exact⟨b,c,e1,by rw[aF (λz=>by subst z;rw[e]at q;cases q;exact hk S)];exact q⟩
theorem aP.Dk{K:B4}(e:H a=Z (.jm o (.dK ks)))(hk:ks≠[]):∀{ds:O Dt} {vs:O V},aP K H ds vs->aP K (B1 H a (.dK ks)) ds vs
 |[],_,h=>by simpa only[aP]using h
 |d::ds,_,h=>by
  simp only[aP]at h ⊢;obtain⟨v,r,e1,q,t⟩:=h;exact⟨v,r,e1,AW.Dk e hk q,aP.Dk e hk t⟩
end
def NI(a:A1)(o:AE)(ks:O (AY×V)):It:=
 ⟨λi H=>H a=Z (.jm o (.dK ks))/\i<ks.length,λi H x H'=>H'=H/\(ks.map λk=>kV k.1)[i]?=Z x,λi H=>H a=Z (.jm o (.dK ks))/\ks.length<=i⟩
theorem Sy(x:eU P w H h a (.jm o (.dK ks))){es:Array DictEntry}(b:o.data=.dict es ep):∃vs,KV ks vs/\h.DictAt (eG P w) a vs ep:=by
 obtain⟨e,_,_,vs,f,i,j,g,e2,c,d,r⟩:=x;rw[e]at e2;cases e2;rw[b]at d;cases d;exact⟨vs,f,o,es,e,c,b,r⟩
theorem Yg:∀{ks:O (AY×V)} {vs:O (AY×A0)},KV ks vs->∀{i:Nat} {p},ks[i]?=Z p->∃x,vs[i]?=Z (p.1,x)
 |_,_,.nil,i,p,q=>by simp at q
 |_,_,.cons h _,0,p,q=>by simp at q;subst q;exact⟨_,by rw[List.getElem?_cons_zero,h.1]⟩
 |_,_,.cons _ t,i+1,p,q=>by
  rw[xn]at q;obtain⟨x,hx⟩:=Yg t q;exact⟨x,by rw[xn];exact hx⟩
theorem Hw(it:A1){es:Array DictEntry}(G:o.data=.dict es ep)(a3:a≠it):C9 P w K tg (NI a o ks) [it] it (λi h=>h.IsKeyIter it a i ks.length ep) where
 mem:=by simp
 obj:=λi h st b f=>by
  have e:b=it:=by simpa using f
  subst e;obtain⟨g,e,c,d⟩:=st;exact⟨g,e,λv z=>by rw[d]at z;cases z⟩
 keep:=λi h h' st k=>st.at λg e=>k it (by simp) g e
 item:=by
  intro X p y q J i AN s σ H E I l st A;subst p y q;obtain⟨F,hi⟩:=A;obtain⟨vs,m,B⟩:=Sy (I.hok _ _ F) G;have n:ks.length=vs.length:=m.length;obtain⟨x,hx⟩:=Yg m (show ks[i]?=Z ks[i] by simp[hi]);obtain⟨f0,f1,f2,f3,u,C⟩:=l it (by simp);rw[n]at st;refine wpAny_pyNext_dict_item st B hx λL h' W D Q=>?_;rw[<-n]at D;have N:L2.AU X AN σ H { s with heap:=h' }:=I.turned (t':=s.toks) (λb g f e=>(Q.2 b f).trans e) f0 f1 f3 u C;obtain⟨g,e,c,d⟩:=id D;refine⟨L,rfl,Cd (s:={ s with heap:=h' }) e c d () ⟨kV (ks[i]).1,H,N,?_,⟨rfl,by rw[Zs,zo hi];rfl⟩,D,λb f=>(l b f).1⟩⟩;have M:j7 (ks[i]).1 L=true:=W;rcases bW M with⟨j,t,e2,e3⟩|⟨z,t,e2,e3⟩
  ·rw[e2,e3];exact⟨t,rfl⟩
  ·rw[e2,e3];exact⟨t,rfl⟩
 done:=by
  intro X p y q J i AN s σ H E I l st A;subst p y q;obtain⟨F,hi⟩:=A;obtain⟨vs,m,B⟩:=Sy (I.hok _ _ F) G;have n:ks.length=vs.length:=m.length;obtain⟨f0,f1,f2,f3,u,C⟩:=l it (by simp);rw[n]at st;exact wpAny_pyNext_dict_end (I.ok.hd J) st B (QP ()) λh' eb=>⟨rfl,I.turned (t':=s.toks) (λb g f e=>eb b g f e) f0 f1 f3 u C⟩
 self:=λ_ _ _ _ _ st h=>wpAny_pyIter_keyiter st h
def Qy:AY->Dt
 |.inl i=>.int i
 |.inr x=>.str x
theorem Yh{k:AY}(h:FO k):AW K H (Qy k) (kV k):=by
 cases k with
 |inl i=>unfold Qy AW;rfl
 |inr x=>unfold Qy AW;exact⟨rfl,h⟩
def D4:Bx->Y (O Dt)
 |.n AO=>Z (AO.map λp=>Qy p.1)
 |_=>U
theorem Vk(h:D4 b=Z ds):∃AO,b=.n AO/\ds=AO.map λp=>Qy p.1:=by
 unfold D4 at h;split at h
 ·cases h;exact⟨_,rfl,rfl⟩
 ·cases h
theorem Ad{AO:O (AY×Dt)}(c:Hs a=Z (.jm o (.dK ks)))(b:rZ K Hs AO ks):B6 K (NI a o ks) (AO.map λp=>Qy p.1) Hs:=.of λi H s=>by
 have f:=b.len;refine⟨λd e=>?_,λe=>⟨s _ _ c,by rw[zk]at e;omega⟩⟩;rw[Zs]at e;cases hp:AO[i]? with
 |none=>rw[hp]at e;cases e
 |some p=>
  rw[hp]at e;cases e;have hi:i<AO.length:=(ay.mp hp).1;refine⟨⟨s _ _ c,by omega⟩,λx H' y=>?_⟩;obtain⟨y1,y2⟩:=y;refine⟨y1,?_⟩;have h1:(ks.map (·.1))[i]?=Z p.1:=by rw[b.1,Zs,hp];rfl
  rw[Zs]at h1 y2;cases hk:ks[i]? with
  |none=>rw[hk]at h1;cases h1
  |some q=>
   rw[hk]at h1 y2;cases y2;have:q.1=p.1:=by simpa using h1
   show AW K H (Qy p.1) (kV q.1);rw[this];exact Yh (b.2.2 p (ZN hp))
theorem Qz{H1:Hp}(e:H1 a=Z (.dK ks))(E:bF K H1 H1 (vO is σ++aw n U) (jF is ρ++aw n U)):bF K (B1 H1 a (.jm o (.dK ks))) (B1 H1 a (.jm o (.dK ks))) (vO is σ++aw n U) (jF is ρ++aw n U):=by
 have kp:Kp H1 (B1 H1 a (.jm o (.dK ks))):=.dk e;have f:∀(j:Nat) c,(jF is ρ++aw n U)[j]?=Z (Z c)->vN c=false:=λj c e=>by
  by_cases s:j<is.length
  ·rw[Z3 (by simp[jF];omega)]at e;unfold jF at e;rw[Zs]at e;cases q:is[j]? with
   |none=>rw[q]at e;cases e
   |some i=>
    rw[q]at e;have:wz ρ i=Z c:=by simpa using e
    exact xu this
  ·rw[qv (by simp[jF];omega),jI]at e;split at e<;>cases e
 refine⟨E.len,λj b eb=>?_,λj k c a b e p=>absurd p (by rw[f j c e];exact zI),AV.refl _,λj c a e p=>absurd p (by rw[f j c e];exact zI)⟩;obtain⟨v,ev,r⟩:=E.val j b eb;refine⟨v,ev,?_⟩;cases b with
 |z d=>exact AW.kp kp r
 |o ds=>have:=f j _ eb;cases this
 |m ds _=>have:=f j _ eb;cases this
 |l ds=>
  obtain⟨b,vs,e1,q,r⟩:=r;refine⟨b,vs,e1,?_,r.kp kp⟩;rcases q with q|⟨g,q⟩
  ·exact .inl (by rw[aF (ji q e (by intro z;cases z))];exact q)
  ·exact .inr ⟨g,by rw[aF (ji q e (by intro z;cases z))];exact q⟩
 |n ds=>
  obtain⟨b,vs,e1,q,r⟩:=r;refine⟨b,vs,e1,?_,r.kp kp⟩;by_cases h:b=a
  ·subst h;rcases q with q|⟨g,q⟩
   ·rw[e]at q;cases q;exact .inr ⟨o,aQ⟩
   ·rw[e]at q;cases q
  ·rcases q with q|⟨g,q⟩
   ·exact .inl (by rw[aF h];exact q)
   ·exact .inr ⟨g,by rw[aF h];exact q⟩
end
section
variable{fd:Ev->Y Bx}{xs:AZ}
def SJ(fd:Ev->Y Bx):Ev->Y (O Dt):=λρ=>(fd ρ).bind D4
theorem Vl(ρ:Ev):zU gt p fe ρ []=Z []:=rfl
theorem Yi(ts:AZ)(O:qK X scope cl xs is)(b5:X.calm=true)(hi:QV X iter fd)
  (K1:∀C d f fp,ED (Bt X (xs++ts) scope cl C d f fp) tgt gt) (b3:∀C d f fp,Jp (Bt X (xs++ts) scope cl C d f fp) ifs p) (a4:∀C d f fp,QV (Bt X (xs++ts) scope cl C d f fp) elt fe) (b4:D8 is.length (is.length+ts.length) gt)
  (hs:∀x,foldedSetIterable iter X.env x=pure x:=by intro _;rfl):QV X (.ListComp elt [⟨tgt,iter,ifs,0⟩] scope pos) (gO (SJ fd) gt p fe is ts.length):=⟨λAN s σ H Q I h=>by
 obtain⟨H0,ρ,b,E,e,q⟩:=h;obtain⟨ds,y,e⟩:=AT e;split at e
 ·rename_i b0;obtain⟨out,l,e⟩:=AT e;cases e;obtain⟨bd,d4,y⟩:=AT y;obtain⟨AO,rfl,rfl⟩:=Vk y;rw[eval_ListComp];refine KI (use:=U) S hs O.clos O.kind O.names ?_;refine ig (hi.run AN s σ H (λv H1=>AV H H1/\aX X.K H1 (.n AO) v) I ⟨H0,ρ,_,E,d4,λv H1 c _ G=>⟨c,G⟩⟩) λv c ⟨v',H1,I1,rv,s01,G⟩=>?_;obtain⟨a,ks,rfl,g,rm⟩:=G;cases rv;obtain⟨_,d1,vs,kv,t,es,ep,P⟩:=vP I1.hok g;have a3:=P.1;have a6:=P.2.2.1;refine wpAny_pyIter_dict d1 (⟨t,es,P⟩:c.heap.DictAt (eG X.prog X.w) a vs ep) ?_;have a7:a<c.heap.objs.size:=zw a3;have hl:ks.length=vs.length:=kv.length;have a5:∀{H':Hp},L2.AU X AN σ H' c->∀b∈[c.heap.objs.size],lQ X AN H' b:=λj b i=>by
   have e:b=c.heap.objs.size:=by simpa using i
   subst e;exact j.Ga (zl _) (j.hok.fresh (zl _))
  have c5:Heap.IsKeyIter (c.heap.push { cls:=.type "dict_keyiterator",data:=.fields #[.ref a,.int 0 0,.int vs.length 0,.int ep 0] }) c.heap.objs.size a 0 ks.length ep:=⟨_,zr _ rfl,rfl,by rw[hl];rfl⟩;rcases g with g|⟨o',g⟩
  ·
   have I2:=O' I1 g a3;have I3:L2.AU X AN σ (B1 H1 a (.jm t (.dK ks))) { c with heap:=c.heap.push { cls:=.type "dict_keyiterator",data:=.fields #[.ref a,.int 0 0,.int vs.length 0,.int ep 0] } }:=I2.kept (t':=c.toks) λb o e=>zd _ e;have d0:rZ X.K (B1 H1 a (.jm t (.dK ks))) AO ks:=rm.kp (.dk g);refine xK (B:=R6) (RR:=λL C=>compPost (ii X) X.A X.xe U (EP X AN σ Q) L C) (ts:=ts) (xs:=xs) O b5 (λC d f fp=>(K1 C d f fp).run) (λC d f fp=>(b3 C d f fp).run) (λC d f fp=>(a4 C d f fp).run) b4 I3 (Qz g ((E.grow s01).caps is ts.length)) (Xj (Hw c.heap.objs.size a6 (ZE a7))) c5 (a5 I2) (Ad aQ d0) b0 l ?_;intro D C s' H' us k j N ⟨m,hn⟩ s2' hD' r';have F:H' a=Z (.jm t (.dK ks)):=s2' _ _ aQ;have b6:D≠a:=λz=>by subst z;rw[aQ]at k;cases k
   have d2:H1 D=U:=by rw[aF b6]at k;exact k
   have sm:AV H1 (B1 H' a (.dK ks)):=λb u e=>by
    by_cases i:b=a
    ·subst i;rw[g]at e;cases e;exact aQ
    ·rw[aF i];exact s2' b u (by rw[aF i];exact e)
   have rr:aP X.K (B1 H' a (.dK ks)) out us:=by
    by_cases hk:ks=[]
    ·have:AO=[]:=by have:=rm.len;rw[hk]at this;exact cb.mp (by simpa using this.symm)
     subst this;simp only[kP]at l;rw[Vl]at l;cases l;simpa only[aP]using r'
    ·exact aP.Dk F hk r'
   refine⟨m,hn,λh' M=>⟨.ref D,B1 H' a (.dK ks),?_,rfl,q _ _ (s01.trans sm) (λa ea=>by cases ea;exact s01.free d2) ⟨D,us,rfl,by rw[aF b6];exact hD',rr⟩⟩⟩;obtain⟨f0,f1,f2,f3,J,W⟩:=N;have d9:C≠a:=λz=>by subst z;rw[F]at f0;cases f0
   exact(Dk (XO I1 g) j F).turned (t':=s'.toks) (λb o i e=>(M.2 b i).trans e) (by rw[aF d9];exact f0) f1 f3 J W
  ·have d3:o'=t:=by
    have:=(I1.hok _ _ g).1;rw[a3]at this;cases this;rfl
   subst d3;have I3:L2.AU X AN σ H1 { c with heap:=c.heap.push { cls:=.type "dict_keyiterator",data:=.fields #[.ref a,.int 0 0,.int vs.length 0,.int ep 0] } }:=I1.kept (t':=c.toks) λb o e=>zd _ e;refine xK (B:=R6) (RR:=λL C=>compPost (ii X) X.A X.xe U (EP X AN σ Q) L C) (ts:=ts) (xs:=xs) O b5 (λC d f fp=>(K1 C d f fp).run) (λC d f fp=>(b3 C d f fp).run) (λC d f fp=>(a4 C d f fp).run) b4 I3 ((E.grow s01).caps is ts.length) (Xj (Hw c.heap.objs.size a6 (ZE a7))) c5 (a5 I1) (Ad g rm) b0 l ?_;intro D C s' H' us k j N ⟨m,hn⟩ s2' hD' r';refine⟨m,hn,λh' M=>⟨.ref D,H',?_,rfl,q _ _ (s01.trans s2') (λa ea=>by cases ea;exact s01.free k) ⟨D,us,rfl,hD',r'⟩⟩⟩;obtain⟨f0,f1,f2,f3,J,W⟩:=N;exact j.turned (t':=s'.toks) (λb o i e=>(M.2 b i).trans e) f0 f1 f3 J W
 ·cases e⟩
end
def two(a b:AJ)(i:Nat):AJ:=if i=0 then a else b
section
variable{fs:Ev->Y (O Bx)}{p px spos:Pos}{f:A1}{G:A1->O (AY×Dt)->O Bx->Y (O (AY×Dt))}
end
def Vm:Y Bool->Bool
 |some true=>true
 |_=>false
def JQ(x:Dt)(ys:O Dt):Y Bool:=if(ys.all λy=>(uQ y x).isSome&&decide (min (uP y) (uP x)<=60))=true then Z (ys.any λy=>Vm (uQ y x))else U
def inX(a b:Bx):Y Bx:=match a with
 |.z d=>(mR b).bind λys=>(JQ d ys).bind λk=>Z (.z (.bl k))
 |_=>U
def JR(a b:Bx):Y Bx:=match a with
 |.z d=>(mR b).bind λys=>(JQ d ys).bind λk=>Z (.z (.bl (!k)))
 |_=>U
theorem JT(I:L2.AU X AN σ H s)(G:X.A.units+100<cLine){x:V}(E:AW X.K H d x)(F:B0 x u){ys:O Dt}(n:aP X.K H ys vs)(l:AX vs AQ){k:Bool}(hk:JQ d ys=Z k):
  ∃e:A0->Bool,(∀y,y∈AQ->SeqAt.EqAt X.A.in1 s y u (e y))/\AQ.any e=k:=by
 unfold JQ at hk;split at hk
 ·rename_i o;injection hk with hk;rw[QI]at o;have at_:∀(i:Nat) y,AQ[i]?=Z y->∃c,ys[i]?=Z c/\SeqAt.EqAt X.A.in1 s y u (Vm (uQ c d)):=λi y j=>by
   have C:=l.length;have z:=n.length;have hi:i<AQ.length:=(ay.mp j).1;have a:i<ys.length:=by omega
   obtain⟨v,ev,w⟩:=n.get (show ys[i]?=Z ys[i] by simp[a]);obtain⟨J,t,D⟩:=l.get ev;rw[j]at t;cases t;refine⟨ys[i],by simp[a],?_⟩;have g:=o ys[i] (kq a);rw[ZZ]at g;obtain⟨b,p⟩:=dV.mp g.1;have:=NF I 60 (A:=X.A.in1) (yn g.2) (by rw[units_in1];omega) w E D F p;rw[p];cases b<;>exact this
  classical
  refine⟨λy=>decide (∃(i:Nat) (c:Dt),AQ[i]?=Z y/\ys[i]?=Z c/\Vm (uQ c d)=true),λy j=>?_,?_⟩
  ·dsimp only;by_cases q:∃(i:Nat) (c:Dt),AQ[i]?=Z y/\ys[i]?=Z c/\Vm (uQ c d)=true
   ·rw[qS q];obtain⟨i,c,h1,h2,f⟩:=q;obtain⟨c',e1,e2⟩:=at_ i y h1;rw[h2]at e1;cases e1;rw[f]at e2;exact e2
   ·rw[ZU q];obtain⟨i,hi,m⟩:=kg j;have h1:AQ[i]?=Z y:=by rw[zo hi,m]
    obtain⟨c,e1,e2⟩:=at_ i y h1;have:Vm (uQ c d)=false:=by
     cases B:Vm (uQ c d)with
     |false=>rfl
     |true=>exact absurd ⟨i,c,h1,e1,B⟩ q
    rw[this]at e2;exact e2
  ·rw[<-hk,KU,y7,y7];constructor
   ·rintro⟨y,j,h⟩;obtain⟨i,c,h1,h2,f⟩:=yn h;exact⟨c,ZN h2,f⟩
   ·rintro⟨c,g,f⟩;obtain⟨i,hi,m⟩:=kg g;have C:=l.length;have z:=n.length;have a:i<AQ.length:=by omega
    exact⟨AQ[i],kq a,qS ⟨i,c,by simp[a],by rw[zo hi,m],f⟩⟩
 ·cases hk
theorem Dl(j:X.A.units+100<cLine):Ax X (AG .In) inX:=by
 intro AN s σ H x y v u Q I n z h;obtain⟨a,b,c,m,B,e,q⟩:=h;unfold inX at e;split at e
 ·rename_i d;obtain⟨ys,o,e⟩:=AT e;obtain⟨k,ek,e⟩:=AT e;cases e;obtain⟨p,vs,rfl,sq,l⟩:=uV B o;cases z;rcases sq with sq|sq
  ·obtain⟨AQ,g,pl,t⟩:=I.list sq;obtain⟨f,f1,f2⟩:=JT I j m n l g ek;refine SeqAt.in_listAt f pl.isList (λw i=>f1 w (by simpa using i)) ⟨.bl k,H,I,by rw[show AQ.toArray.any f=AQ.any f by simp,f2];rfl,q _ H (AV.refl H) trivial (by simp only[aX,AW])⟩
  ·obtain⟨AQ,g,pl,t⟩:=I.tuple sq;obtain⟨f,f1,f2⟩:=JT I j m n l g ek;refine SeqAt.in_tupleAt f pl (λw i=>f1 w (by simpa using i)) ⟨.bl k,H,I,by rw[show AQ.toArray.any f=AQ.any f by simp,f2];rfl,q _ H (AV.refl H) trivial (by simp only[aX,AW])⟩
 ·cases e
theorem JV(j:X.A.units+100<cLine):Ax X (AG .NotIn) JR:=by
 intro AN s σ H x y v u Q I n z h;obtain⟨a,b,c,m,B,e,q⟩:=h;unfold JR at e;split at e
 ·rename_i d;obtain⟨ys,o,e⟩:=AT e;obtain⟨k,ek,e⟩:=AT e;cases e;obtain⟨p,vs,rfl,sq,l⟩:=uV B o;cases z;rcases sq with sq|sq
  ·obtain⟨AQ,g,pl,t⟩:=I.list sq;obtain⟨f,f1,f2⟩:=JT I j m n l g ek;refine SeqAt.notIn_listAt f pl.isList (λw i=>f1 w (by simpa using i)) ⟨.bl (!k),H,I,by rw[show AQ.toArray.any f=AQ.any f by simp,f2];rfl,q _ H (AV.refl H) trivial (by simp only[aX,AW])⟩
  ·obtain⟨AQ,g,pl,t⟩:=I.tuple sq;obtain⟨f,f1,f2⟩:=JT I j m n l g ek;refine SeqAt.notIn_tupleAt f pl (λw i=>f1 w (by simpa using i)) ⟨.bl (!k),H,I,by rw[show AQ.toArray.any f=AQ.any f by simp,f2];rfl,q _ H (AV.refl H) trivial (by simp only[aX,AW])⟩
 ·cases e
section
variable{st:O AB}
def II(i:Nat)(ρ:Ev):Y Ev:=match ρ[i]? with
 |some (Z (.o ds))=>Z (ρ.set i (Z (.z (.lst ds))))
 |_=>U
def EH(i:Nat)(g:Ev->Y As):Ev->Y As:=λρ=>(II i ρ).bind g
theorem RI(h:Ue X st g):Ue X st (EH i g):=by
 intro AN s σ H D I q;obtain⟨H0,ρ,r,E,e,f⟩:=q;obtain⟨l,e1,e2⟩:=AT e;unfold II at e1;split at e1
 ·rename_i ds b;cases e1;obtain⟨v,j,a,vs,rfl,c,d⟩:=E.val i _ b;obtain⟨o,k⟩:=qI I c;have kp:Kp H (B1 H a (.jm o (.lst vs))):=.lst c;refine h AN s σ _ D k ⟨H0,_,r,E.ag8 b S j kp ?_,e2,f⟩;simp only[aX,AW];exact⟨a,vs,rfl,.inl ⟨o,aQ⟩,d.kp kp⟩
 ·cases e1
theorem QC(h:Ut X st g):Ut X st (EH i g):=⟨RI h.run⟩
end
open AutoSeq1 (wpAny_loadPart')
open SeqAt
section
variable{o:Expr}{fx:Ev->Y Bx}
end
section
variable{t:Ev->Y Bool}
end
section
variable{h':A6}
theorem Tk{t':Nat}{e:A1}(I:L2.AU X AN σ H s)(k:∀b o,b≠e->b≠it->s.heap.get? b=Z o->h'.get? b=Z o)(fe:lQ X AN H e)(fi:lQ X AN H it)(he:∃o,h'.get? e=Z o)(hi:∃o,h'.get? it=Z o)(new:eU X.prog X.w (B1 H s.heap.objs.size (.tup xs)) h' s.heap.objs.size (.tup xs)):L2.AU X AN σ (B1 H s.heap.objs.size (.tup xs)) { s with heap:=h',toks:=t' }:=by
 have i:H s.heap.objs.size=U:=I.hok.fresh (zl _);have g:∀b u,H b=Z u->b≠s.heap.objs.size:=λb u q z=>by rw[z,i]at q;cases q
 have h:∀b u,H b=Z u->b≠e/\b≠it:=λb u q=>⟨λz=>(by rw[z,fe.1]at q;cases q),λz=>(by rw[z,fi.1]at q;cases q)⟩;have f:∀b,b∉[e,it]->b≠e/\b≠it:=λb d=>⟨λz=>d (by simp[z]),λz=>d (by simp[z])⟩;refine I.step (g':=s.gens) (d':=s.drawn) (ch:=[e,it]) (λb d=>?_) (λb o _ _ a q _=>k b o (f b a).1 (f b a).2 q) (λb o _ _ a q _=>⟨o.slots,k b o (f b a).1 (f b a).2 q⟩) (λb o _ q n=>?_)
  (λb o a q=>⟨o,k b o (f b a).1 (f b a).2 q⟩) (λb ys q=>?_) (λb o u q=>?_) (λb ps q=>⟨#[],?_⟩) (λm j=>?_) (λb u q=>?_) I.bare
 ·rcases List.mem_cons.mp d with rfl|d
  ·exact⟨fe.2.2.2.1,fe.2.1,fe.2.2.2.2.1,fe.2.2.2.2.2⟩
  ·cases au.mp d;exact⟨fi.2.2.2.1,fi.2.1,fi.2.2.2.2.1,fi.2.2.2.2.2⟩
 ·rw[aF (ZE (zw q))];exact n
 ·rw[aF (g b _ q)];exact q
 ·rw[aF (g b _ q)];exact q
 ·rw[aF (g b _ q),q];simp
 ·obtain⟨o,es,ep,l,r⟩:=j;exact⟨o,es,ep,k _ o (Q2 fe.2.1) (Q2 fi.2.1) l,r⟩
 ·by_cases d:b=s.heap.objs.size
  ·subst d;rw[aQ]at q;cases q;exact new
  ·rw[aF d]at q;refine(I.hok b u q).stay (λc v a w=>k c v ?_ ?_ w) (λc w=>?_) (λc ys w=>?_) λc o' p w=>?_
   ·rcases a with rfl|z
    ·exact(h _ _ q).1
    ·exact(h _ _ z).1
   ·rcases a with rfl|z
    ·exact(h _ _ q).2
    ·exact(h _ _ z).2
   ·rw[aF (g c _ w)];exact w
   ·rw[aF (g c _ w)];exact w
   ·rw[aF (g c _ w)];exact w
end
section
variable{p:Pos}{fs:Ev->Y (O Bx)}
end
def Hx:O Dt->Y BF
 |[]=>Z []
 |.int k::r=>(Hx r).bind λks=>Z (k::ks)
 |_=>U
section
variable{ek ev:Expr}
def EC:Ev->Y As:=λ_=>U
theorem JW:Wb X st EC:=⟨λD AN s σ H I q=>by
 obtain⟨H0,ρ,r,E,e,q⟩:=q;cases e⟩
end
section
variable{st:Expr}{fs:Ev->Y Bx}
end
theorem WO{t:A1}{xs:Array A0}{x:A0}{Q:BA}(hi:s.heap.IsTupleIter it t i)(f:s.heap.IsTuple t xs)(hx:xs[i]?=Z x)(e:∀h',h'.IsTupleIter it t (i+1)->Heap.SameBut it s.heap h'->Q x { s with heap:=h' }):A7 (A8 prog w) A (Builtin.SmallTypes.nextOf (.ref it)) Q E s:=by
 obtain⟨o,b,d,a⟩:=id hi;obtain⟨p,hp,_,n,c⟩:=f;unfold Builtin.SmallTypes.nextOf;refine zb (QQ (name:=Str.ofString "__next__") hi.typeIs Kn (Qb Kn hi.typeIs F.entry_tuple_iterator_next ?_ (F.args_tuple_iterator_next_1 _)));show A7 _ _ (field (.ref it) 0 >>= _) _ _ s;refine zb (qh b a (x:=.ref t) S ?_);show A7 _ _ (if(Value.ref t==Value.none)=true then _ else _) _ _ s;rw[ZA (show ¬ ((Value.ref t==Value.none)=true) from zI)];show A7 _ _ (field (.ref it) 1 >>= _) _ _ s;refine zb (qh b a (x:=.int i 0) S ?_);show A7 _ _ (seqItems? (.ref t) >>= _) _ _ s;refine zb (wpAny_seqItems hp c ?_);simp only[kc,hx];refine zb (ye b a (by simp) (ze ⟨x,rfl,ze (e _ ?_ (kF ..))⟩));exact⟨_,qB _ b (k8 (js a _)),(Obj.cls_mapFields ..).trans d,by rw[js a];simp[rawInt]⟩
theorem QD{t:A1}{xs:Array A0}{Q:BA}(d:A.handled=U)(hi:s.heap.IsTupleIter it t i)(h:s.heap.IsTuple t xs)(hx:xs[i]?=U)(g:∀h' e,Heap.ExtBut it s.heap h'->(∃o,h'.get? e=Z o/\o.cls=.type "StopIteration")->E (.ref e) { s with heap:=h' }):A7 (A8 prog w) A (Builtin.SmallTypes.nextOf (.ref it)) Q E s:=by
 obtain⟨o,c,j,b⟩:=id hi;obtain⟨p,hp,_,n,f⟩:=h;unfold Builtin.SmallTypes.nextOf;refine zb (QQ (name:=Str.ofString "__next__") hi.typeIs Kn (Qb Kn hi.typeIs F.entry_tuple_iterator_next ?_ (F.args_tuple_iterator_next_1 _)));show A7 _ _ (field (.ref it) 0 >>= _) _ _ s;refine zb (qh c b (x:=.ref t) S ?_);show A7 _ _ (if(Value.ref t==Value.none)=true then _ else _) _ _ s;rw[ZA (show ¬ ((Value.ref t==Value.none)=true) from zI)];show A7 _ _ (field (.ref it) 1 >>= _) _ _ s;refine zb (qh c b (x:=.int i 0) S ?_);show A7 _ _ (seqItems? (.ref t) >>= _) _ _ s;refine zb (wpAny_seqItems hp f ?_);simp only[kc,hx];refine zb (kB (zb (ye c b (by simp) ?_)));show A7 _ _ (newExc (.type "StopIteration") [] >>= _) _ _ _;refine zb ?_;simp only[newExc,newTuple];refine zb (ZT ?_ (by size_fits));refine zb (m:=firstArgMember _ _) (K2 (a:=Value.none) (by first|rfl|(simp only[firstArgMember];rfl)) ?_);refine ZT ?_ (by size_fits);simp only[raiseNew];refine zb (wpAny_handled ?_)
 first|rw[show A.in1.handled=U from d]|rw[d]
 refine zb (ze (wpAny_throw ?_));exact g _ _ (((kF ..).extBut.push _).push _) ⟨_,zr _ rfl,rfl⟩
theorem ad{a b:Nat}(h:a≠b):@Ne A1 a b:=h
section
variable{K:Type} [DecidableEq K] {knd:KeyKind prog w K}
end
section
variable{ea eb:Expr}{p1 pos1 pos2:Pos}
end
theorem qO(xs:AZ)(is:O Nat)(e:closureFor scope X.env=pure cl:=by with_unfolding_all rfl)(b:scope.kind=.function:=by rfl)(a:scope.names.all (λy=>decide (y.2≠.cell)||(cl.lookup y.1).isNone)=true:=by rfl)(c:scope.names.all (λy=>decide (y.2=.local->scope.names.lookup y.1=Z .local))=true:=by decide +kernel)(sub:CL X.env.cells cl:=by repeat (first|exact trivial|refine⟨rfl,?_⟩))(has:(relabel scope X.env).names.all (λy=>!(y.2==.cell||y.2==.free)||(cl.lookup y.1).isSome||scope.names.contains (y.1,.cell))=true:=by rfl)(d:Gg X scope cl xs is:=by repeat (first|exact R'|refine VQ S (by first|exact .inl rfl|exact .inr S) (by first|exact .inl rfl|exact .inr S) ⟨_,rfl⟩ ?_)):qK X scope cl xs is:=dL e b a c sub has d
theorem lW{a:Scope}(h1:a.kind=.function:=by rfl)(h2:a.isCoroutine=false:=by rfl)(b:a.isGenerator=false:=by rfl)(e:N.Nodup:=by decide +kernel)(d:N.take ps.length=ps:=by rfl)(c:∀x∈ps,a.names.lookup x=Z .local\/a.names.lookup x=Z .cell:=by decide +kernel)(f:∀y∈a.names,y.2≠.free:=by decide +kernel):bH N ps a:=⟨h1,h2,b,e,d,c,f⟩
instance:Inhabited Dt:=⟨.non⟩
theorem Au(a:α)(f:α->Y β):(Z a).bind f=f a:=(KA a f).trans (Eq.refl _)
def B9:Y Prop->Prop
 |none=>True
 |some p=>p
def bw:Y Prop->Y Prop->Y Prop
 |none,q=>q
 |some p,U=>Z p
 |some p,Z q=>Z (p/\q)
def zc(c:Prop):Y Prop->Y Prop
 |none=>U
 |some p=>Z (c->p)
theorem aD{p q:Y Prop}(h:B9 (bw p q)):B9 p/\B9 q:=by
 cases p with
 |none=>exact⟨trivial,h⟩
 |some p=>cases q with
  |none=>exact⟨h,trivial⟩
  |some q=>exact h
theorem jq{c:Prop}{p:Y Prop}(h:B9 (zc c p))(a:c):B9 p:=by
 cases p with
 |none=>trivial
 |some p=>exact h a
structure R {α β:Type} (f:Ev->Option β) (ρ:Ev) (c:α->β) where
 v:α
 D:Option Prop
 ok:B9 D->f ρ=some (c v)
abbrev zE(e:α->Dt):α->Bx:=λa=>.z (e a)
abbrev oE(e:α->Dt):O α->Bx:=λxs=>.o (xs.map e)
abbrev lE(e:α->Dt):O α->Bx:=λxs=>.l (xs.map e)
abbrev tE:Bool->Bool:=λb=>b
abbrev iE(e:α->Dt):O α->O Dt:=λxs=>xs.map e
abbrev eI:Int->Dt:=Dt.int
abbrev eB:Bool->Dt:=Dt.bl
abbrev eS:AJ->Dt:=Dt.str
abbrev eD:Dt->Dt:=λd=>d
abbrev eL(e:α->Dt):O α->Dt:=λxs=>.lst (xs.map e)
abbrev eT(e:α->Dt):O α->Dt:=λxs=>.tup (xs.map e)
abbrev eO(e:α->Dt):Y α->Dt:=λo=>match o with|none=>.non|some a=>e a
abbrev QF(a:α->Dt):α->Dt:=λx=>.tup [a x]
abbrev DJ(a:α->Dt)(b:β->Dt):α×β->Dt:=λx=>.tup [a x.1,b x.2]
abbrev DZ(a:α->Dt)(b:β->Dt)(c:γ->Dt):α×β×γ->Dt:=λx=>.tup [a x.1,b x.2.1,c x.2.2]
abbrev FV(a:α->Dt)(b:β->Dt)(c:γ->Dt)(d:δ->Dt):α×β×γ×δ->Dt:=λx=>.tup [a x.1,b x.2.1,c x.2.2.1,d x.2.2.2]
structure RL {α:Type} (f:Ev->Option Bx) (ρ:Ev) (e:α->Dt) where
 v:List α
 D:Option Prop
 b:Bx
 lk:qe b=some (v.map e)
 ok:B9 D->f ρ=some b
section
variable{fs:Ev->Y (O Bx)}{e:α->Dt}{e':β->Dt}
def fK(a:R f ρ (oE e)):RL f ρ e:=⟨a.v,a.D,_,rfl,a.ok⟩
def kY(a:R f ρ (lE e)):RL f ρ e:=⟨a.v,a.D,_,rfl,a.ok⟩
def su(a:R f ρ (zE (eL e))):RL f ρ e:=⟨a.v,a.D,_,rfl,a.ok⟩
def Lp(b:Bx)(ds:O Dt):Prop:=b=.z (.lst ds)\/b=.l ds
theorem Lp.Gf(h:Lp b ds):qe b=Z ds:=by rcases h with rfl|rfl<;>rfl
theorem Lp.get{b:Bx}{ds:O Dt}{i:Nat}(h:Lp b ds)(hi:ρ[i]?=Z (Z b)):wz ρ i=Z b:=by
 rcases h with rfl|rfl<;>(unfold wz;rw[hi])
theorem mK(h:qe b=Z ds):Lp (P1.B5 b) ds:=by
 cases b with
 |z d=>cases d<;>cases h;exact .inl rfl
 |l d=>cases h;exact .inr rfl
 |o d=>cases h;exact .inr rfl
 |n d=>cases h
 |m d _=>cases h
def aA(i:Nat)(c:α->Bx)(a:α)(h:wz ρ i=Z (c a)):R (gv i) ρ c:=⟨a,U,λ_=>h⟩
def bY(i:Nat)(e:α->Dt)(a:O α)(h:Lp b (a.map e))(hi:ρ[i]?=Z (Z b)):RL (gv i) ρ e:=⟨a,U,b,h.Gf,λ_=>h.get hi⟩
def vR(d:Dt)(e:α->Dt)(a:α)(h:d=e a):R (cB d) ρ (zE e):=⟨a,U,λ_=>by rw[h];rfl⟩
def bN(a:R f ρ (zE e)):R f ρ (zE eD):=⟨e a.v,a.D,a.ok⟩
def kZ(a:R f ρ (zE e)):R f ρ (zE (eO e)):=⟨Z a.v,a.D,a.ok⟩
def Dm:R (cB .non) ρ (zE (eO e)):=⟨U,U,λ_=>S⟩
def Ae[Inhabited α](a:R f ρ (zE (eO e))):R f ρ (zE e):=⟨a.v.getD default,bw a.D (Z (a.v.isSome=true)),λh=>by
 obtain⟨h1,h2⟩:=aD h;rw[a.ok h1];have h2:a.v.isSome=true:=h2;cases b:a.v with
 |none=>rw[b]at h2;cases h2
 |some x=>rfl⟩
def zf(a:R f ρ (oE e)):R (b1 qH f) ρ (zE (eL e)):=⟨a.v,a.D,λh=>by simp only[b1,a.ok h,Au,qH]⟩
def jr(a:R f ρ (zE e)):R (b1 qH f) ρ (zE e):=⟨a.v,a.D,λh=>by simp only[b1,a.ok h,Au,qH]⟩
def jt(a:R fa ρ (zE eI))(b:R fb ρ (zE eI)):R (b2 dO fa fb) ρ (zE eI):=⟨a.v+b.v,bw a.D b.D,λh=>by
 obtain⟨h1,h2⟩:=aD h;simp only[b2,a.ok h1,b.ok h2,Au,dO]⟩
def NS(a:R fa ρ (zE eI))(b:R fb ρ (zE eI)):R (b2 D5 fa fb) ρ (zE eI):=⟨a.v-b.v,bw a.D b.D,λh=>by
 obtain⟨h1,h2⟩:=aD h;simp only[b2,a.ok h1,b.ok h2,Au,i2]⟩
def Fu(a b:Int):Prop:=(-18446744073709551616<a/\a<18446744073709551616)\/(-18446744073709551616<b/\b<18446744073709551616)
def MI(a:R fa ρ (zE eI))(b:R fb ρ (zE eI)):R (b2 wB fa fb) ρ (zE eI):=⟨a.v*b.v,bw (bw a.D b.D) (Z (Fu a.v b.v)),λh=>by
 obtain⟨h,c⟩:=aD h;obtain⟨h1,h2⟩:=aD h;simp only[b2,a.ok h1,b.ok h2,Au];exact zt c⟩
def QG(n:Int)(a : -18446744073709551616<n/\n<18446744073709551616)(b:R fb ρ (zE eI)):R (b2 wB (cB (.int n)) fb) ρ (zE eI):=⟨n*b.v,b.D,λh=>by
 simp only[b2,b.ok h,Au,cB];exact zt (.inl a)⟩
def SM(a:R fa ρ (zE eI))(n:Int)(b : -18446744073709551616<n/\n<18446744073709551616):R (b2 wB fa (cB (.int n))) ρ (zE eI):=⟨a.v*n,a.D,λh=>by
 simp only[b2,a.ok h,Au,cB];exact zt (.inr b)⟩
def Yj(a:R fa ρ (zE eI))(b:R fb ρ (zE eI)):R (b2 o8 fa fb) ρ (zE eI):=⟨a.v / b.v,bw (bw a.D b.D) (Z (0<b.v/\b.v<1073741824)),λh=>by
 obtain⟨h,c⟩:=aD h;obtain⟨h1,h2⟩:=aD h;have c:0<b.v/\b.v<1073741824:=c;simp only[b2,a.ok h1,b.ok h2,Au,i2,zt c]⟩
def mV(a:R fa ρ (zE eI))(n:Int)(b:0<n/\n<1073741824):R (b2 o8 fa (cB (.int n))) ρ (zE eI):=⟨a.v / n,a.D,λh=>by
 simp only[b2,a.ok h,Au,i2,cB,zt b]⟩
def ud(a:R fa ρ (zE eI))(b:R fb ρ (zE eI)):R (b2 fW fa fb) ρ (zE eI):=⟨a.v%b.v,bw (bw a.D b.D) (Z (0<b.v)),λh=>by
 obtain⟨h,c⟩:=aD h;obtain⟨h1,h2⟩:=aD h;have c:0<b.v:=c;simp only[b2,a.ok h1,b.ok h2,Au,i2,zt c]⟩
def c7(a:R fa ρ (zE eI))(n:Int)(b:0<n):R (b2 fW fa (cB (.int n))) ρ (zE eI):=⟨a.v%n,a.D,λh=>by
 simp only[b2,a.ok h,Au,i2,cB,zt b]⟩
def gc(a b:Int)(n:Nat)(h:0<=b/\b<=1000/\a.natAbs<18446744073709551616)(c:b.toNat=n):R (b2 G' (cB (.int a)) (cB (.int b))) ρ (zE eI):=⟨a ^ n,U,λ_=>by
 simp only[b2,Au,cB];show((if 0<=b/\b<=1000/\a.natAbs<2 ^ 64 then Z (Dt.int (a ^ b.toNat))else U).bind λd=>Z (Bx.z d))=_;rw[zt h,c];rfl⟩
def MB(a:R fa ρ (zE eI))(b:R fb ρ (zE eI)):R (b2 FX fa fb) ρ (zE eB):=⟨decide (a.v<=b.v),bw a.D b.D,λh=>by
 obtain⟨h1,h2⟩:=aD h;simp only[b2,a.ok h1,b.ok h2,Au,i2]⟩
def IF(a:R fa ρ (zE eI))(b:R fb ρ (zE eI)):R (b2 EW fa fb) ρ (zE eB):=⟨decide (b.v<a.v),bw a.D b.D,λh=>by
 obtain⟨h1,h2⟩:=aD h;simp only[b2,a.ok h1,b.ok h2,Au,i2]⟩
def HL(a:R fa ρ (zE eI))(b:R fb ρ (zE eI)):R (b2 Hn fa fb) ρ (zE eB):=⟨decide (b.v<=a.v),bw a.D b.D,λh=>by
 obtain⟨h1,h2⟩:=aD h;simp only[b2,a.ok h1,b.ok h2,Au,i2]⟩
def Yk(a:R fa ρ (zE eI))(b:R fb ρ (zE eI)):R (b2 Z5 fa fb) ρ (zE eB):=⟨decide (a.v<b.v),bw a.D b.D,λh=>by
 obtain⟨h1,h2⟩:=aD h;simp only[b2,a.ok h1,b.ok h2,Au,Z5]⟩
def Vn(x y:AJ):Bool:=decide (x.cps.toList<y.cps.toList)
def aI(a:R fa ρ (zE eS))(b:R fb ρ (zE eS)):R (b2 Z5 fa fb) ρ (zE eB):=⟨Vn a.v b.v,bw a.D b.D,λh=>by
 obtain⟨h1,h2⟩:=aD h;simp only[b2,a.ok h1,b.ok h2,Au,Z5,Vn]⟩
end
class BD {α:Type} [DecidableEq α] (e:α->Dt) (n:outParam Nat):Prop where
 eq:∀a b,uQ (e a) (e b)=some (decide (a=b))
 dp:∀a,uP (e a)<=n
class CU {α:Type} (e:α->Dt):Prop where
 l:∀a,uQ .non (e a)=some false
 r:∀a,uQ (e a) .non=some false
instance:BD eI 1:=⟨λa b=>rfl,λa=>by simp[uP]⟩
instance:BD eB 1:=⟨λa b=>rfl,λa=>by simp[uP]⟩
instance:BD eS 1:=⟨λa b=>rfl,λa=>by simp[uP]⟩
instance:CU eI:=⟨λa=>rfl,λa=>rfl⟩
instance:CU eB:=⟨λa=>rfl,λa=>rfl⟩
instance:CU eS:=⟨λa=>rfl,λa=>rfl⟩
section
variable [DecidableEq α] [DecidableEq β] [DecidableEq γ] [DecidableEq δ] {e:α->Dt}{e':β->Dt}{e'':γ->Dt}{e3:δ->Dt}{l:Nat}
theorem Dp[BD e n]:∀xs ys:O α,kJ (xs.map e) (ys.map e)=Z (decide (xs=ys))
 |[],[]=>by simp[kJ]
 |[],y::ys=>by simp[kJ]
 |x::xs,[]=>by simp[kJ]
 |x::xs,y::ys=>by
  simp only[Zl,kJ,BD.eq,Dp xs ys];congr 1;by_cases h:x=y<;>by_cases h':xs=ys<;>simp[h,h']
theorem Dq[BD e n]:∀xs:O α,xO (xs.map e)<=n
 |[]=>by simp[xO]
 |x::xs=>by
  have:=BD.dp (e:=e) x;have:=Dq xs;simp only[Zl,xO];omega
instance [BD e n]:BD (eL e) (n+1):=⟨λa b=>Dp a b,λa=>by simp only[uP];have:=Dq (e:=e) a;omega⟩
instance [BD e n]:BD (eT e) (n+1):=⟨λa b=>Dp a b,λa=>by simp only[uP];have:=Dq (e:=e) a;omega⟩
instance:CU (eL e):=⟨λa=>rfl,λa=>rfl⟩
instance:CU (eT e):=⟨λa=>rfl,λa=>rfl⟩
instance:CU (QF e):=⟨λa=>rfl,λa=>rfl⟩
instance:CU (DJ e e'):=⟨λa=>rfl,λa=>rfl⟩
instance:CU (DZ e e' e''):=⟨λa=>rfl,λa=>rfl⟩
instance:CU (FV e e' e'' e3):=⟨λa=>rfl,λa=>rfl⟩
instance [BD e n]:BD (QF e) (n+1):=⟨λa b=>by
 simp only[Bv,kJ,BD.eq,kX],λa=>by
 have:=BD.dp (e:=e) a;simp only[uP,xO];omega⟩
theorem EQ{a b:Nat}(h:a<=n)(h':b<=m):max a b<=max n m:=Nat.max_le.mpr ⟨ZH h (Nat.le_max_left ..),ZH h' (Nat.le_max_right ..)⟩
theorem IG{a:Nat}(h:a<=n):max a 0<=n:=Nat.max_le.mpr ⟨h,QR _⟩
instance [BD e n] [BD e' m]:BD (DJ e e') (max n m+1):=⟨λa b=>by
 obtain⟨a,a'⟩:=a;obtain⟨b,b'⟩:=b;simp only[Bv,kJ,BD.eq,Prod.mk.injEq,iS,kX],λa=>xb (EQ (BD.dp (e:=e) a.1) (IG (BD.dp (e:=e') a.2)))⟩
instance [BD e n] [BD e' m] [BD e'' k]:BD (DZ e e' e'') (max n (max m k)+1):=⟨λa b=>by
 obtain⟨a,a',a2⟩:=a;obtain⟨b,b',b2⟩:=b;simp only[Bv,kJ,BD.eq,Prod.mk.injEq,iS,kX],λa=>xb (EQ (BD.dp (e:=e) a.1) (EQ (BD.dp (e:=e') a.2.1) (IG (BD.dp (e:=e'') a.2.2))))⟩
instance [BD e n] [BD e' m] [BD e'' k] [BD e3 l]:BD (FV e e' e'' e3) (max n (max m (max k l))+1):=⟨λa b=>by
 obtain⟨a,a',a2,a3⟩:=a;obtain⟨b,b',b2,b3⟩:=b;simp only[Bv,kJ,BD.eq,Prod.mk.injEq,iS,kX],λa=>xb (EQ (BD.dp (e:=e) a.1) (EQ (BD.dp (e:=e') a.2.1) (EQ (BD.dp (e:=e'') a.2.2.1) (IG (BD.dp (e:=e3) a.2.2.2)))))⟩
instance [BD e n] [CU e]:BD (eO e) (n+1):=⟨λa b=>by
 cases a with
 |none=>cases b with
  |none=>exact rfl
  |some b=>exact(CU.l (e:=e) b).trans (by simp)
 |some a=>cases b with
  |none=>exact(CU.r (e:=e) a).trans (by simp)
  |some b=>exact(BD.eq (e:=e) a b).trans (by simp),λa=>by
 cases a with
 |none=>show uP .non<=n+1;simp[uP]
 |some a=>exact l7 (BD.dp (e:=e) a)⟩
end
section
variable{fs:Ev->Y (O Bx)}{e:α->Dt}{e':β->Dt}
def BG[DecidableEq α][BD e n](c:n<=100)(a:R fa ρ (zE e))(b:R fb ρ (zE e)):R (b2 BO fa fb) ρ (zE eB):=⟨decide (a.v=b.v),bw a.D b.D,λh=>by
 obtain⟨h1,h2⟩:=aD h;have:=BD.dp (e:=e) a.v;simp only[b2,a.ok h1,b.ok h2,Au,BO,lU,toD,zS,or_self,qr,BD.eq];rw[zt ()]⟩
def Yl[DecidableEq α][BD e n](c:n<=100)(a:R fa ρ (zE e))(b:R fb ρ (zE e)):R (b2 Jr fa fb) ρ (zE eB):=⟨!decide (a.v=b.v),bw a.D b.D,λh=>by
 obtain⟨h1,h2⟩:=aD h;have:=BD.dp (e:=e) a.v;simp only[b2,a.ok h1,b.ok h2,Au,Jr,lU,toD,zS,or_self,qr,BD.eq];rw[zt ()]⟩
theorem pq(h:qe b=Z ds):toD b=.lst ds/\lU b=false:=by
 cases b with
 |z d=>cases d<;>cases h;exact⟨rfl,rfl⟩
 |l d=>cases h;exact⟨rfl,rfl⟩
 |o d=>cases h;exact⟨rfl,rfl⟩
 |n d=>cases h
 |m d _=>cases h
def Ym[DecidableEq α][BD e n](c:n+1<=100)(a:RL fa ρ e)(b:RL fb ρ e):R (b2 BO fa fb) ρ (zE eB):=⟨decide (a.v=b.v),bw a.D b.D,λh=>by
 obtain⟨h1,h2⟩:=aD h;have:=BD.dp (e:=eL e) a.v;simp only[b2,a.ok h1,b.ok h2,Au,BO,(pq a.lk).1,(pq a.lk).2,(pq b.lk).1,(pq b.lk).2,zS,or_self,qr];have e1:=BD.eq (e:=eL e) a.v b.v;rw[zt (ZH (iX _ _) (ZH (BD.dp (e:=eL e) a.v) c)),e1,Au]⟩
def Lv[DecidableEq α][BD e n](c:n+1<=100)(a:RL fa ρ e)(b:RL fb ρ e):R (b2 Jr fa fb) ρ (zE eB):=⟨!decide (a.v=b.v),bw a.D b.D,λh=>by
 obtain⟨h1,h2⟩:=aD h;simp only[b2,a.ok h1,b.ok h2,Au,Jr,(pq a.lk).1,(pq a.lk).2,(pq b.lk).1,(pq b.lk).2,zS,or_self,qr];have e1:=BD.eq (e:=eL e) a.v b.v;rw[zt (ZH (iX _ _) (ZH (BD.dp (e:=eL e) a.v) c)),e1,Au]⟩
def Z6(a b:Dt):Bool:=(uQ a b).getD false
def EU(a b:Dt):Prop:=(uQ a b).isSome=true/\min (uP a) (uP b)<=100
def NY(a:R fa ρ (zE eD))(b:R fb ρ (zE eD)):R (b2 BO fa fb) ρ (zE eB):=⟨Z6 a.v b.v,bw (bw a.D b.D) (Z (EU a.v b.v)),λh=>by
 obtain⟨h,c⟩:=aD h;obtain⟨h1,h2⟩:=aD h;obtain⟨c,e⟩:EU a.v b.v:=c;simp only[b2,a.ok h1,b.ok h2,Au,BO,lU,toD,zS,or_self,qr,zt e];cases d:uQ a.v b.v with
 |none=>rw[d]at c;cases c
 |some k=>simp only[Z6,d,Au,y3];exact zt e⟩
def JX(a:R fa ρ (zE (eO e)))(b:∀x,Qk (.z (e x))=false):R (b2 CG fa (cB .non)) ρ (zE eB):=⟨a.v.isSome,a.D,λh=>by
 simp only[b2,a.ok h,Au,cB,CG];cases c:a.v with
 |none=>rfl
 |some x=>simp only[YR,b,YN]⟩
def yd(a:R fa ρ (zE eB))(b:R fb ρ (zE eB)):R (Az fa fb) ρ (zE eB):=⟨a.v&&b.v,bw a.D (zc (a.v=true) b.D),λh=>by
 obtain⟨h1,h2⟩:=aD h;simp only[Az,a.ok h1,Au,Ji];cases c:a.v with
 |true=>simp only[jb,kb];exact b.ok (jq h2 c)
 |false=>simp only[zS,qr,kK]⟩
def Bf(a:R fa ρ (zE eB)):R (tV fa) ρ tE:=⟨a.v,a.D,λh=>by simp only[tV,a.ok h,Au,Fk]⟩
def cg{g:Bx->Bx->Y Bx}(a:R (b2 g fa fb) ρ (zE eB)):R (lD g fa fb) ρ tE:=⟨a.v,a.D,λh=>by simp only[lD,a.ok h,Au,Ji]⟩
def Af(a:R p ρ tE)(b:R q ρ tE):R (Ay p q) ρ tE:=⟨a.v&&b.v,bw a.D (zc (a.v=true) b.D),λh=>by
 obtain⟨h1,h2⟩:=aD h;simp only[Ay,a.ok h1,Au];cases c:a.v with
 |true=>simp only[jb,kb];exact b.ok (jq h2 c)
 |false=>simp only[zS,qr,kK]⟩
def zj(a:R p ρ tE)(b:R q ρ tE):R (Ls p q) ρ tE:=⟨a.v||b.v,bw a.D (zc (a.v=false) b.D),λh=>by
 obtain⟨h1,h2⟩:=aD h;simp only[Ls,a.ok h1,Au];cases c:a.v with
 |true=>simp only[jb,Bool.true_or]
 |false=>simp only[zS,qr,hH];exact b.ok (jq h2 c)⟩
def rR(a:R p ρ tE):R (wA p) ρ tE:=⟨!a.v,a.D,λh=>by simp only[wA,a.ok h,Au]⟩
def So{g g':Bx->Bx->Y Bx}(a:R (b2 g fa fb) ρ (zE eB))(b:R (b2 g' fb fc) ρ (zE eB)):R (F3 g g' fa fb fc) ρ (zE eB):=⟨a.v&&b.v,bw a.D (zc (a.v=true) b.D),λh=>by
 obtain⟨h1,d⟩:=aD h;have e1:=a.ok h1;simp only[b2]at e1;obtain⟨x,ex,e1⟩:=AT e1;obtain⟨y,c,e1⟩:=AT e1;simp only[F3,ex,c,Au,e1,Ji];cases e:a.v with
 |true=>
  have e2:=b.ok (jq d e);simp only[b2,c,Au]at e2;simp only[jb,kb];exact e2
 |false=>simp only[zS,qr,kK]⟩
end
section
variable{ε:Type}{fd:Ev->Y Bx}{fs:Ev->Y (O Bx)}{e:α->Dt}{e':β->Dt}{e'':γ->Dt}{e3:δ->Dt}
def Yn(e:α->Dt):R (bI dU aK) ρ (zE (eT e)):=⟨[],U,λ_=>S⟩
def QH(a:R fa ρ (zE e)):R (bI dU (aq fa aK)) ρ (zE (QF e)):=⟨a.v,a.D,λh=>by
 simp only[bI,aq,aK,a.ok h,Au];rfl⟩
def QJ(a:R fa ρ (zE e))(b:R fb ρ (zE e')):R (bI dU (aq fa (aq fb aK))) ρ (zE (DJ e e')):=⟨(a.v,b.v),bw a.D b.D,λh=>by
 obtain⟨h1,h2⟩:=aD h;simp only[bI,aq,aK,a.ok h1,b.ok h2,Au];rfl⟩
def Dr(a:R fa ρ (zE e))(b:R fb ρ (zE e'))(c:R fc ρ (zE e'')):R (bI dU (aq fa (aq fb (aq fc aK)))) ρ (zE (DZ e e' e'')):=⟨(a.v,b.v,c.v),bw a.D (bw b.D c.D),λh=>by
 obtain⟨h1,h⟩:=aD h;obtain⟨h2,d⟩:=aD h;simp only[bI,aq,aK,a.ok h1,b.ok h2,c.ok d,Au];rfl⟩
def bA(e:α->Dt):R aK ρ (λxs:O α=>xs.map (zE e)):=⟨[],U,λ_=>S⟩
def aH(a:R fa ρ (zE e))(t:R fs ρ (λxs:O α=>xs.map (zE e))):R (aq fa fs) ρ (λxs:O α=>xs.map (zE e)):=⟨a.v::t.v,bw a.D t.D,λh=>by
 obtain⟨h1,h2⟩:=aD h;simp only[aq,a.ok h1,t.ok h2,Au,Zl]⟩
theorem yg:∀xs:O α,Jj (xs.map (zE e))=Z (xs.map e)
 |[]=>rfl
 |x::xs=>by simp only[Zl,Jj,yg xs,Au]
def fu(t:R fs ρ (λxs:O α=>xs.map (zE e)))(a:t.v.length<=1000):R (bI gM fs) ρ (oE e):=⟨t.v,t.D,λh=>by
 simp only[bI,t.ok h,Au,gM,zk,zt a,yg]⟩
def zm(t:R fs ρ (λxs:O α=>xs.map (zE e)))(a:t.v.length<=1000):R (bI dU fs) ρ (zE (eT e)):=⟨t.v,t.D,λh=>by
 simp only[bI,t.ok h,Au,dU,zk,zt a,yg]⟩
def gD(t:R fs ρ (λxs:O Dt=>xs.map (zE eD)))(a:t.v.length<=1000):R (bI dU fs) ρ (zE eD):=⟨.tup t.v,t.D,λh=>by
 simp only[bI,t.ok h,Au,dU,zk,zt a,yg,mx,id]⟩
def An[Inhabited α](xs:O α)(i:Int):α:=(Av xs i).getD default
def In(n:Nat)(i:Int):Prop:=-(n:Int)<=i/\i<n
theorem uX{xs:O α}{i:Int}(h:In xs.length i):∃x,Av xs i=Z x:=by
 obtain⟨h1,h2⟩:=h;unfold Av WM;by_cases a:0<=i
 ·rw[zt a,zt h2];exact⟨xs[i.toNat]'(),zo ()⟩
 ·rw[ZA a,zt h1];exact⟨xs[(i+xs.length).toNat]'(),zo ()⟩
theorem WG{xs:O α}{i:Int}{x:α}(h:Av xs i=Z x):Av (xs.map e) i=Z (e x):=by
 unfold Av at h ⊢;rw[zk];obtain⟨j,a,h⟩:=AT h;rw[a,Au,Zs,h];rfl
theorem Yo[Inhabited α]{xs:O α}{i:Int}(h:In xs.length i):Av (xs.map e) i=Z (e (An xs i)):=by
 obtain⟨x,hx⟩:=uX h;rw[WG hx];unfold An;rw[hx];rfl
theorem dE{i:Int}(h:qe b=Z ds):g8 b (.z (.int i))=(Av ds i).bind λd=>Z (.z d):=by
 cases b with
 |z d=>cases d<;>cases h;rfl
 |l d=>cases h;rfl
 |o d=>cases h;rfl
 |n d=>cases h
 |m d _=>cases h
def gB[Inhabited α](a:RL fa ρ e)(b:R fb ρ (zE eI)):R (b2 g8 fa fb) ρ (zE e):=⟨An a.v b.v,bw (bw a.D b.D) (Z (In a.v.length b.v)),λh=>by
 obtain⟨h,c⟩:=aD h;obtain⟨h1,h2⟩:=aD h;simp only[b2,a.ok h1,b.ok h2,Au,dE a.lk,Yo (show In a.v.length b.v from c)]⟩
def LW[Inhabited α](a:R fa ρ (zE (eT e)))(b:R fb ρ (zE eI)):R (b2 g8 fa fb) ρ (zE e):=⟨An a.v b.v,bw (bw a.D b.D) (Z (In a.v.length b.v)),λh=>by
 obtain⟨h,c⟩:=aD h;obtain⟨h1,h2⟩:=aD h;simp only[b2,a.ok h1,b.ok h2,Au,g8,mR,Yo (show In a.v.length b.v from c)]⟩
def ch(x:AJ)(i:Int):AJ:=⟨#[(Av x.cps.toList i).getD 0]⟩
def SN(a:R fa ρ (zE eS))(b:R fb ρ (zE eI)):R (b2 g8 fa fb) ρ (zE eS):=⟨ch a.v b.v,bw (bw a.D b.D) (Z (In a.v.length b.v)),λh=>by
 obtain⟨h,c⟩:=aD h;obtain⟨h1,h2⟩:=aD h;obtain⟨x,hx⟩:=uX (xs:=a.v.cps.toList) (i:=b.v) (show In a.v.length b.v from c);simp only[b2,a.ok h1,b.ok h2,Au,g8,hx,ch,y3]⟩
def qz(d:Dt)(i:Int):Dt:=match g8 (.z d) (.z (.int i))with|some (.z y)=>y|_=>.non
def DD(d:Dt)(i:Int):Prop:=match d with
 |.tup ds=>In ds.length i
 |.lst ds=>In ds.length i
 |.str x=>In x.length i
 |_=>False
def Du(a:R fa ρ (zE eD))(b:R fb ρ (zE eI)):R (b2 g8 fa fb) ρ (zE eD):=⟨qz a.v b.v,bw (bw a.D b.D) (Z (DD a.v b.v)),λh=>by
 obtain⟨h,d⟩:=aD h;obtain⟨h1,h2⟩:=aD h;have d:DD a.v b.v:=d;simp only[b2,a.ok h1,b.ok h2,Au];show g8 (.z a.v) (.z (.int b.v))=Z (.z (qz a.v b.v));unfold qz;cases e:a.v with
 |tup ds=>
  rw[e]at d;obtain⟨x,hx⟩:=uX (show In ds.length b.v from d);simp only[g8,mR,Au,hx]
 |lst ds=>
  rw[e]at d;obtain⟨x,hx⟩:=uX (show In ds.length b.v from d);simp only[g8,mR,Au,hx]
 |str x=>
  rw[e]at d;obtain⟨c,hx⟩:=uX (xs:=x.cps.toList) (show In x.length b.v from d);simp only[g8,Au,hx]
 |non=>rw[e]at d;exact absurd d id
 |bl _=>rw[e]at d;exact absurd d id
 |int _=>rw[e]at d;exact absurd d id
 |emp=>rw[e]at d;exact absurd d id⟩
def Hy(a:R fa ρ (zE e))(g:α->β)(e':β->Dt)(i:Int)(h:∀x,g8 (.z (e x)) (.z (.int i))=Z (.z (e' (g x)))):R (b2 g8 fa (cB (.int i))) ρ (zE e'):=⟨g a.v,a.D,λb=>by
 simp only[b2,a.ok b,Au,cB,h]⟩
def BE(xs:O α)(lo hi:Y Int):O α:=(xs.drop (HT.iD xs.length 0 lo)).take (HT.iD xs.length xs.length hi-HT.iD xs.length 0 lo)
theorem SQ(xs:O α)(lo hi:Y Int):C8 (xs.map e) lo hi=(BE xs lo hi).map e:=by
 unfold C8 BE;rw[zk,List.map_take,List.map_drop]
abbrev pE:Y Int->Y Int:=λo=>o
def wI:R iG ρ pE:=⟨U,U,λ_=>S⟩
def uf(a:R fa ρ (zE eI)):R (jN fa) ρ pE:=⟨Z a.v,a.D,λh=>by simp only[jN,a.ok h,Au,L3]⟩
variable{fl fh:Ev->Y (Y Int)}
theorem eW(h:qe b=Z ds):EM b lo hi=Z (.o (C8 ds lo hi)):=by
 cases b with
 |z d=>cases d<;>cases h;rfl
 |l d=>cases h;rfl
 |o d=>cases h;rfl
 |n d=>cases h
 |m d _=>cases h
def HK(a:RL fa ρ e)(l:R fl ρ pE)(u:R fh ρ pE):R (CJ fa fl fh) ρ (oE e):=⟨BE a.v l.v u.v,bw a.D (bw l.D u.D),λh=>by
 obtain⟨h1,h⟩:=aD h;obtain⟨h2,b⟩:=aD h;simp only[CJ,a.ok h1,l.ok h2,u.ok b,Au,eW a.lk,SQ]⟩
def ug(a:R fa ρ (zE (eT e)))(l:R fl ρ pE)(u:R fh ρ pE):R (CJ fa fl fh) ρ (zE (eT e)):=⟨BE a.v l.v u.v,bw a.D (bw l.D u.D),λh=>by
 obtain⟨h1,h⟩:=aD h;obtain⟨h2,b⟩:=aD h;simp only[CJ,a.ok h1,l.ok h2,u.ok b,Au,EM,SQ]⟩
def No(a:R fa ρ (zE eS))(l:R fl ρ pE)(u:R fh ρ pE):R (CJ fa fl fh) ρ (zE eS):=⟨Txt.slice a.v l.v u.v,bw a.D (bw l.D u.D),λh=>by
 obtain⟨h1,h⟩:=aD h;obtain⟨h2,b⟩:=aD h;simp only[CJ,a.ok h1,l.ok h2,u.ok b,Au,EM]⟩
def WV:Dt->O Dt
 |.tup ds=>ds
 |.lst ds=>ds
 |_=>[]
def UE(a:R fa ρ (zE (eT e))):R (b2 UL fa (b1 Xr (cB (.int 1)))) ρ (zE (eT e)):=⟨a.v.reverse,a.D,λh=>by
 simp only[b2,b1,a.ok h,Au,cB,Xr,UL,jb,zE,eT,List.map_reverse]⟩
def uY(n:Nat):Prop:=n<=1000000
def Yp(a:R fa ρ (zE eS))(b:R fb ρ (zE eS)):R (b2 dO fa fb) ρ (zE eS):=⟨a.v++b.v,bw (bw a.D b.D) (Z (uY (a.v.length+b.v.length))),λh=>by
 obtain⟨h,c⟩:=aD h;obtain⟨h1,h2⟩:=aD h;simp only[b2,a.ok h1,b.ok h2,Au,dO,zt (show a.v.length+b.v.length<=Qj from c)]⟩
def mq(a:R fa ρ (zE (eT e)))(b:R fb ρ (zE (eT e))):R (b2 dO fa fb) ρ (zE (eT e)):=⟨a.v++b.v,bw (bw a.D b.D) (Z (uY (a.v.length+b.v.length))),λh=>by
 obtain⟨h,c⟩:=aD h;obtain⟨h1,h2⟩:=aD h;simp only[b2,a.ok h1,b.ok h2,Au,dO,zk,zt (show a.v.length+b.v.length<=Qj from c),zE,eT,qo]⟩
theorem Yq{e:Bx}{f:O Dt}(h:qe b=Z ds)(h':qe e=Z f)(c:ds.length+f.length<=Qj):dO b e=Z (.o (ds++f)):=by
 cases b with
 |z d=>
  cases d<;>cases h;cases e with
  |z a=>cases a<;>cases h';exact zt c
  |l a=>cases h';exact zt c
  |o a=>cases h';exact zt c
  |n a=>cases h'
  |m a=>cases h'
 |l d=>
  cases h;cases e with
  |z a=>cases a<;>cases h';exact zt c
  |l a=>cases h';exact zt c
  |o a=>cases h';exact zt c
  |n a=>cases h'
  |m a=>cases h'
 |o d=>
  cases h;cases e with
  |z a=>cases a<;>cases h';exact zt c
  |l a=>cases h';exact zt c
  |o a=>cases h';exact zt c
  |n a=>cases h'
  |m a=>cases h'
 |n d=>cases h
 |m d _=>cases h
def wJ(a:RL fa ρ e)(b:RL fb ρ e):R (b2 dO fa fb) ρ (oE e):=⟨a.v++b.v,bw (bw a.D b.D) (Z (uY (a.v.length+b.v.length))),λh=>by
 obtain⟨h,c⟩:=aD h;obtain⟨h1,h2⟩:=aD h;simp only[b2,a.ok h1,b.ok h2,Au];rw[Yq a.lk b.lk (by rw[zk,zk];exact c)];simp only[oE,qo]⟩
def Yr(a:R fa ρ (zE eS))(b:R fb ρ (zE eI)):R (b2 wB fa fb) ρ (zE eS):=⟨Txt.mul a.v b.v,bw (bw a.D b.D) (Z (b.v<=1000 ∧ -1000<=b.v/\a.v.length<=1000)),λh=>by
 obtain⟨h,c⟩:=aD h;obtain⟨h1,h2⟩:=aD h;simp only[b2,a.ok h1,b.ok h2,Au];exact zt c⟩
theorem Ys(h:qe b=Z ds):jG [b]=Z (.z (.int ds.length)):=by
 cases b with
 |z d=>cases d<;>cases h;rfl
 |l d=>cases h;rfl
 |o d=>cases h;rfl
 |n d=>cases h
 |m d _=>cases h
theorem M9(h:qe b=Z ds):mR b=Z ds:=by
 cases b with
 |z d=>cases d<;>cases h;rfl
 |l d=>cases h;rfl
 |o d=>cases h;rfl
 |n d=>cases h
 |m d _=>cases h
def BN(a:RL fa ρ e):R (bI jG (aq fa aK)) ρ (zE eI):=⟨(a.v.length:Int),a.D,λh=>by
 simp only[bI,aq,aK,a.ok h,Au,Ys a.lk,zk]⟩
def QK(a:R fa ρ (zE (eT e))):R (bI jG (aq fa aK)) ρ (zE eI):=⟨(a.v.length:Int),a.D,λh=>by
 simp only[bI,aq,aK,a.ok h,Au,jG,mR,zk]⟩
def SW(a:R fa ρ (zE eS)):R (bI jG (aq fa aK)) ρ (zE eI):=⟨(a.v.length:Int),a.D,λh=>by
 simp only[bI,aq,aK,a.ok h,Au,jG]⟩
def wK:Dt->Int
 |.tup ds=>ds.length
 |.lst ds=>ds.length
 |.str x=>x.length
 |_=>0
def zp:Dt->Bool
 |.tup _=>true
 |.lst _=>true
 |.str _=>true
 |_=>false
def Dv(a:R fa ρ (zE eD)):R (bI jG (aq fa aK)) ρ (zE eI):=⟨wK a.v,bw a.D (Z (zp a.v=true)),λh=>by
 obtain⟨h,b⟩:=aD h;have b:zp a.v=true:=b;simp only[bI,aq,aK,a.ok h,Au];cases c:a.v<;>rw[c]at b<;>first|(cases b;done)|rfl⟩
def qP(a:RL fa ρ e):R (bI nW (aq fa aK)) ρ (zE (eT e)):=⟨a.v,a.D,λh=>by
 simp only[bI,aq,aK,a.ok h,Au,nW,M9 a.lk]⟩
def SG(a:RL fa ρ e):R (bI tM (aq fa aK)) ρ (oE e):=⟨a.v,a.D,λh=>by
 simp only[bI,aq,aK,a.ok h,Au,tM,M9 a.lk]⟩
def BL(a:R fa ρ (zE (eT e))):R (bI tM (aq fa aK)) ρ (oE e):=⟨a.v,a.D,λh=>by
 simp only[bI,aq,aK,a.ok h,Au,tM,mR]⟩
def fm(a:R fa ρ (zE eI)):R (bI Xy (aq fa aK)) ρ (zE eI):=⟨if a.v<0 then -a.v else a.v,a.D,λh=>by
 simp only[bI,aq,aK,a.ok h,Au,Xy]⟩
def Yt(a:R fa ρ (zE eB)):R (bI UG (aq fa aK)) ρ (zE eI):=⟨if a.v=true then 1 else 0,a.D,λh=>by
 simp only[bI,aq,aK,a.ok h,Au,UG]⟩
theorem Hz:∀l:O Bool,Hj (l.map eB)=Z l
 |[]=>rfl
 |a::l=>by simp only[Zl,Hj,Hz l,Au]
def HB(a:RL fa ρ eB):R (bI C3 (aq fa aK)) ρ (zE eB):=⟨a.v.all id,a.D,λh=>by
 simp only[bI,aq,aK,a.ok h,Au,C3,a.lk,Hz]⟩
def Yu(a:R fa ρ (zE eI))(b:R fb ρ (zE eI)):R (bI Qn (aq fa (aq fb aK))) ρ (zE eI):=⟨if b.v>a.v then b.v else a.v,bw a.D b.D,λh=>by
 obtain⟨h1,h2⟩:=aD h;simp only[bI,aq,aK,a.ok h1,b.ok h2,Au,Qn]⟩
def OM(a:R fa ρ (zE eI))(b:R fb ρ (zE eI)):R (bI XF (aq fa (aq fb aK))) ρ (zE eI):=⟨if b.v<a.v then b.v else a.v,bw a.D b.D,λh=>by
 obtain⟨h1,h2⟩:=aD h;simp only[bI,aq,aK,a.ok h1,b.ok h2,Au,XF]⟩
def Dw(P:Dt->Bool)(a:R fa ρ (zE e)):R (rP P fa) ρ (zE eB):=⟨P (e a.v),a.D,λh=>by
 simp only[rP,b1,a.ok h,Au,lU,toD,zS,qr]⟩
theorem BI:∀l:AZ,o9 (l.map eS)=Z l
 |[]=>rfl
 |a::l=>by simp only[Zl,o9,BI l,Au]
def U'(s:AJ)(a:RL fa ρ eS):R (b1 (Mw s) fa) ρ (zE eS):=⟨Txt.join s a.v,bw a.D (Z ((a.v.map (·.length)).sum+a.v.length*s.length<=100000)),λh=>by
 obtain⟨h,b⟩:=aD h;simp only[b1,a.ok h,Au,Mw,a.lk,BI];exact zt b⟩
def BP(a:RL fa ρ eS):R (bI zX (aq fa aK)) ρ (oE eS):=⟨aV a.v,bw a.D (Z (a.v.length<64)),λh=>by
 obtain⟨h,b⟩:=aD h;simp only[bI,aq,aK,a.ok h,Au,zX,a.lk,BI];exact zt b⟩
def Z7:Dt->AJ
 |.str x=>x
 |_=>⟨#[]⟩
def uZ(a:R f ρ (zE eD))(g:Dt->α)(e:α->Dt):R f ρ (zE e):=⟨g a.v,bw a.D (Z (a.v=e (g a.v))),λb=>by
 obtain⟨h1,h2⟩:=aD b;have h2:a.v=e (g a.v):=h2;rw[a.ok h1];show Z (Bx.z a.v)=Z (Bx.z (e (g a.v)));rw[<-h2]⟩
class CD {α:Type} (e:α->Dt):Prop where
 f:∀a,xQ (e a)=true
instance:CD eI:=⟨λ_=>rfl⟩
instance:CD eB:=⟨λ_=>rfl⟩
instance:CD eS:=⟨λ_=>rfl⟩
theorem Yv[DecidableEq α][BD e n][CD e](x:α)(ys:O α):CY (e x) (ys.map e)=Z (decide (x∈ys)):=by
 unfold CY;rw[zt ⟨CD.f x,by rw[ik];exact List.all_eq_true.mpr λy _=>CD.f y⟩,eH];congr 1;rw[KU,y7,decide_eq_true_iff];constructor
 ·rintro⟨y,a,h⟩;simp only[Function.comp,BD.eq]at h;by_cases e1:y=x
  ·rw[<-e1];exact a
  ·simp only[e1,Kt]at h;cases h
 ·intro h;exact⟨x,h,by simp only[Function.comp,BD.eq,y8]⟩
theorem WJ:EN (.z d) (.z (.tup ds))=CY d ds:=by cases d<;>rfl
def iA[DecidableEq α][BD e n][CD e](a:R fa ρ (zE e))(b:R fb ρ (zE (eT e))):R (b2 GI fa fb) ρ (zE eB):=⟨!decide (a.v∈b.v),bw a.D b.D,λh=>by
 obtain⟨h1,h2⟩:=aD h;simp only[b2,a.ok h1,b.ok h2,Au,GI,WJ,Yv]⟩
def XL(a:R fa ρ (zE eS))(b:R fb ρ (zE eS)):R (b2 Fn fa fb) ρ (zE eB):=⟨zW a.v b.v,bw a.D b.D,λh=>by
 obtain⟨h1,h2⟩:=aD h;simp only[b2,a.ok h1,b.ok h2,Au,Fn,EN]⟩
end
structure AR {γ:Type} (cA:γ->List Bx->Prop) (fs:Ev->Option (List Bx)) (ρ:Ev) where
 v:γ
 D:Option Prop
 bs:List Bx
 h:cA v bs
 ok:B9 D->fs ρ=some bs
section
variable{ε σ:Type}{fd:Ev->Y Bx}{fs:Ev->Y (O Bx)}{e:α->Dt}{e':β->Dt}{e'':γ->Dt}{e3:δ->Dt}
def aN:Unit->O Bx->Prop:=λ_ bs=>bs=[]
def aZ(e:α->Dt)(t:γ->O Bx->Prop):α×γ->O Bx->Prop:=λx bs=>∃r,bs=.z (e x.1)::r/\t x.2 r
def aL(e:α->Dt)(t:γ->O Bx->Prop):O α×γ->O Bx->Prop:=λx bs=>∃b r,bs=b::r/\qe b=Z (x.1.map e)/\t x.2 r
def cG:AR aN aK ρ:=⟨io,U,[],rfl,λ_=>S⟩
def fB{t:γ->O Bx->Prop}(a:R fa ρ (zE e))(r:AR t fs ρ):AR (aZ e t) (aq fa fs) ρ:=⟨(a.v,r.v),bw a.D r.D,_,⟨_,rfl,r.h⟩,λh=>by
 obtain⟨h1,h2⟩:=aD h;simp only[aq,a.ok h1,r.ok h2,Au]⟩
def pX{t:γ->O Bx->Prop}(a:RL fa ρ e)(r:AR t fs ρ):AR (aL e t) (aq fa fs) ρ:=⟨(a.v,r.v),bw a.D r.D,_,⟨_,_,rfl,a.lk,r.h⟩,λh=>by
 obtain⟨h1,h2⟩:=aD h;simp only[aq,a.ok h1,r.ok h2,Au]⟩
def At{d:γ->O Bx->Prop}{c:α->Bx}{T:γ->α}{b:γ->Y Prop}(S:∀v bs,d v bs->bs.length=n/\(B9 (b v)->F (bs.map B5)=Z (c (T v))))(a:AR d fs ρ):R (cV n F fs) ρ c:=⟨T a.v,bw a.D (b a.v),λh=>by
 obtain⟨h1,h2⟩:=aD h;obtain⟨e,f⟩:=S a.v a.bs a.h;simp only[cV,a.ok h1,Au,zt e,f h2]⟩
theorem UA{bs:O Bx}{c:α->Bx}(x:R g (bs.map Z++aw (n-bs.length) U) (λr=>As.rt (c r)))(h:B9 x.D):fL n g bs=Z (c x.v):=by
 unfold fL;rw[x.ok h];rfl
def HZ(xs:O α)(P:α->Y Prop):Y Prop:=Z (∀x∈xs,B9 (P x))
theorem Nb{fs:Ev->Y (O Dt)}{c:Ev}{g:α->O Dt}{π:α->Bool}:∀xs:O α,(∀x∈xs,∃a,gt (e x) c=Z a/\p a=Z (π x)/\(π x=true->fs a=Z (g x)))->Bb gt p fs c (xs.map e)=Z ((xs.filter π).flatMap g)
 |[],_=>rfl
 |x::xs,h=>by
  obtain⟨a,h1,h2,d⟩:=h x (zh ..);have b:=Nb (g:=g) (π:=π) xs λy f=>h y (zi _ f);cases hp:π x with
  |true=>simp only[Zl,Bb,h1,Au,h2,hp,jb,d hp,b,xf,ic]
  |false=>simp only[Zl,Bb,h1,Au,h2,hp,b,xf,zS,qr]
theorem Nf{g:α->β}:∀xs:O α,xs.flatMap (λx=>[e' (g x)])=(xs.map g).map e'
 |[]=>rfl
 |x::xs=>by rw[ic,Nf xs];rfl
theorem Dy{b:Ev}{g:α->β}{π:α->Bool}(xs:O α)(h:∀x∈xs,∃a,gt (e x) b=Z a/\p a=Z (π x)/\(π x=true->fe a=Z (.z (e' (g x))))):zU gt p fe b (xs.map e)=Z (((xs.filter π).map g).map e'):=by
 rw[<-Nf];exact Nb xs λx hx=>let ⟨a,h1,h2,h3⟩:=h x hx;⟨a,h1,h2,λhp=>by rw[h3 hp];rfl⟩
theorem CA{b:Ev}{g:α->β}(xs:O α)(h:∀x∈xs,∃a,gt (e x) b=Z a/\fe a=Z (.z (e' (g x)))):zU gt wF fe b (xs.map e)=Z ((xs.map g).map e'):=
 (Dy (π:=λ_=>true) xs λx hx=>let ⟨a,h1,h2⟩:=h x hx;⟨a,h1,rfl,λ_=>h2⟩).trans (by rw[gQ.mpr λ_ _=>S])
def wL(it:R fi ρ (iE e))(c:α->Ev)(d:∀x,gt (e x) (jF is ρ++aw n U)=Z (c x))(b:∀x,R fe (c x) (zE e')):R (gO fi gt wF fe is n) ρ (oE e'):=⟨it.v.map λx=>(b x).v,bw (bw it.D (Z (it.v.length<=100000))) (HZ it.v λx=>(b x).D),λh=>by
 obtain⟨h,a⟩:=aD h;obtain⟨h1,h2⟩:=aD h;have a:∀x∈it.v,B9 (b x).D:=a;simp only[gO,it.ok h1,Au,zk,zt (show it.v.length<=100000 from h2),CA it.v λx hx=>⟨c x,d x,(b x).ok (a x hx)⟩]⟩
def BR(it:R fi ρ (iE e))(a:α->Ev)(c:∀x,gt (e x) (jF is ρ++aw n U)=Z (a x))(b:∀x,R fe (a x) (zE e'))(d:∀x,(b x).D=U):R (gO fi gt wF fe is n) ρ (oE e'):=⟨it.v.map λx=>(b x).v,bw it.D (Z (it.v.length<=100000)),λh=>by
 obtain⟨h1,h2⟩:=aD h;simp only[gO,it.ok h1,Au,zk,zt (show it.v.length<=100000 from h2),CA it.v λx hx=>⟨a x,c x,(b x).ok (by rw[d x];trivial)⟩]⟩
def SA(it:R fi ρ (iE e))(c:α->Ev)(d:∀x,gt (e x) (jF is ρ++aw n U)=Z (c x))(t:∀x,R p (c x) tE)(b:∀x,R fe (c x) (zE e')):R (gO fi gt p fe is n) ρ (oE e'):=⟨(it.v.filter λx=>(t x).v).map λx=>(b x).v,bw (bw it.D (Z (it.v.length<=100000))) (HZ it.v λx=>bw (t x).D (zc ((t x).v=true) (b x).D)),λh=>by
 obtain⟨h,a⟩:=aD h;obtain⟨h1,h2⟩:=aD h;have a:∀x∈it.v,B9 (bw (t x).D (zc ((t x).v=true) (b x).D)):=a;simp only[gO,it.ok h1,Au,zk,zt (show it.v.length<=100000 from h2),Dy it.v λx hx=>⟨c x,d x,(t x).ok (aD (a x hx)).1,λf=>(b x).ok (jq (aD (a x hx)).2 f)⟩]⟩
def yh(it:R fi ρ (iE e))(a:α->Ev)(c:∀x,gt (e x) (jF is ρ++aw n U)=Z (a x))(t:∀x,R p (a x) tE)(b:∀x,R fe (a x) (zE e'))(d:∀x,(t x).D=U)(f:∀x,(b x).D=U):R (gO fi gt p fe is n) ρ (oE e'):=⟨(it.v.filter λx=>(t x).v).map λx=>(b x).v,bw it.D (Z (it.v.length<=100000)),λh=>by
 obtain⟨h1,h2⟩:=aD h;simp only[gO,it.ok h1,Au,zk,zt (show it.v.length<=100000 from h2),Dy it.v λx hx=>⟨a x,c x,(t x).ok (by rw[d x];trivial),λ_=>(b x).ok (by rw[f x];trivial)⟩]⟩
def Ng(a:RL fa ρ e):R (Jx fa) ρ (iE e):=⟨a.v,a.D,λh=>by
 have:Xm a.b=Z (a.v.map e):=by
  have:=a.lk
  revert this
  generalize a.b=b;generalize a.v.map e=ds;intro this;cases b with
  |z d=>cases d<;>cases this;rfl
  |l d=>cases this;rfl
  |o d=>cases this;rfl
  |n d=>cases this
  |m d _=>cases this
 simp only[Jx,a.ok h,Au,this]⟩
def c9(a:R fa ρ (zE (eT e))):R (Jx fa) ρ (iE e):=⟨a.v,a.D,λh=>by simp only[Jx,a.ok h,Au,Xm]⟩
def Bz(x:AJ):AZ:=x.cps.toList.map λc=>⟨#[c]⟩
theorem Nh(x:AJ):BQ x=(Bz x).map eS:=by
 unfold BQ Bz;rw[qa];rfl
def FZ:Dt->O Dt
 |.tup ds=>ds
 |.lst ds=>ds
 |.str x=>BQ x
 |_=>[]
def IH(a:R fa ρ (zE eD)):R (Jx fa) ρ (iE eD):=⟨FZ a.v,bw a.D (Z (zp a.v=true)),λh=>by
 obtain⟨h,b⟩:=aD h;have b:zp a.v=true:=b;simp only[Jx,a.ok h,Au];cases c:a.v<;>rw[c]at b<;>first|(cases b;done)|(simp only[Xm,FZ,iE,eD,mx,id])⟩
def Iy(a:R fa ρ (oE e)):R (E8 fa) ρ (iE e):=⟨a.v,a.D,λh=>by simp only[E8,a.ok h,Au,GW]⟩
def rng(i:Int)(n:Nat):O Int:=(da n).map λk:Nat=>i+(k:Int)
theorem JZ(i:Int)(n:Nat):xJ i n=(rng i n).map eI:=by
 unfold xJ rng;rw[qa];rfl
def Rg(j:Int):Prop:=-4611686018427387904<=j/\j<4611686018427387904
def Ni(a:R fa ρ (zE eI)):R (UJ (aq fa aK)) ρ (iE eI):=⟨rng 0 a.v.toNat,bw a.D (Z (Rg a.v)),λh=>by
 obtain⟨h,b⟩:=aD h;simp only[UJ,aq,aK,a.ok h,Au];show(if -(2 ^ 62)<=a.v/\a.v<2 ^ 62 then Z (xJ 0 a.v.toNat)else U)=_;exact(zt b).trans (by rw[JZ])⟩
def WN(n:Int)(m:Nat)(a:n.toNat=m)(b:Rg n):R (UJ (aq (cB (.int n)) aK)) ρ (iE eI):=⟨rng 0 m,U,λ_=>by
 simp only[UJ,aq,aK,Au,cB];show(if -(2 ^ 62)<=n/\n<2 ^ 62 then Z (xJ 0 n.toNat)else U)=_;exact(zt b).trans (by rw[JZ,a])⟩
def f'(a:R fa ρ (zE eI))(b:R fb ρ (zE eI)):R (Go (aq fa (aq fb aK))) ρ (iE eI):=⟨rng a.v (b.v-a.v).toNat,bw (bw a.D b.D) (Z (Rg a.v/\Rg b.v)),λh=>by
 obtain⟨h,c⟩:=aD h;obtain⟨h1,h2⟩:=aD h;simp only[Go,aq,aK,a.ok h1,b.ok h2,Au];show(if(-(2 ^ 62)<=a.v/\a.v<2 ^ 62) ∧ -(2 ^ 62)<=b.v/\b.v<2 ^ 62 then Z (xJ a.v (b.v-a.v).toNat)else U)=_;exact(zt c).trans (by rw[JZ])⟩
end
section
variable{ε σ τ:Type}{fd:Ev->Y Bx}{fs:Ev->Y (O Bx)}{e:α->Dt}{e':β->Dt}{k:Ev->Y As}{cO:γ->As}
theorem pY{ρ':Ev}(h:g1 ρ=Z (.nx ρ')):aO g1 k ρ=k ρ':=by
 unfold aO;rw[h];rfl
def cu(x:R (aO g (aO g1 k)) ρ cO):R (aO (aO g g1) k) ρ cO:=⟨x.v,x.D,λh=>by
 rw[<-x.ok h];unfold aO;cases g ρ with
 |none=>rfl
 |some o=>cases o<;>rfl⟩
def cM(x:R k ρ cO):R (aO eF k) ρ cO:=⟨x.v,x.D,λh=>x.ok h⟩
def fJ(x:γ)(h:cO x=.nx (kill is ρ)):R (jk is) ρ cO:=⟨x,U,λ_=>by rw[h];rfl⟩
def cT{c:α->Bx}(inj:α->γ)(a:R f ρ c)(h:∀x,cO (inj x)=.rt (c x))(d:∀x,Xd (c x)=Z (.rt (c x))):R (aO (fM f) k) ρ cO:=⟨inj a.v,a.D,λb=>by
 have:fM f ρ=Z (.rt (c a.v)):=by unfold fM;rw[a.ok b,Au,d]
 unfold aO;rw[this,h];rfl⟩
def Yw{c:α->Bx}(i:Nat)(inj:α->γ)(a:α)(hi:ρ[i]?=Z (Z (c a)))(h:∀x,cO (inj x)=.rt (c x))(b:∀x,Xd (c x)=Z (.rt (c x))):R (aO (Jk i) k) ρ cO:=⟨inj a,U,λd=>by
 have:Jk i ρ=Z (.rt (c a)):=by unfold Jk;rw[hi];exact b a
 unfold aO;rw[this,h];rfl⟩
def cL{c:α->Bx}(i:Nat)(a:R f ρ c)(d:∀x,Fc ρ i (c x)=Z (ρ.set i (Z (c x))))(K:∀x,R k (ρ.set i (Z (c x))) cO):R (aO (B7 i f) k) ρ cO:=⟨(K a.v).v,bw a.D (K a.v).D,λb=>by
 obtain⟨h1,h2⟩:=aD b;rw[pY (ρ':=ρ.set i (Z (c a.v))) (by unfold B7;rw[a.ok h1,Au,d,Au])];exact(K a.v).ok h2⟩
def HD(a:R f ρ (zE e))(b:α->Ev)(c:∀x,gt (e x) ρ=Z (b x))(K:∀x,R k (b x) cO):R (aO (yX gt f) k) ρ cO:=⟨(K a.v).v,bw a.D (K a.v).D,λd=>by
 obtain⟨h1,h2⟩:=aD d;rw[pY (ρ':=b a.v) (by unfold yX;rw[a.ok h1,Au];simp only[c,Au])];exact(K a.v).ok h2⟩
def Yx(i:Nat)(xs:O α)(hi:ρ[i]?=Z (Z (.o (xs.map e))))(a:R f ρ (zE e))(K:∀ys:O α,R k (ρ.set i (Z (.o (ys.map e)))) cO):R (aO (Ms i f) k) ρ cO:=⟨(K (xs++[a.v])).v,bw (bw a.D (Z (uY xs.length))) (K (xs++[a.v])).D,λc=>by
 obtain⟨h1,b⟩:=aD c;obtain⟨h1,h2⟩:=aD h1;have h2:xs.length<=1000000:=h2;rw[pY (ρ':=ρ.set i (Z (.o ((xs++[a.v]).map e)))) (by
  unfold Ms;rw[a.ok h1,Au];simp only[Xe,hi,zk,qo,Zl,kP];rw[zt (JY h2 ())])]
 exact(K _).ok b⟩
def iu(t:R p ρ tE)(a:R (aO g1 k) ρ cO)(b:R (aO g2 k) ρ cO):R (aO (oV p g1 g2) k) ρ cO:=⟨if t.v=true then a.v else b.v,bw t.D (bw (zc (t.v=true) a.D) (zc (t.v=false) b.D)),λg=>by
 obtain⟨h1,h2⟩:=aD g;obtain⟨h2,f⟩:=aD h2;have e1:∀c,t.v=c->aO (oV p g1 g2) k ρ=aO (if c=true then g1 else g2) k ρ:=λc e=>by
  unfold aO oV;rw[t.ok h1,Au,e];cases c<;>rfl
 cases d:t.v with
 |true=>rw[e1 true d];simp only[jb];exact a.ok (jq h2 d)
 |false=>rw[e1 false d];simp only[zS,qr];exact b.ok (jq f d)⟩
def HF(E:σ->Ev)(t:R p ρ tE)(a:R g1 ρ (λs=>As.nx (E s)))(b:R g2 ρ (λs=>As.nx (E s)))(K:∀s,R k (E s) cO):R (aO (oV p g1 g2) k) ρ cO:=⟨(K (if t.v=true then a.v else b.v)).v,bw (bw t.D (bw (zc (t.v=true) a.D) (zc (t.v=false) b.D))) (K (if t.v=true then a.v else b.v)).D,λd=>by
 obtain⟨h,f⟩:=aD d;obtain⟨h1,h2⟩:=aD h;obtain⟨h2,e⟩:=aD h2;rw[pY (ρ':=E (if t.v=true then a.v else b.v)) (by
  unfold oV;rw[t.ok h1,Au];cases c:t.v with
  |true=>simp only[jb];exact a.ok (jq h2 c)
  |false=>simp only[zS,qr];exact b.ok (jq e c))]
 exact(K _).ok f⟩
def Nj(step:σ->α->σ)(P:σ->α->Y Prop):O α->σ->Prop
 |[],_=>True
 |x::xs,s=>B9 (P s x)/\Nj step P xs (step s x)
theorem Dz{gb:Ev->Y As}(E:σ->Ev)(a:σ->α->Ev)(b:∀s x,gt (e x) (E s)=Z (a s x))(body:∀s x,R gb (a s x) (λs=>As.nx (E s))):∀(xs:O α) (s:σ),Nj (λs x=>(body s x).v) (λs x=>(body s x).D) xs s->Ba gt gb (xs.map e) (E s)=Z (.nx (E (xs.foldl (λs x=>(body s x).v) s)))
 |[],s,_=>rfl
 |x::xs,s,h=>by
  simp only[Zl,Ba,b,Au,(body s x).ok h.1,KP];exact Dz E a b body xs _ h.2
def NN(E:σ->Ev)(a:σ)(d:ρ=E a)(it:R fi ρ (iE e))(b:σ->α->Ev)(f:∀s x,gt (e x) (E s)=Z (b s x))(body:∀s x,R gb (b s x) (λs=>As.nx (E s)))(K:∀s,R k (E s) cO):R (aO (wD fi gt gb) k) ρ cO:=⟨(K (it.v.foldl (λs x=>(body s x).v) a)).v,bw (bw it.D (Z (Nj (λs x=>(body s x).v) (λs x=>(body s x).D) it.v a))) (K (it.v.foldl (λs x=>(body s x).v) a)).D,λc=>by
 obtain⟨h,g⟩:=aD c;obtain⟨h1,h2⟩:=aD h;rw[pY (ρ':=E (it.v.foldl (λs x=>(body s x).v) a)) (by
  unfold wD;rw[it.ok h1,Au];subst d;exact Dz E b f body it.v a h2)]
 exact(K _).ok g⟩
def e8(E:σ->Ev)(a:σ)(g:ρ=E a)(it:R fi ρ (iE e))(b:σ->α->Ev)(h:∀s x,gt (e x) (E s)=Z (b s x))(body:∀s x,R gb (b s x) (λs=>As.nx (E s)))(c:∀s x,(body s x).D=U)(K:∀s,R k (E s) cO):R (aO (wD fi gt gb) k) ρ cO:=⟨(K (it.v.foldl (λs x=>(body s x).v) a)).v,bw it.D (K (it.v.foldl (λs x=>(body s x).v) a)).D,λf=>by
 obtain⟨h1,i⟩:=aD f;have h2:∀(xs:O α) (s:σ),Nj (λs x=>(body s x).v) (λs x=>(body s x).D) xs s:=λxs=>by
  induction xs with
  |nil=>intro s;trivial
  |cons x xs d=>intro s;exact⟨by show B9 (body s x).D;rw[c s x];trivial,d _⟩
 rw[pY (ρ':=E (it.v.foldl (λs x=>(body s x).v) a)) (by
  unfold wD;rw[it.ok h1,Au];subst g;exact Dz E b h body it.v a (h2 _ _))]
 exact(K _).ok i⟩
inductive yN (σ τ:Type) where
 |nx (s:σ)|rt (r:τ)|bk (s:σ)|ct (s:σ)
def cC(E:σ->Ev)(c:τ->Bx):yN σ τ->As
 |.nx s=>.nx (E s)
 |.rt r=>.rt (c r)
 |.bk s=>.bk (E s)
 |.ct s=>.ct (E s)
def qp(step:σ->α->yN σ τ):O α->σ->yN σ τ
 |[],s=>.nx s
 |x::xs,s=>match step s x with
  |.nx s'=>qp step xs s'
  |.ct s'=>qp step xs s'
  |.bk s'=>.nx s'
  |.rt r=>.rt r
def Ag(step:σ->α->yN σ τ)(P:σ->α->Y Prop):O α->σ->Prop
 |[],_=>True
 |x::xs,s=>B9 (P s x)/\match step s x with
  |.nx s'=>Ag step P xs s'
  |.ct s'=>Ag step P xs s'
  |.bk _=>True
  |.rt _=>True
theorem J1{c:τ->Bx}(E:σ->Ev)(a:σ->α->Ev)(b:∀s x,gt (e x) (E s)=Z (a s x))(body:∀s x,R gb (a s x) (cC E c)):∀(xs:O α) (s:σ),Ag (λs x=>(body s x).v) (λs x=>(body s x).D) xs s->Ba gt gb (xs.map e) (E s)=Z (cC E c (qp (λs x=>(body s x).v) xs s))
 |[],s,_=>rfl
 |x::xs,s,h=>by
  obtain⟨h1,h2⟩:=h;dsimp only at h2;simp only[Zl,Ba,b,Au,(body s x).ok h1,qp]
  revert h2
  cases(body s x).v with
  |nx s'=>intro h2;exact J1 E a b body xs s' h2
  |ct s'=>intro h2;exact J1 E a b body xs s' h2
  |bk s'=>intro _;rfl
  |rt r=>intro _;rfl
theorem DG(step:σ->α->yN σ τ):∀(xs:O α) (s:σ),(∃s',qp step xs s=.nx s')\/∃r,qp step xs s=.rt r
 |[],s=>.inl ⟨s,rfl⟩
 |x::xs,s=>by
  unfold qp;cases step s x with
  |nx s'=>exact DG step xs s'
  |ct s'=>exact DG step xs s'
  |bk s'=>exact .inl ⟨s',rfl⟩
  |rt r=>exact .inr ⟨r,rfl⟩
def CI(r:yN σ τ)(inj:τ->γ)(K:σ->γ):γ:=match r with
 |.rt r=>inj r
 |.nx s=>K s
 |.bk s=>K s
 |.ct s=>K s
def J2(r:yN σ τ)(K:σ->Prop):Prop:=match r with
 |.rt _=>True
 |.nx s=>K s
 |.bk s=>K s
 |.ct s=>K s
def cq(r:yN σ τ)(K:σ->Y Prop):Y Prop:=Z (J2 r λs=>B9 (K s))
def Yy{c:τ->Bx}(E:σ->Ev)(a:σ)(i:ρ=E a)(it:R fi ρ (iE e))(b:σ->α->Ev)(j:∀s x,gt (e x) (E s)=Z (b s x))(body:∀s x,R gb (b s x) (cC E c))(inj:τ->γ)(g:∀r,cO (inj r)=.rt (c r))(K:∀s,R k (E s) cO):R (aO (wD fi gt gb) k) ρ cO:=⟨CI (qp (λs x=>(body s x).v) it.v a) inj λs=>(K s).v,bw (bw it.D (Z (Ag (λs x=>(body s x).v) (λs x=>(body s x).D) it.v a))) (cq (qp (λs x=>(body s x).v) it.v a) λs=>(K s).D),λf=>by
 obtain⟨h,d⟩:=aD f;obtain⟨h1,h2⟩:=aD h;have e1:wD fi gt gb ρ=Z (cC E c (qp (λs x=>(body s x).v) it.v a)):=by
  unfold wD;rw[it.ok h1,Au];subst i;exact J1 E b j body it.v a h2
 rcases DG (λs x=>(body s x).v) it.v a with⟨s',es⟩|⟨r,es⟩
 ·rw[es]at e1 d ⊢;rw[pY e1];exact(K s').ok d
 ·rw[es]at e1 ⊢;show aO (wD fi gt gb) k ρ=Z (cO (inj r));unfold aO;rw[e1,g];rfl⟩
class Ky {κ:Type} (c:κ->AY):Prop where
 inj:∀a b,c a=c b->a=b
abbrev kS:AJ->AY:=Sum.inr
abbrev kI:Int->AY:=Sum.inl
instance:Ky kS:=⟨λ_ _ h=>by cases h;rfl⟩
instance:Ky kI:=⟨λ_ _ h=>by cases h;rfl⟩
section
variable [DecidableEq κ] {c:κ->AY}
def look[Inhabited α](m:O (κ×α))(x:κ):α:=((m.find? λq=>decide (q.1=x)).map (·.2)).getD default
def has(m:O (κ×α))(x:κ):Bool:=m.any λq=>decide (q.1=x)
def put(m:O (κ×α))(x:κ)(a:α):O (κ×α):=if has m x=true then m.map (λq=>if q.1=x then(q.1,a)else q)else m++[(x,a)]
theorem PH[Ky c](a b:κ):decide (c a=c b)=decide (a=b):=by
 by_cases h:a=b
 ·rw[h];simp
 ·rw[ZU h,ZU λz=>h (Ky.inj (c:=c) _ _ z)]
theorem Yz[Ky c](m:O (κ×α))(x:κ):CP (m.map λq=>(c q.1,e q.2)) (c x)=((m.find? λq=>decide (q.1=x)).map (·.2)).map e:=by
 unfold CP;rw[List.find?_map];simp only[mH,Function.comp_def,PH]
theorem YB[Ky c][Inhabited α]{m:O (κ×α)}{x:κ}(h:has m x=true):CP (m.map λq=>(c q.1,e q.2)) (c x)=Z (e (look m x)):=by
 rw[Yz];unfold look;unfold has at h;rw[y7]at h;obtain⟨q,b,hx⟩:=h;cases a:m.find? λq=>decide (q.1=x)with
 |none=>exact absurd hx (by simpa using lI.mp a q b)
 |some q=>rfl
end
end
section
variable{fs:Ev->Y AZ}{e:α->Dt}
abbrev sE:AZ->AZ:=λys=>ys
theorem BW(h:qe b=Z ds):mR b=Z ds:=by
 cases b with
 |z d=>cases d<;>first|exact h|(cases h;done)
 |l _=>exact h
 |o _=>exact h
 |n _=>cases h
 |m _ _=>cases h
def eK(a:R fa ρ (zE (eT eS))):R (GL fa) ρ sE:=⟨a.v,a.D,λh=>by
 simp only[GL,a.ok h,Au,Ye,mR,eT,BI]⟩
def OE(a:R fs ρ sE):R (Sx fs) ρ (oE eS):=⟨aV (mj a.v),bw a.D (Z (a.v.length<4000/\(mj a.v).length<64)),λh=>by
 obtain⟨h,b⟩:=aD h;simp only[Sx,a.ok h,Au];exact zt b⟩
theorem NJ(n:Nat):∃m,m=n:=⟨n,rfl⟩
noncomputable def kN(n:Nat):Nat:=Classical.choose (NJ n)
theorem LL(n:Nat):kN n=n:=Classical.choose_spec (NJ n)
noncomputable def i8(n:Int)(m:Nat)(a:n.toNat=m)(b:Rg n):R (UJ (aq (cB (.int n)) aK)) ρ (iE eI):=⟨rng 0 (kN m),U,λh=>by rw[LL];exact(WN n m a b).ok h⟩
end
end P1
namespace P1
open L2 S1 S6
class pC {α:Type} (e:α->Dt) where
 k:α->AY
 ok:∀a,FS (e a)=some (k a)
 inj:∀a b,k a=k b->a=b
 same:∀a b,Sg (k a) (k b)=true
instance:pC eI:=⟨λi=>.inl i,λ_=>rfl,λa b h=>by cases h;rfl,λ_ _=>rfl⟩
instance:pC eS:=⟨λi=>.inr i,λ_=>rfl,λa b h=>by cases h;rfl,λ_ _=>rfl⟩
class Nk {α:Type} (e:α->Dt) where
 k:α->List AY
 ok:∀a,Dc (e a)=some (k a)
 inj:∀a b,k a=k b->a=b
 shp:∀a b,Gi (k a) (k b)=true
 ne:∀a,(k a).isEmpty=false
class HE {α:Type} (e:α->Dt) [Nk e]:Prop where
 tx:∀a,FF (Nk.k e a)=true
section
variable{e:α->Dt}{e':β->Dt}{e'':γ->Dt}{e3:δ->Dt}
instance [pC e] [pC e']:Nk (DJ e e'):=⟨λq=>[pC.k e q.1,pC.k e' q.2],λq=>by simp only[Dc,z8,pC.ok,Au],λa b h=>by
 simp only[YE,and_true]at h;exact gW (pC.inj _ _ h.1) (pC.inj _ _ h.2),λa b=>by simp[Gi,pC.same],λ_=>rfl⟩
instance [pC e] [pC e'] [pC e'']:Nk (DZ e e' e''):=⟨λq=>[pC.k e q.1,pC.k e' q.2.1,pC.k e'' q.2.2],λq=>by simp only[Dc,z8,pC.ok,Au],λa b h=>by
 simp only[YE,and_true]at h;exact gW (pC.inj _ _ h.1) (gW (pC.inj _ _ h.2.1) (pC.inj _ _ h.2.2)),λa b=>by simp[Gi,pC.same],λ_=>rfl⟩
instance [pC e] [pC e'] [pC e''] [pC e3]:Nk (FV e e' e'' e3):=⟨λq=>[pC.k e q.1,pC.k e' q.2.1,pC.k e'' q.2.2.1,pC.k e3 q.2.2.2],λq=>by simp only[Dc,z8,pC.ok,Au],λa b h=>by
 simp only[YE,and_true]at h;exact gW (pC.inj _ _ h.1) (gW (pC.inj _ _ h.2.1) (gW (pC.inj _ _ h.2.2.1) (pC.inj _ _ h.2.2.2))),λa b=>by simp[Gi,pC.same],λ_=>rfl⟩
instance [pC e]:HE (DJ e eS):=⟨λa=>by simp[Nk.k,FF,pC.k]⟩
instance [pC e] [pC e']:HE (DZ e eS e'):=⟨λa=>by simp[Nk.k,FF,pC.k]⟩
instance [pC e] [pC e'] [pC e'']:HE (FV e eS e' e''):=⟨λa=>by simp[Nk.k,FF,pC.k]⟩
variable{fs:Ev->Y (O (O AY))}
theorem DK[Nk e]:∀xs:O α,tU (xs.map e)=Z (xs.map (Nk.k e))
 |[]=>rfl
 |x::xs=>by simp only[Zl,tU,Nk.ok,Au,DK xs]
end
end P1
namespace P1
open L2
section
variable{fd:Ev->Y Bx}{fs:Ev->Y (O Bx)}{e:α->Dt}{e':β->Dt}{k:Ev->Y As}{cO:γ->As}
end
section
variable{e:α->Dt}
def cH[DecidableEq α](x:α)(ys:O α):Bool:=decide (x∈ys)
theorem DN[DecidableEq α]{x:α}{ys:O α}:cH x ys=true↔x∈ys:=by unfold cH;rw[QA]
theorem Np[DecidableEq α][BD e n](b:n<=60)(x:α)(ys:O α):JQ (e x) (ys.map e)=Z (decide (x∈ys)):=by
 unfold JQ;rw[zt]
 ·congr 1;rw[eH,KU,y7,QA];constructor
  ·rintro⟨y,a,h⟩;simp only[Function.comp,BD.eq]at h;by_cases q:y=x
   ·exact q▸a
   ·simp[q,Vm]at h
  ·intro h;exact⟨x,h,by simp[Function.comp,BD.eq,Vm]⟩
 ·rw[ik,QI];intro y _;have:=BD.dp (e:=e) y;simp only[Function.comp,BD.eq,YR,kb,QA];omega
def Nq[DecidableEq α][BD e n](c:n<=60)(a:R fa ρ (zE e))(b:RL fb ρ e):R (b2 inX fa fb) ρ (zE eB):=⟨cH a.v b.v,bw a.D b.D,λh=>by
 obtain⟨h1,h2⟩:=aD h;simp only[b2,a.ok h1,b.ok h2,Au,inX,BW b.lk,Np c,cH]⟩
def YC[DecidableEq α][BD e n](c:n<=60)(a:R fa ρ (zE e))(b:RL fb ρ e):R (b2 JR fa fb) ρ (zE eB):=⟨!cH a.v b.v,bw a.D b.D,λh=>by
 obtain⟨h1,h2⟩:=aD h;simp only[b2,a.ok h1,b.ok h2,Au,JR,BW b.lk,Np c,cH]⟩
end
end P1
namespace P1
open L2 S1 S6
def kT(xs:AZ):O AY:=xs.map Sum.inr
theorem Nr:∀(xs:AZ),z8 (xs.map eS)=Z (kT xs)
 |[]=>rfl
 |x::xs=>by simp only[Zl,z8,FS,Au,Nr xs];rfl
theorem HJ:∀(a:O AZ),tU (a.map (eT eS))=Z (a.map kT)
 |[]=>rfl
 |x::a=>by simp only[Zl,tU,Dc,eT,Nr,Au,HJ a]
def F'(a b:AZ):Bool:=wG (kT a) (kT b)
def fO(a:O AZ):O AZ:=a.mergeSort F'
theorem gU(xs:O AZ):(fO xs).Perm xs:=gP ..
theorem pF(xs:O AZ):(fO xs).Pairwise (λa b=>F' a b=true):=xm (le:=F') (λa b c=>CT (kT a) (kT b) (kT c)) (λa b=>CV (kT a) (kT b)) xs
theorem QL(xs:O AZ):wH (xs.map kT)=(fO xs).map kT:=(Ho ((gU xs).map _) (me.mpr (pF xs))).symm
theorem UN(xs:O AZ):(xs.map kT).map C6=xs.map (eT eS):=by
 rw[qa];refine QE λa _=>?_;show Dt.tup ((kT a).map dK)=Dt.tup (a.map eS);unfold kT;rw[qa];rfl
theorem OU(a b:AZ):Gi (kT a) (kT b)=true:=by
 unfold Gi kT;rw[QI];rintro⟨x,y⟩ h;obtain⟨h1,h2⟩:=YA h;obtain⟨p,_,rfl⟩:=ax.mp h1;obtain⟨q,_,rfl⟩:=ax.mp h2;rfl
theorem dv(xs:O AZ)(h:xs.length<64)(c:∀x∈xs,x.isEmpty=false):GG (xs.map kT)=true:=by
 simp only[GG,ZZ,QA,QI,Jn,zk,ax,forall_exists_index,and_imp,forall_apply_eq_imp_iff₂];refine⟨h,λa d=>?_,λa _ b _=>OU a b⟩;have:=c a d;cases a with
 |nil=>cases this
 |cons _ _=>rfl
def yj(a:RL fa ρ (eT eS)):R (bI qN (aq fa aK)) ρ (oE (eT eS)):=⟨fO a.v,bw a.D (Z (a.v.length<64/\∀x∈a.v,x.isEmpty=false)),λh=>by
 obtain⟨h,b⟩:=aD h;obtain⟨b,c⟩:a.v.length<64/\∀x∈a.v,x.isEmpty=false:=b;simp only[bI,aq,aK,a.ok h,Au,qN,BW a.lk,HJ,dv a.v b c,jb,QL,UN]⟩
section
variable{e:α->Dt}
theorem map_some(e:α->Dt)(xs:O α):(xs.map Z).map (eO e)=xs.map e:=by rw[qa];rfl
end
end P1
namespace P1
open L2
section
variable{k:Ev->Y As}{cO:α->As}
def IJ(i:Nat)(E:Ev)(a:II i ρ=Z E)(K:R k E cO):R (EH i k) ρ cO:=⟨K.v,K.D,λh=>by
 unfold EH;rw[a];exact K.ok h⟩
end
section
variable{e:α->Dt}
end
section
variable{σ τ:Type}{k:Ev->Y As}{cO:γ->As}
end
section
variable{e:α->Dt}
end
section
variable{σ τ:Type}
theorem SX{step:σ->α->σ}{P:σ->α->Y Prop}(I:Nat->σ->Prop):∀(xs:O α) (m:Nat) (a:σ),I m a->(∀k x s,xs[k]?=Z x->I (m+k) s->B9 (P s x)/\I (m+k+1) (step s x))->Nj step P xs a/\I (m+xs.length) (xs.foldl step a)
 |[],m,a,h0,_=>⟨trivial,h0⟩
 |x::xs,m,a,h0,hs=>by
  obtain⟨h1,h2⟩:=hs 0 x a S h0;have:=SX I xs (m+1) (step a x) h2 λk y s e h=>by
   have:=hs (k+1) y s (by simpa using e) (by rw[show m+(k+1)=m+1+k by omega];exact h);rw[show m+(k+1)+1=m+1+k+1 by omega]at this;exact this
  refine⟨⟨h1,this.1⟩,?_⟩;rw[Qr,show m+(xs.length+1)=m+1+xs.length by omega];exact this.2
theorem Pm{i:Int}{x:Int}(h:(rng i n)[k]?=Z x):x=i+k/\k<n:=by
 unfold rng at h;rw[Zs]at h;cases hk:(da n)[k]? with
 |none=>rw[hk]at h;cases h
 |some j=>
  rw[hk]at h;have a:k<n:=by simpa using(ay.mp hk).1
  have:j=k:=by
   rw[gG a]at hk;cases hk;rfl
  subst this;cases h;exact⟨rfl,a⟩
theorem lF(i:Int)(n:Nat):(rng i n).length=n:=by unfold rng;simp
theorem Nt{step:σ->Int->σ}{P:σ->Int->Y Prop}(I:Nat->σ->Prop)(n:Nat)(a:σ)(b:I 0 a)(hs:∀(k:Nat) s,k<n->I k s->B9 (P s k)/\I (k+1) (step s k)):Nj step P (rng 0 n) a/\I n ((rng 0 n).foldl step a):=by
 have:=SX (P:=P) I (rng 0 n) 0 a b λk x s e h=>by
  obtain⟨rfl,hk⟩:=Pm e;rw[ip]at h ⊢;rw[lL];exact hs k s hk h
 rw[lF,ip]at this;exact this
theorem Nu{step:Unit->α->yN Unit Bool}{P:Unit->α->Y Prop}:∀xs:O α,(∀x∈xs,B9 (P io x)/\(step io x=.nx io\/step io x=.ct io))->qp step xs io=.nx io/\Ag step P xs io
 |[],_=>⟨rfl,trivial⟩
 |x::xs,h=>by
  obtain⟨h1,h2⟩:=h x (zh ..);have a:=Nu (P:=P) xs λy b=>h y (zi _ b);rcases h2 with h2|h2
  ·exact⟨by unfold qp;rw[h2];exact a.1,h1,by rw[h2];exact a.2⟩
  ·exact⟨by unfold qp;rw[h2];exact a.1,h1,by rw[h2];exact a.2⟩
theorem Nv{step:σ->α->yN σ τ}{P:σ->α->Y Prop}(I:σ->Prop):∀(xs:O α) (a:σ),I a->(∀x s,x∈xs->I s->B9 (P s x)/\∃s',(step s x=.nx s'\/step s x=.ct s')/\I s')->∃s',qp step xs a=.nx s'/\Ag step P xs a/\I s'
 |[],a,h0,_=>⟨a,rfl,trivial,h0⟩
 |x::xs,a,h0,h=>by
  obtain⟨h1,b,h2,c⟩:=h x a (zh ..) h0;obtain⟨s',e,d,i⟩:=Nv (P:=P) I xs b c λy s f=>h y s (zi _ f);rcases h2 with h2|h2
  ·exact⟨s',by unfold qp;rw[h2];exact e,⟨h1,by rw[h2];exact d⟩,i⟩
  ·exact⟨s',by unfold qp;rw[h2];exact e,⟨h1,by rw[h2];exact d⟩,i⟩
theorem oA[Inhabited α]{xs:O α}{i:Int}(h:In xs.length i):An xs i∈xs:=by
 obtain⟨x,hx⟩:=uX h;unfold An;rw[hx];unfold Av at hx;obtain⟨j,_,hx⟩:=AT hx;exact ZN hx
theorem bX[Inhabited α]{xs:O α}{x:α}(h:xs[k]?=Z x):An xs (k:Int)=x:=by
 have a:k<xs.length:=(ay.mp h).1;unfold An Av WM;rw[zt (),zt (),Au,kc,h];rfl
theorem DP[Inhabited α](xs:O α)(k:Nat)(h:k<xs.length):An xs (k:Int)=xs[k]:=bX (zo h)
theorem BC{i:Int}(a:0<=i)(h1:i<n):In n i:=⟨by omega,h1⟩
theorem jH(h:k<n):In n (k:Int):=⟨by omega,by omega⟩
theorem jJ{x m:Int}(a:0<m)(h:m<=n):In n (x%m):=BC (eY _ ()) (Int.lt_of_lt_of_le (hC _ a) h)
theorem jT(x:Int){m:Int}(a:0<m):0<=x%m/\x%m<m:=⟨eY _ (),hC _ a⟩
theorem HN{j:Int}(a:0<=j)(h1:j<=1000000):Rg j:=⟨by omega,by omega⟩
theorem NG{a b:Int}(c:0<=a)(h1:a<18446744073709551616):Fu a b:=.inl ⟨by omega,h1⟩
theorem u0{xs:O α}{x:α}(h:x∈BE xs lo hi):x∈xs:=k7 (la h)
theorem iL(xs:O α)(lo hi:Y Int):(BE xs lo hi).length<=xs.length:=by
 unfold BE;rw[JU,ko];omega
theorem uh(x y:AJ):(x++y).length=x.length+y.length:=by
 show(x.cps++y.cps).size=_;rw[ku];rfl
theorem zu(x:AJ)(i:Int):(ch x i).length=1:=rfl
theorem slice_le(x:AJ)(l u:Y Int):(Txt.slice x l u).length<=x.length:=PyProof.Txt.length_slice_le x l u
theorem Vo(x:AJ):(Bz x).length=x.length:=by unfold Bz;rw[zk,Q4];rfl
theorem Vp(x:AJ):(BQ x).length=x.length:=by rw[Nh,zk,Vo]
end
section
variable [Inhabited α] {e:α->Dt}{k:Ev->Y As}{cO:γ->As}
end
theorem HS:∀xs:O Int,Hx (xs.map eI)=Z xs
 |[]=>rfl
 |x::xs=>by simp only[Zl,eI,Hx,HS xs,Au]
section
variable{e:α->Dt}{k:Ev->Y As}{cO:γ->As}
end
section
variable{e:α->Dt}{k:Ev->Y As}{cO:γ->As}
def S5[Inhabited γ]:R (aO EC k) ρ cO:=⟨default,Z False,λh=>absurd h id⟩
end
section
variable{e:α->Dt}
end
section
variable{e:α->Dt}{e':β->Dt}
end
def RP(f:Ev->Y β)(ρ:Ev)(c:α->β)(v:α)(D:Y Prop):Prop:=B9 D->f ρ=Z (c v)
theorem R.tp{f:Ev->Y β}{c:α->β}{b:α}{a:Y Prop}(x:R f ρ c)(e:x.v=b:=by kernel_rfl)(d:x.D=a:=by kernel_rfl):RP f ρ c b a:=λh=>by
 subst e d;exact x.ok h
def RP.r{f:Ev->Y β}{c:α->β}{v:α}{D:Y Prop}(h:RP f ρ c v D):R f ρ c:=⟨v,D,h⟩
theorem L4{p:O α->Prop}(h:∀a,p [a]):∀us:O α,us.length=1->p us
 |[a],_=>h a
theorem IE{p:O α->Prop}(h:∀a b,p [a,b]):∀us:O α,us.length=2->p us
 |[a,b],_=>h a b
theorem fF{p:O α->Prop}(h:∀a b c,p [a,b,c]):∀us:O α,us.length=3->p us
 |[a,b,c],_=>h a b c
theorem bn{p:O α->Prop}(h:∀a b c d,p [a,b,c,d]):∀us:O α,us.length=4->p us
 |[a,b,c,d],_=>h a b c d
theorem WH{p:O α->Prop}(h:∀a b c d e,p [a,b,c,d,e]):∀us:O α,us.length=5->p us
 |[a,b,c,d,e],_=>h a b c d e
end P1
namespace P1
open L2 S1
theorem QM{T:String}{vs:O A0}{Q:BA}(q:s.heap.get? l=Z o)(j:o.cls=.type T)(k:T ="list" ∨ T ="tuple")(i:o.data=.seq vs.toArray n)(a:StrsAre vs ys)(d:vs.length<64)(h:∀(l:A1) (h':A6) (tk:Nat) (out:Array A0) (zs:AZ) (n:Nat),s.heap.objs.size<=l->(∀b o,s.heap.get? b=Z o->h'.get? b=Z o)->h'.get? l=Z (seqObj "list" out n)->StrsAre out.toList zs->zs.Perm ys->sortedS zs=true->Q (.ref l) { s with heap:=h',toks:=tk }):
  A7 (A8 prog w) A (call (.builtin "sorted") [.ref l]) Q E s:=by
 refine YY kind_sorted plain_sorted entry_sorted (args_sorted1 _) ?_;unfold Builtin.«sorted»;refine zb (m:=checkCount "sorted" 1 1 _) (ze (zb (CZ q j k i (ZH (Q1 d) ()) λh1 tk g ext=>?_)));refine zb (Y2 ?_);have c:(h1.push (seqObj "list" vs.toArray 0)).get? h1.objs.size=Z (seqObj "list" vs.toArray 0):=zr _ rfl;refine zb (qq (Qb slot_list_sort ⟨_,c,rfl⟩ entry_list_sort (list_sort_treeK strKind_oneLt c a.keysOf (λu t AS e=>keyKind_strs (by rw[<-e];exact a)) d λp a1 a2=>⟨_,rfl,ze ⟨_,rfl,?_⟩⟩) (args_list_sort _)));obtain⟨zs,z1,z2,z3⟩:=sorted_out_str a a1 a2;obtain⟨n,en⟩:=sortedHeap_at (out:=(AM p).map (·.2)) c;exact h h1.objs.size _ tk _ zs n g (λb o e=>by
  have e1:=ext b o e;have f:=zw e1;rw[sortedHeap_old (ZE f) (by rw[qk];exact qA f)];exact zd _ e1) en z1 z2 z3
def wM:O Bx->Y Bx
 |[b]=>(mR b).bind λds=>(o9 ds).bind λys=>if ys.length<64 then Z (.o ((aV ys).map Dt.str))else U
 |_=>U
theorem DR:oY X (.builtin "sorted") wM:=by
 intro AN s σ H xs us Q I K h;obtain⟨bs,c,C,e,q⟩:=h;unfold wM at e;split at e
 ·rename_i b;obtain⟨ds,k,e⟩:=AT e;obtain⟨ys,B,e⟩:=AT e;split at e
  ·rename_i F;cases e;obtain⟨v,rfl,m⟩:=BT C;obtain⟨p,vs,rfl,sq,G⟩:=uV m k;obtain⟨u,rfl,L⟩:=BH K;cases L;obtain⟨rfl,E⟩:=kO G B;have x:∃(AQ:O A0) (o:AE) (T:String) (n:Nat),AX (ys.map V.str) AQ/\s.heap.get? p=Z o/\o.cls=.type T/\(T ="list" ∨ T ="tuple")/\o.data=.seq AQ.toArray n:=by
    rcases sq with sq|sq
    ·obtain⟨AQ,f,pl,t⟩:=I.list sq;obtain⟨o,g,c,n,d⟩:=pl.isList;exact⟨AQ,o,_,n,f,g,c,.inl rfl,d⟩
    ·obtain⟨AQ,f,⟨o,g,c,n,d⟩,t⟩:=I.tuple sq;exact⟨AQ,o,_,n,f,g,c,.inr rfl,d⟩
   obtain⟨AQ,o,T,n,f,g,z,J,A⟩:=x;have D:=f.length;rw[zk]at D;refine QM g z J A (kW f) () λl h' tk out zs n j ext en z1 z2 z3=>?_;have w:=CN z2 z3;subst w;have i:=I.hok.fresh j;refine⟨.ref l,_,I.laid (t':=tk) (a:=l) (o:=.lst ((aV ys).map V.str)) ext j ?_,rfl,q _ _ (bD i) (λa ea=>by cases ea;exact i) ⟨l,_,rfl,aQ,n8 λy h=>E y ((bx ys).mem_iff.mp h)⟩⟩;refine⟨by rw[zk,(bx _).length_eq];exact ZH (Q1 F) (),out.toList,n,uT z1,?_⟩;rw[en]
  ·cases e
 ·cases e
def DW(a:R fa ρ (zE (eT eS))):R (bI wM (aq fa aK)) ρ (oE eS):=⟨aV a.v,bw a.D (Z (a.v.length<64)),λh=>by
 obtain⟨h,b⟩:=aD h;simp only[bI,aq,aK,a.ok h,Au,wM,mR,eT,BI];exact zt b⟩
end P1
namespace P1
open L2
section
variable{fs:Ev->Y (O Bx)}
end
section
variable{AS:O AB}
end
section
variable{ks:O V}
theorem N9(j:∀f u,X.H₀ a≠Z (.jm f u))(I:L2.AU X AN σ H s)(e:H a=Z (.jm o (.lst ks))):L2.AU X AN σ (B1 H a (.lst ks)) s:=by
 have g:∀{b:A1} {u:HO},H b=Z u->u≠.jm o (.lst ks)->b≠a:=λq n z=>by subst z;rw[e]at q;cases q;exact n rfl
 have h:∀{b:A1},H b=U->b≠a:=λq z=>by subst z;rw[e]at q;cases q
 refine⟨I.ok,I.os,I.bare,⟨I.base.keep,I.base.slot,λb f q n hx=>?_,I.base.there,λb xs q=>?_,λb f u q=>?_,λb ps q=>?_⟩,I.loc,I.cell,?_,λx c q=>?_,λp hp=>?_,λb f q=>?_,I.len⟩
 ·have:=I.base.free b f q n hx;rw[aF (h this)];exact this
 ·have:=I.base.tups b xs q;rw[aF (g this λz=>by cases z)];exact this
 ·have:=I.base.nP b f u q;rw[aF (λz=>by subst z;exact j _ _ q)];exact this
 ·obtain⟨m,this⟩:=I.base.qD b ps q;exact⟨m,by rw[aF (g this λz=>by cases z)];exact this⟩
 ·have:=I.free;rw[aF (h this)];exact this
 ·have:=I.jj x c q;rw[aF (h this)];exact this
 ·obtain⟨p1,p2,p3⟩:=I.pin p hp;exact⟨p1,by rw[aF (h p2)];exact p2,p3⟩
 ·have st:∀{c:A1} {w:HO},eU X.prog X.w H s.heap c w->eU X.prog X.w (B1 H a (.lst ks)) s.heap c w:=λx=>
   x.stay (λ_ _ _ r=>r) (λd r=>by rw[aF (g r λz=>by cases z)];exact r) (λd xs r=>by rw[aF (g r λz=>by cases z)];exact r) λd o' k r=>by rw[aF (g r λz=>by cases z)];exact r
  by_cases i:b=a
  ·subst i;rw[aQ]at q;cases q;exact st (I.hok _ _ e).2
  ·rw[aF i]at q;exact st (I.hok _ _ q)
end
section
variable{M0 M1 M2 er:Expr}{f0 f2:Ev->Y Bx}{d0 d2:Dt}{z0 z1 z2 z3:Pos}
end
theorem bF.sl(E:bF K H0 H σ ρ)(h:∀c,ρ[i]?≠Z (Z c))(v:Y V):bF K H0 H (σ.set i v) ρ:=by
 have d:∀{j:Nat} {c:Bx},ρ[j]?=Z (Z c)->(σ.set i v)[j]?=σ[j]?:=λe=>kA (λz=>h _ (z▸e));exact⟨by rw[qi];exact E.len,λj b e=>by rw[d e];exact E.val j b e,λj k c a b e1 e2 e3 f l g=>E.own j k c a b e1 e2 (by rw[<-d e1];exact e3) f l (by rw[<-d f];exact g),E.base,λj c a e1 e2 e3=>E.new j c a e1 e2 (by rw[<-d e1];exact e3)⟩
section
variable{st:O AB}{fr:Ev->Y Bx}{i':Nat}{W:O Nat}{z:Pos}
end
section
variable{a b c:Ev->Y As}
end
end P1
namespace P1
open L2 S6
section
variable{kx vx t1 i1 t2 i2:Expr}{f1 f2:O Expr}{xs:AZ}{g1 g2:Dt->Ev->Y Ev}{p1 p2:Ev->Y Bool}{fi1 fi2:Ev->Y (O Dt)}{fs:Ev->Y (O Dt)}{N:Nat}
def cls2(fi:Ev->Y (O Dt))(gt:Dt->Ev->Y Ev)(p:Ev->Y Bool)(fs:Ev->Y (O Dt))(is:O Nat)(n:Nat):Ev->Y (O Dt):=λρ=>(fi ρ).bind λds=>Bb gt p fs (jF is ρ++aw n U) ds
end
end P1
namespace P1
open L2
section
variable{e:α->Dt}{e':β->Dt}{fs:Ev->Y (O Dt)}
end
abbrev HG:=i2 λi j=>if 0<=j then Z (.int (i / 2 ^ j.toNat))else U
abbrev YD:=i2 λi j=>Z (.int (Builtin.bitAnd i j))
theorem P6:Ax X (binaryOp .RShift) HG:=xP gX λi j d H Q e q=>by
 split at e
 ·rename_i h;cases e;exact⟨i,j,rfl,rfl,h,q _ ET⟩
 ·cases e
theorem Xs:Ax X (binaryOp .BitAnd) YD:=xP XB λi j d H Q e q=>by cases e;exact⟨i,j,rfl,rfl,q _ ET⟩
def Nd:V->O V->Hp->VK->Prop:=λx vs H Q=>∃l ks k v,x=.ref l/\vs=[kV k,v]/\H l=Z (.dK ks)/\ks.length<AA/\(∀w,qd ks k=Z w->Q w H)/\(qd ks k=U->Q v (B1 H l (.dK (C2 ks k v))))
theorem fT:HA X "dict.setdefault" Nd:=by
 intro AN s σ H x vs v us Q I E B h;obtain⟨l,ks,k,y,rfl,rfl,j,G,q1,q2⟩:=h;cases E;obtain⟨m,d,rfl,rk,o⟩:=B.two;obtain⟨z,n,vs,c,g⟩:=TW I.hok j;have u:vs.length<=AA:=by rw[<-c.length];exact z
 refine Qb PySem.F.slot_dict_setdefault g.typeIs PySem.F.entry_dict_setdefault ?_ (PySem.F.args_dict_setdefault_3 _ _ _);unfold Builtin.«dict.setdefault»;refine zb ?_;unfold Builtin.Dict.keyAndDefault;refine zb (wpAny_notOrdered_dict g.typeIs ?_);show A7 _ _ (pure (l,m,Z d)) _ _ s;refine ze ?_;show A7 _ _ (if(l==sysModules)=true then _ else(dictSetDefault l m d >>= _)) _ _ s;rw[ZA (by rw[n];exact zI)];refine zb (kt_dictSetDefault_pairs (hsz:=u) (R0 rk) g (λw A=>?_) λp h' i t=>?_)
 ·have a:=c.val k;rw[A]at a;cases b:qd ks k with
  |none=>rw[b]at a;exact a.elim
  |some f=>
   rw[b]at a;exact ze ⟨w,rfl,f,H,I.kept (t':=s.toks+1) λ_ _ e=>e,a,q1 f b⟩
 ·have b:qd ks k=U:=by
   have a:=c.val k;rw[p]at a;cases b:qd ks k with
   |none=>rfl
   |some f=>rw[b]at a;exact a.elim
  have D:(C2 ks k y).length<=AA:=by have:=Lh ks k y;omega
  have C:∃q,h'.get? l=Z q:=let ⟨q,_,_,hq,_⟩:=i;⟨q,hq⟩;exact ze ⟨d,rfl,y,_,gh (t':=s.toks+1) I (by rw[j];exact True.intro) t C (fw D n (c.put k o) i),o,q2 b⟩
def PF(a:R fa ρ (zE eI))(b:R fb ρ (zE eI)):R (b2 HG fa fb) ρ (zE eI):=⟨a.v / 2 ^ b.v.toNat,bw (bw a.D b.D) (Z (0<=b.v)),λh=>by
 obtain⟨h,c⟩:=aD h;obtain⟨h1,h2⟩:=aD h;have c:0<=b.v:=c;simp only[b2,a.ok h1,b.ok h2,Au,i2,zt c]⟩
def XA(a:R fa ρ (zE eI))(b:R fb ρ (zE eI)):R (b2 YD fa fb) ρ (zE eI):=⟨Builtin.bitAnd a.v b.v,bw a.D b.D,λh=>by
 obtain⟨h1,h2⟩:=aD h;simp only[b2,a.ok h1,b.ok h2,Au,i2]⟩
def hx(h:A6)(a:A1):HO:=.ext λh'=>h'.get? a=h.get? a
def LD(o:Y HO):Prop:=(∃xs,o=Z (.lst xs))\/∃ks,o=Z (.dK ks)
def DV(as:O A1)(σ:L2.St)(ρ:Ev):Prop:=∀(j:Nat) c a,ρ[j]?=Z (Z c)->loose c=true->σ[j]?=Z (Z (.ref a))->a∉as
section
variable{H2:Hp}{as:O A1}
theorem bF.move{p H':Hp}(E:bF K Hb H σ ρ)(S:DV as σ ρ)(kp:Kp H H')(i:∀b,b∉as->H' b=H b)(t:AV p H')(s:∀(j:Nat) c a,ρ[j]?=Z (Z c)->vN c=true->σ[j]?=Z (Z (.ref a))->p a=U):bF K p H' σ ρ:=by
 refine⟨E.len,λj b e=>?_,E.own,t,s⟩;obtain⟨v,ev,g⟩:=E.val j b e;refine⟨v,ev,?_⟩;cases b with
 |z d=>exact AW.kp kp g
 |l k=>
  obtain⟨a,vs,rfl,q,f⟩:=g;have h:=i a (S j _ a e rfl ev);exact⟨a,vs,rfl,q.imp (λq=>h.trans q) λ⟨o,q⟩=>⟨o,h.trans q⟩,f.kp kp⟩
 |o k=>
  obtain⟨a,vs,rfl,q,f⟩:=g;exact⟨a,vs,rfl,(i a (S j _ a e rfl ev)).trans q,f.kp kp⟩
 |n k=>
  obtain⟨a,vs,rfl,q,f⟩:=g;have h:=i a (S j _ a e rfl ev);exact⟨a,vs,rfl,q.imp (λq=>h.trans q) λ⟨o,q⟩=>⟨o,h.trans q⟩,f.kp kp⟩
 |m k _=>
  obtain⟨a,vs,rfl,q,f⟩:=g;exact⟨a,vs,rfl,(i a (S j _ a e rfl ev)).trans q,f.1.kp kp,f.2⟩
end
theorem um:∀{as:O A1} {H:Hp},L2.AU X AN σ H s->(∀a∈as,∃vs,H a=Z (.lst vs))->as.Nodup->∃H',L2.AU X AN σ H' s/\Kp H H'/\(∀b,b∉as->H' b=H b)/\∀a∈as,∃o vs,H a=Z (.lst vs)/\H' a=Z (.jm o (.lst vs))
 |[],H,I,_,_=>⟨H,I,⟨λ_ _ e=>e,λ_ _ _ e=>e⟩,λ_ _=>S,λ_ h=>by cases h⟩
 |a::as,H,I,h,g=>by
  obtain⟨j,g⟩:=cc.mp g;obtain⟨vs,i⟩:=h a (zh ..);obtain⟨o,n⟩:=qI I i;have m:Kp H (B1 H a (.jm o (.lst vs))):=.lst i;obtain⟨H',p,l,h1,h2⟩:=um (as:=as) n (λb c=>by
   obtain⟨d,e⟩:=h b (zi _ c);exact⟨d,by rw[aF (show b≠a from λz=>j (by rw[<-z];exact c))];exact e⟩) g
  refine⟨H',p,⟨λb xs e=>l.t _ _ (m.t _ _ e),λb k u e=>l.f _ _ _ (m.f _ _ _ e)⟩,λb c=>?_,λb c=>?_⟩
  ·rw[h1 b λz=>c (zi _ z),aF (show b≠a from λz=>c (by rw[z];exact zh ..))]
  ·rcases List.mem_cons.mp c with rfl|c
   ·exact⟨o,vs,i,by rw[h1 _ j];exact aQ⟩
   ·obtain⟨k,d,e1,e2⟩:=h2 b c;rw[aF (show b≠a from λz=>j (by rw[<-z];exact c))]at e1;exact⟨k,d,e1,e2⟩
def Tl(P:L2.St->Hp->Prop):L2.St->Hp->Prop:=λσ H=>∃as:O A1,as.Nodup/\(∀a∈as,∃vs,H a=Z (.lst vs))/\∀H',Kp H H'->(∀b,b∉as->H' b=H b)->(∀a∈as,∃o vs,H a=Z (.lst vs)/\H' a=Z (.jm o (.lst vs)))->P σ H'
theorem Wp{t:TS}(h:PS X st t):PS X st (λD σ H=>t { D with nx:=Tl D.nx } σ H):=λAN s σ H D I q=>by
 refine ig (h AN s σ H _ I q) λf d q=>?_;cases f with
 |next=>
  obtain⟨σ',H',b,as,a,k,q⟩:=q;obtain⟨H2,c,kp,h1,h2⟩:=um b k a;exact⟨σ',H2,c,q H2 kp h1 h2⟩
 |ret v=>exact q
 |brk=>exact q
 |cont=>exact q
def uo(m:O (Int×O α))(k:Int)(d:α):O (Int×O α):=if(m.any λq=>decide (q.1=k))=true then m.map λq=>if q.1=k then(q.1,q.2++[d])else q else m++[(k,[d])]
def J3(k j:Nat)(f1:Ev->Y Bx)(p:Ev->Y Bool)(f2 fv:Ev->Y Bx)(ρ:Ev):O Dt->O (Int×O Dt)->Y (O (Int×O Dt))
 |[],m=>Z m
 |d::ds,m=>(f1 (ρ.set k (Z (.z d)))).bind λb1=>match b1 with
  |.z a=>(p ((ρ.set k (Z (.z d))).set j (Z (.z a)))).bind λt=>(if t=true then f2 ((ρ.set k (Z (.z d))).set j (Z (.z a)))else Z (.z a)).bind λb2=>match b2 with
   |.z (.int y)=>(fv (((ρ.set k (Z (.z d))).set j (Z (.z a))).set j (Z (.z (.int y))))).bind λv=>match v with
    |.z x=>if m.length<1000/\(∀q∈m,q.2.length<1000)then J3 k j f1 p f2 fv ρ ds (uo m y x)else U
    |_=>U
   |_=>U
  |_=>U
def DX(i j k:Nat)(fi:Ev->Y (O Dt))(f1:Ev->Y Bx)(p:Ev->Y Bool)(f2 fv:Ev->Y Bx):Ev->Y As:=λρ=>match ρ[i]? with
 |some (Z (.m [] U))=>if j<ρ.length then(fi (((ρ.set i U).set j U).set k U)).bind λds=>(J3 k j f1 p f2 fv (((ρ.set i U).set j U).set k U) ds []).bind λm=>
  Z (.nx ((((ρ.set i U).set j U).set k U).set i (Z (.m (m.map λq=>(Sum.inl q.1,Dt.lst q.2)) U))))else U
 |_=>U
structure Gp (K:B4) (H:Hp) (D:Addr) (gs:List (Int×Addr×List Dt)):Prop where
 d:H D=some (.dK (gs.map λg=>(Sum.inl g.1,V.ref g.2.1)))
 l:∀g∈gs,∃vs,H g.2.1=some (.lst vs)/\aP K H g.2.2 vs
 k:(gs.map (·.1)).Nodup
 a:(gs.map (·.2.1)).Nodup
def DY(D:A1)(gs:O (Int×A1×O Dt)):O A1:=D::gs.map (·.2.1)
def HW(gs:O (Int×A1×O Dt)):O (Int×O Dt):=gs.map λg=>(g.1,g.2.2)
theorem Gp.ld(G:Gp K H D gs):∀a∈DY D gs,LD (H a):=λa b=>by
 rcases List.mem_cons.mp b with rfl|b
 ·exact .inr ⟨_,G.d⟩
 ·obtain⟨g,c,rfl⟩:=ax.mp b;obtain⟨vs,e,_⟩:=G.l g c;exact .inl ⟨vs,e⟩
theorem Gp.kept{H':Hp}(G:Gp K H D gs)(h:∀a∈DY D gs,H' a=H a)(r:∀ds vs,aP K H ds vs->aP K H' ds vs):Gp K H' D gs:=
 ⟨(h D (zh ..)).trans G.d,λg b=>let ⟨vs,e,q⟩:=G.l g b;⟨vs,(h _ (zi _ (ax.mpr ⟨g,b,rfl⟩))).trans e,r _ _ q⟩,G.k,G.a⟩
theorem Gp.same{H':Hp}(G:Gp K H D gs)(s:AV H H'):Gp K H' D gs:=
 ⟨s _ _ G.d,λg b=>let ⟨vs,e,q⟩:=G.l g b;⟨vs,s _ _ e,q.kp (.of s)⟩,G.k,G.a⟩
theorem Gp.val{k:Int}:∀{w:V},qd (gs.map λg=>((Sum.inl g.1:AY),V.ref g.2.1)) (Sum.inl k)=Z w->∃g∈gs,g.1=k/\w=.ref g.2.1:=by
 induction gs with
 |nil=>intro w e;cases e
 |cons g gs b=>
  intro w e;rw[Zl]at e;by_cases hk:g.1=k
  ·rw[sX (by rw[hk])]at e;cases e;exact⟨g,zh ..,hk,rfl⟩
  ·rw[sY (by simpa using hk)]at e;obtain⟨a,h1,h2,c⟩:=b e;exact⟨a,zi _ h1,h2,c⟩
theorem OR{k:Int}:((HW gs).any λq=>decide (q.1=k))=(qd (gs.map λg=>((Sum.inl g.1:AY),V.ref g.2.1)) (Sum.inl k)).isSome:=by
 rw[<-Ck,HW,eH,eH];congr 1;funext g;simp
section
variable{k:Int}{x:Dt}{u:V}
theorem yq{α β:Type}{f:α->β}:∀{xs:O α},(xs.map f).Nodup->∀{a b:α},a∈xs->b∈xs->f a=f b->a=b
 |y::ys,h,a,b,ha,hb,e=>by
  obtain⟨h1,h2⟩:=cc.mp (show(f y::ys.map f).Nodup from h);rcases List.mem_cons.mp ha with q|q<;>rcases List.mem_cons.mp hb with t|t
  ·rw[q,t]
  ·exact absurd (ax.mpr ⟨b,t,by rw[<-e,q]⟩) h1
  ·exact absurd (ax.mpr ⟨a,q,by rw[e,t]⟩) h1
  ·exact yq h2 q t e
def rT(gs:O (Int×A1×O Dt))(k:Int)(x:Dt):O (Int×A1×O Dt):=gs.map λg=>if g.1=k then(g.1,g.2.1,g.2.2++[x])else g
theorem Gp.app(G:Gp K H D gs){g:Int×A1×O Dt}(h:g∈gs)(hk:g.1=k)(i:H g.2.1=Z (.lst vs))(r:aP K H g.2.2 vs)(p:AW K H x u):
  Gp K (B1 H g.2.1 (.lst (vs++[u]))) D (rT gs k x)/\DY D (rT gs k x)=DY D gs/\HW (rT gs k x)=uo (HW gs) k x:=by
 have kp:Kp H (B1 H g.2.1 (.lst (vs++[u]))):=.lst i;have e1:(rT gs k x).map (·.1)=gs.map (·.1):=by unfold rT;rw[qa];exact QE λg _=>by simp only[Function.comp];split<;>rfl
 have e2:(rT gs k x).map (·.2.1)=gs.map (·.2.1):=by unfold rT;rw[qa];exact QE λg _=>by simp only[Function.comp];split<;>rfl
 have e3:((rT gs k x).map λg=>((Sum.inl g.1:AY),V.ref g.2.1))=gs.map λg=>(Sum.inl g.1,V.ref g.2.1):=by unfold rT;rw[qa];exact QE λg _=>by simp only[Function.comp];split<;>rfl
 refine⟨⟨?_,λs j=>?_,by rw[e1];exact G.k,by rw[e2];exact G.a⟩,by unfold DY;rw[e2],?_⟩
 ·rw[e3,aF (ji G.d i (by intro z;cases z))];exact G.d
 ·obtain⟨c,e,rfl⟩:=ax.mp j;by_cases b:c.1=k
  ·have:c=g:=yq G.k e h (by rw[b,hk]);subst this;rw[zt b];exact⟨_,aQ,(r.append (aP.cons p aP.nil)).kp kp⟩
  ·rw[ZA b];obtain⟨m,o,n⟩:=G.l c e;refine⟨m,?_,n.kp kp⟩;rw[aF λz=>b (by rw[yq (f:=λg:Int×A1×O Dt=>g.2.1) G.a e h z];exact hk)];exact o
 ·unfold uo;have:((HW gs).any λq=>decide (q.1=k))=true:=List.any_eq_true.mpr ⟨(g.1,g.2.2),ax.mpr ⟨g,h,rfl⟩,by simpa using hk⟩;rw[zt this];unfold HW rT;rw[qa,qa];exact QE λg _=>by simp only[Function.comp];split<;>rfl
theorem Gp.new(G:Gp K H D gs)(m:qd (gs.map λg=>((Sum.inl g.1:AY),V.ref g.2.1)) (Sum.inl k)=U)(q:H l=Z (.lst []))(j:l∉DY D gs):
  Gp K (B1 H D (.dK (C2 (gs.map λg=>(Sum.inl g.1,V.ref g.2.1)) (Sum.inl k) (.ref l)))) D (gs++[(k,l,[])]):=by
 have kp:Kp H (B1 H D (.dK (C2 (gs.map λg=>(Sum.inl g.1,V.ref g.2.1)) (Sum.inl k) (.ref l)))):=.dk G.d;have i:((gs.map λg=>((Sum.inl g.1:AY),V.ref g.2.1)).any λo=>decide (o.1=Sum.inl k))=false:=by rw[Ck,m];rfl
 have p:l≠D:=λz=>j (by rw[z];exact zh ..);have n:k∉gs.map (·.1):=λz=>by
  obtain⟨g,c,e⟩:=ax.mp z;have:=mf.mp i _ (ax.mpr ⟨g,c,rfl⟩);simp only[QA]at this;exact this (by rw[e])
 refine⟨?_,λg c=>?_,?_,?_⟩
 ·rw[aQ,C2,ZA (by rw[i];exact zI),qo];rfl
 ·rcases aJ.mp c with c|c
  ·obtain⟨vs,e,r⟩:=G.l g c;exact⟨vs,by rw[aF λz=>by rw[z,G.d]at e;cases e];exact e,r.kp kp⟩
  ·cases au.mp c;exact⟨[],by rw[aF p];exact q,aP.nil⟩
 ·rw[qo,yo];exact⟨G.k,by simp,λa f b h=>by cases au.mp h;exact λz=>n (by rw[z]at f;exact f)⟩
 ·rw[qo,yo];exact⟨G.a,by simp,λa f b h=>by cases au.mp h;exact λz=>j (zi _ (by rw[z]at f;exact f))⟩
theorem YF(c:qd (gs.map λg=>((Sum.inl g.1:AY),V.ref g.2.1)) (Sum.inl k)=U):uo (HW gs) k x=HW (rT (gs++[(k,l,[])]) k x):=by
 have a:((HW gs).any λq=>decide (q.1=k))=false:=by rw[OR,c];rfl
 unfold uo;rw[ZA (by rw[a];exact zI)];unfold HW rT;rw[qo,qo];congr 1
 ·rw[qa];refine QE λg b=>?_;have:=mf.mp a (g.1,g.2.2) (ax.mpr ⟨g,b,rfl⟩);simp only[QA]at this;simp only[Function.comp,ZA this]
 ·simp
end
section
variable{e1 ev:Expr}{f2:Ev->Y Bx}{w:AJ}{pw py py2 py3 px p1 p3 p4 pl a1 a2 c1 c2:Pos}
def YG(X:Cx)(i j:Nat)(fv:Ev->Y Bx):TE:=EG X.K "list" Br (EG X.K "dict" Nd (vM i) (nQ (vM j) (nQ (Hc Ar) Ar))) (nQ (tF X.K fv) Ar)
theorem OT{y:Hp}{f:L2.St}{m:Ev}{k:Int}{Q:L2.St->Hp->Prop}(C:bF X.K Hs y f m)(hj:m[j]?=Z (Z (.z (.int k))))(hi:f[i]?=Z (Z (.ref D)))(ev:fv m=Z (.z d))(G:Gp X.K y D gs)(F:∀a∈DY D gs,Hs a=U)(S:DV (DY D gs) f m)(hl:gs.length<1000)(b0:∀g∈gs,g.2.2.length<1000)(q:∀H' I,bF X.K Hs H' f m->Gp X.K H' D I->(∀a∈DY D I,Hs a=U)->DV (DY D I) f m->HW I=uo (HW gs) k d->Q f H'):YG X i j fv f y (λ_ H'=>Q f H'):=by
 obtain⟨vk,b3,rk⟩:=C.val j _ hj;have rk:vk=.int k:=by simpa only[aX,AW]using rk
 subst rk;have sz:(1000:Nat)<AA:=by decide
 refine⟨_,hi,.inr (.inr (.inl ⟨rfl,.inl ⟨_,G.d⟩⟩)),_,b3,QR _,λl B=>?_⟩;have sl:AV y (B1 y l (.lst [])):=bD B;have A:=G.same sl;have p:=C.grow sl;refine⟨D,_,Sum.inl k,.ref l,rfl,rfl,A.d,by rw[zk];omega,λw hw=>?_,λP=>?_⟩
 ·obtain⟨g,s,hk,rfl⟩:=Gp.val hw;obtain⟨vs,a6,W⟩:=A.l g s;refine⟨.inl ⟨rfl,vs,.inl (.inl a6)⟩,Hs,m,_,p,ev,λu H e n7 J=>?_⟩;have L:=A.same e;have n:=e _ _ a6;have M:AW X.K H d u:=J;obtain⟨N,x,eM⟩:=L.app s hk n (W.kp (.of e)) M;refine⟨_,vs,u,rfl,rfl,n,by rw[W.length];have:=b0 g s;omega,q _ _ ?_ N (by rw[x];exact F) (by rw[x];exact S) eM⟩;have t:g.2.1∈DY D gs:=zi _ (ax.mpr ⟨g,s,rfl⟩);exact(p.grow e).move (as:=[g.2.1]) (λj c a e1 e2 e3 z=>S j c a e1 e2 e3 (by rw[au.mp z];exact t)) (.lst n) (λb v=>aF λz=>v (by rw[z];simp)) (λb o eb=>by
   rw[aF λz=>by rw[z,F _ t]at eb;cases eb];exact(p.grow e).base b o eb) p.new
 ·have a4:l∉DY D gs:=λz=>by
   have:=G.ld l z;rcases this with⟨_,q⟩|⟨_,q⟩<;>(rw[B]at q;cases q)
  have L:=A.new P aQ a4;have E:=p.move (as:=[D]) (λj c a e1 e2 e3 z=>S j c a e1 e2 e3 (by rw[au.mp z];exact zh ..)) (.dk A.d) (λb v=>aF (o:=.dK (C2 (gs.map λg=>(Sum.inl g.1,V.ref g.2.1)) (Sum.inl k) (.ref l))) λz=>v (by rw[z];simp)) (λb o eb=>by
   rw[aF λz=>by rw[z,F _ (zh ..)]at eb;cases eb];exact p.base b o eb) p.new
  have a7:l≠D:=λz=>a4 (by rw[z];exact zh ..);refine⟨.inl ⟨rfl,[],.inl (.inl (by rw[aF a7];exact aQ))⟩,Hs,m,_,E,ev,λu H e n7 J=>?_⟩;have N:=L.same e;have M:AW X.K H d u:=J;have s:(k,l,([]:O Dt))∈gs++[(k,l,[])]:=ZI _ (au.mpr rfl);have n:H l=Z (.lst []):=e _ _ (by rw[aF a7];exact aQ);obtain⟨G4,x,eM⟩:=N.app s rfl n aP.nil M;have a3:Hs l=U:=C.base.free B;have YH:∀(j:Nat) c a,m[j]?=Z (Z c)->loose c=true->f[j]?=Z (Z (.ref a))->a≠l:=λj c a e1 e2 e3 z=>Cf C j c a e1 e2 e3 (by rw[z];exact B);have a5:∀{a:A1},a∈DY D (gs++[(k,l,[])])->a∈DY D gs\/a=l:=λ{a} h=>by
   unfold DY at h ⊢;rw[qo]at h;rcases List.mem_cons.mp h with z|z
   ·exact .inl (by rw[z];exact zh ..)
   ·rcases aJ.mp z with z|z
    ·exact .inl (zi _ z)
    ·exact .inr (by simpa using z)
  refine⟨l,[],u,rfl,rfl,n,ZO (Nat.zero_lt_succ _) (Q1 sz),q _ _ ?_ G4 (by rw[x];exact λa t=>(a5 t).elim (F a) λz=>by rw[z];exact a3) (by rw[x];exact λj c a e1 e2 e3 t=>(a5 t).elim (S j c a e1 e2 e3) (YH j c a e1 e2 e3)) (YF (l:=l) P).symm⟩;exact(E.grow e).move (as:=[l]) (λj c a e1 e2 e3 z=>YH j c a e1 e2 e3 (au.mp z)) (.lst n) (λb v=>aF λz=>v (by rw[z];simp)) (λb o eb=>by
   rw[aF λz=>by rw[z,a3]at eb;cases eb];exact(E.grow e).base b o eb) E.new
theorem J4{q:Nat}(h:(ρ.set i U)[q]?=Z (Z b)):q≠i/\ρ[q]?=Z (Z b):=by
 rcases BB h with⟨_,z,_⟩|⟨h1,h2⟩
 ·cases z
 ·exact⟨h1,h2⟩
theorem YJ(i j k:Nat)(hp:PassesOwn (ii X) X.A X.env X.xe)(hc:X.calm=true)(hN:X.N.Nodup)(hi:EA X (.Name w pw) iter fi)(h1:QV X e1 f1)(i3:QB X c p)(h2:QV X e2 f2)(hv:QV X ev fv)
  (e9:i≠j:=by decide) (f4:i≠k:=by decide) (k0:j≠k:=by decide) (xi:X.N[i]?=Z x:=by rfl) (xj:X.N[j]?=Z y:=by rfl) (xk:X.N[k]?=Z w:=by rfl)
  (vi:Z1 X.env.scope x:=by first|exact Kj rfl|exact ki (Kj rfl)|exact ki (ki rfl)) (vj:Z1 X.env.scope y:=by first|exact Kj rfl|exact ki (Kj rfl)|exact ki (ki rfl))
  (lj:D1 X.env.scope y:=by first|exact Kj rfl|exact ki rfl) (lk:D1 X.env.scope w:=by first|exact Kj rfl|exact ki rfl)
  (fj:X.fn y=true\/X.env.scope.names.lookup y=Z .local:=by first|exact .inl rfl|exact .inr rfl) (fk:X.fn w=true\/X.env.scope.names.lookup w=Z .local:=by first|exact .inl rfl|exact .inr rfl)
  (dx:db x:=by decide) (cx:(x==("__classdict__":AJ))=false:=by decide) (dy:db y:=by decide) (cy:(y==("__classdict__":AJ))=false:=by decide)
  (hs:∀z,foldedSetIterable iter X.env z=pure z:=by intro _;rfl) (s1:swapsWith e1 (Z (.Name y py)) p1.line X.env=pure false:=by rfl) (s2:swapsWith e2 (Z (.Name y py2)) p2.line X.env=pure false:=by rfl)
  (e5:A9 [.Name y py3,.List [] pl] X.env=[(false,eval (.Name y py3) X.env),(false,eval (.List [] pl) X.env)]:=by rfl) (f0:A9 [ev] X.env=[(false,eval ev X.env)]:=by rfl)
  (i4:attributeBase (.Name x px) "setdefault" X.env (eval (.Name x px) X.env)=eval (.Name x px) X.env:=by rfl)
  (i1:attributeBase (.Call (.Attribute (.Name x px) "setdefault" a1) [.Name y py3,.List [] pl] [] c1) "append" X.env (eval (.Call (.Attribute (.Name x px) "setdefault" a1) [.Name y py3,.List [] pl] [] c1) X.env)=eval (.Call (.Attribute (.Name x px) "setdefault" a1) [.Name y py3,.List [] pl] [] c1) X.env:=by rfl)
  (j1:((AD c1 (A9 [.Name y py3,.List [] pl] X.env)).all (λx=>!x.1)&&(backToKw c1 (keywordEach [] X.env)).all (λx=>x.1.isSome)&&decide ([Expr.Name y py3,.List [] pl].length+([]:O AC).length+(if([]:O AC).isEmpty then 0 else 1)<30))=true:=by rfl)
  (g0:((AD c2 (A9 [ev] X.env)).all (λx=>!x.1)&&(backToKw c2 (keywordEach [] X.env)).all (λx=>x.1.isSome)&&decide ([ev].length+([]:O AC).length+(if([]:O AC).isEmpty then 0 else 1)<30))=true:=by rfl)
  (i6:(a1.endLine==c1.line)=true:=by rfl) (j2:(a2.endLine==c2.line)=true:=by rfl)
  (s4:swapsWith (.Call (.Attribute (.Call (.Attribute (.Name x px) "setdefault" a1) [.Name y py3,.List [] pl] [] c1) "append" a2) [ev] [] c2) U p4.line X.env=pure false:=by rfl):
  Wb X (.For (.Name w pw) iter [.Assign [.Name y py] e1 p1,.If c [.Assign [.Name y py2] e2 p2] [] p3,.Expr (.Call (.Attribute (.Call (.Attribute (.Name x px) "setdefault" a1) [.Name y py3,.List [] pl] [] c1) "append" a2) [ev] [] c2) p4] [] pos) (DX i j k fi f1 p f2 fv):=by
 have i9:PE X (.Call (.Attribute (.Call (.Attribute (.Name x px) "setdefault" a1) [.Name y py3,.List [] pl] [] c1) "append" a2) [ev] [] c2) (YG X i j fv):=
  Cj kL KM KL nJ
   (Cj PySem.F.plainAttrs_dict PySem.F.slot_dict_setdefault PySem.F.type_dict_setdefault fT (jE (i:=i) xi vi dx cx) (aY (jE (i:=j) xj vj dy cy) (aY (Ci cX) cX rfl) (by rw[e5]<;>rfl)) i4 j1 i6 (by rw[e5]<;>rfl) rfl)
   (aY hv.run cX (by rw[f0]<;>rfl)) i1 g0 j2 (by rw[f0]<;>rfl) rfl
 refine⟨W6 (Wp (Py hp hc hi.run (L2.uM hN xk lk fk) (dI (pQ (pos:=p1) (pos':=py) hN xj lj h1.run s1 fj) (dI (GD (pos:=p3) i3.run (uL (pQ (pos:=p2) (pos':=py2) hN xj lj h2.run s2 fj)) mL) (uL (Bo i9 s4)))) hs)) λDe σ H h=>?_⟩;obtain⟨H0,ρ,r,E,e,q⟩:=h;unfold DX at e;split at e
 ·rename_i a6;split at e;rotate_left
  ·cases e
  rename_i k3;obtain⟨ds,ed,e⟩:=AT e;obtain⟨m,em,e⟩:=AT e;cases e;obtain⟨v,W,D,ks,rfl,hD,rm,_⟩:=E.val i _ a6;have f5:ks=[]:=cb.mp (by rw[rm.len];rfl);subst f5;have k5:i<ρ.length:=(ay.mp a6).1;have fr:∀(q:Nat) b,(((ρ.set i U).set j U).set k U)[q]?=Z (Z b)->q≠i/\q≠j/\q≠k/\ρ[q]?=Z (Z b):=λq b e=>by
   obtain⟨s,e⟩:=J4 e;obtain⟨B,e⟩:=J4 e;obtain⟨n3,e⟩:=J4 e;exact⟨n3,B,s,e⟩
  have i0:(((ρ.set i U).set j U).set k U).length=ρ.length:=by simp
  generalize ((ρ.set i U).set j U).set k U=ρ0 at *
  have E0:bF X.K H0 H σ ρ0:=E.forget i0.symm λq b e=>(fr q b e).2.2.2;refine⟨H0,ρ0,ds,E0,ed,λJ H1 e4 y=>?_⟩;have E1:=E0.grow e4;have b3:=e4 _ _ hD;have c5:∀(q:Nat) c a,ρ0[q]?=Z (Z c)->loose c=true->σ[q]?=Z (Z (.ref a))->a≠D:=λq c a e1 e2 e3 z=>by
   subst z;obtain⟨s,_,_,e⟩:=fr q c e1;exact s (E.own i q _ a c a6 rfl W e e2 e3).symm
  have Y:B6 X.K J ds (zV (gC H1 σ ρ0) D):=by
   refine y _ (Cy.trans mO) (λa C=>?_) (λa o u C=>?_) λa vs C=>?_
   ·rw[tu λz=>by rw[z,hD]at C;cases C];unfold gC;rw[ZA];rintro⟨q,c,e1,ec,e2⟩;obtain⟨v,e3,rc⟩:=E0.val q _ e1;exact Cf E0 q c a e1 (by cases c<;>first|rfl|cases ec) e2 C
   ·rw[tu λz=>by rw[z,b3]at C;cases C];exact mQ E1 (λvs z=>by rw[C]at z;cases z) λvs z=>by rw[C]at z;cases z
   ·rw[tu λz=>by rw[z,b3]at C;cases C];exact mQ E1 (λvs z=>by rw[C]at z;cases z) λvs z=>by rw[C]at z;cases z
  have sub:AV H0 (zV (gC H1 σ ρ0) D):=λb o eb=>by
   rw[tu λz=>by rw[z,E.new i _ D a6 rfl W]at eb;cases eb];exact E1.sub b o eb
  have ES:bF X.K (zV (gC H1 σ ρ0) D) H1 σ ρ0:=by
   have:=E1.sans;exact⟨this.len,this.val,this.own,Cy.trans mO,λq c a e1 ec e2=>by
    unfold zV;split
    ·rfl
    ·exact this.new q c a e1 ec e2⟩
  generalize e7:zV (gC H1 σ ρ0) D=Hs at Y sub ES;have j3:Hs D=U:=by rw[<-e7];exact zt rfl
  clear e7;refine⟨λn m' σ' H'=>m'=ds.length-n/\n<=ds.length/\(∀q,q≠j->q≠k->σ'[q]?=σ[q]?)/\∃gs,bF X.K Hs H' σ' ρ0/\Gp X.K H' D gs/\(∀a∈DY D gs,Hs a=U)/\DV (DY D gs) σ ρ0/\J3 k j f1 p f2 fv ρ0 (ds.drop n) (HW gs)=Z m,⟨ds.length,by simp,QR _,λ_ _ _=>rfl,[],ES,⟨b3,λg L=>(by cases L),yf,yf⟩,λa C=>by rw[au.mp C];exact j3,λq c a e1 e2 e3 z=>c5 q c a e1 e2 e3 (au.mp z),em⟩,?_⟩;rintro n m' σ' H' ⟨rfl,hn,b6,gs,E',G,d3,S,f⟩;obtain⟨y1,y2⟩:=Y n H' E'.base;by_cases b4:n<ds.length
  ·right;have hd:ds[n]?=Z ds[n]:=by simp[b4]
   obtain⟨go,yl⟩:=y1 _ hd;rw[YV b4]at f;simp only[J3]at f;obtain⟨b1,h9,f⟩:=AT f;refine⟨go,λd0 H2=>(∀q,q≠j->q≠k->d0[q]?=σ[q]?)/\∃gs,bF X.K Hs H2 d0 ρ0/\Gp X.K H2 D gs/\(∀a∈DY D gs,Hs a=U)/\DV (DY D gs) σ ρ0/\J3 k j f1 p f2 fv ρ0 (ds.drop (n+1)) (HW gs)=Z m,λd0 H2 ⟨z1,z2⟩=>⟨ds.length-(n+1),by omega,rfl,b4,z1,z2⟩,λxv H2 yy=>?_⟩;obtain⟨d4,rx⟩:=yl xv H2 yy;have Ek:bF X.K Hs H2 (σ'.set k (Z xv)) (ρ0.set k (Z (.z ds[n]))):=(E'.grow d4).set (b:=.z ds[n]) (AV.refl H2) rx (.inr rfl) trivial;cases b1 with
   |z d1=>
    obtain⟨t,et,f⟩:=AT f;obtain⟨b2,b0,f⟩:=AT f;refine⟨Hs,_,_,Ek,h9,λv1 H3 s3 n3 r3=>?_⟩;have E3:bF X.K Hs H3 ((σ'.set k (Z xv)).set j (Z v1)) ((ρ0.set k (Z (.z ds[n]))).set j (Z (.z d1))):=Ek.set (b:=.z d1) s3 r3 (.inr rfl) trivial;have G3:=(G.same d4).same s3;split at f
    ·rename_i yk;obtain⟨v,h7,f⟩:=AT f;split at f
     ·rename_i xd;split at f
      ·rename_i f3;have e6:∀I P,bF X.K Hs P I (((ρ0.set k (Z (.z ds[n]))).set j (Z (.z d1))).set j (Z (.z (.int yk))))->AV H3 P->(∀q,q≠j->q≠k->I[q]?=σ'[q]?)->YG X i j fv I P (λ_ H'=>(∀q,q≠j->q≠k->I[q]?=σ[q]?)/\∃gs,bF X.K Hs H' I ρ0/\Gp X.K H' D gs/\(∀a∈DY D gs,Hs a=U)/\DV (DY D gs) σ ρ0/\J3 k j f1 p f2 fv ρ0 (ds.drop (n+1)) (HW gs)=Z m):=λI P E5 s5 a5=>by
        have ag:∀q,q≠j->q≠k->I[q]?=σ[q]?:=λq s B=>(a5 q s B).trans (b6 q s B);have up:∀(q:Nat) b,ρ0[q]?=Z (Z b)->(((ρ0.set k (Z (.z ds[n]))).set j (Z (.z d1))).set j (Z (.z (.int yk))))[q]?=Z (Z b):=λq b e=>by
         obtain⟨_,s,B,_⟩:=fr q b e;rw[qg _ s,qg _ s,qg _ B];exact e
        have dn:∀(q:Nat) b,loose b=true->(((ρ0.set k (Z (.z ds[n]))).set j (Z (.z d1))).set j (Z (.z (.int yk))))[q]?=Z (Z b)->ρ0[q]?=Z (Z b):=λq b hl e=>by
         rcases BB e with⟨_,z,_⟩|⟨_,e⟩
         ·cases z;cases hl
         ·rcases BB e with⟨_,z,_⟩|⟨_,e⟩
          ·cases z;cases hl
          ·rcases BB e with⟨_,z,_⟩|⟨_,e⟩
           ·cases z;cases hl
           ·exact e
        refine OT (Q:=λI H'=>(∀q,q≠j->q≠k->I[q]?=σ[q]?)/\∃gs,bF X.K Hs H' I ρ0/\Gp X.K H' D gs/\(∀a∈DY D gs,Hs a=U)/\DV (DY D gs) σ ρ0/\J3 k j f1 p f2 fv ρ0 (ds.drop (n+1)) (HW gs)=Z m) E5 (Cr _ (by simp;omega)) ((ag i e9 f4).trans W) h7 (G3.same s5) d3 (λq c a e1 e2 e3=>?_) (by have:=f3.1;simpa[HW]using this) (λg L=>f3.2 _ (ax.mpr ⟨g,L,rfl⟩)) λH6 M E6 G6 h6 S6 eM=>⟨ag,M,E6.forget (by simp) up,G6,h6,λq c a e1 e2 e3=>?_,by rw[eM];exact f⟩
        ·have e0:=dn q c e2 e1;obtain⟨_,s,B,_⟩:=fr q c e0;exact S q c a e0 e2 (by rw[<-ag q s B];exact e3)
        ·obtain⟨_,s,B,_⟩:=fr q c e1;exact S6 q c a (up q c e1) e2 (by rw[ag q s B];exact e3)
       have a3:∀q,q≠j->q≠k->((σ'.set k (Z xv)).set j (Z v1))[q]?=σ'[q]?:=λq s B=>by rw[qg _ s,qg _ B]
       refine⟨Hs,_,t,E3,et,λH4 a4=>?_⟩;cases t with
       |true=>
        rw[zt rfl]at b0 ⊢;refine⟨Hs,_,_,E3.grow a4,b0,λv2 P s5 n5 r5=>?_⟩;exact e6 _ _ ((E3.grow a4).set (b:=.z (.int yk)) s5 r5 (.inr rfl) trivial) (a4.trans s5) λq s B=>by rw[qg _ s];exact a3 q s B
       |false=>
        rw[ZA zI]at b0 ⊢;cases b0;exact e6 _ _ (by rw[List.set_set];exact E3.grow a4) a4 a3
      ·cases f
     ·cases f
    ·cases f
   |l _=>cases f
   |o _=>cases f
   |n _=>cases f
   |m _ _=>cases f
  ·left;have d9:ds.length<=n:=by omega
   rw[eg d9]at f;cases f;refine⟨y2 d9,gs.map (·.2.1),G.a,λa C=>?_,λH2 kp o1 o2=>?_⟩
   ·obtain⟨g,L,rfl⟩:=ax.mp C;obtain⟨vs,e,_⟩:=G.l g L;exact⟨vs,e⟩
   ·have b5:∀(q:Nat) c,ρ0[q]?=Z (Z c)->σ'[q]?=σ[q]?:=λq c e=>let ⟨_,s,B,_⟩:=fr q c e;b6 q s B;have i5:D∉gs.map (·.2.1):=λz=>by
     obtain⟨g,L,e⟩:=ax.mp z;obtain⟨vs,e2,_⟩:=G.l g L;rw[e,G.d]at e2;cases e2
    have E2:bF X.K H0 H2 σ' ρ0:=E'.move (as:=gs.map (·.2.1)) (λq c a e1 e2 e3 z=>S q c a e1 e2 (by rw[<-b5 q c e1];exact e3) (zi _ z)) kp o1 (λb o eb=>by
     have d2:=sub b o eb;rw[o1 b λz=>by rw[d3 b (zi _ z)]at d2;cases d2];exact E'.base b o d2) λq c a e1 ec e2=>sub.free (E'.new q c a e1 ec e2)
    have a7:σ'[i]?=Z (Z (.ref D)):=(b6 i e9 f4).trans W;have rD:aX X.K H2 (.m ((HW gs).map λq=>(Sum.inl q.1,Dt.lst q.2)) U) (.ref D):=by
     refine⟨D,_,rfl,(o1 D i5).trans G.d,⟨?_,?_,?_⟩,λb h=>by cases h⟩
     ·unfold HW;rw[qa,qa,qa];rfl
     ·have:∀M:O (Int×A1×O Dt),(∀g∈M,g∈gs)->aP X.K H2 (((HW M).map λq=>((Sum.inl q.1:AY),Dt.lst q.2)).map (·.2)) ((M.map λg=>((Sum.inl g.1:AY),V.ref g.2.1)).map (·.2)):=by
       intro M
       induction M with
       |nil=>intro _;exact aP.nil
       |cons g M ih=>
        intro h;refine aP.cons ?_ (ih λg L=>h g (zi _ L));obtain⟨vs,e1,r1⟩:=G.l g (h g (zh ..));obtain⟨o,k2,e2,e3⟩:=o2 g.2.1 (ax.mpr ⟨g,h g (zh ..),rfl⟩);rw[e1]at e2;cases e2;simp only[AW];exact⟨g.2.1,vs,rfl,.inl ⟨o,e3⟩,r1.kp kp⟩
      exact this gs λ_ h=>h
     ·intro pr h8;obtain⟨g,_,rfl⟩:=ax.mp h8;trivial
    refine q σ' H2 ⟨by rw[qi];exact E2.len,λq b e=>?_,λq1 q2 c a b g1 g2 g3 g4 g5 g6=>?_,E2.base,λq c a g1 g2 g3=>?_⟩
    ·rcases BB e with⟨rfl,z,_⟩|⟨s,e⟩
     ·cases z;exact⟨_,a7,rD⟩
     ·exact E2.val q b e
    ·rcases BB g1 with⟨rfl,z,_⟩|⟨s,k1⟩
     ·cases z;rw[a7]at g3;cases g3;rcases BB g4 with⟨rfl,_,_⟩|⟨B,k4⟩
      ·rfl
      ·exact absurd rfl (c5 q2 b _ k4 g5 (by rw[<-b5 q2 b k4];exact g6))
     ·rcases BB g4 with⟨rfl,z,_⟩|⟨B,k4⟩
      ·cases z;rw[a7]at g6;cases g6;exact absurd rfl (c5 q1 c _ k1 (by cases c<;>first|rfl|cases g2) (by rw[<-b5 q1 c k1];exact g3))
      ·exact E2.own q1 q2 c a b k1 g2 g3 k4 g5 g6
    ·rcases BB g1 with⟨rfl,z,_⟩|⟨s,g1⟩
     ·rw[a7]at g3;cases g3;exact E.new _ _ _ a6 rfl W
     ·exact E2.new q c a g1 g2 g3
 ·cases e
end
end P1
namespace P1
open L2 S6
section
variable{kx vx t1 i1 t2 i2:Expr}{f1 f2:O Expr}{xs:AZ}{g1 g2:Dt->Ev->Y Ev}{p1 p2:Ev->Y Bool}{fi1 fi2:Ev->Y (O Dt)}
end
end P1
namespace P1
open L2
section
variable{e:α->Dt}{e0:β->Dt}{fd f2:Ev->Y Bx}{kk:Ev->Y As}{cO:γ->As}
abbrev mI(e:α->Dt):O (Int×α)->Bx:=λm=>.m (m.map λq=>(kI q.1,e q.2)) U
abbrev nI(e:α->Dt):O (Int×α)->Bx:=λm=>.n (m.map λq=>(kI q.1,e q.2))
def am(e:α->Dt):R (λ_=>Z (.m [] U)) ρ (mI e):=⟨[],U,λ_=>S⟩
def iN[Inhabited α](a:R fa ρ (nI e))(b:R fb ρ (zE eI)):R (b2 Hl fa fb) ρ (zE e):=⟨look a.v b.v,bw (bw a.D b.D) (Z (has a.v b.v=true)),λh=>by
 obtain⟨h,d⟩:=aD h;obtain⟨h1,h2⟩:=aD h;simp only[b2,a.ok h1,b.ok h2,Au,Hl,F7,YB (c:=kI) (show has a.v b.v=true from d)]⟩
def ON(a:R fd ρ (nI e)):R (SJ fd) ρ (iE eI):=⟨a.v.map (·.1),a.D,λh=>by
 simp only[SJ,a.ok h,Au,D4,qa];rfl⟩
def Nx(k:β->Int)(v:β->α)(xs:O β):O (Int×O α):=xs.foldl (λm x=>uo m (k x) (v x)) []
theorem YK(m:O (Int×O α))(k:Int)(x:α):uo (m.map λq=>(q.1,q.2.map e)) k (e x)=(uo m k x).map λq=>(q.1,q.2.map e):=by
 unfold uo;rw[eH];simp only[Function.comp_def];by_cases h:(m.any λq=>decide (q.1=k))=true
 ·rw[zt h,zt h,qa,qa];refine QE λq _=>?_;simp only[Function.comp];split<;>simp
 ·rw[ZA h,ZA h];simp
theorem YL(m:O (Int×O α))(k:Int)(x:α)(n:Nat)(h:m.length<=n/\∀q∈m,q.2.length<=n):(uo m k x).length<=n+1/\∀q∈uo m k x,q.2.length<=n+1:=by
 unfold uo;split
 ·refine⟨by rw[zk];omega,λq a=>?_⟩;obtain⟨b,h',rfl⟩:=ax.mp a;have:=h.2 b h';split
  ·simp;omega
  ·omega
 ·refine⟨by simp;omega,λq a=>?_⟩;rcases aJ.mp a with a|a
  ·have:=h.2 q a;omega
  ·cases au.mp a;simp
theorem YM{k j:Nat}{K:β->Int}{V:β->α}:∀(xs:O β) (m:O (Int×O α)) (n:Nat),(∀x∈xs,∃y1 t,f1 (ρ.set k (Z (.z (e0 x))))=Z (.z (.int y1))/\p ((ρ.set k (Z (.z (e0 x)))).set j (Z (.z (.int y1))))=Z t/\(if t=true then f2 ((ρ.set k (Z (.z (e0 x)))).set j (Z (.z (.int y1))))else Z (.z (.int y1)))=Z (.z (.int (K x)))/\fv (((ρ.set k (Z (.z (e0 x)))).set j (Z (.z (.int y1)))).set j (Z (.z (.int (K x)))))=Z (.z (e (V x)))) →
  (m.length<=n/\∀q∈m,q.2.length<=n)->n+xs.length<1000->J3 k j f1 p f2 fv ρ (xs.map e0) (m.map λq=>(q.1,q.2.map e))=Z ((xs.foldl (λm x=>uo m (K x) (V x)) m).map λq=>(q.1,q.2.map e))
 |[],m,n,_,_,_=>rfl
 |x::xs,m,n,h,hm,hl=>by
  obtain⟨y1,t,h1,h2,a,d⟩:=h x (zh ..);rw[Zl,KP];simp only[J3,h1,Au,h2,a,d];simp only[Qr]at hl;rw[zt ⟨by rw[zk];have:=hm.1;omega,λq f=>by
   obtain⟨b,h',rfl⟩:=ax.mp f;have:=hm.2 b h';simp only[zk];omega⟩,YK]
  exact YM xs _ (n+1) (λy c=>h y (zi _ c)) (YL m _ _ n hm) ()
def f7(i j k:Nat)(m0:O (Int×O α))(hi:ρ[i]?=Z (Z (mI (eL e) m0)))(t:j<ρ.length){ρ0:Ev}(w:((ρ.set i U).set j U).set k U=ρ0)(it:R fi ρ0 (iE e0))(a:∀x,R f1 (ρ0.set k (Z (.z (e0 x)))) (zE eI))(c:∀x (y:Int),R p ((ρ0.set k (Z (.z (e0 x)))).set j (Z (.z (.int y)))) tE)(b:∀x (y:Int),R f2 ((ρ0.set k (Z (.z (e0 x)))).set j (Z (.z (.int y)))) (zE eI))
  (v:∀x (y1 y:Int),R fv (((ρ0.set k (Z (.z (e0 x)))).set j (Z (.z (.int y1)))).set j (Z (.z (.int y)))) (zE e)) (K:∀m:O (Int×O α),R kk (ρ0.set i (Z (mI (eL e) m))) cO):R (aO (DX i j k fi f1 p f2 fv) kk) ρ cO:=
 let d:=λx=>if(c x (a x).v).v=true then(b x (a x).v).v else(a x).v
 ⟨(K (Nx d (λx=>(v x (a x).v (d x)).v) it.v)).v,bw (bw (bw (bw (Z (m0=[])) it.D) (Z (it.v.length<1000))) (HZ it.v λx=>bw (a x).D (bw (c x (a x).v).D (bw (zc ((c x (a x).v).v=true) (b x (a x).v).D) (v x (a x).v (d x)).D)))) (K (Nx d (λx=>(v x (a x).v (d x)).v) it.v)).D,λs=>by
 obtain⟨h,A⟩:=aD s;obtain⟨h,l⟩:=aD h;obtain⟨h',h2⟩:=aD h;obtain⟨n,h1⟩:=aD h';have n:m0=[]:=n;rw[n]at hi;have h2:it.v.length<1000:=h2;have l:∀x∈it.v,B9 (bw (a x).D (bw (c x (a x).v).D (bw (zc ((c x (a x).v).v=true) (b x (a x).v).D) (v x (a x).v (d x)).D))):=l;rw[pY (ρ':=ρ0.set i (Z (mI (eL e) (Nx d (λx=>(v x (a x).v (d x)).v) it.v)))) (by
  unfold DX;rw[show ρ[i]?=Z (Z (Bx.m [] U)) from hi];simp only[zt t,w,it.ok h1,Au];have:=YM (ρ:=ρ0) (k:=k) (j:=j) (f1:=f1) (p:=p) (f2:=f2) (fv:=fv) (e:=e) (e0:=e0) (K:=d) (V:=λx=>(v x (a x).v (d x)).v) it.v [] 0 (λx hx=>by
   obtain⟨o,d2⟩:=aD (l x hx);obtain⟨d2,g⟩:=aD d2;obtain⟨g,u⟩:=aD g;refine⟨(a x).v,(c x (a x).v).v,(a x).ok o,(c x (a x).v).ok d2,?_,(v x (a x).v (d x)).ok u⟩;by_cases f:(c x (a x).v).v=true
   ·rw[zt f,(b x (a x).v).ok (jq g f)];simp only[d,zt f]
   ·rw[ZA f];simp only[d,ZA f]) ⟨zl _,λq B=>by cases B⟩ (by simpa using h2)
  rw[kP]at this;rw[show(iE e0) it.v=it.v.map e0 from rfl,this,Au];congr 5;rw[qa];rfl)]
 exact(K _).ok A⟩
end
section
variable{e:α->Dt}{fs:Ev->Y (O Dt)}
end
section
variable{a:Expr}
end
theorem dh{bs:O Bx}{c:α->Bx}{v:α}{D:Y Prop}(x:RP g (bs.map Z++aw (n-bs.length) U) (λr=>As.rt (c r)) v D)(h:B9 D):fL n g bs=Z (c v):=UA x.r h
section
variable{e:α->Dt}
end
open PySem.Builtin PySem.Builtin.Str
section
variable{o:Expr}{fx:Ev->Y Bx}
end
section
variable{g:Ev->Y AJ}
end
section
variable{e1 e3:Expr}{gr:Ev->Y As}{fx:Ev->Y Dt}{tR tQ:TS}{xr xj y1 y2:AJ}{AS no:O AB}{kk:Nat}{p0 p00 p01 p02 q1 q2 pt pj pa px pb pif pf2 px3 a1 c1 pe1 pr a2 pj2 c2 pe2:Pos}
end
section
variable{e:α->Dt}{ea:β->Dt}{eb:δ->Dt}{kk:Ev->Y As}{cO:γ->As}
end
end P1
namespace P1
open L2 S1
section
variable{f:A1}{p:Pos}
end
end P1
namespace P1
open L2 S1 S6
theorem HC{p:O α->Prop}(h:p []):∀us:O α,us.length=0->p us
 |[],_=>h
section
variable{e:α->Dt}{g:Ev->Y Bx}{c:α->Bx}
end
def EO(d:Dt):R (cB d) ρ (zE eD):=vR d eD d rfl
def B8(i:Int):R (cB (.int i)) ρ (zE eI):=vR (.int i) eI i rfl
def zx(s:AJ):R (cB (.str s)) ρ (zE eS):=vR (.str s) eS s rfl
abbrev Nn(K:B4)(n:AJ)(f:A1):Prop:=nsIn K mainGlobals n=Z (Z (.ref f))
abbrev Lk(K:B4)(f:A1)(n:AJ)(st:AB)(a:A0)(od:Y A1)(sl:Array (Y A0))(kV b pm:A0)(c:Y A1)(cd ct:A0):Prop:=K.lookup f=Z ⟨a,od,.func (fnOf n n (qF st) (gY st) (aM st) .none kV b pm c cd ct),sl⟩
end P1
namespace P1
open L2
section
variable{e:α->Dt}
def J5(x:Dt)(ys:O Dt):Bool:=ys.any λy=>Vm (uQ y x)
def Vq(x:Dt)(ys:O Dt):Prop:=∀y∈ys,(uQ y x).isSome=true/\min (uP y) (uP x)<=60
theorem ZB{x:Dt}{ys:O Dt}(h:Vq x ys):JQ x ys=Z (J5 x ys):=by
 unfold JQ;rw[zt]
 ·rfl
 ·rw[QI];intro y a;rw[(h y a).1,kb];exact qS (h y a).2
def bi(a:R fa ρ (zE eD))(b:RL fb ρ e):R (b2 JR fa fb) ρ (zE eB):=⟨!J5 a.v (b.v.map e),bw (bw a.D b.D) (Z (Vq a.v (b.v.map e))),λh=>by
 obtain⟨h,c⟩:=aD h;obtain⟨h1,h2⟩:=aD h;simp only[b2,a.ok h1,b.ok h2,Au,JR,BW b.lk,eD];show(JQ a.v (b.v.map e)).bind _=_;rw[ZB c];rfl⟩
end
def Is(h:A6)(e:A1)(C:A0)(dx:Y A1):Prop:=∃vs sl,h.get? e=Z ⟨C,dx,.fields vs,sl⟩/\vs[1]?=Z .none/\vs[2]?=Z .none
def QS(h:A6)(e:A1)(C:A0)(dx:Y A1)(fl:A0)(T:A1):Prop:=
 ∃vs sl a ts,h.get? e=Z ⟨C,dx,.fields vs,sl⟩/\vs[1]?=Z (.ref T)/\T≠e/\h.get? T=Z a/\a.data=.fields ts/\ts[3]?=Z fl/\vs[2]?=Z .none
structure J6 (S ch:List Addr) (h h':Heap):Prop where
 keep:∀b o,h.get? b=some o->b∉ch->b∉S->h'.get? b=some o
 slot:∀b o,h.get? b=some o->b∉ch->∃sl,h'.get? b=some { o with slots:=sl }
theorem J6.trans{S c1 c2:O A1}{h h1 h2:A6}(a:J6 S c1 h h1)(b:J6 S c2 h1 h2):J6 S (c1++c2) h h2:=by
 refine⟨λx o e n m=>b.keep x o (a.keep x o e (λz=>n (kz _ z)) m) (λz=>n (ZI _ z)) m,λx o e n=>?_⟩;obtain⟨d,e1⟩:=a.slot x o e (λz=>n (kz _ z));obtain⟨c,e2⟩:=b.slot x _ e1 (λz=>n (ZI _ z));exact⟨c,e2⟩
theorem J6.mono{S S' c1 c2:O A1}{h1:A6}(a:J6 S c1 h h1)(c:∀b∈c1,b∈c2)(hs:∀b∈S,b∈S'):J6 S' c2 h h1:=
 ⟨λx o e n m=>a.keep x o e (λz=>n (c _ z)) (λz=>m (hs _ z)),λx o e n=>a.slot x o e (λz=>n (c _ z))⟩
theorem J6.vL{S ch:O A1}{h1:A6}{l:O Env}(a:J6 S ch h h1)(f:∀b∈ch,∀o,h.get? b=Z o->∃vs,o.data=.fields vs)(g:h.FunFrames base l):h1.FunFrames base l:=
 g.of_keeps λb o e c=>by
  obtain⟨sl,q⟩:=a.slot b o e λz=>by
   obtain⟨vs,d⟩:=f b z o e;exact c vs d
  exact⟨_,q,rfl⟩
section
variable{L e T:A1}{C fl:A0}{Q:Unit->A2->Prop}
theorem HX{d:A0}{B:Bool}{vs:Array A0}{sl:Array (Y A0)}(v:A.frames=Z (env::outer))(i:s.heap.FunFrames base (env::outer))(p:env.frame=Z L)
  (he:s.heap.get? e=Z ⟨C,dx,.fields vs,sl⟩) (hsz:1<vs.size) (h2:vs[2]?=Z .none)
  (h:∀h' T,s.heap.objs.size<=T->J6 (C1 (env::outer)) [e] s.heap h'->QS h' e C dx (rawInt L) T->Q io { s with heap:=h' }):
  A7 M A (do let a <-frameOf env;let pl <-entryPlaceOf L B;let b <-EntryCells.newEntry d a .none (rawInt L) .none pl;setField (.ref e) 1 b) Q Ex s:=by
 have F:e∉C1 (env::outer):=λD=>by
  obtain⟨_,o,g,y⟩:=i.mem D;rw[he]at g;cases g;exact y vs rfl
 refine zb (wpAny_frameOf_fun v i p λh1 c=>?_);refine zb (wpAny_entryPlaceOf λpl k=>?_);unfold EntryCells.newEntry newFields;refine zb (ZT ?_ (k.sizeOk5 _ _ _ _ _));have j:h1.get? e=Z ⟨C,dx,.fields vs,sl⟩:=(c.2.1 e F).trans he;have l:=zd (h:=h1) { cls:=.type "traceback",dict:=U,data:=.fields ([d,.ref L,.none,rawInt L,.none]++(if pl.isEmpty then aw 6 Value.none else pl)).toArray } j;refine ye l S hsz (h _ h1.objs.size (by rw[c.1];exact zl _) ?_ ?_)
 ·have kp:∀b o,b≠e->h1.get? b=Z o->_:=λb o t G=>(qV _ (Obj.mapFields (·.setIfInBounds 1 (Value.ref h1.objs.size))) (Q2 t)).trans (zd
   { cls:=.type "traceback",dict:=U,data:=.fields ([d,.ref L,.none,rawInt L,.none]++(if pl.isEmpty then aw 6 Value.none else pl)).toArray } G)
  refine⟨λb o q n m=>kp b o (λz=>n (by simp[z])) ((c.2.1 b m).trans q),λb o q n=>?_⟩;obtain⟨u,w⟩:=c.2.2 b o q;exact⟨u,kp b _ (λz=>n (by simp[z])) w⟩
 ·have f:h1.objs.size≠e:=kl (zw j);have x:=qB (Obj.mapFields (·.setIfInBounds 1 (Value.ref h1.objs.size))) l (k8 (js S _));have E:=(qV (h1.push { cls:=.type "traceback",dict:=U,data:=.fields ([d,.ref L,.none,rawInt L,.none]++(if pl.isEmpty then aw 6 Value.none else pl)).toArray })
   (Obj.mapFields (·.setIfInBounds 1 (Value.ref h1.objs.size))) (Q2 f)).trans (zr h1 S)
  refine⟨_,_,_,_,x,by simp[hsz],f,E,rfl,?_,?_⟩
  ·first|(simp;done)|(rcases k with rfl|⟨_,_,_,_,_,_,_,rfl⟩<;>simp)
  ·rw[Array.getElem?_setIfInBounds_ne ()];exact h2
theorem YQ(c:A.frames=Z (env::outer))(d:s.heap.FunFrames base (env::outer))(a:env.frame=Z L)(hx:Is s.heap e C dx)
  (h:∀h' T,s.heap.objs.size<=T->J6 (C1 (env::outer)) [e] s.heap h'->QS h' e C dx (rawInt L) T->Q io { s with heap:=h' }):A7 M A (noteFrame (.ref e) env) Q Ex s:=by
 obtain⟨vs,sl,b,h1,h2⟩:=hx;unfold noteFrame;simp only[a];refine zb (qh b S h1 ?_);rw[ZA ()];exact HX c d a b (dc.mp h1).1 h2 h
theorem Vr(a:env.frame=Z L)(hx:QS s.heap e C dx (rawInt L) T)(h:Q io s):A7 M A (noteFrame (.ref e) env) Q Ex s:=by
 obtain⟨vs,sl,g,ts,f,h1,i,d,c,b,h2⟩:=hx;unfold noteFrame;simp only[a];refine zb (qh f S h1 ?_);rw[zt (show(Value.ref T !=Value.none)=true from by simp)];refine zb (qh d c b ?_);rw[zt (show(rawInt L==rawInt L)=true from by simp)];exact ze h
theorem S7{fl':A0}(hx:QS s.heap e C dx fl T):∀h',h'=s.heap.update T (Obj.mapFields (·.setIfInBounds 3 fl'))->J6 [] [T] s.heap h'/\QS h' e C dx fl' T:=by
 obtain⟨vs,sl,l,ts,k,h1,d,j,c,f,h2⟩:=hx;have i:3<ts.size:=(dc.mp f).1;intro h' h;subst h;have a:∀b,b≠T->(s.heap.update T (Obj.mapFields (·.setIfInBounds 3 fl'))).get? b=s.heap.get? b:=λb g=>qV _ _ (Q2 g);refine⟨⟨λb o q n _=>(a b λz=>n (by simp[z])).trans q,λb o q n=>⟨o.slots,(a b λz=>n (by simp[z])).trans q⟩⟩,vs,sl,_,_,(a e (Q2 d)).trans k,h1,d,
  qB _ j (k8 (js c _)),js c _,by simp[i],h2⟩
theorem qQ(fr:Y A1)(hx:QS s.heap e C dx fl T)(h:∀h',J6 [] [T] s.heap h'->QS h' e C dx (fr.elim .none λf=>rawInt f) T->Q io { s with heap:=h' }):A7 M A (setFlight (.ref e) fr) Q Ex s:=by
 obtain⟨x1,d⟩:=S7 (fl':=fr.elim .none λf=>rawInt f) hx _ rfl;obtain⟨vs,sl,i,ts,g,h1,j,c,b,a,h2⟩:=hx;unfold setFlight;refine zb (qh g S h1 ?_);rw[zt (show(Value.ref T !=Value.none)=true from by simp)];exact ye c b (dc.mp a).1 (h _ x1 d)
theorem S8(k:A.frames=Z (env::outer))(m:s.heap.FunFrames base (env::outer))(g:env.frame=Z L)(hx:QS s.heap e C dx .none T)
  (h:∀h' a,s.heap.objs.size<=a->J6 (C1 (env::outer)) [T,e] s.heap h'->QS h' e C dx (rawInt L) a->Q io { s with heap:=h' }):A7 M A (noteFrame (.ref e) env) Q Ex s:=by
 obtain⟨x1,t⟩:=S7 (fl':=.none) hx _ rfl;obtain⟨vs,sl,p,ts,j,h1,l,f,d,i,h2⟩:=hx;unfold noteFrame;simp only[g];refine zb (qh j S h1 ?_);rw[zt (show(Value.ref T !=Value.none)=true from by simp)];refine zb (qh f d i ?_);rw[ZA (show ¬ ((Value.none==rawInt L)=true) from by simp[rawInt])];refine zb (ye f d (dc.mp i).1 ?_);have n:J6 (C1 (env::outer)) [T] _ _:=x1.mono (λ_ z=>z) (λ_ z=>nomatch z);refine HX (base:=base) k (x1.vL (λb z o q=>by
  obtain rfl:b=T:=by simpa using z
  rw[f]at q;cases q;exact⟨_,d⟩) m) g ((x1.keep e _ j (by simpa using Q2 l) (by simp))) (dc.mp h1).1 h2 λh' a z c x=>?_
 exact h h' a (by have:=kn s.heap T (Obj.mapFields (·.setIfInBounds 3 Value.none));exact this▸z) (n.trans c) x
end
structure zy (X:Cx) (H:Hp) (b:Addr):Prop where
 un:H b=none
 ab:X.s₀.heap.objs.size<=b
 nl:b≠X.env.locals
 nc:∀x c,X.env.cells.lookup x=some c->c≠b
section
variable{H':Hp}{h':A6}{ch:O A1}
theorem zy.new(I:AU X [] σ H s){b:A1}(h:s.heap.objs.size<=b):zy X H b:=
 ⟨I.hok.fresh h,ZH I.sz h,λz=>by have:=I.lt;rw[<-z]at this;exact absurd this (dw.mpr h),λx c e z=>by
  obtain⟨v,q⟩:=I.cell x c e;have:c<s.heap.objs.size:=by
   obtain⟨o,q⟩:∃o,s.heap.get? c=Z o:=by
    first|(obtain⟨o,q,_⟩:=q;exact⟨o,q⟩)|exact⟨_,q⟩
   exact zw q
  rw[z]at this;exact absurd this (dw.mpr h)⟩
theorem BX{t':Nat}(k:X.pn=[])(I:AU X [] σ H s)(c:J6 (C1 X.stack) ch s.heap h')(g:∀b∈ch,zy X H b):AU X [] σ H { s with heap:=h',toks:=t' }:=by
 refine I.step (g':=s.gens) (d':=s.drawn) (ch:=ch) (λb a=>⟨.inr (g b a).ab,(g b a).nl,(g b a).nc,λp hp=>by rw[k]at hp;cases hp⟩)
  (λb o l a f e n=>c.keep b o e f λz=>(List.mem_cons.mp (I.yO b z)).elim l a) (λb o _ _ f e n=>c.slot b o e f) (λ_ _ _ _ n=>n)
  (λb o f e=>let ⟨_,q⟩:=c.slot b o e f;⟨_,q⟩) (λ_ _ e=>e) (λ_ _ _ e=>e) (λb ps e=>⟨#[],by rw[e];simp⟩) (λm j=>?_) (λb u e=>?_) I.bare
 ·obtain⟨o,es,ep,t,r⟩:=j;obtain⟨sl,q⟩:=c.slot _ o t λz=>(g _ z).nl rfl;exact⟨_,es,ep,q,r⟩
 ·have h:∀(d:A1) (w:HO),H d=Z w->d∉ch/\d∉C1 X.stack:=λd w q=>⟨λz=>(by rw[(g d z).un]at q;cases q),λz=>(by rw[I.Bk d z]at q;cases q)⟩;refine(I.hok b u e).stay (λd v i q=>?_) (λ_ q=>q) (λ_ _ q=>q) λ_ _ _ q=>q;rcases i with z|z
  ·subst z;exact c.keep _ _ q (h _ _ e).1 (h _ _ e).2
  ·exact c.keep _ _ q (h _ _ z).1 (h _ _ z).2
def RX(X:Cx)(E:XK)(e:A0)(s:A2):Prop:=
 ∃a C dx σ H,e=.ref a/\AU X [] σ H s/\zy X H a/\(Is s.heap a C dx\/∃T,zy X H T/\(QS s.heap a C dx (rawInt X.env.locals) T\/QS s.heap a C dx .none T))/\E C dx H
def Wc(P:A3)(w:A4):RQ:=λouter H s E e s'=>
 ∃a C dx H' T,e=.ref a/\s'.os=s.os/\AllBare s'.gens/\Un (C1 outer) [] H H' s.heap s'.heap/\vK P w H' s'.heap/\s.heap.objs.size<=a/\s.heap.objs.size<=T/\H' a=U/\H' T=U ∧
  QS s'.heap a C dx .none T/\E C dx H'
theorem UB{fs:O A1}{h1 h2:A6}(u:Un fs [] H H' h h1)(c:J6 fs ch h1 h2)(i:∀b∈ch,h.get? b=U):Un fs [] H H' h h2:=by
 have a:∀b o,h.get? b=Z o->b∉ch:=λb o e z=>by rw[i b z]at e;cases e
 refine⟨λb o e n f x=>c.keep b o (u.keep b o e n f x) (a b o e) f,λb o e n f x=>?_,u.free,λb o e x=>?_,u.tups,u.nP,u.qD⟩
 ·obtain⟨sl,q⟩:=u.slot b o e n f x;obtain⟨g,d⟩:=c.slot b _ q (a b o e);exact⟨g,d⟩
 ·obtain⟨o',q⟩:=u.there b o e x;obtain⟨sl,d⟩:=c.slot b _ q (a b o e);exact⟨_,d⟩
theorem S9{E:XK}{Q:Unit->A2->Prop}{C:A0}(j:X.pn=[])(d:X.stack=X.env::X.outer)(g:X.env.frame=Z X.env.locals)(I:AU X [] σ H s)(k:zy X H a)(hx:Is s.heap a C dx\/∃T,zy X H T/\(QS s.heap a C dx (rawInt X.env.locals) T\/QS s.heap a C dx .none T))(h:∀h' T,AU X [] σ H { s with heap:=h' }->zy X H T->QS h' a C dx (rawInt X.env.locals) T->Q io { s with heap:=h' }):A7 (ii X) X.A (noteFrame (.ref a) X.env) Q Ex s:=by
 rcases hx with x|⟨T,f,x|x⟩
 ·have fr:=I.stack;rw[d]at fr;refine YQ (base:=X.base) (d▸I.ok.frames) fr g x λh' T z c i=>?_;rw[<-d]at c;have f:zy X H T:=zy.new I z;exact h h' T (BX (t':=s.toks) j I c (λb e=>(au.mp e)▸k)) f i
 ·exact Vr g x (h s.heap T I f x)
 ·have fr:=I.stack;rw[d]at fr;refine S8 (base:=X.base) (d▸I.ok.frames) fr g x λh' l z c i=>?_;rw[<-d]at c;exact h h' l (BX (t':=s.toks) j I c (λb e=>by
   rcases List.mem_cons.mp e with rfl|e
   ·exact f
   ·exact(au.mp e)▸k)) (zy.new I z) i
theorem Vs{E:XK}(g:X.pn=[])(j:X.stack=X.env::X.outer)(d:X.env.frame=Z X.env.locals):PassesOwn (ii X) X.A X.env (RX X E):=by
 intro e s' h;obtain⟨a,C,dx,σ,H,rfl,I,i,hx,k⟩:=h;refine S9 (E:=E) g j d I i hx λh' T n f x=>?_;show A7 _ _ _ _ _ _;obtain⟨vs,sl,p,ts,h1,h2,o,v,u,q⟩:=id x;refine zb (qh h1 S h2 ?_);rw[ZA (by simp)];rw[d];refine qQ (s:={ s' with heap:=h' }) (Z X.env.locals) x λt c m=>?_;exact⟨a,C,dx,σ,H,rfl,BX (s:={ s' with heap:=h' }) (t':=s'.toks) g n (c.mono (λ_ z=>z) λ_ z=>nomatch z) (λb l=>(au.mp l)▸f),i,.inr ⟨T,f,.inl m⟩,k⟩
theorem YS{E:XK}{e:A0}(g:X.pn=[])(j:X.stack=X.env::X.outer)(i:X.env.frame=Z X.env.locals)(k:X.ex=[])(h:RX X E e s):
  A7 (ii X) X.A (leaving X.env e) (λ_ m=>Wc X.prog X.w X.outer X.H₀ X.s₀ E e m) Ex s:=by
 obtain⟨a,C,dx,σ,H,rfl,I,f,hx,p⟩:=h;unfold leaving;refine zb (S9 (E:=E) g j i I f hx λh' T o d x=>?_);refine qQ (s:={ s with heap:=h' }) U x λq c n=>?_;have J:=BX (s:={ s with heap:=h' }) (t':=s.toks) g o (c.mono (λ_ z=>z) λ_ z=>nomatch z) (λb l=>(au.mp l)▸d);have u:=J.base;rw[k]at u;exact⟨a,C,dx,H,T,rfl,J.os,J.bare,u,J.hok,f.ab,d.ab,f.un,d.un,n,p⟩
end
def FD(h:A6)(C:A1)(bmB:O A0)(newId:String):Prop:=∃nm q N bs a k g sub j e l i b d f c,h.get? C=Z (excClassObj nm q C N bs a k g sub j e l i b d f c newId)/\OwnTail h bmB a
section
variable{g:Array GenState}{d:Drawn}{t:Nat}{fI e:A1}{AS:O A0}{B:String}
abbrev Tc(C t:A1):AE:={ cls:=.ref C,data:=.fields #[.ref t,.none,.none,.none,.bool false,.none] }
end
abbrev EB(C t:A1)(dx:Y A1):AE:={ cls:=.ref C,dict:=dx,data:=.fields #[.ref t,.none,.none,.none,.bool false,.none] }
section
variable{g:Array GenState}{d:Drawn}{t:Nat}{fI e:A1}{AS:O A0}{B:String}
theorem Z'{x:Sem A0}{Q:Flow->A2->Prop}(k:bmB.contains (.type "BaseException")=true)(i:A.handled=U)(l:A7 M A x (λv a=>∃e t dx,v=.ref e/\FD a.heap C bmB newId/\a.heap.get? e=Z (EB C t dx)/\E (.ref e) a) E s):A7 M A (raiseStmt env (Z x) U) Q E s:=by
 unfold raiseStmt;refine zb (ZY l (λv a h1=>?_) λ_ _ z=>z);obtain⟨e,t,dx,rfl,⟨nm,q,N,bs,j,y,F,sub,w,p,B,n,m,D,u,o,b,T⟩,c,h⟩:=h1;obtain⟨hp,g,d,tk,os⟩:=a;dsimp only at b c;have f:(Value.ref C::j).contains (.type "BaseException")=true:=by rw[List.contains_cons,T.hasType k,Bool.or_true]
 repeat (first|with_reducible refine ym c ?_|with_reducible refine ym b ?_|(with_reducible refine wpAny_isSubtype_exc b ?_;rw[f])|wp_step)
 exact wpAny_raiseNew_none i h
theorem UT{Q:BA}{t0:A1}(F:ExcBaseFacts B newId initId bmB)(x:FD h C bmB newId)(he:h.get? e=Z (EB C t0 dx))(u:AS.length<=AA)(f:∀h' t1,(∀b o,b≠e->h.get? b=Z o->h'.get? b=Z o)->h'.get? e=Z (EB C t1 dx)->h.objs.size<=t1->h'.objs.size=h.objs.size+1->Q .none ⟨h',g,d,t,os⟩):
  A7 (A8 prog w) A (call (.builtin initId) (.ref e::AS)) Q E ⟨h,g,d,t,os⟩:=by
 obtain⟨nm,q,N,bs,m,y,p,sub,v,k,D,s,i,n,l,j,a,T⟩:=x;refine yY (codeAny_call_builtin F.init.plain F.initEntry (wpAny_check_init_subT F T a he S ?_))
 wp_walk
 refine f _ h.objs.size (λb o c z=>?_) ?_ (zl _) ?_
 ·rw[qV _ _ (Q2 c)];exact zd _ z
 ·rw[qB _ (zd _ he) rfl];rfl
 ·rw[kn,qk]
end
abbrev LH:O A0:=[.type "ValueError", .type "Exception", .type "BaseException", .type "object"]
section
variable{g:Array GenState}{d:Drawn}{t:Nat}{e:A1}
end
def Ea(K:B4)(C:A1):Bool:=
 (clsIn K C).any (λa=>a.hasDict&&(!a.mro.isEmpty&&(a.mro.contains (.type "BaseException")&&a.mro.contains (.type "object"))))&&(findIn K (.ref C) "__getattribute__"==Z (Z (.builtin "BaseException.__getattribute__")) &&
  (findIn K (.ref C) "__getattr__"==Z U&&(findIn K (.ref C) "__class__"==Z (Z (.builtin "object.__class__")) &&
  (specialIn K (.builtin "object.__class__") "__get__"==Z (Z (.builtin "getset_descriptor.__get__"))&&takesIn K (.builtin "object.__class__")==Z true))))
section
variable{g:Array GenState}{d:Drawn}{t:Nat}{e dx:A1}{vs:Array A0}{sl:Array (Y A0)}{m:AJ->Y A0}
structure Ff (K:B4) (C:Addr) (cd:ClassData):Prop where
 cls:clsIn K C=some cd
 dct:cd.hasDict=true
 ne:cd.mro.isEmpty=false
 be:cd.mro.contains (.type "BaseException")=true
 ob:cd.mro.contains (.type "object")=true
 ga:findIn K (.ref C) "__getattribute__"=some (some (.builtin "BaseException.__getattribute__"))
 hk:findIn K (.ref C) "__getattr__"=some none
 cl:findIn K (.ref C) "__class__"=some (some (.builtin "object.__class__"))
 gt:specialIn K (.builtin "object.__class__") "__get__"=some (some (.builtin "getset_descriptor.__get__"))
 tk:takesIn K (.builtin "object.__class__")=some true
theorem J7(hs:Ea K C=true):∃cd,Ff K C cd:=by
 unfold Ea at hs;simp only[ZZ,beq_iff_eq]at hs;obtain⟨h1,h2,b,c,d,a⟩:=hs;cases q:clsIn K C with
 |none=>rw[q]at h1;cases h1
 |some cd=>
  rw[q]at h1;have h1:(cd.hasDict&&(!cd.mro.isEmpty&&(cd.mro.contains (.type "BaseException")&&cd.mro.contains (.type "object"))))=true:=h1;simp only[ZZ,Jn]at h1;exact⟨cd,⟨q,h1.1,h1.2.1,h1.2.2.1,h1.2.2.2,h2,b,c,d,a⟩⟩
theorem Ff.sub{cd:ClassData}(G:Ff K C cd):mroIn K C (.type "object")=Z true/\mroIn K C (.type "BaseException")=Z true:=by
 unfold mroIn;rw[G.cls,KA,KA,ZA (by rw[G.ne];decide),ZA (by rw[G.ne];decide),G.ob,G.be];exact⟨rfl,rfl⟩
theorem SC{cd:ClassData}{Q:BA}{c m:Bool}{dx:Y A1}{od:Y AE}{tk:Tok}{fo:Builtin.ObjectAttr.Found}(X:K.In h)(G:Ff K C cd)(I:InstAt h e ⟨.ref C,dx,.fields vs,sl⟩ C od)
  (l:findObj K C od name=Z fo)
  (i:A7 (A8 prog w) A.in1 (match fo with|.value v=>ret v|.bind g a=>Builtin.ObjectAttr.bindTo g a (.ref e) (.ref C)|.missing=>unsupported "") (λb s'=>match b with|.done (.ret v)=>A7 (A8 prog w) A (handedOut v) Q E s'|_=>False) (λ_ _=>False) ⟨h,g,d,t,os⟩)
  (o:fo≠.missing):A7 (A8 prog w) A (getAttrBy (.ref e) (.str name tk) m c) Q E ⟨h,g,d,t,os⟩:=by
 have j:=looks_findIn (M:=A8 prog w) X G.ga;have n:PySem.W.Looks (A8 prog w) h (hookBefore (.ref C)) U:=PySem.W.looks_hook X (by rw[zt (by rfl)];exact G.hk);have sub:PySem.W.Looks (A8 prog w) h (isInstance (.ref e) (.type "BaseException")) true:=I.type.andThen (PySem.W.looks_mroIn X G.sub.2);unfold getAttrBy;refine qq (zb (I.type.at (zb (j.at ?_))));have k:(Value.builtin "BaseException.__getattribute__"==Value.builtin "object.__getattribute__")=false:=by decide +kernel
 dsimp only;rw[ZA (by rw[k,hB];decide)];unfold getAttrByItsOwn;refine zb (n.at (zb (kU (qq ?_))));unfold callGetattribute;rw[ZA (by cases c<;>simp[onTheHeap])];unfold boundAndCalled;have f:=PySem.F.attrBase_ValueError.ga;rw[f.bind];refine zb (ze ?_);refine yY (codeAny_call_builtin f.plain PySem.F.entry_bexc_ga (@PySem.W.check_slot (A8 prog w) _ _ ⟨h,g,d,t,os⟩ "BaseException.__getattribute__" "BaseException" "__getattribute__" (.ref e) [.str name tk] [] _ (by decide +kernel) (by decide +kernel) sub (PySem.F.args_bexc_ga (.ref e) (.str name tk)) ?_));have p:=PySem.W.looks_find (M:=A8 prog w) X I l;refine zb (ze (zb (ze (zb (I.type.at (zb (p.at ?_)))))));cases fo with
 |missing=>exact absurd S o
 |value v=>
  refine ZY i (λb s' z=>?_) (λ_ _ z=>False.elim z);rcases b with (_|_|_|_)|_<;>first|exact z|exact z.elim
 |bind g a=>
  refine ZY i (λb s' z=>?_) (λ_ _ z=>False.elim z);rcases b with (_|_|_|_)|_<;>first|exact z|exact z.elim
def LS(e C:A1)(h:A6):Prop:=∃dx vs sl a,InstAt h e ⟨.ref C,dx,.fields vs,sl⟩ C a
theorem PC(hs:Ea K C=true):PySem.W.KitX K (.ref e) (.ref C) (LS e C) where
 ty:=λM h X ⟨dx,vs,sl,od,I⟩=>I.type
 it:=λM h X _=>by
  obtain⟨c,G⟩:=J7 hs;have a:=G.cls;unfold clsIn at a;split at a
  ·rename_i c' l m f b;intro o Q' v s' k q;unfold isType loadHead;exact zb (wpAny_loadPart (k _ _ (X _ _ b)) (ze q))
  ·cases a
 ne:=λh tp u AQ n sl X j=>by
  obtain⟨c,G⟩:=J7 hs;have a:=G.cls;refine Bool.eq_false_iff.mpr λq=>?_;have e:C=tp:=Value.ref.inj (beq_iff_eq.mp q);subst e;unfold clsIn at a;split at a
  ·rename_i c' l m f b;have z:=(X _ _ b).symm.trans j;cases z
  ·cases a
 ca:=λ{prog w A E Q s} X p k=>by
  obtain⟨c,G⟩:=J7 hs;obtain⟨dx,vs,sl,od,I⟩:=p;obtain⟨h,g,d,t,os⟩:=s;have i:findObj K C od "__class__"=Z (.bind (.builtin "getset_descriptor.__get__") (.builtin "object.__class__")):=by
   unfold findObj;rw[G.cls,KA,G.cl,KA];simp[G.gt,G.tk]
  unfold getAttr? getAttrBy?;refine zb (wpAny_mkText (zb (kU (SC X G I i ?_ (by intro z;cases z)))));refine zb (qq (yY (PySem.W.class_get (s:=⟨h,g,d,t+1,os⟩) (od:=od) X I G.sub.1 (ze ?_))));exact PySem.W.handed_on S (ze k)
end
def IY(e C:A1)(dx:Y A1):HO:=.ext λh=>∃t,h.get? e=Z (EB C t dx)
theorem Pd{e t:A1}(q:h.get? e=Z (EB C t dx)):eU P w H h e (IY e C dx):=⟨⟨t,q⟩,⟨_,q⟩,λ_ _ ⟨t,p⟩ k=>⟨t,k _ p⟩⟩
section
variable{o value:Expr}{tv:TE}{f:AJ}{pos' p:Pos}{B:String}
end
def Ah(H:Hp)(a:A1):Hp:=λb=>if b=a then U else H b
section
variable{f:AJ}{p:Pos}{B:String}
theorem AU.abM{d:A6->Prop}(I:AU X AN σ H s)(ea:H a=Z (.ext d)):AU X [] σ (Ah H a) s:=by
 have dn:∀b,H b=U->Ah H a b=U:=λb q=>by unfold Ah;split<;>first|rfl|exact q
 have ds:∀b u,H b=Z u->(∀f,u≠.ext f)->Ah H a b=Z u:=λb u q n=>by
  unfold Ah;rw[ZA (λz=>by subst z;rw[ea]at q;cases q;exact n _ S)];exact q
 refine⟨I.ok,I.os,I.bare,⟨I.base.keep,I.base.slot,λb o e n x=>dn b (I.base.free b o e n x),I.base.there,λb xs q=>ds b _ (I.base.tups b xs q) (λ_ z=>nomatch z),λb o u q=>ds b _ (I.base.nP b o u q) (λ_ z=>nomatch z),λb ps q=>?_⟩,
  I.loc,I.cell,dn _ I.free,λy c q=>dn _ (I.jj y c q),λp hp=>?_,λb u q=>?_,I.len⟩
 ·obtain⟨more,z⟩:=I.base.qD b ps q;exact⟨more,ds b _ z λ_ z=>nomatch z⟩
 ·obtain⟨z1,z2,z3⟩:=I.pin p (by rcases aJ.mp hp with z|z;exact kz _ z;cases z);exact⟨z1,dn _ z2,z3⟩
 ·have g:H b=Z u:=by
   unfold Ah at q;split at q
   ·cases q
   ·exact q
  exact(I.hok b u g).stay (λ_ _ _ z=>z) (λc z=>ds c _ z λ_ z=>nomatch z) (λc xs z=>ds c _ z λ_ z=>nomatch z) λc o' d z=>ds c _ z λ_ z=>nomatch z
end
theorem Ny{name x:AJ}(hx:x≠name):∀(l:O DictEntry) (i:Nat),l.findIdx? (λe=>e.key.isStr name)=Z i->(l.eraseIdx i).find? (λe=>e.key.isStr x)=l.find? (λe=>e.key.isStr x)
 |[],i,hi=>by simp at hi
 |e::l,i,hi=>by
  rw[ly]at hi;by_cases he:e.key.isStr name=true
  ·simp only[he,jb,Option.some.injEq]at hi;subst hi;have:e.key.isStr x=false:=by
    cases b:e.key.isStr x
    ·rfl
    ·exact absurd (Value.isStr_inj _ _ _ b he) hx
   rw[List.eraseIdx_zero,List.tail_cons,JO,this]
  ·have c:e.key.isStr name=false:=by simpa using he
   simp only[c,zS,qr]at hi;cases a:l.findIdx? (λe=>e.key.isStr name)with
   |none=>simp[a]at hi
   |some j=>
    simp only[a,ez,Option.some.injEq]at hi;subst hi;rw[kM,JO,JO];cases e.key.isStr x with
    |false=>exact Ny hx l j a
    |true=>rfl
theorem OH{m:AJ->Y A0}{Q:Bool->A2->Prop}(k:s.heap.Ns a m)(u:m name=Z v)(q:∀h' f,h'.Ns a f->(∀x,x≠name->f x=m x)->Heap.SameBut a s.heap h'->Q true { s with heap:=h' }):A7 M A (nsDel a name) Q E s:=by
 obtain⟨o,es,ep,b,c,hk,j⟩:=id k;have B:es.any (·.refKey)=false:=by
  rw[Array.any_eq_false'];intro e w;obtain⟨n,t,h⟩:=hk e w;simp[DictEntry.refKey,h]
 have g:es.any (·.key.isStr name)=true:=by
  have h1:=(j name).trans u;unfold nsFind findBy at h1;obtain⟨en,h2,_⟩:=ef.mp h1;rw[Array.any_eq_true'];exact⟨en,Array.mem_of_find?_eq_some h2,by have:=Array.find?_some h2;exact this⟩
 have p:nsHas name o=pure true:=by
  rw[nsHas_eq];unfold nsHasByArray;rw[c];show(if(es.any λx=>x.key.isStr name)=true then _ else _)=_;rw[zt g]
 unfold nsDel;refine zb (wpAny_loadPart b ?_);rw[p];refine zb (ze ?_);rw[zt rfl];refine zb (wpAny_updatePart b (ze ?_));obtain⟨cl,d,z,sl⟩:=o;subst c;cases hi:es.findIdx? (·.key.isStr name)with
 |none=>
  exfalso;obtain⟨i,y,hp⟩:=Array.any_eq_true.mp g;have:=Array.findIdx?_eq_none_iff.mp hi es[i] (Array.getElem_mem y);rw[this]at hp;cases hp
 |some i=>
  refine q _ (nsFind (es.eraseIdxIfInBounds i)) ⟨_,_,ep+1,qB _ b (by simp only[Obj.dropName_eq,Obj.dropNameByArray,hi]<;>rfl),(by simp only[Obj.dropName_eq,Obj.dropNameByArray,hi]<;>rfl),hk.erase i,λ_=>S⟩ (λx hx=>?_) (kF ..);rw[<-j x];unfold nsFind findBy;rw[<-lM,<-lM,Array.toList_eraseIdxIfInBounds,Ny hx es.toList i (by rw[<-hi];obtain⟨l⟩:=es;simp)]
theorem Sz{v:V}{Q:Unit->A2->Prop}(I:AU X AN σ H s)(hN:X.N.Nodup)(hi:X.N[i]?=Z x)(hx:X.env.scope.names.lookup x=Z .local)(hv:σ[i]?=Z (Z v))(h:∀s',AU X AN (σ.set i U) H s'->Q io s'):A7 M A (deleteName X.env x) Q E s:=by
 obtain⟨m,K,G⟩:=id I.loc;obtain⟨u,ru,lk⟩:=G i x v hi hv (.inl hx);have hk:X.env.kindOf x=Z .local:=hx;have hm:m x=Z u:=by
  rcases lk with⟨_,q⟩|⟨q,_⟩
  ·exact q
  ·rw[hk]at q;rcases q with q|q<;>cases q
 have go:∀h' d,h'.Ns X.env.locals d->(∀y,y≠x->d y=m y)->Heap.SameBut X.env.locals s.heap h'->Q io { s with heap:=h' }:=λh' d D C a=>by
  refine h _ ?_;have t:∀b o,X.s₀.heap.get? b=Z o->b≠X.env.locals:=λb o e=>ZE (ZO (zw e) I.ok.above);have tr:∀b w,H b=Z w->b≠X.env.locals:=λb w q z=>by rw[z,I.free]at q;cases q
  refine⟨I.ok,I.os,I.bare,⟨λb o e n f y=>(a.2 b (t b o e)).trans (I.base.keep b o e n f y),λb o e n f y=>?_,I.base.free,λb o e y=>?_,I.base.tups,I.base.nP,I.base.qD⟩,
   ⟨d,D,λj y B h1 h2 L=>?_⟩,λy c e=>?_,I.free,I.jj,λp hp=>?_,λb w q=>?_,by rw[qi];exact I.len⟩
  ·obtain⟨sl,q⟩:=I.base.slot b o e n f y;exact⟨sl,(a.2 b (t b o e)).trans q⟩
  ·obtain⟨o',q⟩:=I.base.there b o e y;exact⟨o',(a.2 b (t b o e)).trans q⟩
  ·have J:j≠i:=λz=>by
    subst z;rw[Ki]at h2;split at h2
    ·split at h2<;>cases h2
    ·rename_i z;exact z rfl
   rw[kA (Q2 J)]at h2;obtain⟨u',P,a3⟩:=G j y B h1 h2 L;refine⟨u',P,?_⟩;rcases a3 with⟨l,k⟩|⟨l,c,k,F⟩
   ·exact .inl ⟨l,by rw[C y (λz=>J (BZ hN (z▸h1) hi))];exact k⟩
   ·refine .inr ⟨l,c,k,?_⟩;have:=I.cne y c k;unfold Heap.IsCell at F ⊢;rw[a.2 c this];exact F
  ·obtain⟨B,q⟩:=I.cell y c e;refine⟨B,?_⟩;unfold Heap.IsCell at q ⊢;rw[a.2 c (I.cne y c e)];exact q
  ·obtain⟨q1,q2,q3,W⟩:=I.pin p hp;exact⟨(a.2 _ q3).trans q1,q2,q3,W⟩
  ·refine(I.hok b w q).stay (λc u g z=>(a.2 c ?_).trans z) (λ_ z=>z) (λ_ _ z=>z) λ_ _ _ z=>z;rcases g with g|g
   ·rw[g];exact tr b w q
   ·exact tr c _ g
 unfold deleteName;rw[hk];dsimp only;rw[I.ok.kind,ZA (by rw[show(ScopeKind.function==ScopeKind.class)=false from rfl,show(ScopeKind.function==ScopeKind.module)=false from rfl];simp)];refine zb (OH K hm λh' d D C a=>?_);exact ze (go h' d D C a)
section
variable{E:XK}
theorem RX.j8{Ex:BA}{e:A0}(h:RX (X.wish Ex) E e s):RX X E e s:=by
 obtain⟨a,C,dx,σ,H,r,I,m,x,q⟩:=h;refine⟨a,C,dx,σ,H,r,I.j8,⟨m.un,m.ab,m.nl,m.nc⟩,?_,q⟩;rcases x with x|⟨T,b,x⟩
 ·exact .inl x
 ·exact .inr ⟨T,⟨b.un,b.ab,b.nl,b.nc⟩,x⟩
theorem vZ.mono{st:O AB}{t:TS}{a:BA}(h:vZ (X.wish a) st t)(k:∀e s,a e s->X.xe e s):vZ X st t:=λAN s σ H D I b=>
 ZY (h AN s σ H D (I.wish _) b) (λ_ _ q=>q.j8) k
end
theorem G8.okX{f:A1}(F:G8 K x qual st f fd)(S:bH N ps (aM st))(len:∀vs H Q E,sp vs H Q E->vs.length=ps.length)(i:∀(a:A0) (A:A5) (outer:O Env) (s:A2) (H:Hp) (vs:O V) (Q:VK) (E:XK),jo k (A.deeper (AK qual (aM st) s.heap.objs.size f a))->sp vs H Q E →
   ∃t,vZ ((sV (Wc P w) P w K mg base N qual (aM st) f a A outer s H E).wish (RX (sV (Wc P w) P w K mg base N qual (aM st) f a A outer s H E) E)) (gY st) t/\t { nx:=λ_ H'=>Q .non H',rt:=Q } (start N vs) H):lR P w K mg base (Wc P w) (k+1) f fd ps sp:=by
 obtain⟨j,m,kV,n,pm,l,a,ct,osl,rfl,g,d⟩:=F.ex;refine NM g d S len λA outer s H vs Q E c b=>?_;obtain⟨t,h,q⟩:=i a A outer s H vs Q E c b;exact⟨t,vZ.mono h λe s' hx=>YS rfl rfl rfl rfl hx,q⟩
theorem lR.or{f:A1}{g:Sp}(F:lR P w K mg base Ge k f fd ps sp)(G:lR P w K mg base CX k f fd ps g):
  lR P w K mg base CX k f fd ps (λvs H Q E=>sp vs H Q E\/g vs H Q E):=
 ⟨λvs H Q E h=>h.elim (F.len vs H Q E) (G.len vs H Q E),λA outer s H c us vs Q E d j b i a=>by
  rcases a with a|a
  ·refine Kx (F.run A outer s H c us vs Q E d j b i a) λr s' q=>?_;cases r with
   |error e=>exact False.elim q
   |ok fl=>cases fl<;>exact q
  ·exact G.run A outer s H c us vs Q E d j b i a⟩
def Z8(a C:A1)(dx:Y A1):HO:=.ext λh=>∃vs sl,h.get? a=Z ⟨.ref C,dx,.fields vs,sl⟩/\vs[2]?=Z .none
theorem bE{vs:Array A0}{sl:Array (Y A0)}(q:h.get? a=Z ⟨.ref C,dx,.fields vs,sl⟩)(q2:vs[2]?=Z .none):eU P w H h a (Z8 a C dx):=
 ⟨⟨vs,sl,q,q2⟩,⟨_,q⟩,λ_ _ ⟨vs,sl,p,p2⟩ k=>⟨vs,sl,k _ p,p2⟩⟩
theorem fE{h':A6}{S ch:O A1}(ok:vK P w H h)(c:J6 S ch h h')(g:∀b∈ch,H b=U)(f:∀b∈S,H b=U):vK P w H h':=λb u e=>by
 have a:∀(d:A1) (w:HO),H d=Z w->d∉ch/\d∉S:=λd w q=>⟨λz=>(by rw[g d z]at q;cases q),λz=>(by rw[f d z]at q;cases q)⟩;refine(ok b u e).stay (λd v i q=>?_) (λ_ q=>q) (λ_ _ q=>q) λ_ _ _ q=>q;rcases i with z|z
 ·subst z;exact c.keep _ _ q (a _ _ e).1 (a _ _ e).2
 ·exact c.keep _ _ q (a _ _ z).1 (a _ _ z).2
theorem UI{o:HO}(ok:vK P w H h)(d:H a=U)(new:eU P w (B1 H a o) h a o):vK P w (B1 H a o) h:=λb u e=>by
 by_cases f:b=a
 ·subst f;rw[aQ]at e;cases e;exact new
 ·rw[aF f]at e;exact(ok b u e).stay (λ_ _ _ q=>q) (λc q=>by rw[aF (bf q d)];exact q) (λc xs q=>by rw[aF (bf q d)];exact q) λc o' g q=>by rw[aF (bf q d)];exact q
theorem Pl{fs:O A1}{H':Hp}{h':A6}{o:HO}(u:Un fs [] H H' h h')(d:H' a=U)(f:h.get? a=U):Un fs [] H (B1 H' a o) h h':=
 ⟨u.keep,u.slot,λb c e n x=>by rw[aF (λz=>by rw[z,f]at e;cases e)];exact u.free b c e n x,u.there,λb xs q=>by rw[aF (bf (u.tups b xs q) d)];exact u.tups b xs q,
  λb c xs q=>by rw[aF (bf (u.nP b c xs q) d)];exact u.nP b c xs q,λb ps q=>by
   obtain⟨m,z⟩:=u.qD b ps q;exact⟨m,by rw[aF (bf z d)];exact z⟩⟩
abbrev Cx.inX(X:Cx)(a:A1):Cx:={ X with A:=X.A.mark (Z (.ref a)),calm:=false,xe:=λ_ _=>False }
theorem AU.inX(I:AU X AN σ H s):AU (Cx.inX X a) AN σ H s:=
 ⟨⟨I.ok.mod,I.ok.kind,I.ok.glob,I.ok.blt,I.ok.above,I.ok.inj,I.ok.has,I.ok.cab,λz=>(by cases z),I.ok.frames,I.ok.stk,I.ok.exf,I.ok.bs,I.ok.Wn,I.ok.Pk,I.ok.Uc,I.ok.vL,I.ok.frf,I.ok.tabs⟩,I.os,I.bare,I.base,I.loc,I.cell,I.free,I.jj,I.pin,I.hok,I.len⟩
theorem AU.ajZ(ok:X.Ok)(I:AU (Cx.inX X a) AN σ H s):AU X AN σ H s:=⟨ok,I.os,I.bare,I.base,I.loc,I.cell,I.free,I.jj,I.pin,I.hok,I.len⟩
def XT(X:Cx)(C:A1)(iv:Nat)(ts:A1->TS)(D:BV)(σ:L2.St):XK:=λb dx H2=>b=.ref C/\∃d:Y A1,dx=d/\∀a,H2 a=U →
 ts a { nx:=λσ' H'=>D.nx (σ'.set iv U) H',rt:=D.rt } (σ.set iv (Z (.ref a))) (B1 H2 a (Z8 a C d))
theorem QT{Cn:A1}{iv:Nat}{n cn:AJ}{np hp:Pos}{b0:AB}{ts:A1->TS}{D:BV}{H1:Hp}{g s':A2}{e:A0}(F:X.stack=X.env::X.outer)(hf:X.env.frame=Z X.env.locals)(H:X.N.Nodup)(hi:X.N[iv]?=Z n)(l:X.env.scope.names.lookup n=Z .local)(hg:Gl X cn)(hm:X.mg cn=Z (.ref Cn))(hx:exmOne X.K (.ref C) (.ref Cn)=Z true)(hs:∀a,vZ (Cx.inX X a) (b0::suite) (ts a))(y:AU X AN σ H1 g)(hq:Wc X.prog X.w X.stack H1 g (XT X C iv ts D σ) e s')(b6:db cn:=by decide):
  A7 (ii X) X.A (noteFrame e X.env) (λ_ s2=>A7 (ii X) X.A (setFlight e U) (λ_ s3=>A7 (ii X) X.A (handleBy e X.env [.ExceptHandler (Z (.Name cn np)) (Z n) (b0::suite) hp]) (SP X AN D) X.xe s3) X.xe s2) X.xe s':=by
 obtain⟨a,Cv,d,H2,T,rfl,os,Q,un,G,ha,hT,x,nT,ex,rfl,_,rfl,hE⟩:=hq;have J0:AU X AN σ H2 s':=y.call' (ch:=[]) os un G Q λ_ z=>nomatch z;have fr:=J0.stack;rw[F]at fr;have old:∀b,s'.heap.objs.size<=b->g.heap.get? b=U:=λb z=>by
  cases q:g.heap.get? b with
  |none=>rfl
  |some o=>
   obtain⟨o',q'⟩:=un.there b o q (λz=>nomatch z);exact absurd (zw q') (dw.mpr z)
 have L:g.heap.get? a=U:=ei ha;have mk:∀(h:A6) (ch:O A1) (tk:Nat),J6 (C1 X.stack) ch s'.heap h->(∀b∈ch,g.heap.get? b=U/\H2 b=U)->(∃vs sl,h.get? a=Z ⟨.ref C,d,.fields vs,sl⟩/\vs[2]?=Z .none)->AU X AN σ (B1 H2 a (Z8 a C d)) { s' with heap:=h,toks:=tk }:=λh ch tk c hc E=>by
  obtain⟨vs,sl,E,b5⟩:=E;refine y.call' (ch:=[]) (s':={ s' with heap:=h,toks:=tk }) os (Pl (UB un c λb z=>(hc b z).1) x L) ?_ Q λ_ z=>nomatch z;exact UI (fE G c (λb z=>(hc b z).2) J0.Bk) x (bE E b5)
 refine S8 (base:=X.base) (F▸y.ok.frames) fr hf ex λh4 p z c4 x4=>?_;rw[<-F]at c4;refine qQ (s:={ s' with heap:=h4 }) U x4 λt c5 x5=>?_;have b3:H2 p=U:=G.fresh z;have a4:=c4.trans (c5.mono (S':=C1 X.stack) (c2:=[p]) (λ_ z=>z) λ_ z=>nomatch z);have B:∀b∈[T,a]++[p],g.heap.get? b=U/\H2 b=U:=λb f=>by
  simp only[aJ,ja,jv,or_false]at f;rcases f with (rfl|rfl)|rfl
  ·exact⟨ei hT,nT⟩
  ·exact⟨L,x⟩
  ·exact⟨old _ z,b3⟩
 have a5:∃vs sl,t.get? a=Z ⟨.ref C,d,.fields vs,sl⟩/\vs[2]?=Z .none:=by
  obtain⟨vs,sl,_,_,q,_,_,_,_,_,q2⟩:=x5;exact⟨vs,sl,q,q2⟩
 have M:=mk t _ s'.toks a4 B a5;have LT:PySem.W.Looks (ii X) t (typeOf (.ref a)) (.ref C):=by
  obtain⟨vs,sl,q,_⟩:=a5;exact(PySem.W.Looks.ld q).andThen .now
 refine wpAny_handleBy_cons (codeAny_handlers_test (wZ (X:=Cx.inX X a) (AU.inX M) hg hm ?_ b6)) (by intro q;cases q);refine(PySem.W.exm_one M.K7 LT hx).at ?_;show AF _ _ _ _ _;refine codeAny_handlers_suite_as ?_;refine qQ (s:={ s' with heap:=t }) U x5 λh6 c6 x6=>?_;have I6:=mk h6 _ s'.toks (a4.trans (c6.mono (S':=C1 X.stack) (c2:=[p]) (λ_ z=>z) λ_ z=>nomatch z)) (λb f=>by
  rcases aJ.mp f with f|f
  ·exact B b f
  ·exact B b (ZI _ f)) (by obtain⟨vs,sl,_,_,q,_,_,_,_,_,q2⟩:=x6;exact⟨vs,sl,q,q2⟩)
 refine sJ (X:=X) (v:=.ref a) I6 H hi (.inl l) S (λs7 P=>?_) (.inr l);refine ZY (hs a AN s7 _ _ _ (AU.inX P) (hE a x)) (λfl I m=>?_) λ_ _ z=>False.elim z;show A7 _ _ _ _ _ _;have a3:∀{σ':L2.St} {H':Hp},AU (Cx.inX X a) AN σ' H' I->(∀i,AU X AN (σ'.set iv U) H' i->SP X AN D fl i) →
   A7 (ii X) X.A (do bindName X.env n .none;unbindBehindTheSuite X.env n hp) (λ_ s5=>SP X AN D fl s5) X.xe I:=λ{σ' H'} J k=>by
  have J':=AU.ajZ P.ok J;have a7:iv<σ'.length:=by rw[J'.len];exact(ay.mp hi).1
  refine zb (wpAny_bindName (sJ (v:=.non) J' H hi (.inl l) S (λi j=>?_) (.inr l)));unfold unbindBehindTheSuite unbindName;refine wpAny_onRaise (zb (wpAny_point (zb (Sz (v:=.non) j H hi l (by rw[QO a7]) λb4 a6=>wpAny_point (k b4 ?_)))));rwa [List.set_set]at a6
 cases fl with
 |next=>
  obtain⟨σ',H',J,q⟩:=m;exact a3 J λi j=>⟨_,H',j,q⟩
 |ret u=>
  obtain⟨v,σ',H',J,rv,q⟩:=m;exact a3 J λi j=>⟨v,_,H',j,rv,q⟩
 |brk=>
  obtain⟨_,_,_,q⟩:=m;exact False.elim q
 |cont=>
  obtain⟨_,_,_,q⟩:=m;exact False.elim q
section
variable{Cn f:A1}{iv iy:Nat}{n cn:AJ}{np hp p py pa:Pos}{b0:AB}{ts:A1->TS}{tf:TE}
def Th(X:Cx)(C f:A1)(iv iy:Nat)(ts:A1->TS)(tf:TE)(t:TA)(sp:Sp):TS:=λD σ H=>tf σ H λv H0=>v=.ref f/\t σ H0 λvs H1=>sp vs H1 (λv H2=>D.nx (σ.set iy (Z v)) H2) (XT X C iv ts D σ)
theorem gl(Q:X.stack=X.env::X.outer)(m:X.env.frame=Z X.env.locals)(g:X.N.Nodup)(hi:X.N[iv]?=Z n)(M:X.env.scope.names.lookup n=Z .local)(j:X.N[iy]?=Z y)(d:X.env.scope.names.lookup y=Z .local)
  (G:Gl X cn) (L:X.mg cn=Z (.ref Cn)) (hx:exmOne X.K (.ref C) (.ref Cn)=Z true) (hs:∀a,vZ (Cx.inX X a) (b0::suite) (ts a))
  (a3:PE X.Z2 (.Name x p) tf) (F:lR X.prog X.w X.K X.mg X.base (Wc X.prog X.w) k f fd ps sp) (o:jo k X.A) (hk:keepIn X.K (.ref f)=true) (i:BM X.K fd ps []) (ha:PA X.Z2 (e::es) t)
  (a4:db cn:=by decide) (B:A9 (e::es) X.env=(false,eval e X.env)::A9 es X.env:=by rfl) (W:(AD cpos (A9 es X.env)).any (·.1)=false:=by rfl)
  (E:swapsWith (.Call (.Name x p) (e::es) [] cpos) (Z (.Name y py)) pa.line X.env=pure false:=by rfl):
  PS X (.Try [.Assign [.Name y py] (.Call (.Name x p) (e::es) [] cpos) pa] [.ExceptHandler (Z (.Name cn np)) (Z n) (b0::suite) hp] [] [] pos) (Th X C f iv iy ts tf t sp):=by
 intro AN s σ H D I h;refine wpAny_Try_except (y0 (wpAny_Assign_Name (kQ ?_) E));refine ZY (a3 AN s σ H _ (I.wish _) h) (λu s0 ⟨v,H0,I0,r0,ev,q0⟩=>?_) (λ_ _ z=>False.elim z);subst ev;obtain rfl:u=Value.ref f:=r0;refine YO (h₀:=X.base) I.ok.mod.kin hk (ZY (ha cpos AN s0 σ H0 _ I0 q0) (λus s1 ⟨vs,H1,I1,r,q⟩=>⟨I1.K7,?_⟩) (λ_ _ z=>False.elim z)) B W;have c:=I1.j8;have l:us.length=ps.length:=by rw[<-r.length];exact F.len _ _ _ _ q
 rw[KO];refine yY (Kx (F.run X.A X.stack s1 H1 ⟨us,[]⟩ us vs _ _ o c.env0 (by have:=i s1 us c.K7 (by rw[JP];exact l);rwa [JP]at this) r q) λr s' b=>?_);cases r with
 |error e=>exact QT Q m g hi M G L hx hs c b a4
 |ok fl=>
  cases fl with
  |next=>exact False.elim b
  |brk=>exact False.elim b
  |cont=>exact False.elim b
  |ret u=>
   obtain⟨v,H2,P,J,q2⟩:=c.after b;exact sJ P g j (.inl d) J (λs3 I3=>Yf (Yf ⟨_,H2,I3,q2⟩)) (.inr d)
end
section
variable{d:A1}{fs:O (AJ×V)}{f:AJ}{o:Expr}
def Uf(K:B4)(H:Hp)(C:A1)(c:V)(b:Bool):Prop:=
 (∃D,c=.ref D/\kitOne K (.ref C) (.ref D)=Z b)\/(∃T,c=.ty T/\kitOne K (.ref C) (.type T)=Z b) ∨
  ∃(tp:A1) (cs:O A1),c=.ref tp/\H tp=Z (.tup (cs.map V.ref))/\PySem.W.kitAny K (.ref C) (cs.map Value.ref)=Z b
theorem HY:∀{cs:O A1} {us:O A0},AX (cs.map V.ref) us->us=cs.map Value.ref
 |[],_,h=>by cases h;rfl
 |c::cs,_,h=>by
  cases h with
  |cons r t=>rw[HY t];obtain rfl:=r;rfl
def MR(H:Hp)(a C:A1):Prop:=∃d:Y A1,H a=Z (Z8 a C d)/\∀x,d=Z x->∃fs,H x=Z (.xd fs)
theorem jU{Cs:O A1}(n:∀C,C∈Cs->Ea X.K C=true):fU X (.builtin "isinstance") (λvs H Q=>∃a C c b,C∈Cs/\vs=[.ref a,c]/\MR H a C/\Uf X.K H C c b/\Q (.bl b) H):=by
 intro AN s σ H vs us Q I r h;obtain⟨a,C,c,b,w,rfl,⟨d,ea,t⟩,f,q⟩:=h;cases r with
 |cons v r=>
  cases r with
  |cons g r=>
   cases r;obtain rfl:=v;have Z:=PC (e:=a) (n C w);have p:LS a C s.heap:=by
    obtain⟨vs,sl,h1,_⟩:=(I.hok a _ ea).1;cases d with
    |none=>exact⟨U,vs,sl,U,h1,rfl,rfl,trivial⟩
    |some x=>
     obtain⟨fs,ex⟩:=t x rfl;obtain⟨m,⟨u,_,_,h2,_⟩,_⟩:=I.hok x _ ex;exact⟨some x,vs,sl,some u,h1,rfl,rfl,h2⟩
   rcases f with⟨D,rfl,f⟩|⟨T,rfl,f⟩|⟨tp,cs,rfl,A,f⟩
   ·obtain rfl:=g;exact kia_one Z I.K7 p f (λz=>nomatch z) λtk=>⟨.bl b,H,I.tok tk,rfl,q⟩
   ·obtain rfl:=g;exact kia_one Z I.K7 p f (λz=>nomatch z) λtk=>⟨.bl b,H,I.tok tk,rfl,q⟩
   ·obtain rfl:=g;obtain⟨_,AQ,y,o,l,i,⟨F,j⟩,k⟩:=I.hok tp _ A;obtain⟨B,G,E,osl⟩:=o;dsimp only at i j k;subst i j k;rw[HY y]at l;exact PySem.W.kia_tup Z I.K7 p l f (λz=>nomatch z) λtk=>⟨.bl b,H,I.tok tk,rfl,q⟩
end
def XW(K:B4)(C:A1)(f:AJ)(E:XK)(H0:Hp)(d:Dt):Prop:=∀dx H',AV H0 H'->(if f ="" then dx=U else ∃x v,dx=Z x/\H' x=Z (.xd [(f,v)])/\AW K H' d v)->E (.ref C) dx H'
def tX(K:B4)(C:A1)(f:AJ)(E:XK)(gx:Ev->Y Dt):TS:=λ_ σ H=>∃H0 ρ d,bF K H0 H σ ρ/\gx ρ=Z d/\XW K C f E H0 d
structure HP (X:Cx) (C:Addr) (f:Str) (E:XK) (st:Stmt) (gx:Ev->Option Dt):Prop where
 run:PS X st (tX X.K C f E gx)
structure Vt (X:Cx) (C:Addr) (f:Str) (E:XK) (st:List Stmt) (gx:Ev->Option Dt):Prop where
 run:vZ X st (tX X.K C f E gx)
def zD:Bx->Y Dt
 |.z d=>Z d
 |_=>U
section
variable{f:AJ}{E:XK}{gy:Ev->Y Dt}{p:Pos}{AS a b:O AB}{B:String}{pc:Ev->Y Bool}
def Ic(okX:Dt->Bool)(fe:Ev->Y Bx):Ev->Y Dt:=λρ=>(fe ρ).bind λb=>(zD b).bind λd=>if okX d=true then Z d else U
theorem yr(h:HP X C f E st gx):Vt X C f E (st::AS) gx:=⟨λAN s σ H D I a=>y0 (ZY (h.run AN s σ H { nx:=λ_ _=>False,rt:=D.rt,bk:=D.bk,ct:=D.ct } I a) (λfl b q=>by
 cases fl with
 |next=>obtain⟨_,_,_,z⟩:=q;exact False.elim z
 |ret v=>exact q
 |brk=>exact q
 |cont=>exact q) λ_ _ z=>z)⟩
def Eb(g:Ev->Y As)(gx:Ev->Y Dt):Ev->Y Dt:=λρ=>(g ρ).bind λr=>match r with
 |.nx a=>gx a
 |_=>U
theorem yt(h:Wb X st g)(hx:Vt X C f E AS gx):Vt X C f E (st::AS) (Eb g gx):=⟨λAN s σ H D I j=>by
 obtain⟨H0,ρ,d,Ev,a,w⟩:=j;obtain⟨r,er,a⟩:=AT a;cases r with
 |nx b=>
  refine y0 (ZY (h.run AN s σ H { nx:=λσ' H'=>bF X.K H0 H' σ' b,rt:=λ_ _=>False } I ⟨H0,ρ,_,Ev,er,λσ' H' z=>z⟩) (λfl c q=>?_) λ_ _ z=>z);cases fl with
  |next=>
   obtain⟨σ',H',i,e⟩:=q;exact hx.run AN c σ' H' D i ⟨H0,b,d,e,a,w⟩
  |ret v=>obtain⟨_,_,_,_,_,z⟩:=q;exact False.elim z
  |brk=>obtain⟨_,_,_,z⟩:=q;exact False.elim z
  |cont=>obtain⟨_,_,_,z⟩:=q;exact False.elim z
 |rt _=>cases a
 |bk _=>cases a
 |ct _=>cases a⟩
def F6(pc:Ev->Y Bool)(gx gy:Ev->Y Dt):Ev->Y Dt:=λρ=>(pc ρ).bind λk=>if k=true then gx ρ else gy ρ
theorem Nz{sts:O AB}:Vt X C f E sts (λ_=>U):=⟨λAN s σ H D I a=>by
 obtain⟨H0,ρ,d,Ev,b,w⟩:=a;cases b⟩
theorem MO(j:QB X c pc)(l:Vt X C f E a gx)(i:Vt X C f E b gy):HP X C f E (.If c a b pos) (F6 pc gx gy):=⟨W6 (GD j.run l.run i.run) λD σ H h=>by
 obtain⟨H0,ρ,d,Ev,e,w⟩:=h;obtain⟨k,ek,e⟩:=AT e;refine⟨H0,ρ,k,Ev,ek,λH1 g=>?_⟩;cases k with
 |true=>rw[zt rfl]at e ⊢;exact⟨H0,ρ,d,Ev.grow g,e,w⟩
 |false=>rw[ZA zI]at e ⊢;exact⟨H0,ρ,d,Ev.grow g,e,w⟩⟩
end
def IR(K:B4)(n:Nat)(Fx:O Bx->Y Dt)(C:A1)(f:AJ):Sp:=λvs H _ E=>vs.length=n/\∃bs d,sZ K H bs vs/\bs.all (λb=>!iO b)=true/\Fx bs=Z d/\XW K C f E H d
def Ed(n:Nat)(gx:Ev->Y Dt):O Bx->Y Dt:=λbs=>gx (bs.map Z++aw (n-bs.length) U)
abbrev FG(P:A3)(w:A4)(K:B4)(mg:AJ->Y A0)(base:A6)(N:AZ)(qual:AJ)(scope:Scope)(f:A1)(cd:A0)(A:A5)(outer:O Env)(s:A2)(H:Hp)(E:XK):Cx:=
 (sV (Wc P w) P w K mg base N qual scope f cd A outer s H E).wish (RX (sV (Wc P w) P w K mg base N qual scope f cd A outer s H E) E)
theorem dQ{f:A1}{a:AJ}(F:G8 K x qual st f fd)(S:bH N ps (aM st))(c:N.length=n)(j:ps.length=m)(l:∀(b:A0) (A:A5) (outer:O Env) (s:A2) (H:Hp) (E:XK),jo k (A.deeper (AK qual (aM st) s.heap.objs.size f b)) →
   (∀e s',RX (FG P w K mg base N qual (aM st) f b A outer s H E) E e s'->(FG P w K mg base N qual (aM st) f b A outer s H E).xe e s') →
   PassesOwn (A8 P w) (A.deeper (AK qual (aM st) s.heap.objs.size f b)) (AK qual (aM st) s.heap.objs.size f b) (FG P w K mg base N qual (aM st) f b A outer s H E).xe →
   Vt (FG P w K mg base N qual (aM st) f b A outer s H E) C a E (gY st) gx):lR P w K mg base (Wc P w) (k+1) f fd ps (IR K m (Ed n gx) C a):=
 G8.okX F S (λvs H Q E h=>h.1.trans j.symm) λb A outer s H vs Q E i g=>by
  obtain⟨_,bs,d,r,o,e,w⟩:=g;subst c;exact⟨_,(l b A outer s H E i (λe s' h=>h.j8) (Vs (X:=sV (Wc P _) P _ K mg base N qual (aM st) f b A outer s H E) rfl rfl rfl)).run,H,_,d,bF.start r o,e,w⟩
section
variable{f h:A1}{fs:Ev->Y (O Bx)}{p q:Pos}
end
end P1
namespace P1
open L2 S6
section
variable{xs:AZ}
end
section
variable{se:Expr}{fS:Ev->Y AZ}{fx:Ev->Y Dt}{no AS:O AB}{tR tQ:TS}{p0 p02 px pb pif pk:Pos}{f:AJ}{E:XK}
end
end P1
namespace P1
open L2
section
variable{e1 e3:Expr}{gr:Ev->Y As}{xr xj y1 y2:AJ}{AS no:O AB}{kk:Nat}{p0 p00 p01 p02 q1 q2 pt pj pa px pb pif pf2 px3 a1 c1 pe1 pr a2 pj2 c2 pe2:Pos}{fx:Ev->Y Dt}{f:AJ}{E:XK}
end
section
variable{Cn f:A1}{iv:Nat}{n cn:AJ}{np hp p pa:Pos}{b0:AB}{ts:A1->TS}{tf:TE}
end
section
variable{fx:Ev->Y Bx}
end
section
variable{xs:Array A0}
end
theorem uN:∀{AQ:O A0} {a:O Int},IntsAre AQ a->AX (a.map V.int) AQ
 |_,_,.nil=>.nil
 |_,_,.cons y t h=>.cons ⟨t,rfl⟩ (uN h)
section
variable{e:α->Dt}
end
section
variable{e:α->Dt}{ea:β->Dt}{eb:δ->Dt}{fx:Ev->Y Dt}
end
section
variable{e:α->Dt}{g:Ev->Y β}{c:γ->β}
end
section
variable{E:XK}
end
section
variable{f:AJ}{E:XK}{fs:Ev->Y (O Bx)}{gy:Ev->Y Dt}{p p1 epos:Pos}{AS:O AB}
def LU(g h:Ev->Y Dt):Ev->Y Dt:=λρ=>match g ρ with
 |some d=>Z d
 |none=>h ρ
end
section
variable{o:Expr}
def YT:Dt->Bool
 |.non=>true
 |.tup _=>true
 |_=>false
def LI:Dt->Bool
 |.non=>true
 |_=>false
end
section
variable{o l:Expr}{fs:Ev->Y (O Bx)}{z:AJ}
end
instance {σ τ:Type} [Inhabited σ]:Inhabited (yN σ τ):=⟨.nx default⟩
section
variable{e:α->Dt}
theorem YW(a:∀x,∃ds,e x=.tup ds)(ys:O (Y α)):(ys.map (eO e)).all YT=true/\(LI ∘ eO e)=Option.isNone:=by
 refine⟨?_,?_⟩
 ·rw[QI];intro d b;obtain⟨o,_,rfl⟩:=ax.mp b;cases o with
  |none=>rfl
  |some x=>obtain⟨ds,q⟩:=a x;show YT (e x)=true;rw[q];rfl
 ·funext o;cases o with
  |none=>rfl
  |some x=>obtain⟨ds,q⟩:=a x;show LI (e x)=false;rw[q];rfl
end
section
variable{o:Expr}{fx fy:Ev->Y Bx}
end
section
variable{f:AJ}{E:XK}{gy:Ev->Y Dt}{sts AS:O AB}{p0 p00 p01 p02:Pos}
theorem YX(h1:Vt X C f E sts gx)(h2:Vt X C f E sts gy):Vt X C f E sts (LU gx gy):=⟨λAN s σ H D I b=>by
 obtain⟨H0,ρ,d,Ev,a,w⟩:=b;unfold LU at a;split at a
 ·rename_i q;cases a;exact h1.run AN s σ H D I ⟨H0,ρ,_,Ev,q,w⟩
 ·exact h2.run AN s σ H D I ⟨H0,ρ,_,Ev,a,w⟩⟩
end
structure DQ (K:B4) (mg:Str->Option Value) (x:Str) (st:Stmt) (ps:AZ) where
 f:Addr
 fd:FuncData
 F:G8 K x x st f fd
 b:BM K fd ps []
 m:mg x=some (.ref f)
 k:keepIn K (.ref f)=true
def mC{f:A1}{od b:Y A1}{sl:Array (Y A0)}{d kV i pm cd ct:A0}(X:K.In h)(G:h.Ns mainGlobals mg)(a:Nn K x f)(l:Lk K f x st d od sl kV i pm b cd ct)(c:codeIn K cd x=true)(k:keepIn K (.ref f)=true)(g:∀(kV j pm:A0) (b:Y A1) (e ct:A0) (us:O A0),us.length=ps.length->bindArgs (fnOf x x (qF st) (gY st) (aM st) .none kV j pm b e ct) ⟨us,[]⟩=pure (ps.zip us):=by intro _ _ _ _ _ _;first|exact P1.L4 λ_=>S|exact P1.IE λ_ _=>S|exact P1.fF λ_ _ _=>S|exact P1.bn λ_ _ _ _=>S|exact P1.WH λ_ _ _ _ _=>S|exact P1.HC S):DQ K mg x st ps:=
 ⟨f,_,W5 l c k,(W5 l c k).binds g,km X G a,k⟩
theorem NH{v:Tok->A0}{tk:Tok}(X:K.In h)(G:h.Ns mainGlobals mg)(c:nsIn K mainGlobals x=Z (Z (v tk))):∃tk,mg x=Z (v tk):=⟨tk,km X G c⟩
abbrev Ok(P:A3)(w:A4)(base:A6)(d:DQ K mg x st ps)(k n:Nat)(F:O Bx->Y Bx):Prop:=lR P w K mg base Ge k d.f d.fd ps (Xn K n F)
theorem Ef(d:DQ K mg x st ps)(S:bH N ps (aM st))(h:∀(a:A0) (A:A5) (outer:O Env) (s:A2) (H:Hp) (E:XK),jo k (A.deeper (AK x (aM st) s.heap.objs.size d.f a))->(A.deeper (AK x (aM st) s.heap.objs.size d.f a)).units+100<cLine->N.Nodup->Ut (sV Ge P w K mg base N x (aM st) d.f a A outer s H E).Z2 (gY st) g)(c:N.length=n:=by rfl)(e:ps.length=m:=by rfl):Ok P w base d (k+1) m (fL n g):=g7 d.F S c e λa A outer s H E b=>h a A outer s H E b (Sd b) S.nd
section
variable{fs:Ev->Y (O Bx)}{p:Pos}
theorem dZ(d:DQ X.K X.mg x st ps)(G:Ok X.prog X.w X.base d k n F)(c:jo m X.A)(i:Wa X (e::es) fs)(f:Gl X x:=by rfl)(g:k<=m:=by decide)(h:db x:=by decide)(he:A9 (e::es) X.env=(false,eval e X.env)::A9 es X.env:=by rfl)(a:(AD pos (A9 es X.env)).any (·.1)=false:=by rfl):QV X (.Call (.Name x p) (e::es) [] pos) (cV n F fs):=
 Bu G (c.mono g) f d.m d.k d.b i h he a
end
theorem EX{l:PySem.W.OpenLaw}{q:A3}{loose:AZ}{d:DefRec}{K:Params->B4}{T:B4->(AJ->Y A0)->Type}{F_law:O Bx->Y Bx}(c:∀{K mg},T K mg->DQ K mg "law" st [x])(hk:jo k callerA)(A:d.name ="law")(G:∀(w:A4) (mg:AJ->Y A0) (base:A6) (t:T (K w.params) mg),Ok l.prog w base (c t) k 1 F_law)(o:l.most=Z 63)(C:d.params.defaults=[])(h1:∀b:O Int,b.length<=63->F_law [.z (.lst (b.map .int))]=Z (.z (.bl true)))(h2:∀b:O Int,b.length<=63->F_law [.l (b.map .int)]=Z (.z (.bl true)))(p:∀(kV i pm:A0) (g:Y A1) (j ct u:A0),bindArgs (fnOf "law" "law" (qF st) (gY st) (aM st) .none kV i pm g j ct) ⟨[u],[]⟩=pure [(x,u)])(B:∀(w:A4) (h:A6),YP w h->(K w.params).In h)(M:∀(w:A4) (h:A6) (mg y:AJ->Y A0) (D:ExcName->Y A0) (P:AZ),(K w.params).In h->Top q P D mg y h->∃E,L2.CH (K w.params) h E)(F:∀(w:A4) (mg:AJ->Y A0) (h:A6),(K w.params).In h->h.Ns mainGlobals mg->T (K w.params) mg):
  PySem.W.WalkO q loose XP YP l.row.toRowW d [] (λf vs=>PySem.call f vs):=
 L2.W4 (n:=63) (k:=k) (x:=x) (CX:=Ge) (sp:=λK=>Xn K 1 F_law) o () C hk B (λw mg fa h X N e=>by
  have t:=F w mg h X N;have J:=(c t).m;rw[A,J]at e;cases e;refine⟨(c t).fd,λs u=>?_,λbase _ _=>G w mg base t⟩;obtain⟨oc,Q,kV,i,pm,g,j,ct,osl,e,lk,a3⟩:=(c t).F.ex;rw[e];exact .of_eq (p kV i pm g j ct u)) (λK H a b I v L=>eC h1 h2 K H a b I v L) (λ_ _ _ _ z=>z) M
theorem NK:entryFor table "proto.unchain"=Z Builtin.«proto.unchain»:=entryFor_of_tree (by kernel_rfl)
theorem J8{a b:Sem α}{Q:α->A2->Prop}(h:a=b)(k:A7 (A8 prog w) A b Q E s):A7 (A8 prog w) A a Q E s:=h▸k
theorem J9{e:A1}{vs:Array A0}{Q:BA}(he:s.heap.get? e=Z o)(a:o.data=.fields vs)(h2:vs[2]?=Z .none)(h:Q .none s):A7 (A8 prog w) A (runValue (.builtin "proto.unchain" ⟨[v,.ref e,.ref e,.bool false],[]⟩)) Q E s:=by
 refine wpAny_runValue (jn NK ?_);show A7 _ _ (field (.ref e) 2 >>= _) _ _ s;refine zb (qh he a h2 ?_);exact ze h
theorem NP{e:A1}{x n d:Int}{vs:Array A0}(f:A.handled=Z (.ref e))(he:s.heap.get? e=Z o)(k:o.data=.fields vs)(h2:vs[2]?=Z .none)(c:IsRangeIter s.heap it x n d)(g:n<=0)(q:∀h',Heap.ExtBut it s.heap h'->Q U { s with heap:=h' }):A7 (A8 prog w) A (pyNext (.ref it)) Q E s:=by
 have ty:s.TypeIs (.ref it) "range_iterator":=⟨_,c,rfl⟩;unfold pyNext;refine zb (kU (QQ (name:=Str.ofString "__next__") ty PySem.F.slot_range_iterator_next (Qb PySem.F.slot_range_iterator_next ty PySem.F.entry_range_iterator_next ?_ (PySem.F.args_range_iterator_next_1 _))));show A7 _ _ (field (.ref it) 0 >>= _) _ _ s;refine zb (qh c S (x:=rawInt x) S ?_);show A7 _ _ (field (.ref it) 1 >>= _) _ _ s;refine zb (qh c S (x:=rawInt n) S ?_);show A7 _ _ (field (.ref it) 2 >>= _) _ _ s;refine zb (qh c S (x:=rawInt d) S ?_);show A7 _ _ (if n<=0 then _ else _) _ _ s;rw[zt g];refine zb (kB (zb ?_));show A7 _ _ (newExc (.type "StopIteration") [] >>= _) _ _ _;refine zb ?_;simp only[newExc,newTuple];refine zb (ZT ?_ (by size_fits));refine zb (m:=firstArgMember _ _) (K2 (a:=Value.none) (by first|rfl|(simp only[firstArgMember];rfl)) ?_);refine ZT ?_ (by size_fits);simp only[raiseNew];refine zb (wpAny_handled ?_)
 first|rw[show A.in1.handled=Z (.ref e) from f]|rw[f]
 have lt:=zw he;have sz:(s.heap.push { cls:=.type "tuple",data:=.seq #[] }).objs.size=s.heap.objs.size+1:=by simp[Heap.push]
 dsimp only;rw[zt (show(Value.ref e !=Value.ref (s.heap.push { cls:=.type "tuple",data:=.seq #[] }).objs.size)=true from by
  rw[sz,bne_iff_ne];intro z;injection z with z;rw[z]at lt;exact absurd lt (dw.mpr (JI _)))]
 have i:=zd (h:=s.heap) { cls:=.type "tuple",data:=.seq #[] } he;refine zb (qq (J9 (zd _ i) k h2 ?_));have new:=zr (s.heap.push { cls:=.type "tuple",data:=.seq #[] }) (o:={ cls:=.type "StopIteration",data:=.fields (#[.ref s.heap.objs.size,.none,.none,.none,.bool false,.none]++ownMembersOf (.type "StopIteration") []) }) rfl;unfold updateField;refine zb (zb (yT new ?_));refine J8 (b:=update (s.heap.push { cls:=.type "tuple",data:=.seq #[] }).objs.size (Obj.mapFields λz=>z.setIfInBounds 2 (.ref e))) S (wpAny_update new ?_);refine wpAny_throw ?_;refine zb (Q3 (T :="StopIteration") (b:=true) ⟨_,qB _ new rfl,rfl⟩ isSubtype_stop ?_);refine ze (q _ λb p l eb=>?_);have j:=zw eb;rw[qV _ _ (by rw[sz];exact kl (qA j))];exact zd _ (zd _ eb)
structure Eh (k:Nat) (a:Addr) (A:Around):Prop where
 hd:A.handled=some (.ref a)
 dp:A.depth+3*k+5<recursionLimit
 un:A.units+16*k+200<cLine
theorem Eh.deeper(r:Eh (k+1) a A)(env:Env):Eh k a (A.deeper env):=
 ⟨r.hd,by have:=r.dp;show A.depth+1+3*k+5<_;omega,by have:=r.un;show A.units+3+16*k+200<_;omega⟩
theorem jo.inX(r:jo k A)(a:A1):Eh k a (A.mark (Z (.ref a))):=⟨rfl,r.dp,r.un⟩
abbrev IX(P:A3)(w:A4)(K:B4)(mg:AJ->Y A0)(base:A6)(N:AZ)(qual:AJ)(scope:Scope)(f:A1)(cd:A0)(A:A5)(outer:O Env)(s:A2)(H:Hp):Cx:=
 { sV Ge P w K mg base N qual scope f cd A outer s H E0 with calm:=false,xe:=λ_ _=>False }
theorem UO{h:Y A0}(e:Lb P w K mg base A outer s H):Lb P w K mg base { A with handled:=h } outer s H:=⟨e.frames,e.mod,e.bs,e.Wn,e.vL,e.frf,e.hok,e.bare,e.tabs⟩
theorem QW{f:A1}{cd:A0}{a:A2}(S:bH N ps scope)(e0:Lb P w K mg base A outer s H)(b:vs.length=ps.length)(r:AX vs us)(x:InCallC s s.heap.objs.size (bindL (AK qual scope s.heap.objs.size f cd).kindOf (ps.zip us) λ_=>U) (cellsFrom (s.heap.objs.size+1) scope.names []) (bindC (AK qual scope s.heap.objs.size f cd).kindOf (ps.zip us) λ_=>U) a):
  AU (IX P w K mg base N qual scope f cd A outer s H) [] (start N vs) H a:=by
 have I:AU (sV Ge P w K mg base N qual scope f cd { A with handled:=U } outer s H E0) [] (start N vs) H a:=GR S rfl (UO e0) b r x;exact⟨⟨I.ok.mod,I.ok.kind,I.ok.glob,I.ok.blt,I.ok.above,I.ok.inj,I.ok.has,I.ok.cab,λz=>(by cases z),Around.frames_deeper e0.frames,I.ok.stk,I.ok.exf,I.ok.bs,I.ok.Wn,I.ok.Pk,I.ok.Uc,I.ok.vL,I.ok.frf,I.ok.tabs⟩,I.os,I.bare,I.base,I.loc,I.cell,I.free,I.jj,I.pin,I.hok,I.len⟩
structure Td (P:Program) (w:World) (K:B4) (mg:Str->Option Value) (base:Heap) (k:Nat) (f:Addr) (fd:FuncData) (ps:AZ) (sp:Addr->List V->Hp->VK->Prop):Prop where
 len:∀a vs H Q,sp a vs H Q->vs.length=ps.length
 run:∀(a:Addr) (A:Around) (outer:List Env) (s:Shared) (H:Hp) (args:Args) (us:List Value) (vs:List V) (Q:VK),Eh k a A->Lb P w K mg base A outer s H->BindsTo s fd args (ps.zip us)->AX vs us->sp a vs H Q →
  codeAny (model P w) A (.call (.ref f) args) (CR Ge outer P w H s Q E0) s
theorem G8.okH{f:A1}{sp:A1->O V->Hp->VK->Prop}(F:G8 K x qual st f fd)(S:bH N ps (aM st))(len:∀a vs H Q,sp a vs H Q->vs.length=ps.length)(G:∀(d:A0) (a:A1) (A:A5) (outer:O Env) (s:A2) (H:Hp) (vs:O V) (Q:VK),Eh k a (A.deeper (AK qual (aM st) s.heap.objs.size f d))->sp a vs H Q →
   ∃t,vZ (IX P w K mg base N qual (aM st) f d A outer s H) (gY st) t/\t { nx:=λ_ H'=>Q .non H',rt:=Q } (start N vs) H):Td P w K mg base (k+1) f fd ps sp:=by
 obtain⟨oc,od,kV,a4,pm,X,d,ct,osl,rfl,C,B⟩:=F.ex;refine⟨len,λa A outer s H a3 us vs Q h e0 p r l=>?_⟩;have E:=len _ _ _ _ l;have j:K.In s.heap:=e0.mod.kin.keeps λb o e=>(e0.bs b o e).1;have z:s.heap.NoLimit:=e0.mod.nolimit.keeps λb o e=>(e0.bs b o e).1;have L:∀y∈ps.zip us,(aM st).names.lookup y.1=Z .local\/((aM st).names.lookup y.1=Z .cell/\((cellsFrom (s.heap.objs.size+1) (aM st).names []).lookup y.1).isSome=true):=λ⟨n,v⟩ hy=>by
  rcases S.par n (YA hy).1 with q|q
  ·exact .inl q
  ·exact .inr ⟨q,cellsFrom_some _ _ _ (.inl q)⟩
 refine codeAny_call_function (by have:=h.dp;omega) (j _ _ C) rfl S.co S.gen rfl (codeRec_of j B) (p _ _ _ _ ?_);refine wpAny_newFunctionEnv_cells S.kind L λenv D m x=>?_;subst D;refine⟨z.keeps x.toInCall.keep,codeAny_func ?_⟩;obtain⟨t,M,W⟩:=G d a A outer s H vs Q (h.deeper _) l;have I:=QW (f:=f) (qual:=qual) (cd:=d) S e0 E r x;refine ZY (M [] m (start N vs) H _ I W) (λfl s' c=>?_) λe s' c=>False.elim c;have i:∀{σ':L2.St} {H':Hp} {v:V} {u:A0},AU (IX P w K mg base N qual (aM st) f d A outer s H) [] σ' H' s'->B0 v u->Q v H'->CE outer P w H s Q u s':=
  λ{σ' H' v u} J g q=>⟨v,H',J.os,J.bare,J.base,J.hok,g,q⟩
 cases fl with
 |ret u=>
  obtain⟨v,σ',H',J,g,q⟩:=c;exact i J g q
 |next=>
  obtain⟨σ',H',J,q⟩:=c;exact i (v:=V.non) (u:=Value.none) J rfl q
 |brk=>
  obtain⟨_,_,_,q⟩:=c;exact False.elim q
 |cont=>
  obtain⟨_,_,_,q⟩:=c;exact False.elim q
section
variable{f:A1}{sp:A1->O V->Hp->VK->Prop}{p:Pos}
def Oy(sp:A1->O V->Hp->VK->Prop)(a:A1)(t:TA):TE:=λσ H Q=>t σ H λvs H1=>sp a vs H1 Q
theorem YZ(F:Td X.prog X.w X.K X.mg X.base k f fd ps sp)(i:Eh k a X.A)(j:Gl X x)(l:X.mg x=Z (.ref f))(hk:keepIn X.K (.ref f)=true)(d:BM X.K fd ps [])
  (o:PA X (e::es) t) (n:db x:=by decide) (he:A9 (e::es) X.env=(false,eval e X.env)::A9 es X.env:=by rfl) (g:(AD pos (A9 es X.env)).any (·.1)=false:=by rfl):
  PE X (.Call (.Name x p) (e::es) [] pos) (Oy sp a t):=by
 intro AN s σ H Q I h;refine kQ (wZ I j l ?_ n);refine YO (h₀:=X.base) I.ok.mod.kin hk (ig (o pos AN s σ H _ I h) λus s1 ⟨vs,H1,I1,r,q⟩=>⟨I1.K7,?_⟩) he g;have m:us.length=ps.length:=by rw[<-r.length];exact F.len _ _ _ _ q
 have c:=d s1 us I1.K7 (by rw[JP];exact m);rw[JP]at c;refine yY (Kx (F.run a X.A X.stack s1 H1 ⟨us,[]⟩ us vs Q i I1.env0 c r q) λr s' b=>?_);cases r with
 |error e=>exact False.elim b
 |ok fl=>
  cases fl with
  |ret u=>exact I1.after b
  |next=>exact False.elim b
  |brk=>exact False.elim b
  |cont=>exact False.elim b
end
def LP(e C:A1)(d:Y A1)(lo:Int)(n:Nat):It:=⟨λi _=>i<n,λi H x H'=>H'=H/\x=.int (lo+i),λi H=>n<=i/\H e=Z (Z8 e C d)⟩
abbrev ND(e:A1):A5->Bool->Prop:=λA _=>A.handled=Z (.ref e)
theorem NQ(e C:A1)(d:Y A1)(it:A1)(lo:Int)(n:Nat):LK (ND e) P w K tg (LP e C d lo n) [it] it (λi h=>IsRangeIter h it (lo+(i:Nat)*1) ((n:Int)-(i:Nat)) 1) where
 obj:=λi h st b a=>by
  have e:b=it:=by simpa using a
  subst e;exact⟨_,st,λv z=>by
   have y:Data.fields _=Data.cell v:=z;cases y⟩
 keep:=λi h h' st k=>k it (by simp) _ st
 item:=by
  intro X f m l q i AN s σ H E I c st p;subst f m l;obtain⟨f0,f1,f2,f3,j,g⟩:=c it (by simp);have hi:i<n:=p;refine wpAny_pyNext_range_item st () λh' t x=>?_;have u:IsRangeIter h' it (lo+((i+1:Nat):Int)*1) ((n:Int)-((i+1:Nat):Int)) 1:=by
   have e1:lo+((i+1:Nat):Int)*1=lo+(i:Int)*1+1:=by omega
   have e2:(n:Int)-((i+1:Nat):Int)=(n:Int)-(i:Int)-1:=by omega
   rw[e1,e2];exact t
  refine⟨_,rfl,Cd (n :="range_iterator") t S S () ⟨.int (lo+i),H,I.turned (λb o a e=>x.extBut b o (by simpa using a) e) f0 f1 f3 j g,⟨s.toks,by rw[Int.mul_one]⟩,⟨rfl,rfl⟩,u,λb a=>(c b a).1⟩⟩
 done:=by
  intro X f m l q i AN s σ H E I c st p;subst f m l;obtain⟨f0,f1,f2,f3,j,g⟩:=c it (by simp);obtain⟨D,A⟩:=p;obtain⟨vs,sl,B,h2⟩:=(I.hok e _ A).1;exact NP q B S h2 st () λh' eb=>⟨rfl,I.turned (t':=s.toks) (λb o a e=>eb b o a e) f0 f1 f3 j g⟩
 self:=λ_ _ _ _ _ st h=>wpAny_pyIter_rangeiter st h
theorem B6.aj6{e:A1}{d:Y A1}(lo:Int)(n:Nat)(he:Hs e=Z (Z8 e C d)):B6 K (LP e C d lo n) (xJ lo n) Hs:=λi H s=>by
 obtain⟨y1,y2⟩:=B6.rng (K:=K) (Hs:=Hs) lo n i H s;exact⟨y1,λh=>⟨y2 h,s _ _ he⟩⟩
section
variable{p0 p1:Pos}{xs:AZ}{e:A1}{a:Expr}{ta:TA}
theorem Vu{Q:BA}{lo hi:Int}{t u v:Tok}{tk:Nat}(I:AU X AN σ H s)(h1 : -(2 ^ 62)<=lo)(h2:lo<2 ^ 62)(d : -(2 ^ 62)<=hi)(f:hi<2 ^ 62)(q:∀it c,AU X AN σ H c->IsRangeIter c.heap it (lo+((0:Nat):Int)*1) ((((hi-lo).toNat:Nat):Int)-((0:Nat):Int)) 1->lQ X AN H it->Q (.ref it) c):
  A7 (ii X) X.A (pyIter (.ref s.heap.objs.size)) Q E { s with heap:=s.heap.push { cls:=.type "range",data:=.fields #[.int lo t,.int hi u,.int 1 v] },toks:=tk }:=by
 refine wpAny_pyIter_range (IsRange.new ..) (small_one h1 h2 d f) ?_;have a:AU X AN σ H { s with heap:=s.heap.push { cls:=.type "range",data:=.fields #[.int lo t,.int hi u,.int 1 v] },toks:=tk }:=I.kept λb o e=>zd _ e;refine q _ _ (a.kept (t':=tk) λb o e=>zd _ e) ?_ (a.Ga (zl _) (a.hok.fresh (zl _)));have e1:lo+((0:Nat):Int)*1=lo:=by simp
 have e2:(((hi-lo).toNat:Nat):Int)-((0:Nat):Int)=Builtin.Range.rangeSize lo hi 1:=by rw[rangeSize_one];split<;>omega
 rw[e1,e2];exact zr _ rfl
def fq(K:B4)(e:A1)(gt:Dt->Ev->Y Ev)(p:Ev->Y Bool)(fe:Ev->Y Bx)(is:O Nat)(n j:Nat):TE:=λσ H Q=>∃ ρ C d out,bF K H H σ ρ/\H e=Z (Z8 e C d)/\zU gt p fe (jF is ρ++aw n U) (xJ 0 j)=Z out ∧
 ∀D us H',H D=U->AV H H'->H' D=Z (.lst us)->aP K H' out us->Q (.ref D) H'
theorem Y0(ts:AZ)(j:Nat)(hj:j<=100000)(O:qK X scope cl xs is)(F:X.A.handled=Z (.ref e))(hg:Gl X "range")(hm:X.mg "range"=U)(ha:PA X [a] ta)(G:∀ σ H R,R [V.int j] H->ta σ H R)
  (v:∀C c d fp,F1 (Bt X (xs++ts) scope cl C c d fp) tgt gt) (M:∀C c d fp,CC (Bt X (xs++ts) scope cl C c d fp) ifs p) (k:∀C c d fp,PV (Bt X (xs++ts) scope cl C c d fp) elt fe) (P:D8 is.length (is.length+ts.length) gt)
  (a3:A9 [a] X.env=[(false,eval a X.env)]:=by rfl) (hs:∀x,foldedSetIterable (.Call (.Name "range" p0) [a] [] p1) X.env x=pure x:=by intro _;rfl):
  PE X (.ListComp elt [⟨tgt,.Call (.Name "range" p0) [a] [] p1,ifs,0⟩] scope pos) (fq X.K e gt p fe is ts.length j):=λAN s σ H Q I h=>by
 obtain⟨ρ,L,N,out,E,he,l,q⟩:=h;rw[eval_ListComp];refine KI (use:=U) S hs O.clos O.kind O.names ?_;refine Call_ (wg I hg hm boot_range (PyProof.Rows.callWith_type1 (ig (ha p1 AN s σ H (λvs H1=>vs=[.int j]/\H1=H) I (G _ _ _ ⟨rfl,rfl⟩)) λus s1 ⟨vs,H1,I1,r1,q1⟩=>?_) a3 S));obtain⟨rfl,rfl⟩:=q1;cases r1 with
 |cons r J=>
  cases J;obtain⟨t,rfl⟩:=r;refine call_range_1 (Vu I1 () () () () λit s2 I2 st g=>?_);have ej:(((j:Int)-0).toNat:Nat)=j:=by omega
  rw[ej]at st;refine xK (B:=ND e) (fp:=[it]) (RR:=λy C=>compPost (ii X) X.A X.xe U (EP X AN σ Q) y C) (ts:=ts) (xs:=xs) O F v M k P I2 (E.caps is ts.length) (NQ e L N it 0 j) st (λb f=>by
   have z:b=it:=by simpa using f
   rw[z];exact g) (B6.aj6 0 j he) (by simpa[xJ]using hj) l ?_
  intro D C s' H' us n i g ⟨m,hn⟩ s2' hD' r';refine⟨m,hn,λh' W=>⟨.ref D,H',?_,rfl,q D us H' n s2' hD' r'⟩⟩;obtain⟨f0,f1,f2,f3,u,f5⟩:=g;exact i.turned (t':=s'.toks) (λb o f e=>(W.2 b f).trans e) f0 f1 f3 u f5
end
section
variable{f:AJ}{E:XK}{fs:Ev->Y (O Bx)}{p:Pos}
end
theorem XW.no{E:XK}(h:∀H',AV H0 H'->E (.ref C) U H'):XW K C "" E H0 d:=λdx H' s q=>by
 rw[zt rfl]at q;subst q;exact h H' s
def NT(K:B4)(C:A1)(bmB:O A0)(newId initId:String):Bool:=match K.lookup C with
 |some ⟨.type "type", _,.cls cd,sl⟩=>(match cd.mro,sl.toList with
  |.ref C'::bm,[_,_,_,_,Z (.builtin n),_]=>C'==C&&(n==newId&&(!cd.hasDel&&(PySem.W.tailIn K bmB bm&&findIn K (.ref C) "__init__"==Z (Z (.builtin initId)))))
  |_,_=>false)
 |_=>false
theorem Ka(X:K.In h)(q:NT K C bmB newId initId=true):FD h C bmB newId/\findIn K (.ref C) "__init__"=Z (Z (.builtin initId)):=by
 unfold NT at q;split at q
 ·rename_i v j sl s;split at q
  ·rename_i B w b a i e n d g c;simp only[ZZ,beq_iff_eq,Jn]at q;obtain⟨rfl,rfl,f,y,hi⟩:=q;obtain⟨nm,bs,z,o,k,p,x,sub,u,t,A⟩:=j;dsimp only at g f;subst g f;have m:sl=#[b,a,i,e,Z (.builtin n),d]:=by
    obtain⟨l⟩:=sl;simp only at c;rw[c]
   subst m;exact⟨⟨nm,k,o,bs,w,p,x,sub,u,t,v,b,a,i,e,d,X _ _ s,PySem.W.tail_of_in X y⟩,hi⟩
  ·cases q
 ·cases q
section
variable{g:Array GenState}{d:Drawn}{t:Nat}{AS:O A0}{B:String}
theorem Y4{Q:Fin->A2->Prop}(F:ExcBaseFacts B newId initId bmB)(X:K.In h)(hx:NT K C bmB newId initId=true)(f:AS.length<=AA)
  (I:∀h' t1,(∀b o,h.get? b=Z o->h'.get? b=Z o)->h'.get? (h.objs.size+1)=Z (EB C t1 U)->Q (.done (.ret (.ref (h.objs.size+1)))) ⟨h',g,d,t,os⟩):
  A7 (A8 prog w) A (Builtin.«type.__call__» ⟨.ref C::AS,[]⟩) Q E ⟨h,g,d,t,os⟩:=by
 obtain⟨x,hi⟩:=Ka X hx;obtain⟨nm,q,N,bs,e,y,p,sub,u,l,D,s,i,n,m,j,a,T⟩:=x
 repeat (first|with_reducible refine ym a ?_|with_reducible refine wpAny_madeBy_exc a ?_|wp_step)
 refine codeAny_call_builtin_code (Code.quiet_builtin _ F.quiet) (wpAny_check_new_subT F T a ?_);refine codeAny_exc_new_subT F T a ?_ f;show A7 _ _ _ _ _ _;have kp:∀b o,h.get? b=Z o->((h.push { cls:=.type "tuple",data:=.seq AS.toArray }).push (Tc C h.objs.size)).get? b=Z o:=λb o z=>zd _ (zd _ z);have c:((h.push { cls:=.type "tuple",data:=.seq AS.toArray }).push (Tc C h.objs.size)).get? (h.objs.size+1)=Z (Tc C h.objs.size):=by heap_get
 have H:(Value.ref C::e).contains (.ref C)=true:=by simp
 unfold isInstance
 repeat (first|with_reducible refine ym c ?_|(with_reducible refine wpAny_isSubtype_exc (kp _ _ a) ?_;rw[H])|wp_step)
 show A7 _ _ (typeLookup (.ref C) _) _ _ _;refine(looks_findIn (X.keeps kp) hi).at ?_;refine qq (zb (K2 (F.init.bind _) ?_));have v:FD ((h.push { cls:=.type "tuple",data:=.seq AS.toArray }).push (Tc C h.objs.size)) C bmB newId:=⟨nm,q,N,bs,e,y,p,sub,u,l,D,s,i,n,m,j,kp _ _ a,T.keeps kp⟩;refine zb (UT F v (dx:=U) (t0:=h.objs.size) c f λh' t1 k G _ _=>?_)
 wp_walk
 exact I h' t1 (λb o z=>k b o (ZE (qA (zw z))) (kp b o z)) G
theorem SS{Q:BA}(F:ExcBaseFacts B newId initId bmB)(X:K.In h)(hx:NT K C bmB newId initId=true)(c:AS.length<=AA)
  (f:∀h' t1,(∀b o,h.get? b=Z o->h'.get? b=Z o)->h'.get? (h.objs.size+1)=Z (EB C t1 U)->Q (.ref (h.objs.size+1)) ⟨h',g,d,t,os⟩):
  A7 (A8 prog w) A (call (.ref C) AS) Q E ⟨h,g,d,t,os⟩:=by
 obtain⟨nm,q,N,bs,j,y,s,sub,x,m,z,u,i,p,n,l,a,T⟩:=(Ka X hx).1;have f1:=tc_lookup;have f2:=tc_bind (.ref C);have v:(⟨h,g,d,t,os⟩:A2).TypeIs (.ref C) "type":=⟨_,a,rfl⟩;refine yY (codeAny_of_tree ?_);show A7 _ _ (callAny (.ref C) _) _ _ _
 repeat (any_goals (first|assumption|with_reducible refine ym a ?_|wp_step))
 refine⟨rfl,?_⟩;exact codeAny_call_builtin_at (Code.quiet_builtin _ (by decide +kernel)) entry_typeCall (wpAny_check_type_call_sub a (Y4 F X hx c λh' t1 k e=>f h' t1 k e))
end
section
variable{E:XK}{p:Pos}{B:String}
def TZ(C:A1)(E:XK)(t:TA):TS:=λ_ σ H=>t σ H λvs H1=>vs.length=1/\E (.ref C) U H1
theorem SV(l:ExcBaseFacts B newId initId bmB)(hx:NT X.K C bmB newId initId=true)(N:bmB.contains (.type "BaseException")=true)(hk:keepIn X.K (.ref C)=true)
  (o:jo k X.A) (w:Gl X x) (y:X.mg x=Z (.ref C)) (m:∀e s,RX X E e s->X.xe e s) (Q:PA X (e::es) t)
  (P:db x:=by decide) (hs:A9 (e::es) X.env=(false,eval e X.env)::A9 es X.env:=by rfl) (G:(AD cpos (A9 es X.env)).any (·.1)=false:=by rfl):
  PS X (.Raise (Z (.Call (.Name x p) (e::es) [] cpos)) U pos) (TZ C E t):=by
 intro AN s σ H D I h;rw[arm_exec_Raise];refine zb (kR (Z' (C:=C) (bmB:=bmB) (newId:=newId) N o.hd (zb (ZY ?_ (λv W n=>zb (kR (ze n))) λ_ _ x=>x))));refine kQ (wZ I w y ?_ P);refine YO (h₀:=X.base) I.ok.mod.kin hk (ig (Q cpos AN s σ H _ I h) λus s1 ⟨vs,H1,I1,r,ev,q⟩=>⟨I1.K7,?_⟩) hs G;have F:us.length=1:=r.length.symm.trans ev;have j:H1 (s1.heap.objs.size+1)=U:=I1.hok.fresh (JI _);have L:zy X H1 (s1.heap.objs.size+1):=zy.new (I1.Bl (Wo:=[]) λ_ z=>nomatch z) (JI _);obtain⟨a,g,d,tk,os⟩:=s1;refine SS l I1.K7 hx (by rw[KO,F];decide +kernel) λh' t1 M f=>?_;have i:AU X AN σ (B1 H1 (a.objs.size+1) (IY (a.objs.size+1) C U)) ⟨h',g,d,tk,os⟩:=I1.laid (t':=tk) M (JI _) (Pd f);have J:=AU.abM i aQ;have u:Ah (B1 H1 (a.objs.size+1) (IY (a.objs.size+1) C U)) (a.objs.size+1)=H1:=by
  funext b;unfold Ah;by_cases c:b=a.objs.size+1
  ·rw[zt c,c];exact j.symm
  ·rw[ZA c,aF c]
 rw[u]at J;exact⟨a.objs.size+1,t1,U,rfl,(Ka i.K7 hx).1,f,m _ _ ⟨a.objs.size+1,.ref C,U,σ,_,rfl,J,L,.inl ⟨_,_,f,⟨rfl,rfl⟩⟩,q⟩⟩
theorem Ia(f:ExcBaseFacts B newId initId bmB)(hx:NT X.K C bmB newId initId=true)(m:bmB.contains (.type "BaseException")=true)(hk:keepIn X.K (.ref C)=true)
  (i:jo k X.A) (j:Gl X x) (l:X.mg x=Z (.ref C)) (o:∀e s,RX X E e s->X.xe e s) (he:QV X e fe)
  (n:db x:=by decide) (hs:A9 [e] X.env=(false,eval e X.env)::A9 [] X.env:=by rfl) (g:(AD cpos (A9 [] X.env)).any (·.1)=false:=by rfl):
  HP X C "" E (.Raise (Z (.Call (.Name x p) [e] [] cpos)) U pos) (Ic (λ_=>true) fe):=⟨W6 (SV f hx m hk i j l o (aY he.run cX hs) n hs g) λD σ H h=>by
 obtain⟨H0,ρ,d,Ev,a,w⟩:=h;obtain⟨b,eb,a⟩:=AT a;exact⟨H0,ρ,_,Ev,eb,λv H1 c _ q=>⟨rfl,w U H1 (Ev.base.trans c) (by rw[zt rfl])⟩⟩⟩
end
def EJ(j:Int)(ds:O Dt):O Dt:=(da ds.length).zipWith (λk d=>.tup [.int (j+(k:Nat)),d]) ds
theorem yu(j:Int)(ds:O Dt):(EJ j ds).length=ds.length:=by simp[EJ]
section
variable{p kp cp:Pos}{fs:Ev->Y (O Bx)}{j:Int}{kk:Nat}
end
section
variable{e:α->Dt}
def rW(j:Int)(xs:O α):O (Int×α):=(da xs.length).zipWith (λ(k:Nat) x=>(j+(k:Int),x)) xs
end
section
variable{g:Ev->Y AJ}
variable{e:α->Dt}
end
section
variable{e:α->Dt}{σ' τ:Type}
def qE(e:α->Dt):Y (O α)->Bx
 |none=>.z .non
 |some l=>.o (l.map e)
def F2(e:α->Dt):Y (O α)->Bx
 |none=>.z .non
 |some l=>.l (l.map e)
theorem SD{v:Y (O α)}(h:ρ[i]?=Z (Z (qE e v))):wz ρ i=Z (F2 e v):=by
 unfold wz;rw[h];cases v<;>rfl
def Y5(i:Nat)(e:α->Dt)(v:Y (O α))(h:ρ[i]?=Z (Z (qE e v))):R (gv i) ρ (F2 e):=⟨v,U,λ_=>SD h⟩
class EK (c:Option (List α)->Bx) (e:outParam (α->Dt)):Prop where
 d:∀v,toD (c v)=eO (eL e) v/\lU (c v)=false
instance:EK (qE e) e:=⟨λv=>by cases v<;>exact⟨rfl,rfl⟩⟩
instance:EK (F2 e) e:=⟨λv=>by cases v<;>exact⟨rfl,rfl⟩⟩
instance:EK (zE (eO (eL e))) e:=⟨λv=>⟨rfl,rfl⟩⟩
def Te[DecidableEq α][BD (eO (eL e)) n]{g f:Y (O α)->Bx}[EK g e][EK f e](k:n<=100)(a:R fa ρ g)(b:R fb ρ f):R (b2 Jr fa fb) ρ (zE eB):=⟨!decide (a.v=b.v),bw a.D b.D,λh=>by
 obtain⟨h1,h2⟩:=aD h;have:=BD.dp (e:=eO (eL e)) a.v;obtain⟨i,j⟩:=EK.d (c:=g) (e:=e) a.v;obtain⟨d2,m2⟩:=EK.d (c:=f) (e:=e) b.v;simp only[b2,a.ok h1,b.ok h2,Au,Jr,i,d2,j,m2,zS,or_self,qr,BD.eq];rw[zt ()]⟩
def SY(a:R fa ρ (F2 e)):R (rP BU fa) ρ (zE eB):=⟨a.v.isSome,a.D,λh=>by
 unfold rP b1;rw[a.ok h];cases a.v<;>rfl⟩
end
theorem Vv(l:A1)(items:Array A0)(n:Nat)(a:Y A1)(sl:Array (Y A0)):
  Meets (Builtin.«enumerate.__new__» ⟨[.type "enumerate", .ref l],[]⟩) (λ_ R s=>s.heap.get? l=Z ⟨.type "tuple",a,.seq items n,sl⟩ ∧
   R (.ok (.ret (.ref (s.heap.push { cls:=.type "tuple_iterator",data:=.fields #[.ref l,.int 0 0] }).objs.size)))
    { s with heap:=(s.heap.push { cls:=.type "tuple_iterator",data:=.fields #[.ref l,.int 0 0] }).push { cls:=.type "enumerate",data:=.fields #[.none,.bool false,.ref s.heap.objs.size,rawInt 0,.none,.none] } }):=
 .of_wp λprog w A R s ⟨hl,h⟩=>by
  obtain⟨hp,g,d,tk,os⟩:=s;have b:=sub_enumerate;have m2:Heap.IsTuple (Shared.heap ⟨hp,g,d,tk,os⟩) l items:=⟨_,hl,rfl,n,rfl⟩
  wp_walk using AutoSeq1.wpAny_loadPart' hl
  refine wpAny_stack_any λst=>ze ?_;split
  ·rename_i c _ _ _ _ _;cases(c==Value.type "enumerate")
   ·wp_walk using AutoSeq1.wpAny_loadPart' hl,K0 m2
    exact⟨_,rfl,h⟩
   ·wp_walk using AutoSeq1.wpAny_loadPart' hl,K0 m2
    exact⟨_,rfl,h⟩
  ·wp_walk using AutoSeq1.wpAny_loadPart' hl,K0 m2
   exact⟨_,rfl,h⟩
theorem Y6{Q:BA}(j:s.heap.IsTuple l items)(h:∀h',IsEnum h' (s.heap.objs.size+1) s.heap.objs.size 0 .none->h'.IsTupleIter s.heap.objs.size l 0->(∀b o,s.heap.get? b=Z o->h'.get? b=Z o)->Q (.ref (s.heap.objs.size+1)) { s with heap:=h' }):
  A7 (A8 prog w) A (call (.type "enumerate") [.ref l]) Q E s:=by
 obtain⟨⟨c,g,m,sl⟩,k,f,n,i⟩:=j;cases f;cases i;refine callType_new F.called_enumerate () (F.typeCall_enumerate_1 _) (F.newCall_enumerate_1 _) (λe=>F.args_object_init_2 e _) F.entry_enumerate_new (Vv l items n g sl) ⟨k,?_⟩;have d:(s.heap.push { cls:=.type "tuple_iterator",data:=.fields #[.ref l,.int 0 0] }).objs.size=s.heap.objs.size+1:=qk ..;show _/\_;rw[d];have a:=zr (s.heap.push { cls:=.type "tuple_iterator",data:=.fields #[.ref l,.int 0 0] }) (o:={ cls:=.type "enumerate",data:=.fields #[.none,.bool false,.ref s.heap.objs.size,rawInt 0,.none,.none] }) rfl;rw[d]at a;exact⟨⟨_,a,rfl⟩,h _ a ⟨_,zd _ (zr _ S),rfl,rfl⟩ λb o x=>zd _ (zd _ x)⟩
theorem Y7{e:A1}{j:Int}{x old:A0}{Q:BA}(he:IsEnum s.heap e it j old)(G:s.heap.IsTupleIter it l i)(K:s.heap.IsTuple l items)(hx:items[i]?=Z x)(B:e≠it)(q:∀h',IsEnumOut h' e it (j+1) x s.heap.objs.size->h'.IsTupleIter it l (i+1)->h'.get? s.heap.objs.size=Z { cls:=.type "tuple",data:=.seq #[.int j s.toks,x] }->(∀b o,b≠e->b≠it->s.heap.get? b=Z o->h'.get? b=Z o)->Q (.ref s.heap.objs.size) { s with heap:=h',toks:=s.toks+1 }):
  A7 (A8 prog w) A (Builtin.«enumerate.__next__» ⟨[.ref e],[]⟩) (λJ s'=>∃v,J=.done (.ret v)/\Q v s') E s:=by
 obtain⟨c,g,d,tk,os⟩:=s;have f:it≠e:=Q2 B;show A7 _ _ (field (.ref e) 2 >>= _) _ _ _;refine zb (qh he S (x:=.ref it) S (zb (WO G K hx λa1 it1 (h:Heap.SameBut it c a1)=>?_)));have e1:IsEnum a1 e it j old:=(h.2 e B).trans he;show A7 _ _ (field (.ref e) 3 >>= _) _ _ ⟨a1,g,d,tk,os⟩;refine zb (qh e1 S (x:=rawInt j) S ?_);show A7 _ _ (field (.ref e) 4 >>= _) _ _ ⟨a1,g,d,tk,os⟩;refine zb (qh e1 S (x:=.none) S ?_);show A7 _ _ (mkInt j >>= _) _ _ ⟨a1,g,d,tk,os⟩;refine zb (wpAny_mkInt ?_);show A7 _ _ (setField (.ref e) 3 (rawInt (j+1)) >>= _) _ _ ⟨a1,g,d,tk+1,os⟩;refine zb (KW e1 (by simp) λa2 e2 (t:Heap.SameBut e a1 a2)=>?_);have e2:IsEnum a2 e it (j+1) old:=e2;show A7 _ _ (setField (.ref e) 4 .none >>= _) _ _ ⟨a2,g,d,tk+1,os⟩;refine zb (KW e2 (by simp) λa3 e3 (n:Heap.SameBut e a2 a3)=>?_);have e3:IsEnum a3 e it (j+1) old:=e3;have z3:a3.objs.size=c.objs.size:=by rw[n.1,t.1,h.1]
 show A7 _ _ (newTuple [.int j tk,x] >>= _) _ _ ⟨a3,g,d,tk+1,os⟩;refine zb (wpAny_newTuple ?_);have le:e<c.objs.size:=zw he;obtain⟨a,L,m,F,c4,H⟩:∃a,a3.push { cls:=.type "tuple",data:=.seq #[.int j tk,x] }=a/\IsEnum a e it (j+1) old/\a.get? c.objs.size=Z { cls:=.type "tuple",data:=.seq #[.int j tk,x] }/\(∀b o,b≠e->b≠it->c.get? b=Z o->a.get? b=Z o)/\a.IsTupleIter it l (i+1):=by
  refine⟨_,rfl,zd _ e3,by rw[<-z3];exact zr _ rfl,λb o b1 b2 z=>zd _ (n.extBut b o b1 (t.extBut b o b1 (h.extBut b o b2 z))),?_⟩;obtain⟨o,I,r⟩:=(it1.extBut t.extBut f).extBut n.extBut f;exact⟨o,zd _ I,r⟩
 rw[show({ heap:=a3,gens:=g,drawn:=d,toks:=tk+1,os:=os }:A2).heap.push { cls:=.type "tuple",data:=.seq #[.int j tk,x] }=a from L,show({ heap:=a3,gens:=g,drawn:=d,toks:=tk+1,os:=os }:A2).heap.objs.size=c.objs.size from z3];show A7 _ _ (Builtin.SmallTypes.ownedTupleIsFree (.ref e) >>= _) _ _ ⟨a,g,d,tk+1,os⟩;refine zb ?_;unfold Builtin.SmallTypes.ownedTupleIsFree;refine zb (qh m S (x:=.none) S (ze ?_));simp only[jb];refine zb (kB (zb (qh m S (x:=old) S (zb (KW m (by simp) λa5 u (C:Heap.SameBut e a a5)=>?_)))));have u:IsEnum a5 e it (j+1) x:=u;show A7 _ _ (Builtin.SmallTypes.ownedTupleHandOut (.ref e) (.ref c.objs.size) >>= _) _ _ ⟨a5,g,d,tk+1,os⟩;refine zb ?_;unfold Builtin.SmallTypes.ownedTupleHandOut;refine zb (KW u (by simp) λa6 p (y:Heap.SameBut e a5 a6)=>?_);have p:IsEnumOut a6 e it (j+1) x c.objs.size:=p;refine KW p (by simp) λa7 e7 (D:Heap.SameBut e a6 a7)=>?_;have kk:∀b o,b≠e->a.get? b=Z o->a7.get? b=Z o:=λb o k z=>D.extBut b o k (y.extBut b o k (C.extBut b o k z));exact zb (wpAny_letGo (ze ⟨_,rfl,q a7 e7 (((H.extBut C.extBut f).extBut y.extBut f).extBut D.extBut f) (kk _ _ (kl le) F) λb o b1 b2 z=>kk b o b1 (c4 b o b1 b2 z)⟩))
theorem Y8{e:A1}{j:Int}{x old:A0}(he:IsEnum s.heap e it j old)(h:s.heap.IsTupleIter it l i)(g:s.heap.IsTuple l items)(hx:items[i]?=Z x)(f:e≠it)(q:∀h',IsEnumOut h' e it (j+1) x s.heap.objs.size->h'.IsTupleIter it l (i+1)->h'.get? s.heap.objs.size=Z { cls:=.type "tuple",data:=.seq #[.int j s.toks,x] }->(∀b o,b≠e->b≠it->s.heap.get? b=Z o->h'.get? b=Z o)->Q (Z (.ref s.heap.objs.size)) { s with heap:=h',toks:=s.toks+1 }):
  A7 (A8 prog w) A (pyNext (.ref e)) Q E s:=by
 have d:s.TypeIs (.ref e) "enumerate":=⟨_,he,rfl⟩;unfold pyNext;exact zb (kU (QQ (name:=Str.ofString "__next__") d yA (Qb yA d F.entry_enumerate_next (Y7 he h g hx f λh' a b c k=>ze (q h' a b c k)) (F.args_enumerate_next_1 _))))
theorem bo{e:A1}{j:Int}{old:A0}(c:A.handled=U)(he:IsEnum s.heap e it j old)(f:s.heap.IsTupleIter it l i)(d:s.heap.IsTuple l items)(hx:items[i]?=U)(q:∀h',Heap.ExtBut it s.heap h'->Q U { s with heap:=h' }):A7 (A8 prog w) A (pyNext (.ref e)) Q E s:=by
 have a:s.TypeIs (.ref e) "enumerate":=⟨_,he,rfl⟩;unfold pyNext;refine zb (kU (QQ (name:=Str.ofString "__next__") a yA (Qb yA a F.entry_enumerate_next ?_ (F.args_enumerate_next_1 _))));show A7 _ _ (field (.ref e) 2 >>= _) _ _ _;refine zb (qh he S (x:=.ref it) S (zb (QD c f d hx λh' x he' ⟨o,ho,hc⟩=>?_)));exact zb (Q3 (T :="StopIteration") (b:=true) ⟨o,ho,hc⟩ isSubtype_stop (ze (q _ he')))
def HQ(K:B4)(l:A1)(j:Int):It:=
 ⟨λi H=>∃xs x,sO K H l xs/\xs[i]?=Z x,λi H v H'=>∃p x,H p=U/\(∀xs,sO K H l xs->xs[i]?=Z x)/\v=.ref p/\H'=B1 H p (.tup [.int (j+i),x]),λi H=>∃xs,sO K H l xs/\xs.length<=i⟩
theorem Y9(l e it:A1)(j:Int)(C:e≠it):
  C9 P w K (.Tuple elts x1 tpos) (HQ K l j) [e,it] e (λi h=>(∃old,IsEnum h e it (j+(i:Nat)) old)/\h.IsTupleIter it l i) where
 mem:=by simp
 obj:=λi h st b a=>by
  obtain⟨⟨old,h1⟩,o,h2,_,Q⟩:=st;rcases List.mem_cons.mp a with rfl|a
  ·exact⟨_,h1,λv z=>by cases z⟩
  ·cases au.mp a;exact⟨o,h2,λv z=>by rw[Q]at z;cases z⟩
 keep:=λi h h' st k=>by
  obtain⟨⟨old,h1⟩,h2⟩:=st;exact⟨⟨old,k e (by simp) _ h1⟩,h2.at λo q=>k it (by simp) o q⟩
 item:=by
  intro X f n g D i AN s σ H E I c st y;subst f n g;obtain⟨⟨old,h1⟩,h2⟩:=st;obtain⟨xs,x,d,hx⟩:=y;obtain⟨AQ,t,p,N⟩:=I.tuple d;obtain⟨u,L,ru⟩:=t.get hx;have fe:=c e (by simp);have fi:=c it (by simp);refine Y8 h1 h2 (show s.heap.IsTuple l AQ.toArray from p) (x:=u) (by simpa using L) C λa4 ho a3 hT hk=>⟨_,rfl,?_⟩;refine wpAny_letOwnedTupleGo_enum ho λF G m=>?_;have elt:e<s.heap.objs.size:=zw h1;have M:it<s.heap.objs.size:=by obtain⟨_,q,_⟩:=h2;exact zw q
  have J:F.get? s.heap.objs.size=Z { cls:=.type "tuple",data:=.seq #[.int (j+(i:Nat)) s.toks,u] }:=(m.2 _ (kl elt)).trans hT;have A:F.IsTupleIter it l (i+1):=a3.at λo q=>(m.2 it (Q2 C)).trans q;have ej:j+(i:Nat)+1=j+((i+1:Nat):Int):=by omega
  refine⟨.ref s.heap.objs.size,B1 H s.heap.objs.size (.tup [.int (j+i),x]),Tk (t':=s.toks+1) I (λb o B n2 q=>(m.2 b B).trans (hk b o B n2 q)) fe fi ⟨_,G⟩ (by obtain⟨o,q,_⟩:=A;exact⟨o,q⟩) ?_,rfl,⟨_,x,I.hok.fresh (zl _),λys hy=>by rw[I.yP hy d];exact hx,rfl,rfl⟩,⟨⟨_,by rw[<-ej];exact G⟩,A⟩,λb a=>?_⟩
  ·exact⟨by show 2<=AA;decide,[.int (j+(i:Nat)) s.toks,u],.cons ⟨_,rfl⟩ (.cons ru .nil),_,J,rfl,⟨_,rfl⟩,rfl⟩
  ·rcases List.mem_cons.mp a with rfl|a
   ·rw[aF (ZE elt)];exact fe.1
   ·cases au.mp a;rw[aF (ZE M)];exact fi.1
 done:=by
  intro X f n g D i AN s σ H E I c st y;subst f n g;obtain⟨⟨old,h1⟩,h2⟩:=st;obtain⟨xs,d,hx⟩:=y;obtain⟨AQ,t,p,N⟩:=I.tuple d;obtain⟨f0,f1,f2,f3,W,f5⟩:=c it (by simp);have hl:=t.length;exact bo (I.ok.hd D) h1 h2 (show s.heap.IsTuple l AQ.toArray from p) (by simp;omega) λh' eb=>⟨rfl,I.turned (t':=s.toks) (λb o a e=>eb b o a e) f0 f1 f3 W f5⟩
 self:=λ_ _ _ _ _ st h=>by
  obtain⟨⟨old,h1⟩,_⟩:=st;exact wpAny_pyIter_enum h1 h
theorem B6.enT(j:Int)(h:sO K Hs l vs)(r:aP K Hs ds vs):B6 K (HQ K l j) (P1.EJ j ds) Hs:=λi H s=>by
 have h':=Kp.sqT (.of s) h;have c:=r.kp (.of s);refine⟨λd e=>?_,λe=>⟨vs,h',by rw[yu]at e;rw[r.length];exact e⟩⟩;have hi:i<ds.length:=by
  have:=(ay.mp e).1;rwa [yu]at this
 have f:ds[i]?=Z ds[i]:=by simp[hi]
 unfold P1.EJ at e;rw[List.getElem?_zipWith]at e;simp[hi]at e;subst e;obtain⟨v,ev,g⟩:=c.get f;refine⟨⟨vs,v,h',ev⟩,λx H' y=>?_⟩;obtain⟨p,m,hp,k,rfl,rfl⟩:=y;have:=k vs h';rw[ev]at this;cases this;have a:AV H (B1 H p (.tup [.int (j+i),v])):=λb o q=>by rw[aF (bf q hp)];exact q
 refine⟨a,?_⟩;simp only[AW];exact⟨p,_,rfl,.inl (.inl aQ),aP.cons (by simp only[AW]) (aP.cons (AW.kp (.of a) g) aP.nil)⟩
section
variable{p:Pos}{fs:Ev->Y (O Bx)}
def VW(K:B4)(ta:TA):TI:=λσ H R=>ta σ H λvs H1=>∃l,vs=[.ref l]/\(∃xs,sO K H1 l xs)/\R (HQ K l 0) H1
theorem Wl{ta:TA}(g:Gl X "enumerate")(i:X.mg "enumerate"=U)(j:PA X [e] ta)(hs:A9 [e] X.env=[(false,eval e X.env)]:=by rfl):PI X (.Tuple elts x1 tpos) (.Call (.Name "enumerate" p) [e] [] pos) (VW X.K ta):=by
 intro AN s σ H R I h;refine Call_ (wg I g i boot_enumerate (PyProof.Rows.callWith_type1 (ig (j pos AN s σ H _ I h) λus s1 ⟨vs,H1,I1,r1,q1⟩=>?_) hs S));obtain⟨l,rfl,⟨xs,k⟩,q⟩:=q1;obtain⟨u,rfl,d⟩:=BH r1;cases d;obtain⟨AQ,n,p,m⟩:=I1.tuple k;refine Y6 (show s1.heap.IsTuple l AQ.toArray from p) λh' c f hk=>?_;refine wpAny_pyIter_enum c ?_;refine⟨s1.heap.objs.size+1,[s1.heap.objs.size+1,s1.heap.objs.size],_,_,H1,rfl,I1.kept (t':=s1.toks) hk,Y9 l _ _ 0 (kl (QY _)),⟨⟨_,by rw[show(0:Int)+((0:Nat):Int)=0 by simp];exact c⟩,f⟩,λb a=>?_,q⟩;rcases List.mem_cons.mp a with rfl|a
 ·exact I1.Ga (JI _) (I1.hok.fresh (JI _))
 ·cases au.mp a;exact I1.Ga (zl _) (I1.hok.fresh (zl _))
def GA:O Bx->Y (O Dt)
 |[.z (.tup ds)]=>Z (EJ 0 ds)
 |_=>U
theorem UY(i:Gl X "enumerate")(j:X.mg "enumerate"=U)(k:Wa X [e] fs)(hs:A9 [e] X.env=[(false,eval e X.env)]:=by rfl):EV X (.Tuple elts x1 tpos) (.Call (.Name "enumerate" p) [e] [] pos) (λρ=>(fs ρ).bind GA):=⟨λAN s σ H R I q=>by
 refine Wl i j k.run hs AN s σ H R I ?_;obtain⟨H0,ρ,ds,E,e,q⟩:=q;obtain⟨bs,eb,e⟩:=AT e;refine⟨H0,ρ,bs,E,eb,λvs H1 d h=>?_⟩;unfold GA at e;split at e
 ·rename_i l;cases e;obtain⟨v,rfl,b⟩:=BT h;simp only[aX,AW]at b;obtain⟨a,g,rfl,c,f⟩:=b;exact⟨a,rfl,⟨g,c⟩,q _ _ d (.enT 0 c f)⟩
 ·cases e⟩
end
section
variable{e:α->Dt}
def L8(fs:Ev->Y (O Bx)):Ev->Y (O Dt):=λρ=>(fs ρ).bind GA
def VA(a:R fa ρ (zE (eT e))):R (L8 (aq fa aK)) ρ (iE (DJ eI e)):=⟨rW 0 a.v,a.D,λh=>by
 have b:EJ 0 (a.v.map e)=(rW 0 a.v).map (DJ eI e):=by
  unfold EJ rW;rw[zk,List.zipWith_map_right,List.map_zipWith]
 simp only[L8,aq,aK,a.ok h,Au,zE,eT,GA,b]⟩
end
section
variable{e:α->Dt}
end
section
variable{AS:O AB}{ga:Ev->Y As}
end
section
variable{f:A1}{Fa Fb:O Bx->Y Bx}{p spos:Pos}{fs:Ev->Y (O Bx)}
end
section
variable{e:α->Dt}
end
end P1
namespace P1
open L2 S1 S6
section
variable{e:α->Dt}
end
end P1
namespace P1
open L2
section
variable{e:α->Dt}
end
def yw(AQ:Nat->Array A0):Nat->Array A0
 |0=>#[]
 |j+1=>yw AQ j++AQ j
theorem Vw(a b:A0):argsOk "sum" ⟨[a,b],[]⟩:=by unfold argsOk;kernel_rfl
section
variable{R:Result->A2->Prop}{I:A1}{wr:O A1}{P:Nat->A0->Prop}{St:Nat->A6->Prop}
theorem Vx{b:A1}{AQ a:Array A0}{Q:BA}(d:IsL s.heap l AQ m)(e:PlainL s.heap b a)(g:AQ.size+a.size<=AA)(h:Q (.ref s.heap.objs.size) { s with heap:=s.heap.push { cls:=.type "list",data:=.seq (AQ++a) } }):A7 (A8 prog w) A (binaryOp .Add (.ref l) (.ref b)) Q E s:=by
 obtain⟨⟨cls2,k,j,i⟩,f,e2,c2,d2,c⟩:=e;simp only at c2 d2 c;subst c2 d2 c;exact concat_meets ⟨_,d,rfl⟩ ⟨_,e2,rfl⟩ noFill_list_add seq_list_add PySem.F.slot_list_add PySem.F.entry_list_add (PySem.F.args_list_add_2 _ _) (list_addW l b AQ a m f U U #[] i g) ⟨d,e2,h⟩
theorem QX{h':A6}{AQ:Array A0}(p:PlainL h a AQ)(k:∀o,h.get? a=Z o->h'.get? a=Z o):PlainL h' a AQ:=by
 obtain⟨o,m,e,c⟩:=p;exact⟨o,m,k o e,c⟩
theorem Vy(W:Walks prog w A.in1 I fp wr n P St)(f:Nat->A1)(AQ:Nat->Array A0)(d2:∀i v,P i v->v=.ref (f i))(S T0:A1)(Q:S∉fp)(G:A6)(z0:Nat)(d1:∀i h,St i h->∀b∈wr,b<h.objs.size)(d3:∃b∈wr,z0<=b)
  (b6:∀i,i<n->f i∉wr/\f i≠S/\PlainL G (f i) (AQ i)) (hsz:∀j,j<n->(yw AQ j).size+(AQ j).size<=AA):
  ∀(k i:Nat) (s:A2) (T:A1) (m c:Nat),n-i=k->i<=n->St i s.heap->s.heap.get? S=Z { cls:=.type "list",dict:=U,data:=.seq #[.ref T] c,slots:=#[] }->IsL s.heap T (yw AQ i) m->T≠S->T∉wr->(i=0/\T=T0\/z0<=T) →
  (∀b o,b∉wr->b≠S->G.get? b=Z o->s.heap.get? b=Z o) →
  (∀h' tk p m',(∀b o,b∉wr->b≠S->G.get? b=Z o->h'.get? b=Z o)->IsL h' p (yw AQ n) m'->(n=0/\p=T0\/z0<=p)->R (.ok (.ret (.ref p))) { s with heap:=h',toks:=tk }) →
  AF (A8 prog w) A (.builtin "sum.loop" ⟨[.ref I,.ref S,rawInt 2,rawInt 0],[]⟩) R s:=by
 have b4:S∉wr:=λh=>Q (W.sub _ h);intro k
 induction k with
 |zero=>
  intro i s T m c hk hi B t E b3 y N q D;have b0:i=n:=by omega
  subst b0;refine jn F.entry_sum_loop ?_;rw[Around.under_plainId xh _];show A7 _ A.in1 (seqItems? (.ref S) >>= _) _ _ s;refine zb (wpAny_seqItems t rfl ?_);show A7 _ A.in1 (tryCatch (pyNext (.ref I)) _ >>= _) _ _ s;refine zb (wpAny_tryCatch (W.done s _ _ B λh' tk d=>?_));exact ze (D h' tk T m (λb o g u e=>d b o g (q b o g u e)) (d _ _ y E) N)
 |succ k ih=>
  intro i s T m c hk hi B t E b3 y N q D;have l:i<n:=by omega
  refine jn F.entry_sum_loop ?_;rw[Around.under_plainId xh _];show A7 _ A.in1 (seqItems? (.ref S) >>= _) _ _ s;refine zb (wpAny_seqItems t rfl ?_);show A7 _ A.in1 (tryCatch (pyNext (.ref I)) _ >>= _) _ _ s;refine zb (wpAny_tryCatch (W.item i s _ _ l B λv h' tk hP M d=>?_));have hv:=d2 i v hP;subst hv;obtain⟨H,l2,l3⟩:=b6 i l;have C:=d S _ b4 t;have a4:IsL h' T (yw AQ i) m:=d _ _ y E;have a5:PlainL h' (f i) (AQ i):=QX l3 λo e=>d _ _ H (q _ _ H l2 e);have L:=d1 _ _ M;have a7:z0<=h'.objs.size:=by
   obtain⟨b,a,z⟩:=d3;exact Q1 (JY z (L b a))
  show A7 _ A.in1 ((holding [Value.ref (f i)] (binaryOp .Add (.ref T) (.ref (f i)))).attempt >>= _) _ _ _;refine zb (kU (qq (Vx a4 a5 (hsz i l) ?_)));have X:∀(o:AE),h'.get? S=Z o->(h'.push { cls:=.type "list",data:=.seq (yw AQ i++AQ i) }).get? S=Z o:=λo e=>zd _ e;show A7 _ A.in1 (updateSeq S (λ_=>#[.ref h'.objs.size]) >>= _) _ _ _;refine zb ?_;refine wpAny_updateSeq (X _ C) rfl ?_;have K:=qB (Obj.mapSeq λ_=>#[Value.ref h'.objs.size]) (X _ C) rfl;refine zb (wpAny_letGo ?_);refine zb ?_;have x:h'.objs.size≠S:=kl (zw C);have J:∀(b:A1) (o:AE),b≠S->h'.get? b=Z o->(((h'.push { cls:=.type "list",data:=.seq (yw AQ i++AQ i) }).update S (Obj.mapSeq λ_=>#[Value.ref h'.objs.size])).update S (Obj.mapSeq λ_=>#[Value.ref h'.objs.size])).get? b=Z o:=λb o a e=>(qV _ _ (Q2 a)).trans ((qV _ _ (Q2 a)).trans (zd _ e));refine wpAny_updateSeq K rfl (ze ⟨plainId_quiet xh _,ih (i+1) _ h'.objs.size 0 _ () l (W.frame _ _ _ M λb a o e=>?_) (qB _ K rfl) ?_ x ?_ (.inr a7) (λb o g u e=>J b o u (d b o g (q b o g u e))) λb5 d0 a6 c5 a1 a2 a3=>?_⟩)
  ·exact J b o (λh:b=S=>Q (by rw[<-h];exact a)) e
  ·exact(qV _ _ (Q2 x)).trans ((qV _ _ (Q2 x)).trans (zr _ rfl))
  ·exact λa=>QU _ (L _ a)
  ·exact D b5 d0 a6 c5 a1 a2 a3
theorem Vz:isSubtype (.type "list") (.type "str")=pure false:=by rw[isSubtype_type];kernel_rfl
theorem NZ:isSubtype (.type "list") (.type "bytes")=pure false:=by rw[isSubtype_type];kernel_rfl
theorem Bg:isSubtype (.type "list") (.type "bytearray")=pure false:=by rw[isSubtype_type];kernel_rfl
theorem VB{x:A0}{T0 m0:Nat}{Q:BA}
  (h:A7 (A8 prog w) A.in1 (pyIter x) (λit a=>∃(I:A1) (fp wr:O A1) (n:Nat) (P:Nat->A0->Prop) (St:Nat->A6->Prop) (d:Nat->A1) (AQ:Nat->Array A0) (z0:Nat),it=.ref I/\Walks prog w A.in1 I fp wr n P St/\St 0 a.heap/\(∀b∈fp,b<a.heap.objs.size) ∧
   (∀i v,P i v->v=.ref (d i))/\(∀i h,St i h->∀b∈wr,b<h.objs.size)/\(∃b∈wr,z0<=b)/\(IsL a.heap T0 #[] m0/\T0∉wr) ∧
   (∀i,i<n->d i∉wr/\PlainL a.heap (d i) (AQ i))/\(∀j,j<n->(yw AQ j).size+(AQ j).size<=AA) ∧
   ∀h' tk c f,(∀b o,b∉wr->a.heap.get? b=Z o->h'.get? b=Z o)->IsL h' c (yw AQ n) f->(n=0/\c=T0\/z0<=c)->Q (.ref c) { a with heap:=h',toks:=tk }) E s):
  A7 (A8 prog w) A (call (.builtin "sum") [x,.ref T0]) Q E s:=by
 refine call_function_tree F.kind_sum F.plain_sum F.entry_sum (Vw _ _) ?_;unfold Builtin.«sum»;simp only[Qr,iP];rw[ZA ()];refine zb (K2 (show Builtin.Builtins.bindParams "sum" ["start"] 0 ⟨[.ref T0],[]⟩=pure [Z (.ref T0)] from S) ?_);refine zb (ZY h (λit a y=>?_) λ_ _ e=>e);obtain⟨I,fp,wr,n,P,St,d,AQ,z0,rfl,W,z,q,G,B,H,⟨k,p⟩,g,D,m⟩:=y;have ty:a.TypeIs (.ref T0) "list":=⟨_,k,rfl⟩;refine zb (ze ?_);simp only[List.forIn_cons,List.forIn_nil];refine zb (zb (zb (Q3 (T :="list") (b:=false) ty Vz ?_)));simp only[zS,qr];refine ze (zb (zb (Q3 (T :="list") (b:=false) ty NZ ?_)));simp only[zS,qr];refine ze (zb (zb (Q3 (T :="list") (b:=false) ty Bg ?_)));simp only[zS,qr];refine ze (ze ?_);refine zb (ZT ?_);have t:a.heap.objs.size∉fp:=λu=>QU _ (q _ u);refine ze ⟨plainId_quiet xh _,Vy W d AQ G a.heap.objs.size T0 t a.heap z0 B H (λi hi=>⟨(g i hi).1,?_,(g i hi).2⟩) D n 0 _ T0 m0 0 S (QR _)
  (W.frame _ _ _ z λb _ o e=>zd _ e) (zr _ S) (zd _ k) (ZE (zw k)) p (.inl ⟨rfl,rfl⟩) (λb o _ _ e=>zd _ e) λh' tk c f hk a2 l=>?_⟩
 ·obtain⟨o,_,e,_⟩:=(g i hi).2;exact ZE (zw e)
 ·exact m h' tk c f (λb o C e=>hk b o C (ZE (zw e)) e) a2 l
end
def Ib:O Dt->Y (O (O Dt))
 |[]=>Z []
 |.lst xs::r=>(Ib r).bind λks=>Z (xs::ks)
 |_=>U
def N5:O Bx->Y Bx
 |[b,.o []]=>(qe b).bind λds=>(Ib ds).bind λks=>if ks.length<=1000/\ks.flatten.length<=100000 then Z (.l ks.flatten)else U
 |_=>U
theorem Ei{AN:O (A1×AE)}{σ:L2.St}{H:Hp}{s:A2}(I:L2.AU X AN σ H s):∀{ds:O Dt} {ks:O (O Dt)} {vs:O V} {AQ:O A0},Ib ds=Z ks->aP X.K H ds vs->AX vs AQ →
  ∃(as:O A1) (c:O (O A0)) (us:O V),AQ=as.map Value.ref/\as.length=c.length/\as.length=ks.length/\aP X.K H ks.flatten us/\AX us c.flatten/\∀(i:Nat) (a:A1),as[i]?=Z a->∃it:O A0,c[i]?=Z it/\PlainL s.heap a it.toArray
 |[],ks,vs,AQ,e,r,w=>by
  cases e;simp only[aP]at r;subst r;cases w;exact⟨[],[],[],rfl,rfl,rfl,by simp only[iq,aP],.nil,λi a h=>by simp at h⟩
 |d::ds,ks,vs,AQ,e,r,w=>by
  cases d with
  |lst xs=>
   simp only[Ib]at e;obtain⟨x,e1,e2⟩:=AT e;cases e2;obtain⟨g,f,rfl,q,t⟩:∃g f,vs=g::f/\AW X.K H (.lst xs) g/\aP X.K H ds f:=by
    simpa only[aP]using r
   simp only[AW]at q;obtain⟨a,u,rfl,fz,j⟩:=q;cases w with
   |cons v k=>
    cases v;obtain⟨as,c,us,rfl,p,n,o,l,h2⟩:=Ei I e1 t k;obtain⟨it,m,pl,_⟩:=I.list fz.sq;refine⟨a::as,it::c,u++us,rfl,by simp[p],by simp[n],?_,?_,λi b h=>?_⟩
    ·rw[Zp];exact j.append o
    ·rw[Zp];exact m.append l
    ·cases i with
     |zero=>simp at h;subst h;exact⟨it,rfl,pl⟩
     |succ i=>simpa using h2 i b (by simpa using h)
  |_=>cases e
theorem Ej(a:O (O A0)):∀n,n<=a.length->yw (λi=>(a.getD i []).toArray) n=(a.take n).flatten.toArray
 |0,_=>by simp[yw]
 |n+1,h=>by
  have b:n<a.length:=by omega
  have e:a.getD n []=a[n]:=by simp[b]
  rw[yw,Ej a n (),e,yv b,JE];simp only[Zp,iq,JP];exact List.append_toArray _ _
theorem WU(N:X.calm=true):oY X (.builtin "sum") N5:=by
 intro AN s σ H xs us Q I r h;obtain⟨bs,c,rb,e,q⟩:=h;unfold N5 at e;split at e
 ·obtain⟨ds,F,e⟩:=AT e;obtain⟨ks,ek,e⟩:=AT e;split at e
  ·rename_i b0;cases e;obtain⟨v,v2,rfl,G,r2⟩:=Dx rb;obtain⟨a,vs,rfl,sq,rs⟩:=G.Gf F;obtain⟨T0,a7,rfl,C,x⟩:=r2;simp only[aP]at x;subst x;obtain⟨u,u2,rfl,ru,a3⟩:=CM r;cases ru;cases a3;obtain⟨AQ,w,pl,hz⟩:=I.list sq;obtain⟨zT,L,J,wT,lT,eT⟩:=I.WX C;have a6:L=[]:=by cases wT;rfl
   subst a6;obtain⟨as,d,l,rfl,y,l2,B,t,M⟩:=Ei I ek rs w;have z:a<s.heap.objs.size:=by obtain⟨o,n,e,_⟩:=pl;exact zw e
   have Za:d.flatten.length<=100000:=by
    have e1:l.length=ks.flatten.length:=B.length;have e2:l.length=d.flatten.length:=t.length;omega
   have av:∀(i:Nat) (v:A0),(as.map Value.ref).toArray[i]?=Z v->v=.ref (as.getD i 0):=λi v p=>by
    rw[List.getElem?_toArray,Zs]at p;rw[JA];cases h:as[i]? with
    |none=>rw[h]at p;cases p
    |some b=>rw[h]at p;cases p;rfl
   have sz:(as.map Value.ref).toArray.size=d.length:=by simp[y]
   refine VB (T0:=T0) (m0:=J) (yi pl.isList ?_);refine⟨s.heap.objs.size,_,_,_,_,_,λi=>as.getD i 0,λi=>(d.getD i []).toArray,s.heap.objs.size,rfl,Walks.list (by show X.A.handled=U;exact I.ok.hd N) s.heap.objs.size a (ZE z) (as.map Value.ref).toArray,⟨⟨_,zr _ rfl,rfl,rfl⟩,pl.isList.push _⟩,?_,av,?_,⟨s.heap.objs.size,au.mpr rfl,zl _⟩,⟨zd _ eT,?_⟩,λi hi=>?_,λj hj=>?_,λh' tk g K k e1 e2=>?_⟩
   ·intro b f;have a5:(s.heap.push { cls:=.type "list_iterator",data:=.fields #[.ref a,.int 0 0] }).objs.size=s.heap.objs.size+1:=qk ..;simp only[ja,jv,or_false]at f;show b<(s.heap.push { cls:=.type "list_iterator",data:=.fields #[.ref a,.int 0 0] }).objs.size;rw[a5];rcases f with rfl|rfl
    ·exact QY _
    ·exact qA z
   ·intro i h ⟨⟨o,ho,_⟩,_⟩ b f;cases au.mp f;exact zw ho
   ·exact λf=>QU _ (by have:=zw eT;rw[au.mp f]at this;exact this)
   ·rw[sz,<-y]at hi;obtain⟨it,e1,p1⟩:=M i as[i] (zo hi);have ga:as.getD i 0=as[i]:=by simp[hi]
    have P:d.getD i []=it:=by rw[JA,e1];rfl
    dsimp only;rw[ga,P];obtain⟨o,m,e,c⟩:=p1;exact⟨λf=>QU _ (by have:=zw e;rw[au.mp f]at this;exact this),o,m,zd _ e,c⟩
   ·rw[sz]at hj;have e1:=Ej d (j+1) ();have e2:((d.take (j+1)).flatten).length<=d.flatten.length:=by
     conv=>rhs;rw[<-List.take_append_drop (j+1) d]
     rw[JE,zC];omega
    have e3:(yw (λi=>(d.getD i []).toArray) (j+1)).size<=100000:=by rw[e1,zv];omega
    rw[yw,ku]at e3;have:(100000:Nat)<=AA:=by decide
    dsimp only;omega
   ·rw[sz,Ej d d.length (zl _),ir]at e1;rw[sz]at e2;have keep:∀b o,s.heap.get? b=Z o->h'.get? b=Z o:=λb o e=>k b o (λf=>QU _ (by have:=zw e;rw[au.mp f]at this;exact this)) (zd _ e);rcases e2 with⟨W,rfl⟩|e2
    ·have hi:d=[]:=cb.mp W;have hk:ks=[]:=cb.mp ();subst hk;refine⟨.ref g,H,I.kept (t':=tk) keep,rfl,q _ H (AV.refl H) trivial ⟨g,[],rfl,.inl C,by simp only[iq,aP]⟩⟩
    ·have E:H g=U:=I.hok.fresh e2;have a4:l.length<=AA:=by
      have:(100000:Nat)<=AA:=by decide
      have:=t.length;omega
     have D:AV H (B1 H g (.lst l)):=bD E;exact⟨.ref g,_,I.laid (t':=tk) (o:=.lst l) keep e2 ⟨a4,_,K,t,e1⟩,rfl,q _ _ D trivial ⟨g,l,rfl,.inl aQ,B.kp (.of D)⟩⟩
  ·cases e
 ·cases e
section
variable{e:α->Dt}
theorem Ie(e:α->Dt):∀xs:O (O α),Ib (xs.map (eL e))=Z (xs.map λl=>l.map e)
 |[]=>rfl
 |x::xs=>by simp only[Zl,eL,Ib,Ie e xs,Au]
def ci(a:RL fa ρ (eL e)):R (bI N5 (aq fa (aq (bI gM aK) aK))) ρ (lE e):=⟨a.v.flatten,bw a.D (Z (a.v.length<=1000/\a.v.flatten.length<=100000)),λh=>by
 obtain⟨h1,h2⟩:=aD h;obtain⟨h2,b⟩:a.v.length<=1000/\a.v.flatten.length<=100000:=h2;have e1:((a.v.map λl=>l.map e).flatten)=a.v.flatten.map e:=by rw[List.map_flatten]
 have e2:bI gM aK ρ=Z (.o []):=rfl;simp only[bI,aq,aK,a.ok h1,Au];have c:(a.v.map λl=>l.map e).length<=1000/\((a.v.map λl=>l.map e).flatten).length<=100000:=by
  rw[e1,zk,zk];exact⟨h2,b⟩
 have e3:gM []=Z (.o []):=rfl;simp only[e3,Au];simp only[N5,a.lk,Au,Ie];rw[zt c,e1]⟩
end
def D6{α:Type}:O α->O α
 |[]=>[]
 |x::xs=>x::D6 (xs.drop 5)
termination_by l=>l.length
decreasing_by simp;omega
section
variable{st:Expr}{fs:Ev->Y Bx}
end
section
variable{e:α->Dt}
end
section
variable{AS:O AB}{W:O Nat}
end
section
variable{e:α->Dt}
end
section
variable{st:O AB}{fr:Ev->Y Bx}{W:O Nat}{z:Pos}{Φ:Hp->Hp->L2.St->Ev->Prop}
end
section
variable{AS:O AB}
end
end P1
namespace P1
open L2 S6
section
variable{p p' pos':Pos}
end
end P1
namespace P1
open L2 S1
section
variable{T:O AY->A0->Prop}(inj:∀ k l v,T k v->T l v->k=l)
include inj
end
end P1
namespace P1
open L2 S1 S6
section
variable{e:α->Dt}{e':β->Dt}
end
end P1
namespace P1
open L2
section
variable{q:AJ}{body:Expr}{xs:AZ}{f c':A1}{pm:A0}
end
end P1
namespace P1
open PySem PySem.Spec PySem.Calls PyProof.Rows L2 S1
def W1:{ f:String->Builtin // f "min"=Builtin.«min»/\f "max"=Builtin.«max» }:=by
 refine⟨?f,?a,?b⟩
 case a=>delta Builtin.«min»;rfl
 case b=>delta Builtin.«max»;rfl
def gL:{ f:String->CmpOp->Builtin // f "min" .Lt=Builtin.«min.loop»/\f "max" .Gt=Builtin.«max.loop» }:=by
 refine⟨?f,?a,?b⟩
 case a=>delta Builtin.«min.loop»;rfl
 case b=>delta Builtin.«max.loop»;rfl
structure MM (nm lp:String) (op:CmpOp):Prop where
 hk:builtinKind nm=none
 hp:plainId nm=true
 he:entryFor table nm=some (W1.1 nm)
 pl:plainId lp=true
 le:entryFor table lp=some (gL.1 nm op)
 hn:(toString nm++toString ".loop":String)=lp
 a1:∀a,argsOk nm ⟨[a],[]⟩
 a2:∀a b,argsOk nm ⟨[a,b],[]⟩
 ak:∀a v,argsOk nm ⟨[a],[(Str.ofString "key",v)]⟩
section
variable{nm lp:String}(hM:MM nm lp op){R:Result->A2->Prop}
include hM in
end
section
variable{nm lp:String}(hM:MM nm lp op){R:Result->A2->Prop}{I:A1}{wr:O A1}{P:Nat->A0->Prop}{St:Nat->A6->Prop}
include hM in
include hM in
end
end P1
namespace P1
open L2 S1
section
variable{body:Expr}{akb p kpos:Pos}{xs:AZ}{c P:A1}{q:AJ}{bt:Dt->Dt->Bool}{okk:Dt->Bool}
end
end P1
namespace P1
open L2
section
variable{o:Expr}
end
end P1
namespace P1
open L2 S1
end P1
namespace P1
open L2 S1 S6
section
variable{e:α->Dt}{e':β->Dt}
def hk(q:AJ×β):O AY:=[.inr q.1]
end
end P1
namespace P1
open L2
section
variable [Inhabited α] {e:α->Dt}{k:Ev->Y As}{cO:γ->As}
end
section
variable{f:A1}{p:Pos}{fs:Ev->Y (O Bx)}
end
end P1
namespace P1
open PySem PySem.Spec PySem.Calls PyProof.Rows L2
section
variable{D:O (AJ×A1)}{k:AJ}{tk:Tok}
end
section
variable{D:O (AJ×A1)}{dn:AJ}{ek:Expr}{p0 p1 p3 q0 q1 q2 q3:Pos}{AS:O AB}{fh:Ev->Y Bx}
end
end P1
namespace P1
open L2
section
variable{e:α->Dt}{c:β->Bx}{fh:Ev->Y Bx}{k:Ev->Y As}{cO:γ->As}{tt:O (AJ×(O α->β)×(O α->Y Prop))}
end
end P1
namespace P1
open PySem PySem.Spec PySem.Calls PyProof.Rows L2 S1
end P1
namespace P1
open L2
section
variable{K:Type} [DecidableEq K] {knd:KeyKind prog w K}
end
end P1
namespace L2
end L2
namespace P1
open L2
section
variable{a b:Expr}{fs:Ev->Y (O Bx)}
end
end P1
namespace P1
open L2 S1 S6
section
variable{e:α->Dt}{e':β->Dt}{e3:γ->Dt}{k:Ev->Y As}{cO:δ->As}
end
end P1
namespace P1
open L2
section
variable{o f k v:Expr}{ff:Ev->Y Bx}{keys:O (Y Expr)}{values:O Expr}
end
section
variable{e:α->Dt}
end
end P1
namespace P1
open L2 S1
section
variable{kS:A1}{vs:O A0}{keys:Array A0}{e e1:Nat}{P:PySem.Fin->A2->Prop}
end
end P1
namespace P1
open L2 S6
section
variable{t1 i1 tY i2 tZ i3:Expr}{f1 f2 f3:O Expr}{xs:AZ}{g1 g2 g3:Dt->Ev->Y Ev}{p1 p2 p3:Ev->Y Bool}{fi1 fi2 fi3:Ev->Y (O Dt)}{m2:Nat}
section
variable{e:α->Dt}{e':β->Dt}{fs:Ev->Y (O Dt)}
end
end
end P1
namespace P1
open L2 S1
def LV(ks:O Dt):Y (O (O AY)):=(tU ks).bind λd9=>if(d9.all (λk=>!k.isEmpty)&&d9.all λk=>d9.all λl=>Gi k l)=true then Z d9 else U
def Fh:O Dt->Y (O (O AY))
 |[]=>Z []
 |.str x::ds=>(Fh ds).bind λr=>Z ([.inr x]::r)
 |_=>U
section
variable{f:A1}
end
section
variable{p kp kpos:Pos}{f:A1}
end
section
variable{body:Expr}{akb p kpos:Pos}{xs:AZ}{c P:A1}{q:AJ}
end
end P1
namespace P1
open L2
section
variable{K:Type} [DecidableEq K] {knd:KeyKind prog w K}
end
end P1
namespace P1
open L2 S1 S6
section
variable{e:α->Dt}{e':β->Dt}
class IS {β:Type} (e':β->Dt) (kf:outParam (List Dt->Option (List (List AY)))) where
 kk:β->List AY
 ok:∀xs:List β,kf (xs.map e')=some (xs.map kk)
 inj:∀a b,kk a=kk b->a=b
instance [Nk e']:IS e' LV:=⟨Nk.k e',λxs=>by
 unfold LV;rw[DK,Au,zt];simp only[ZZ,QI,Jn,ax,forall_exists_index,and_imp,forall_apply_eq_imp_iff₂];exact⟨λa _=>Nk.ne a,λa _ b _=>Nk.shp a b⟩,Nk.inj⟩
theorem Tf:∀xs:AZ,Fh (xs.map eS)=Z (xs.map λx=>[.inr x])
 |[]=>rfl
 |x::xs=>by
  rw[Zl,eS,Fh,Tf xs,Au];rfl
instance:IS eS Fh:=⟨λx=>[.inr x],Tf,λa b h=>by cases h;rfl⟩
section
variable [IS e' kf] {κ:α->β}
structure SR (fe:Ev->Option Bx) (ρ:Ev) (e:α->Dt) where
 v:List α
 D:Option Prop
 ok:B9 D->∃b,fe ρ=some b/\mR b=some (v.map e)
end
end
section
variable{e:α->Dt}{e':β->Dt}{fs:Ev->Y (O Dt)}
end
section
variable{e:α->Dt}
end
end P1
namespace L2
end L2
namespace P1
open L2
section
variable{e1:Expr}{fs:Ev->Y (O Bx)}
variable{e:α->Dt}{k:Ev->Y As}{cO:γ->As}
end
section
variable{en:α->Dt}{k:Ev->Y As}{cO:γ->As}
end
section
variable{a b:Expr}
variable{e1:α->Dt}{e2:β->Dt}{k:Ev->Y As}{cO:γ->As}
end
end P1
namespace P1
open PySem PySem.Spec PySem.Calls PyProof.Rows L2 S1
end P1
namespace P1
open PySem PySem.Spec PySem.Calls PyProof.Rows L2
section
variable{o:Expr}{to:TE}
variable{p:Pos}
end
end P1
namespace P1
open L2 S1 S6
section
variable{e:α->Dt}
end
end P1
namespace P1
open L2 S6
section
variable{b:A1}
end
section
variable{b:A1}{zs:AZ}
end
section
variable{b:A1}{xs zs:AZ}
end
section
variable{e1:Expr}{f1 f2:Ev->Y AZ}
end
section
variable{f1 f2:Ev->Y AZ}
end
end P1
namespace P1
open L2
section
variable{e:α->Dt}
end
section
variable{xs:AZ}
def Zb(X:Cx)(ifs:O Expr)(tc:TT):Prop:=(ifs=[]/\tc=λ_ H Q=>Q true H)\/∃c,ifs=[c]/\PT X c tc
theorem QZ{comp:Expr}{d:Nat}{d9:Pos}{J:It}{R:Result->A2->Prop}{g:TG}{tc:TT}(n:Nat)(W V:Nat->L2.St->Hp->Prop)(a4:X.calm=true)(hx:X.xe=λ_ _=>False)(K1:PG X tgt g)(d0:Zb X ifs tc)(d1:∀i AN s σ H,i<n->L2.AU X AN σ H s->V i σ H->A7 (ii X) X.A (el D X.env) (λ_ s'=>∃ σ' H',L2.AU X AN σ' H' s'/\W (i+1) σ' H') X.xe s)(I:L2.AU X AN σ H s)(w0:W 0 σ H)(T:C9 X.prog X.w X.K tgt J fp it tn)(st:tn 0 s.heap)(P:∀b∈fp,lQ X AN H b)(b4:∀i σ H,i<n->W i σ H->J.go i H/\∀x H1,J.yld i H x H1->g x σ H1 λM H2=>tc M H2 λb H3=>if b=true then V i M H3 else W (i+1) M H3)(b3:∀ σ H,W n σ H->J.stop n H)(e0:∀(it:A0) (D:A1) (env:Env),compTurn comp d it (.ref D) env=(standAt d9 >>= λ_=>pyNext it >>= λr=>match r with
   |none=>pure (.done .next)
   |some v=>letOwnedTupleGo tgt it v >>= λ_=>assign tgt env v >>= λ_=>(forIn ifs true λc r=>if r=true then isTrue c env (eval c env) >>= λok=>pure (ForInStep.yield ok)else pure (ForInStep.yield r)) >>= λok=>if ok=true then el D env >>= λ_=>again (.compLoop comp d it (.ref D) env)else again (.compLoop comp d it (.ref D) env)))(d2:∀{it L:A0} {env:Env} {Q:Fin->A2->Prop} {E:BA} {s:A2},A7 (ii X) X.A ((compTurn comp d it L env).onRaise (λx=>noteFrame x env >>= λ_=>theTreesLotGoes x)) Q E s->A7 (ii X) (X.A.under (.compLoop comp d it L env)) ((ii X).den (.compLoop comp d it L env)) Q E s)(hR:∀s' σ' H',L2.AU X AN σ' H' s'->W n σ' H'->R (.ok .next) s'):
  AF (ii X) X.A (.compLoop comp d (.ref it) (.ref D) X.env) R s:=by
 have G:∀{H':Hp},(∀b∈fp,H' b=U)->∀b∈fp,lQ X AN H' b:=λ{H'} hn b a=>⟨hn b a,(P b a).2⟩;refine codeAny_loop S (λk s'=>∃(i:Nat) (σ':L2.St) (H':Hp),k=n-i/\i<=n/\L2.AU X AN σ' H' s'/\tn i s'.heap/\(∀b∈fp,H' b=U)/\W i σ' H') ?_ n
  ⟨0,σ,H,by simp,QR _,I,st,λb a=>(P b a).1,w0⟩
 rintro k s4 ⟨i,p,C,rfl,hi,I4,a3,a5,N⟩;refine d2 (wpAny_noted ?_);rw[e0];by_cases y:i<n
 ·obtain⟨go,yl⟩:=b4 i p C y N;refine zb (kR (zb ?_));refine ig (T.item X S S S a4 i AN s4 p C _ I4 (G a5) a3 go) λr s5 ⟨u,hr,h5⟩=>?_;subst hr;refine zb (ig h5 λ_ s6 ⟨x,H6,I6,r6,y6,D6,fr6⟩=>?_);have d4:=I6.pinned (G fr6) (T.obj _ _ D6);have ha:=K1 _ s6 p H6 x u _ d4 r6 (yl x H6 y6);rw[hx]at ha;refine zb (ZY ha (λ_ s7 h7=>?_) λ_ _ z=>z.elim);obtain⟨l,H7,I7,q7⟩:=h7;have ht:A7 (ii X) X.A (forIn ifs true λc r=>if r=true then do let ok <-isTrue c X.env (eval c X.env);pure (ForInStep.yield ok)else pure (ForInStep.yield r))
    (λok t=>∃f,L2.AU X (AN++sS fp s6.heap) l f t/\if ok=true then V i l f else W (i+1) l f) (notedBy (ii X) X.A X.env λe s'=>R (.error e) s') s7:=by
   rcases d0 with⟨rfl,rfl⟩|⟨c,rfl,hc⟩
   ·exact wpAny_tests_nil ⟨H7,I7,q7⟩
   ·refine wpAny_tests_one ?_;have:=hc _ s7 l H7 _ I7 q7;rw[hx]at this;exact ZY this (λb t ⟨f,F,j⟩=>⟨f,F,j⟩) λ_ _ z=>z.elim
  refine zb (ZY ht (λok t h8=>?_) λ_ _ z=>z);obtain⟨f,F,j⟩:=h8;have Cw:∀{m:L2.St} {h:Hp} {B:A2},L2.AU X (AN++sS fp s6.heap) m h B->L2.AU X AN m h B/\tn (i+1) B.heap/\∀b∈fp,h b=U:=λ{m h B} q=>by
   refine⟨q.p8,T.keep _ _ _ D6 λb a o e=>(q.pin (b,o) (ZI _ (ZI _ (j9 a e)))).1,λb a=>?_⟩;obtain⟨o,e,d⟩:=T.obj _ _ D6 b a;exact(q.pin (b,o) (ZI _ (ZI _ (j9 a e)))).2.1
  cases ok with
  |false=>
   rw[ZA zI]at j;obtain⟨q,c5,b6⟩:=Cw F;exact ze ⟨rfl,n-(i+1),by omega,i+1,l,f,rfl,y,q,c5,b6,j⟩
  |true=>
   rw[zt rfl]at j;have he:=d1 i _ t l f y F j;rw[hx]at he;refine zb (ZY he (λ_ e2 b5=>?_) λ_ _ z=>z.elim);obtain⟨m,h,e1,d3⟩:=b5;obtain⟨a6,b0,a7⟩:=Cw e1;exact ze ⟨rfl,n-(i+1),by omega,i+1,m,h,rfl,y,a6,b0,a7,d3⟩
 ·have:i=n:=by omega
  subst this;refine zb (kR (zb ?_));refine ig (T.done X S S S a4 i AN s4 p C _ I4 (G a5) a3 (b3 _ _ N)) λr s5 ⟨hr,I5⟩=>?_;subst hr;exact ze (hR s5 p C I5 N)
def Md(te:TE)(D:A1)(W:L2.St->Hp->Prop):L2.St->Hp->Prop:=λσ H=>te σ H λv a=>∃us,a D=Z (.lst us)/\us.length<AA/\W σ (B1 a D (.lst (us++[v])))
def El(e:Nat)(is:O Nat)(i:Nat)(d:TI)(g:TG)(tc:TT)(te:TE):TS:=λDn σ H=>d σ H λJ H2=>∃(n:Nat) (W:A1->Nat->L2.St->Hp->Prop),
 (∀D,H2 D=U->W D 0 (vO is σ++aw e U) (B1 H2 D (.lst []))) ∧
 (∀D i σ H,H2 D=U->i<n->W D i σ H->J.go i H/\∀x H1,J.yld i H x H1->g x σ H1 λa H2=>tc a H2 λb c=>if b=true then Md te D (W D (i+1)) a c else W D (i+1) a c) ∧
 (∀D σ H,W D n σ H->J.stop n H) ∧
 ∀D σ' H',H2 D=U->W D n σ' H'->Dn.nx (σ.set i (Z (.ref D))) H'
theorem N6(i:Nat){py spos:Pos}{wi:TI}{g:TG}{tc:TT}(ts:AZ)(O:qK X scope cl xs is)(d4:X.calm=true)(hN:X.N.Nodup)(hi:PI X tgt iter wi)(K1:∀C p t fp,PG (Bt X (xs++ts) scope cl C p t fp) tgt g)(d0:∀C p t fp,Zb (Bt X (xs++ts) scope cl C p t fp) ifs tc)(b4:∀C p t fp,PE (Bt X (xs++ts) scope cl C p t fp) elt te)(d3:swapsWith (.ListComp elt [⟨tgt,iter,ifs,0⟩] scope pos) (Z (.Name y py)) spos.line X.env=pure true:=by with_unfolding_all rfl)(hy:X.N[i]?=Z y:=by rfl)(hx:D1 X.env.scope y:=by first|exact Kj rfl|exact ki S)(hf:X.fn y=true\/X.env.scope.names.lookup y=Z .local:=by first|exact .inl rfl|exact .inr S)(hs:∀x,foldedSetIterable iter X.env x=pure x:=by intro _;rfl):PS X (.Assign [.Name y py] (.ListComp elt [⟨tgt,iter,ifs,0⟩] scope pos) spos) (El ts.length is i wi g tc te):=λAN s σ H Dn I h=>by
 rw[exec_Assign_Name_used _ _ _ _ d3];refine zb (kR (zb ?_));show A7 _ X.A (do let _ <-comprehension (.ListComp elt [⟨tgt,iter,ifs,0⟩] scope pos) scope X.env _ (newList []) false (eval iter X.env) (Z (assign (.Name y py) X.env))) _ _ s;refine zb (ZY (KI (use:=Z (assign (.Name y py) X.env)) (Q:=λ_ s'=>SP X AN Dn .next s') S hs O.clos O.kind O.names ?_) (λ_ s' hq=>ze (ze hq)) λ_ _ e=>e);refine ig (hi AN s σ H _ I h) λv s1 h1=>ig h1 λe4 a h2=>?_;obtain⟨it,fp,tn,J,H2,rfl,I2,T,st,a6,n,W,w0,ws,we,wd⟩:=h2;refine ZT (G9 ?_);have K:H2 a.heap.objs.size=U:=I2.hok.fresh (zl _);have B:L2.AU X AN σ (B1 H2 a.heap.objs.size (.lst [])) { a with heap:=a.heap.push (seqObj "list" #[] 0) }:=
  I2.laid (t':=a.toks) (λb o e=>zd _ e) (zl _) ⟨QR _,[],0,.nil,zr _ rfl⟩
 have Xl:∀b∈fp,b<a.heap.objs.size:=λb f=>let ⟨o,e,_⟩:=T.obj 0 _ st b f;zw e;have M:∀b∈fp,lQ X AN (B1 H2 a.heap.objs.size (.lst [])) b:=λb f=>⟨by rw[aF (ZE (Xl b f))];exact(a6 b f).1,(a6 b f).2⟩;have a4:tn 0 (a.heap.push (seqObj "list" #[] 0)):=T.keep 0 _ _ st λb f o e=>zd _ e;have E:∀b∈fp,b<(a.heap.push (seqObj "list" #[] 0)).objs.size:=λb f=>by rw[qk];exact qA (Xl b f)
 have c5:=w0 _ K;generalize d2:({ a with heap:=a.heap.push (seqObj "list" #[] 0) }:A2)=s3 at *
 have b5:s3.heap=a.heap.push (seqObj "list" #[] 0):=by rw[<-d2]
 rw[<-b5]at a4 E;have IC:=LC (ts:=ts) B O M E;have a3:tn 0 (pushCells (s3.heap.push { cls:=.type "dict",data:=.dict #[] }) scope.names):=T.keep 0 _ _ a4 λb f o e=>pushCells_keeps _ _ b o (zd _ e);have Xk:∀b∈fp,lQ (Bt X (xs++ts) scope cl s3.heap.objs.size s3 (B1 H2 a.heap.objs.size (.lst [])) fp) [] (B1 H2 a.heap.objs.size (.lst [])) b:=λb f=>by
  obtain⟨f0,f1,f2,f3,l,F⟩:=M b f;refine⟨f0,ZE (E b f),λz=>?_,.inl f,λx c e z=>?_,λq hq=>absurd (show q∈([]:List (A1×AE)) from hq) (by simp)⟩
  ·rcases List.mem_cons.mp (B.yO b z)with q|q
   ·exact f1 q
   ·exact f2 q
  ·rcases uO _ _ _ x c e with h|h
   ·exact l x c (O.sub.get h) z
   ·rw[z]at h;exact absurd (ZO (E b f) (ia h)) (QU _)
 have lp:=QZ (X:=Bt X (xs++ts) scope cl s3.heap.objs.size s3 (B1 H2 a.heap.objs.size (.lst [])) fp) (D:=a.heap.objs.size) (R:=compPost (ii X) X.A X.xe (Z (assign (.Name y py) X.env)) (λ_ s'=>SP X AN Dn .next s') (.ref a.heap.objs.size) s3.heap.objs.size) (comp:=.ListComp elt [⟨tgt,iter,ifs,0⟩] scope pos) (d:=0)
  n (W a.heap.objs.size) (λi=>Md te a.heap.objs.size (W a.heap.objs.size (i+1))) d4 S (K1 _ _ _ _) (d0 _ _ _ _) (el:=λD env=>do let _ <-call (.builtin "list.append") [.ref D,<-eval elt env]) (λi AN s σ H _ I v=>by
   refine zb (ZY (b4 _ _ _ _ AN s σ H _ I v) (λv s9 h9=>?_) λ_ _ z=>z);obtain⟨x,H9,I9,rx,us,e9,l9,w9⟩:=h9;refine zb (ZY ((nJ (X:=Bt X (xs++ts) scope cl s3.heap.objs.size s3 (B1 H2 a.heap.objs.size (.lst [])) fp)) _ s9 σ H9 (.ref a.heap.objs.size) [x] (.ref a.heap.objs.size) [v] (λ_ L=>W a.heap.objs.size (i+1) σ L) I9 S (.cons rx .nil) ⟨_,us,x,rfl,rfl,e9,l9,w9⟩) (λw e6 b6=>?_) λ_ _ z=>z);obtain⟨_,L,e3,_,e0⟩:=b6;exact ze ⟨σ,L,e3,e0⟩) IC c5 T a3 Xk (ws _ · · · K) (we _) (λ_ _ _=>S) (λh=>h) λG e5 u j w5=>?_
 ·exact codeAny_compStart_list lp (T.self _ 0 _ _ _ a3 lp)
 ·have I':L2.AU X AN σ u G:=B.call' (ch:=fp) j.os j.base j.hok j.bare λb f=>by
   obtain⟨f0,f1,f2,f3,l,F⟩:=M b f;exact⟨f3,f1,l,F⟩
  obtain⟨m,hn,_⟩:=j.loc;have fC:=B.Ga (zl _) j.free;show A7 _ X.A (assign (.Name y py) X.env (.ref a.heap.objs.size)) _ _ G;obtain⟨f0,f1,f2,f3,l,F⟩:=fC;obtain⟨k,b0,ep,b3,a5,d9⟩:=id hn;have a7:L2.AU X (AN++[(s3.heap.objs.size,k)]) σ u G:=I'.Bl λpp hp=>by
   rcases aJ.mp hp with z|z
   ·exact I'.pin pp (ZI _ z)
   ·have:pp=(s3.heap.objs.size,k):=by simpa using z
    subst this;exact⟨b3,f0,f1,f2,λv z=>by rw[a5]at z;cases z⟩
  refine ig (L2.uM hN hy hx hf (AN++[(s3.heap.objs.size,k)]) G σ u (.ref a.heap.objs.size) (.ref a.heap.objs.size) (λσ' P=>σ'=σ.set i (Z (.ref a.heap.objs.size))/\P=u) a7 S ⟨rfl,rfl⟩) λ_ s'' ⟨σ',P,J',e1,e2⟩=>?_;subst e1 e2;have d1:=(J'.pin (s3.heap.objs.size,k) (by simp)).1;refine⟨m,⟨k,b0,ep,d1,a5,d9⟩,λh' sb=>?_⟩;exact⟨σ.set i (Z (.ref a.heap.objs.size)),P,J'.p8.turned (t':=s''.toks) (λb o f e=>(sb.2 b f).trans e) f0 f1 f3 l F,wd _ _ _ K w5⟩
end
def Mv(X:Cx)(Q:Hp->Prop)(H:Hp):Prop:=∀(AN:O (A1×AE)) (σ:L2.St) (s:A2),L2.AU X AN σ H s->∃H',L2.AU X AN σ H' s/\Q H'
section
variable{Q Q':Hp->Prop}{ks:O V}
theorem Mv.Dk(e:H a=Z (.jm o (.lst ks)))(b:∀c u,X.H₀ a≠Z (.jm c u))(h:Q (B1 H a (.lst ks))):Mv X Q H:=λp σ s I=>⟨_,N9 b I e,h⟩
theorem Mv.jm(e:H a=Z (.lst ks))(h:∀o,Q (B1 H a (.jm o (.lst ks)))):Mv X Q H:=λp σ s I=>let ⟨o,I'⟩:=qI I e;⟨_,I',h o⟩
def DH(X:Cx)(te:TE):TE:=λσ H Q=>te σ H λv H1=>Mv X (λH2=>Q v H2) H1
theorem N7(h:PE X e te):PE X e (DH X te):=λAN s σ H Q I q=>ig (h AN s σ H _ I q) λu s1 ⟨v,H1,I1,rv,m⟩=>let ⟨H2,I2,q⟩:=m _ _ _ I1;⟨v,H2,I2,rv,q⟩
theorem Zc{st:O AB}{t:TS}(h:vZ X st t):vZ X st (λD σ H=>Mv X (t D σ) H):=λAN s σ H D I m=>let ⟨H1,I1,q⟩:=m _ _ _ I;h AN s σ H1 D I1 q
def S4(X:Cx)(t:TS):TS:=λD σ H=>t { D with nx:=λσ H=>Mv X (D.nx σ) H } σ H
theorem fR{st:O AB}{t:TS}(h:vZ X st t):vZ X st (S4 X t):=λAN s σ H D I q=>ig (h AN s σ H _ I q) λf c z=>by
 cases f with
 |next=>
  obtain⟨σ',H',a,m⟩:=z;obtain⟨H2,b,q⟩:=m _ _ _ a;exact⟨σ',H2,b,q⟩
 |_=>exact z
end
abbrev Wf(x:AZ):Dt:=.lst (x.map .str)
def EI(fz:Bool)(H:Hp)(p:A1)(x:AZ):Prop:=match fz with
 |true=>∃o,H p=Z (.jm o (.lst (x.map .str)))
 |false=>H p=Z (.lst (x.map .str))
theorem EI.mono{fz:Bool}{H':Hp}{p:A1}{x:AZ}(h:EI fz H p x)(s:∀u,H p=Z u->H' p=Z u):EI fz H' p x:=by
 cases fz with
 |true=>obtain⟨o,e⟩:=h;exact⟨o,s _ e⟩
 |false=>exact s _ h
structure oX (X:Cx) (H0 Hb:Hp) (ρ:Ev) (fz:Bool) (L:List AZ) (a:Addr) (ps:List Addr) (σ:L2.St) (H:Hp):Prop where
 env:bF X.K H0 Hb σ ρ
 sub:AV Hb H
 at2:σ[2]?=some (some (.ref a))
 out:H a=some (.lst (ps.map .ref))
 na:Hb a=none
 nd:ps.Nodup
 len:L.length=ps.length
 inn:∀(k:Nat) x p,L[k]?=some x->ps[k]?=some p->Hb p=none/\EI fz H p x
 sz:∀x∈L,∀y∈x,y.length<=sizeLine
 hx:∀b ob u,X.H₀ b=some (.jm ob u)->Hb b≠none
section
variable{H':Hp}{fz:Bool}{ps:O A1}
theorem oX.get(h:oX X H0 Hb ρ fz L a ps σ H){p:A1}(hp:p∈ps):∃(k:Nat) (x:AZ),L[k]?=Z x/\ps[k]?=Z p:=by
 obtain⟨k,hk,e⟩:=kg hp;exact⟨k,L[k]'(by rw[h.len];exact hk),zo _,by rw[<-e];exact zo hk⟩
theorem oX.Tg(h:oX X H0 Hb ρ fz L a ps σ H):a∉ps:=λm=>by
 obtain⟨k,x,ex,ep⟩:=h.get m;have hi:=(h.inn k x a ex ep).2;cases fz with
 |true=>
  obtain⟨o,e⟩:=hi;rw[h.out]at e;cases e
 |false=>
  have e:H a=Z (.lst (x.map .str)):=hi;rw[h.out]at e;have e:ps.map V.ref=x.map V.str:=by injection e with e;injection e
  cases ps with
  |nil=>cases m
  |cons p r=>
   cases x with
   |nil=>cases e
   |cons y z=>cases e
theorem oX.grow(h:oX X H0 Hb ρ fz L a ps σ H)(s:AV H H'):oX X H0 Hb ρ fz L a ps σ H':=
 ⟨h.env,h.sub.trans s,h.at2,s _ _ h.out,h.na,h.nd,h.len,λk x p e1 e2=>⟨(h.inn k x p e1 e2).1,(h.inn k x p e1 e2).2.mono λu e=>s _ _ e⟩,h.sz,h.hx⟩
theorem Ti{K:B4}:∀{L:O AZ} {ps:O A1},L.length=ps.length->(∀(k:Nat) x p,L[k]?=Z x->ps[k]?=Z p->EI true H p x)->(∀x∈L,∀y∈x,y.length<=AA)->aP K H (L.map Wf) (ps.map .ref)
 |[],[],_,_,_=>aP.nil
 |x::L,p::ps,hl,h,z=>by
  obtain⟨o,e⟩:=h 0 x p S rfl;refine aP.cons ?_ (Ti (by simpa using hl) (λk x p e1 e2=>h (k+1) x p e1 e2) λx hx=>z x (zi _ hx));show AW K H (.lst _) _;rw[AW];exact⟨p,_,rfl,.inl ⟨o,e⟩,n8 (z x zh)⟩
 |[],_::_,hl,_,_=>by cases hl
 |_::_,[],hl,_,_=>by cases hl
theorem CB{l:O (Y α)}{v:Y α}(h:l[i]?=Z v):l.set i v=l:=by
 apply ib;intro j;rw[Ki];split
 ·rename_i e;subst e;rw[zt (ay.mp h).1,h]
 ·rfl
theorem oX.Zd(h:oX X H0 Hb ρ true L a ps σ H):bF X.K H0 H σ (ρ.set 2 (Z (.o (L.map Wf)))):=by
 have:=h.env.set (i:=2) (b:=.o (L.map Wf)) (v:=.ref a) h.sub ⟨a,_,rfl,h.out,Ti h.len (λk x p e1 e2=>(h.inn k x p e1 e2).2) h.sz⟩ (.inl S) λb e=>by cases e;exact h.na
 rwa [CB h.at2]at this
theorem oX.ix(h:oX X H0 Hb ρ true L a ps σ H)(hk:k<L.length):∃x p,L[k]?=Z x/\ps[k]?=Z p/\Hb p=U/\(∃o,H p=Z (.jm o (.lst (x.map .str))))/\(∀c u,X.H₀ p≠Z (.jm c u))/\(∀y∈x,y.length<=AA)/\p≠a:=by
 have b:k<ps.length:=by rw[<-h.len];exact hk
 have e1:L[k]?=Z L[k]:=zo hk;have e2:ps[k]?=Z ps[k]:=zo b;obtain⟨n,o⟩:=h.inn k _ _ e1 e2;exact⟨_,_,e1,e2,n,o,λc u z=>h.hx _ _ _ z n,h.sz _ (kq hk),λz=>h.Tg (z▸kq b)⟩
theorem oX.put(h:oX X H0 Hb ρ true L a ps σ H){x x':AZ}{p:A1}(hk:L[k]?=Z x)(hp:ps[k]?=Z p)(d:∀b u,b≠p->H b=Z u->H' b=Z u)(e:H' p=Z (.jm o (.lst (x'.map .str))))(z:∀y∈x',y.length<=AA):oX X H0 Hb ρ true (L.set k x') a ps σ H':=by
 have f:=(h.inn k x p hk hp).1;have j:p∈ps:=ZN hp;refine⟨h.env,λb u eb=>d b u (λq=>by rw[q,f]at eb;cases eb) (h.sub b u eb),h.at2,d _ _ (λq=>h.Tg (q▸j)) h.out,h.na,h.nd,by rw[qi];exact h.len,λg y q e1 e2=>?_,λy l=>?_,h.hx⟩
 ·by_cases c:g=k
  ·subst c;rw[QO (ay.mp hk).1]at e1;cases e1;rw[hp]at e2;cases e2;exact⟨f,o,e⟩
  ·rw[kA (Q2 c)]at e1;obtain⟨n,w⟩:=h.inn g y q e1 e2;exact⟨n,w.mono λu=>d _ u λi=>c ((List.getElem?_inj (ay.mp e2).1 h.nd).mp (by rw[e2,hp,i]))⟩
 ·rcases ie l with q|q
  ·exact h.sz y q
  ·rw[q];exact z
theorem oX.more(h:oX X H0 Hb ρ true L a ps σ H){x:AZ}{p:A1}(f:H p=U)(g:∀b u,b≠p->b≠a->H b=Z u->H' b=Z u)(e:H' p=Z (.jm o (.lst (x.map .str))))(ea:H' a=Z (.lst (ps.map .ref++[.ref p])))(z:∀y∈x,y.length<=AA):oX X H0 Hb ρ true (L++[x]) a (ps++[p]) σ H':=by
 have d:Hb p=U:=h.sub.free f;have np:p∉ps:=λm=>by
  obtain⟨k,y,e1,e2⟩:=h.get m;obtain⟨o,w⟩:=(h.inn k y p e1 e2).2;rw[f]at w;cases w
 refine⟨h.env,λb u eb=>g b u (λq=>by rw[q,d]at eb;cases eb) (λq=>by rw[q,h.na]at eb;cases eb) (h.sub b u eb),h.at2,by rw[qo];exact ea,h.na,List.nodup_append.mpr ⟨h.nd,iK ..,λb d c i q=>np (by have:=au.mp i;rw[this]at q;exact q▸d)⟩,by simp[h.len],λk y q e1 e2=>?_,λy j=>?_,h.hx⟩
 ·by_cases hk:k<L.length
  ·rw[Z3 hk]at e1;rw[Z3 (by rw[<-h.len];exact hk)]at e2;obtain⟨n,w⟩:=h.inn k y q e1 e2;exact⟨n,w.mono λu=>g _ u (λz=>np (z▸ZN e2)) λz=>h.Tg (z▸ZN e2)⟩
  ·rw[qv (xc hk)]at e1;rw[qv (by rw[<-h.len];exact xc hk),<-h.len]at e2;have:k-L.length=0:=by
    have:=(ay.mp e1).1;simpa using this
   rw[this]at e1 e2;cases e1;cases e2;exact⟨d,o,e⟩
 ·rcases aJ.mp j with q|q
  ·exact h.sz y q
  ·rw[au.mp q];exact z
theorem oX.sl(h:oX X H0 Hb ρ fz L a ps σ H)(b:j≠2)(v:Y V){ρ':Ev}(e:bF X.K H0 Hb (σ.set j v) ρ'):oX X H0 Hb ρ' fz L a ps (σ.set j v) H:=⟨e,h.sub,by rw[kA b];exact h.at2,h.out,h.na,h.nd,h.len,h.inn,h.sz,h.hx⟩
theorem Ig{AN:O (A1×AE)}{s:A2}:∀{as:O A1} {H:Hp},L2.AU X AN σ H s->(∀a∈as,(∃o vs,H a=Z (.jm o (.lst vs)))/\∀l u,X.H₀ a≠Z (.jm l u))->as.Nodup->∃H',L2.AU X AN σ H' s/\(∀b,b∉as->H' b=H b)/\∀a∈as,∀o vs,H a=Z (.jm o (.lst vs))->H' a=Z (.lst vs)
 |[],H,I,_,_=>⟨H,I,λ_ _=>S,λ_ h=>by cases h⟩
 |a::as,H,I,h,d=>by
  obtain⟨i,d⟩:=cc.mp d;obtain⟨⟨o,vs,e⟩,c⟩:=h a zh;have f:∀b∈as,b≠a:=λb c z=>i (z▸c);obtain⟨H',m,g,j⟩:=Ig (as:=as) (N9 c I e) (λb c=>by rw[aF (f b c)];exact h b (zi _ c)) d;refine⟨H',m,λb c=>?_,λb c o' k e'=>?_⟩
  ·rw[g b λz=>c (zi _ z),aF λz=>c (by rw[z];exact zh)]
  ·rcases List.mem_cons.mp c with q|q
   ·subst q;rw[e]at e';cases e';rw[g _ i,aQ]
   ·exact j b q o' k (by rw[aF (f b q)];exact e')
theorem oX.other(h:oX X H0 Hb ρ fz L a ps σ H){g:Bool}(c:∀b,b∉ps->H' b=H b)(hi:∀p∈ps,∀x,EI fz H p x->EI g H' p x):oX X H0 Hb ρ g L a ps σ H':=
 ⟨h.env,λb u e=>by
  rw[c b λm=>by
   obtain⟨k,x,e1,e2⟩:=h.get m;rw[(h.inn k x b e1 e2).1]at e;cases e]
  exact h.sub b u e,h.at2,by rw[c a h.Tg];exact h.out,h.na,h.nd,h.len,λk x p e1 e2=>⟨(h.inn k x p e1 e2).1,hi p (ZN e2) x (h.inn k x p e1 e2).2⟩,h.sz,h.hx⟩
theorem oX.ac2{Q:Hp->Prop}(h:oX X H0 Hb ρ true L a ps σ H)(q:∀H',oX X H0 Hb ρ false L a ps σ H'->Q H'):Mv X Q H:=λAN σ' s I=>by
 obtain⟨H',c,b,d⟩:=Ig (as:=ps) I (λp m=>by
  obtain⟨k,x,e1,e2⟩:=h.get m;obtain⟨n,o,e⟩:=h.inn k x p e1 e2;exact⟨⟨o,_,e⟩,λf u z=>h.hx _ _ _ z n⟩) h.nd
 exact⟨H',c,q H' (h.other b λp m x ⟨o,e⟩=>d p m o _ e)⟩
theorem oX.nP{Q:Hp->Prop}(h:oX X H0 Hb ρ false L a ps σ H)(q:∀H',oX X H0 Hb ρ true L a ps σ H'->Q H'):Mv X Q H:=λAN σ' s I=>by
 obtain⟨H',c,_,b,d⟩:=um (as:=ps) I (λp m=>by
  obtain⟨k,x,e1,e2⟩:=h.get m;exact⟨_,(h.inn k x p e1 e2).2⟩) h.nd
 exact⟨H',c,q H' (h.other b λp m x e=>by
  obtain⟨o,vs,e1,e2⟩:=d p m;have e:H p=Z (.lst (x.map .str)):=e;rw[e]at e1;cases e1;exact⟨o,e2⟩)⟩
end
def mD(x:Int)(n:Nat):Nat:=(x%(n:Int)).toNat
theorem qR{x:Int}(h:0<n):mD x n<n:=by
 have h1:=eY x (show(n:Int)≠0 by omega);have h2:=hC x (show(0:Int)<n by omega);unfold mD;omega
theorem Q0{x:Int}(h:0<n):x%(n:Int)=(mD x n:Int):=by
 have h1:=eY x (show(n:Int)≠0 by omega);unfold mD;omega
def qt(x:AZ):Bool:=!decide (x=[])
def Kc(L:O AZ)(k m:Nat):O AZ:=(L.set k ((L.getD k []).eraseIdx m)).filter qt
def Be(L:O AZ)(x:Int)(nm:AJ):O AZ:=if(decide (x / 256%2=0)||decide (L=[]))=true then L++[[nm]]else L.set (mD (x / 512) L.length) (L.getD (mD (x / 512) L.length) []++[nm])
def Em(L:O AZ)(x:Int):AZ:=L.getD (mD x L.length) []
def FC(L:O AZ)(x:Int):AJ:=(Em L x).getD (mD (x / 16) (Em L x).length) ""
def lX(L:O AZ)(x:Int):O AZ:=if L=[]then L else Be (Kc L (mD x L.length) (mD (x / 16) (Em L x).length)) x (FC L x)
structure GN (L:List AZ):Prop where
 ne:∀x∈L,x≠[]
 lt:L.flatten.length<64
theorem uq:∀{L:O AZ},(∀x∈L,x≠[])->L.length<=L.flatten.length
 |[],_=>zl _
 |x::L,h=>by
  have:=uq λy a=>h y (zi _ a);have hx:0<x.length:=bc.mpr (h x zh);rw[Zp,zC,Qr];omega
theorem Eo{x:AZ}(h:x∈L):x.length<=L.flatten.length:=by
 induction L with
 |nil=>cases h
 |cons y L a=>
  rw[Zp,zC];rcases List.mem_cons.mp h with q|q
  ·rw[q];omega
  ·have:=a q;omega
theorem Ep:∀{L:O AZ} {k:Nat} {x y:AZ},L[k]?=Z x->(L.set k y).flatten.length+x.length=L.flatten.length+y.length
 |[],_,_,_,h=>by simp at h
 |z::L,0,x,y,h=>by
  cases h;rw[lP,Zp,Zp,zC,zC];omega
 |z::L,k+1,x,y,h=>by
  have:=Ep (L:=L) (k:=k) (y:=y) (by simpa using h);rw[lS,Zp,Zp,zC,zC];omega
theorem yx:∀(L:O AZ),(L.filter qt).flatten=L.flatten
 |[]=>rfl
 |x::L=>by
  by_cases h:x=[]
  ·subst h;rw[yb (),yx L];rfl
  ·rw[List.filter_cons_of_pos (by simp[qt,h]),Zp,Zp,yx L]
theorem getD_some{α:Type}{l:O α}{k:Nat}{x d:α}(h:l[k]?=Z x):l.getD k d=x:=by rw[JA,h];rfl
theorem Tj{x:AZ}(hk:L[k]?=Z x)(a:m<x.length):(∀y∈Kc L k m,y≠[])/\(Kc L k m).flatten.length+1=L.flatten.length:=by
 refine⟨λy b=>?_,?_⟩
 ·have:=(cw.mp b).2;simpa[qt]using this
 ·unfold Kc;rw[yx,getD_some hk];have:=Ep (y:=x.eraseIdx m) hk;rw[List.length_eraseIdx_of_lt a]at this;omega
theorem TB{x:Int}{nm:AJ}(h:∀y∈L,y≠[]):(∀y∈Be L x nm,y≠[])/\(Be L x nm).flatten.length=L.flatten.length+1:=by
 unfold Be;split
 ·refine⟨λy a=>?_,by simp⟩;rcases aJ.mp a with q|q
  ·exact h y q
  ·rw[au.mp q];simp
 ·rename_i q;have b:L≠[]:=λz=>q (by simp[z]);have hk:mD (x / 512) L.length<L.length:=qR (bc.mpr b);have e:L[mD (x / 512) L.length]?=Z L[mD (x / 512) L.length]:=zo hk;refine⟨λy a=>?_,?_⟩
  ·rcases ie a with z|z
   ·exact h y z
   ·rw[z];simp
  ·have:=Ep (y:=L.getD (mD (x / 512) L.length) []++[nm]) e;rw[getD_some e]at this ⊢;simp only[zC,qc]at this;omega
theorem Er{x:Int}(a:L≠[]):L[mD x L.length]?=Z (Em L x):=by
 have hk:=qR (x:=x) (bc.mpr a);have e:L[mD x L.length]?=Z L[mD x L.length]:=zo hk;rw[e];unfold Em;rw[getD_some e]
theorem GN.step(g:GN L)(x:Int):GN (lX L x)/\(lX L x).flatten.length=L.flatten.length:=by
 unfold lX;split
 ·exact⟨g,rfl⟩
 ·rename_i a;have e:=Er (x:=x) a;have hp:Em L x≠[]:=g.ne _ (ZN e);obtain⟨a1,a2⟩:=Tj e (qR (x:=x / 16) (bc.mpr hp));obtain⟨b1,b2⟩:=TB (x:=x) (nm:=FC L x) a1;have:=g.lt;exact⟨⟨b1,by omega⟩,by omega⟩
def NR:Ev->Y Bool:=lD Jr (gv 2) (bI gM aK)
def Ha:Ev->Y Bx:=b2 fW (gv 3) (bI jG (aq (gv 2) aK))
def HU:Ev->Y Bx:=b2 fW (b2 o8 (gv 3) (cB (.int 16))) (bI jG (aq (gv 4) aK))
def HH:Ev->Y Bool:=lD Jr (gv 0) (bI gM aK)
def GU:Ev->Y Bool:=Ls (lD BO (b2 fW (b2 o8 (gv 3) (cB (.int 256))) (cB (.int 2))) (cB (.int 0))) (lD BO (gv 2) (bI gM aK))
def NW:Ev->Y Bx:=b2 fW (b2 o8 (gv 3) (cB (.int 512))) (bI jG (aq (gv 2) aK))
section
variable{b1:Bx}{x:Int}{u v:Y Bx}
theorem VE:NR [Z b0,Z b1,Z (.o (L.map Wf)),u,U,v]=Z (!decide (L=[])):=
 (cg (Lv () (kY (aA 2 (lE (eL eS)) L S)) (fK (fu (bA (eL eS)) (zg S))))).ok trivial
theorem Kd(h:0<n):(0:Int)<(n:Int):=by omega
theorem UK(h:0<L.length):Ha [Z b0,Z b1,Z (.o (L.map Wf)),Z (.z (.int x)),U,v]=Z (.z (.int (mD x L.length:Nat))):=by
 rw[<-Q0 h];exact(ud (aA 3 (zE eI) x S) (BN (kY (aA 2 (lE (eL eS)) L S)))).ok (Kd h)
theorem PP{p:AZ}(h:0<p.length):HU [Z b0,Z b1,U,Z (.z (.int x)),Z (.z (Wf p)),v]=Z (.z (.int (mD (x / 16) p.length:Nat))):=by
 rw[<-Q0 h];exact(ud (mV (aA 3 (zE eI) x S) 16 ()) (BN (su (aA 4 (zE (eL eS)) p S)))).ok (Kd h)
theorem PM{p:AZ}:HH [Z (.z (Wf p))]=Z (qt p):=
 (cg (Lv () (su (aA 0 (zE (eL eS)) p S)) (fK (fu (bA eS) (zg S))))).ok trivial
theorem TD:GU [Z b0,Z b1,Z (.o (L.map Wf)),Z (.z (.int x)),U,v]=Z (decide (x / 256%2=0)||decide (L=[])):=
 (zj (cg (BG () (c7 (mV (aA 3 (zE eI) x S) 256 ()) 2 ()) (B8 0))) (cg (Ym () (kY (aA 2 (lE (eL eS)) L S)) (fK (fu (bA (eL eS)) (zg S)))))).ok trivial
theorem d5(h:0<L.length):NW [Z b0,Z b1,Z (.o (L.map Wf)),Z (.z (.int x)),U,v]=Z (.z (.int (mD (x / 512) L.length:Nat))):=by
 rw[<-Q0 h];exact(ud (mV (aA 3 (zE eI) x S) 512 ()) (BN (kY (aA 2 (lE (eL eS)) L S)))).ok (Kd h)
end
abbrev K3(b0 b1:Bx)(x v:Y Bx):Ev:=[Z b0,Z b1,U,x,U,v]
section
variable{b1:Bx}{x:Int}{v:Y Bx}{ps:O A1}{D:BV}
theorem Ze{u:Y Bx}(a:j=2\/j=4):∀c,(K3 b0 b1 u v)[j]?≠Z (Z c):=λc e=>by
 rcases a with rfl|rfl<;>cases e
theorem Ih{α β:Type}(f:α->β):∀(l:O α) (k:Nat),(l.map f).eraseIdx k=(l.eraseIdx k).map f
 |[],_=>rfl
 |_::_,0=>rfl
 |x::l,k+1=>by rw[Zl,kM,kM,Zl,Ih f l k]
theorem cz(h:oX X H0 Hb (K3 b0 b1 (Z (.z (.int x))) v) true L a ps σ H)(f:L≠[])(q:∀H' p,ps[mD x L.length]?=Z p->oX X H0 Hb (K3 b0 b1 (Z (.z (.int x))) v) true L a ps (σ.set 4 (Z (.ref p))) H'->D.nx (σ.set 4 (Z (.ref p))) H'):
  Ug (DI (WR X.K) (vM 2) (tF X.K Ha)) (p7 4) D σ H:=by
 have b:=bc.mpr f;refine⟨.ref a,h.at2,H0,_,_,h.Zd,UK b,λw H2 e g c=>?_⟩;have h2:=h.grow e;obtain⟨y,p,e1,e2,_⟩:=h2.ix (qR (x:=x) b);have d:w=.int (mD x L.length:Nat):=by simpa only[aX,AW]using c
 refine⟨a,_,_,.ref p,rfl,d,.inl (.inl h2.out),RW (by rw[Zs,e2];rfl),q H2 p e2 (h2.sl () _ (h2.env.sl (Ze (.inr S)) _))⟩
theorem VI{y:AZ}{p:A1}(h:oX X H0 Hb (K3 b0 b1 (Z (.z (.int x))) v) true L a ps σ H)(hk:L[k]?=Z y)(hp:ps[k]?=Z p)(m:σ[4]?=Z (Z (.ref p)))(F:y≠[])(l:y.length<64)(q:∀H',oX X H0 Hb (K3 b0 b1 (Z (.z (.int x))) (Z (.z (.str (y.getD (mD (x / 16) y.length) ""))))) true (L.set k (y.eraseIdx (mD (x / 16) y.length))) a ps (σ.set 5 (Z (.str (y.getD (mD (x / 16) y.length) "")))) H'->D.nx (σ.set 5 (Z (.str (y.getD (mD (x / 16) y.length) "")))) H'):
  Ug (DH X (EG X.K "list" Qe (vM 4) (nQ (DH X (tF X.K HU)) Ar))) (p7 5) D σ H:=by
 have t:=bc.mpr F;have s:=qR (x:=x / 16) t;obtain⟨B,o,d⟩:=h.inn k y p hk hp;have j:=h.env.set (i:=4) (b:=.z (Wf y)) (v:=.ref p) h.sub (by simp only[aX];rw[AW];exact⟨p,_,rfl,.inl ⟨o,d⟩,n8 (h.sz y (ZN hk))⟩) (.inr S) trivial;rw[CB m]at j;refine⟨.ref p,m,.inl ⟨rfl,_,.inl (.inr ⟨o,d⟩)⟩,H0,_,_,j,PP t,λw H2 n I C=>?_⟩;have E:w=.int (mD (x / 16) y.length:Nat):=by simpa only[aX,AW]using C
 refine Mv.Dk (n _ _ d) (λG u z=>h.hx _ _ _ z B) ?_;have g:y[mD (x / 16) y.length]?=Z (y.getD (mD (x / 16) y.length) ""):=by rw[zo s,JA,zo s];rfl
 have A:(y.getD (mD (x / 16) y.length) "").length<=AA:=h.sz y (ZN hk) _ (ZN g);refine⟨p,_,_,mD (x / 16) y.length,.str (y.getD (mD (x / 16) y.length) ""),rfl,by rw[E],aQ,by omega,by omega,?_,by rw[Zs,g];rfl,?_⟩
 ·rw[zk];exact PySem.StrLaws.seqIndex_nonneg () ()
 refine Mv.jm aQ λo'=>q _ ?_;have f:=h.put (o:=o') (x':=y.eraseIdx (mD (x / 16) y.length)) (H':=B1 (B1 (B1 H2 p (.lst (y.map V.str))) p (.lst ((y.map V.str).eraseIdx (mD (x / 16) y.length)))) p (.jm o' (.lst ((y.map V.str).eraseIdx (mD (x / 16) y.length))))) hk hp (λb u c e=>by
  rw[aF c,aF c,aF c];exact n _ _ e) (by rw[aQ,Ih]) λz l=>h.sz y (ZN hk) z (List.mem_of_mem_eraseIdx l)
 refine f.sl () _ ?_;have:=f.env.set (i:=5) (b:=.z (.str (y.getD (mD (x / 16) y.length) ""))) (v:=.str (y.getD (mD (x / 16) y.length) "")) (AV.refl Hb) (by simp only[aX];rw[AW];exact⟨rfl,A⟩) (.inr S) trivial;exact this
theorem PU(h:oX X H0 Hb (K3 b0 b1 (Z (.z (.int x))) v) true L a ps σ H)(hz:L.length<64)
  (q:∀d a4 H',oX X H0 Hb (K3 b0 b1 (Z (.z (.int x))) v) true (L.filter qt) d a4 (σ.set 2 (Z (.ref d))) H'->D.nx (σ.set 2 (Z (.ref d))) H'):
  El 1 [] 2 (Wv X.K (vM 2)) (p7 0) (R3 X.K HH) (vM 0) D σ H:=by
 let fp:Nat->O (AZ×A1):=λj=>((L.zip ps).take j).filter λc=>qt c.1
 have lz:(L.zip ps).length=ps.length:=by rw[List.length_zip,h.len,il]
 refine⟨.ref a,h.at2,a,rfl,⟨_,.inl (.inl h.out)⟩,ps.length,λd j σ' H'=>σ'.length=1/\AV H H'/\H' d=Z (.lst ((fp j).map λc=>.ref c.2)),λd g=>⟨rfl,bD g,aQ⟩,λd j σ' H' g hj ⟨l1,sm,eD⟩=>?_,λd σ' H' ⟨_,sm,_⟩=>⟨_,.inl (.inl (sm _ _ h.out)),by rw[zk];exact zl _⟩,λd σ' H' g ⟨_,sm,eD⟩=>?_⟩
 ·have I:j<L.length:=by rw[h.len];exact hj
  have ep:ps[j]?=Z ps[j]:=zo hj;have eL:L[j]?=Z L[j]:=zo I;have G:=sm _ _ h.out;refine⟨⟨_,.ref ps[j],.inl (.inl G),by rw[Zs,ep];rfl⟩,λw H1 A=>?_⟩;obtain⟨rfl,s⟩:=A;have s:=s _ (.inl (.inl G));rw[Zs,ep]at s;cases s;obtain⟨nb,o,t⟩:=h.inn j _ _ eL ep;have Q:=sm _ _ t;have N:bF X.K H1 H1 (σ'.set 0 (Z (.ref ps[j]))) [Z (.z (Wf L[j]))]:=by
   refine⟨by rw[qi,l1];rfl,λi b e=>?_,λi j c a b e f=>?_,AV.refl _,λi c a e f=>?_⟩
   ·cases i with
    |zero=>
     cases e;refine⟨.ref ps[j],QO (),?_⟩;simp only[aX];rw[AW];exact⟨_,_,rfl,.inl ⟨o,Q⟩,n8 (h.sz _ (kq I))⟩
    |succ i=>cases e
   ·cases i with
    |zero=>cases e;cases f
    |succ i=>cases e
   ·cases i with
    |zero=>cases e;cases f
    |succ i=>cases e
  have F:(L.zip ps).take (j+1)=(L.zip ps).take j++[(L[j],ps[j])]:=by
   rw[yv (),my]
  refine⟨H1,_,qt L[j],N,PM,λH3 m=>?_⟩;cases C:qt L[j]with
  |true=>
   rw[zt rfl];refine⟨.ref ps[j],QO (),_,m _ _ eD,?_,?_⟩
   ·have:(fp j).length<=(L.zip ps).length:=ZH (yz _ _) (by rw[JU];exact y4 _ _);rw[zk];have big:64<AA:=by decide
    have:=h.len;exact JY () big
   ·refine⟨by rw[qi,l1],λb u e=>?_,?_⟩
    ·rw[aF (bf e g)];exact m _ _ (sm _ _ e)
    ·rw[aQ];show _=Z (HO.lst ((((L.zip ps).take (j+1)).filter λc=>qt c.1).map λc=>V.ref c.2));rw[F,l0,qo];have:[(L[j],ps[j])].filter (λc=>qt c.1)=[(L[j],ps[j])]:=by simp[C]
     rw[this];rfl
  |false=>
   rw[ZA zI];refine⟨by rw[qi,l1],sm.trans m,?_⟩;rw[m _ _ eD];show _=Z (HO.lst ((((L.zip ps).take (j+1)).filter λc=>qt c.1).map λc=>V.ref c.2));rw[F,l0];have:[(L[j],ps[j])].filter (λc=>qt c.1)=[]:=by simp[C]
   rw[this,JP]
 ·have e1:∀(L:O AZ) (ps:O A1),L.length=ps.length->((L.zip ps).filter λc=>qt c.1).map (·.1)=L.filter qt:=λL=>by
   induction L with
   |nil=>intro ps _;rfl
   |cons y L P=>
    intro ps J;cases ps with
    |nil=>cases J
    |cons p ps=>
     rw[YU,xf,xf];have:=P ps (by simpa using J);split
     ·rw[Zl,this]
     ·exact this
  have a6:fp ps.length=(L.zip ps).filter λc=>qt c.1:=by
   show((L.zip ps).take ps.length).filter _=_;rw[<-lz,ir]
  rw[a6]at eD;have b3:σ.length=6:=h.env.len;have a5:(((L.zip ps).filter λc=>qt c.1).map (·.2)).Sublist ps:=by
   have:=(List.filter_sublist (l:=L.zip ps) (p:=λc=>qt c.1)).map (·.2);rwa [List.map_snd_zip (by rw[h.len];exact zl _)]at this
  refine q d (((L.zip ps).filter λc=>qt c.1).map (·.2)) H' ⟨h.env.sl (Ze (.inl S)) _,h.sub.trans sm,QO (),by rw[qa];exact eD,h.sub.free g,h.nd.sublist a5,by rw[<-e1 L ps h.len,zk,zk],λk y p E B=>?_,λy A=>h.sz y (cw.mp A).1,h.hx⟩;rw[<-e1 L ps h.len,Zs]at E;rw[Zs]at B;obtain⟨c,f,W⟩:=ef.mp E;rw[f]at B;cases B;subst W;have mz:=(cw.mp (ZN f)).1;obtain⟨i,hi,M⟩:=kg mz;rw[my]at M;have a7:i<L.length:=by rw[h.len];omega
  have a3:i<ps.length:=by omega
  obtain⟨n,o,t⟩:=h.inn i _ _ (zo a7) (zo a3);rw[<-M];exact⟨n,o,sm _ _ t⟩
end
section
variable{b1:Bx}{x:Int}{u v:Y Bx}{ps:O A1}{D:BV}
abbrev Eg(X:Cx):TE:=DH X (EG X.K "list" Br (vM 2) (nQ (Hc (nQ (vM 5) Ar)) Ar))
abbrev Lm(X:Cx):TE:=DH X (EG X.K "list" Br (DH X (DI (WR X.K) (vM 2) (tF X.K NW))) (nQ (vM 5) Ar))
theorem hI{nm:AJ}(h:oX X H0 Hb (K3 b0 b1 (Z (.z (.int x))) (Z (.z (.str nm)))) true L a ps σ H)(f:L.length<64)(i:∀y∈L,y.length<64)
  (q:∀B H',oX X H0 Hb (K3 b0 b1 (Z (.z (.int x))) (Z (.z (.str nm)))) true (Be L x nm) a B σ H'->D.nx σ H'):
  MW (R3 X.K GU) (K' (K9 (Eg X)) Ws) (K' (K9 (Lm X)) Ws) D σ H:=by
 obtain⟨w,l,n⟩:=h.env.val 5 _ rfl;obtain⟨rfl,j⟩:w=.str nm/\nm.length<=AA:=by simpa only[aX,AW]using n
 have big:64<AA:=by decide
 refine⟨H0,_,_,h.Zd,TD,λH2 G=>?_⟩;have h2:=h.grow G;by_cases c:(decide (x / 256%2=0)||decide (L=[]))=true
 ·have ep:Be L x nm=L++[[nm]]:=by unfold Be;rw[zt c]
  rw[ep]at q;dsimp only;rw[zt c];refine⟨.ref a,h2.at2,.inl ⟨rfl,_,.inl (.inl h2.out)⟩,.str nm,l,(show 1<=AA by decide),λp hp=>?_⟩;have np:a≠p:=λz=>by rw[<-z,h2.out]at hp;cases hp
  have ea:(B1 H2 p (.lst [V.str nm])) a=Z (.lst (ps.map .ref)):=by rw[aF np];exact h2.out
  refine⟨a,ps.map .ref,.ref p,rfl,rfl,ea,by rw[zk,<-h2.len];exact eo f big,?_⟩;refine Mv.jm (a:=p) (ks:=[V.str nm]) (by rw[aF (Q2 np),aQ]) λo=>q (ps++[p]) _ ?_;refine h2.more (o:=o) (x:=[nm]) hp (λb z d F e=>by rw[aF d,aF F,aF d];exact e) aQ (by rw[aF np,aQ]) λy i=>?_;rw[au.mp i];exact j
 ·have ep:Be L x nm=L.set (mD (x / 512) L.length) (L.getD (mD (x / 512) L.length) []++[nm]):=by unfold Be;rw[ZA c]
  rw[ep]at q;dsimp only;rw[ZA c];have v:L≠[]:=λz=>c (by simp[z]);have k:=bc.mpr v;refine⟨.ref a,h2.at2,H0,_,_,h2.Zd,d5 k,λw N t J u=>?_⟩;have g:=h2.grow t;have E:w=.int (mD (x / 512) L.length:Nat):=by simpa only[aX,AW]using u
  obtain⟨y,p,e1,e2,M,⟨o,A⟩,s,C,I⟩:=g.ix (qR (x:=x / 512) k);refine⟨a,_,_,.ref p,rfl,E,.inl (.inl g.out),RW (by rw[Zs,e2];rfl),?_⟩;refine Mv.Dk A s ⟨.inl ⟨rfl,_,.inl (.inl aQ)⟩,.str nm,l,p,_,.str nm,rfl,rfl,aQ,?_,?_⟩
  ·rw[zk];exact eo (i y (ZN e1)) big
  refine Mv.jm aQ λo'=>q ps _ ?_;rw[getD_some e1];refine g.put (o:=o') e1 e2 (λb z d e=>by rw[aF d,aF d,aF d];exact e) (by rw[aQ,qo];rfl) λz f=>?_;rcases aJ.mp f with m|m
  ·exact C z m
  ·rw[au.mp m];exact j
def Q5(X:Cx):TS:=λD σ H=>∃H0 Hb b0 b1 x L a ps v,oX X H0 Hb (K3 b0 b1 (Z (.z (.int x))) v) false L a ps σ H/\GN L/\∀ σ' H' d b c,oX X H0 Hb (K3 b0 b1 (Z (.z (.int x))) c) false (lX L x) d b σ' H'->D.nx σ' H'
theorem VD{c1 n:Expr}{m j l e1 e2:AB}{q1 I:Pos}(w:PT X c1 (R3 X.K NR))(h2:PS X m (Ug (DI (WR X.K) (vM 2) (tF X.K Ha)) (p7 4)))(d:PS X j (Ug (DH X (EG X.K "list" Qe (vM 4) (nQ (DH X (tF X.K HU)) Ar))) (p7 5)))
  (i:PS X l (El 1 [] 2 (Wv X.K (vM 2)) (p7 0) (R3 X.K HH) (vM 0))) (C:PT X n (R3 X.K GU)) (B:PS X e1 (K9 (Eg X))) (F:PS X e2 (K9 (Lm X))):vZ X [.If c1 [m,j,l,.If n [e1] [e2] I] [] q1] (Q5 X):=by
 refine GS (fR (Zc (dI (GD w (dI h2 (dI d (dI i (dI (GD C (dI B mL) (dI F mL)) mL)))) mL) mL))) λD σ H h=>?_;obtain⟨H0,Hb,b0,b1,x,L,a,ps,v,h,g,q⟩:=h;refine h.nP λH1 h1=>?_;refine⟨H0,_,_,h1.Zd,VE,λH2 G=>?_⟩;have h2:=h1.grow G;by_cases b:L=[]
 ·have e:lX L x=L:=by unfold lX;rw[zt b]
  rw[e]at q;dsimp only;rw[ZA (by simp[b])];exact h2.ac2 λH' h'=>q σ H' a ps v h'
 dsimp only;rw[zt (by simp[b])];refine cz h2 b λW p ep d=>?_;have c:=Er (x:=x) b;have hp:=g.ne _ (ZN c);have s:∀y∈L,y.length<64:=λy f=>JY (Eo f) g.lt;have i:(σ.set 4 (Z (V.ref p)))[4]?=Z (Z (.ref p)):=QO (by have:=d.env.len;rw[qi]at this;rw[this];exact(show 4<6 by decide));refine VI d c ep i hp (s _ (ZN c)) λH4 E=>?_;obtain⟨u,n2⟩:=Tj c (qR (x:=x / 16) (bc.mpr hp));have ep:Kc L (mD x L.length) (mD (x / 16) (Em L x).length)=(L.set (mD x L.length) ((Em L x).eraseIdx (mD (x / 16) (Em L x).length))).filter qt:=by unfold Kc;rw[getD_some c]
 have J:=uq g.ne;have:=g.lt;refine PU E (by rw[qi];omega) λo Q P k=>?_;rw[<-ep]at k;have M:=uq u;refine hI k () (λy f=>by have:=Eo f;omega) λA N t=>?_;refine t.ac2 λH' h'=>q _ H' o A (Z (.z (.str (FC L x)))) ?_;have e:lX L x=Be (Kc L (mD x L.length) (mD (x / 16) (Em L x).length)) x (FC L x):=by unfold lX;rw[ZA b]
 rw[e];exact h'
end
def N8:O Dt->Y (O AZ)
 |[]=>Z []
 |.tup ds::r=>(o9 ds).bind λx=>(N8 r).bind λy=>Z (x::y)
 |_=>U
theorem Ii:∀L:O AZ,N8 (L.map (eT eS))=Z L
 |[]=>rfl
 |x::L=>by
  show(o9 (x.map eS)).bind (λz=>(N8 (L.map (eT eS))).bind λy=>Z (z::y))=_;rw[BI,Ii L];rfl
theorem Oa:∀{ds:O Dt} {L:O AZ},N8 ds=Z L->ds=L.map (eT eS)
 |[],L,h=>by cases h;rfl
 |d::r,L,h=>by
  cases d with
  |tup ds=>
   obtain⟨x,e1,h⟩:=AT h;obtain⟨y,e2,h⟩:=AT h;cases h;rw[M8 e1,Oa e2];rfl
  |_=>cases h
theorem Ob:∀{ds:O Dt} {L:O Int},Hx ds=Z L->ds=L.map eI
 |[],L,h=>by cases h;rfl
 |d::r,L,h=>by
  cases d with
  |int i=>
   obtain⟨y,e2,h⟩:=AT (show(Hx r).bind (λy=>Z (i::y))=Z L from h);cases h;rw[Ob e2];rfl
  |_=>cases h
def Zf:Bx->Y (O Dt)
 |.z (.lst ds)=>Z ds
 |.l ds=>Z ds
 |_=>U
theorem Tn(h:Zf b=Z ds):Lp b ds:=by
 unfold Zf at h;split at h
 ·cases h;exact .inl rfl
 ·cases h;exact .inr rfl
 ·cases h
theorem Tp(h:Lp b ds):Zf b=Z ds:=by rcases h with rfl|rfl<;>rfl
def wN(xs:O Int):O Int:=BE xs U (Z (1+An xs 7%4))
def DT(one:O AZ)(xs:O Int):Prop:=(∀x∈one,x≠[])/\one.flatten.length<64/\In xs.length 7
instance (one:List AZ) (xs:List Int):Decidable (DT one xs):=by unfold DT In;infer_instance
def Ij(one:O AZ)(xs:O Int):O AZ:=fO (((wN xs).foldl lX one).map aV)
def gN:Ev->Y As
 |[Z b0,Z b1,U,U,U,U]=>(Zf b0).bind λd0=>(N8 d0).bind λone=>(Zf b1).bind λa=>(Hx a).bind λxs=>if DT one xs then Z (.rt (.o ((Ij one xs).map (eT eS))))else U
 |_=>U
def IQ:Ev->Y Bx:=bI tM (aq (gv 0) aK)
def HI:Ev->Y Bx:=CJ (gv 1) iG (jN (b2 dO (cB (.int 1)) (b2 fW (b2 g8 (gv 1) (cB (.int 7))) (cB (.int 4)))))
def LN:Ev->Y Bx:=bI qN (aq (gO (Jx (gv 2)) (nZ 0) wF (bI nW (aq (bI zX (aq (gv 0) aK)) aK)) [] 1) aK)
theorem OI{x:AZ}:IQ [Z (.z (eT eS x))]=Z (.o (x.map eS)):=(BL (aA 0 (zE (eT eS)) x S)).ok trivial
theorem WF{b1:Bx}{a u b v:Y Bx}{xs:O Int}(h:Lp b1 (xs.map eI))(hi:In xs.length 7):E8 HI [Z b0,Z b1,a,u,b,v]=Z ((wN xs).map eI):=
 (Iy (HK (bY 1 eI xs h S) wI (uf (jt (B8 1) (c7 (gB (bY 1 eI xs h S) (B8 7)) 4 ()))))).ok hi
theorem Pf{b1:Bx}{u v:Y Bx}(h:GN L):LN [Z b0,Z b1,Z (.o (L.map Wf)),u,U,v]=Z (.o ((fO (L.map aV)).map (eT eS))):=by
 have l:=uq h.ne;have:=h.lt;have b:∀y∈L,y.length<64:=λy a=>JY (Eo a) h.lt;refine(yj (fK (wL (Ng (kY (aA 2 (lE (eL eS)) L S))) _ (λ_=>S) (λe:AZ=>(qP (fK (BP (su (aA 0 (zE (eL eS)) e S))))))))).ok ?_;refine⟨⟨show L.length<=100000 by omega,b⟩,?_,?_⟩
 ·show(L.map aV).length<64;rw[zk];omega
 ·intro y a;obtain⟨z,c,rfl⟩:=ax.mp a;have:(aV z).length=z.length:=(bx z).length_eq;have d:z≠[]:=h.ne z c;show(aV z).isEmpty=false;cases q:aV z with
  |nil=>
   rw[q]at this;exact absurd (cb.mp this.symm) d
  |cons _ _=>rfl
section
variable{b1:Bx}{one:O AZ}{xs:O Int}{u v:Y Bx}{ps:O A1}{D:BV}
theorem RF{w:V}(g:σ.length=1)(r:AW K H d w):bF K H H (σ.set 0 (Z w)) [Z (.z d)]:=by
 refine⟨by rw[qi,g];rfl,λi b e=>?_,λi j c a b e f=>?_,AV.refl _,λi c a e f=>?_⟩
 ·cases i with
  |zero=>cases e;exact⟨w,QO (),r⟩
  |succ i=>cases e
 ·cases i with
  |zero=>cases e;cases f
  |succ i=>cases e
 ·cases i with
  |zero=>cases e;cases f
  |succ i=>cases e
theorem dP(E:bF X.K H0 H σ (K3 b0 b1 U U))(hx:∀b C u,X.H₀ b=Z (.jm C u)->H b≠U)(h0:Lp b0 (one.map (eT eS)))(hz:one.length<64)
  (q:∀a ps H',oX X H0 H (K3 b0 b1 U U) false one a ps (σ.set 2 (Z (.ref a))) H'->D.nx (σ.set 2 (Z (.ref a))) H'):
  El 1 [] 2 (iC X.K (Jx (gv 0))) (p7 0) (λ_ H Q=>Q true H) (tF X.K IQ) D σ H:=by
 have big:64<AA:=by decide
 refine⟨H0,_,_,E,(Ng (bY 0 (eT eS) one h0 S)).ok trivial,λJ H2 l Y=>⟨one.length,λa j σ' H'=>σ'.length=1/\∃ps:O A1,ps.length=j/\ps.Nodup/\AV H2 H'/\H' a=Z (.lst (ps.map .ref))/\∀(k:Nat) x p,one[k]?=Z x->ps[k]?=Z p->H2 p=U/\H' p=Z (.lst (x.map .str))/\∀y∈x,y.length<=AA,
  λa g=>⟨rfl,[],rfl,.nil,bD g,aQ,λk x p _ e=>by simp at e⟩,λa j σ' H' g hj ⟨l1,ps,lp,nd,sm,eD,inn⟩=>?_,λa σ' H' ⟨_,ps,_,_,sm,_⟩=>(Y _ H' sm).2 (by show(one.map (eT eS)).length<=_;rw[zk];exact zl _),λa σ' H' g ⟨_,ps,lp,nd,sm,eD,inn⟩=>?_⟩⟩
 ·have e1:(one.map (eT eS))[j]?=Z (eT eS one[j]):=by rw[Zs,zo hj];rfl
  obtain⟨go,N⟩:=(Y j H' sm).1 _ e1;refine⟨go,λw H1 G=>?_⟩;obtain⟨d,L⟩:=N w H1 G;unfold p7;dsimp only;rw[zt rfl];refine⟨H1,_,_,RF l1 L,OI,λv H4 i M A=>?_⟩;obtain⟨p,vs,rfl,ep,P⟩:=A;obtain⟨rfl,I⟩:=kO P (BI one[j]);have np:=M p rfl;have F:=i _ _ (d _ _ eD);have W:p≠a:=λz=>by rw[z,d _ _ eD]at np;cases np
  have s:p∉ps:=λm=>by
   obtain⟨k,hk,ek⟩:=kg m;have:=(inn k one[k] p (zo ()) (by rw[<-ek];exact zo hk)).2.1;rw[d _ _ this]at np;cases np
  refine⟨_,F,by rw[zk,lp];omega,by rw[qi,l1],ps++[p],by simp[lp],List.nodup_append.mpr ⟨nd,iK ..,λb n c o z=>s (by rw[au.mp o]at z;exact z▸n)⟩,λb w e=>?_,by rw[aQ,qo];rfl,λk y r h f=>?_⟩
  ·rw[aF (bf e g)];exact i _ _ (d _ _ (sm _ _ e))
  ·by_cases hk:k<ps.length
   ·rw[Z3 hk]at f;obtain⟨i1,i2,i3⟩:=inn k y r h f;have B:r≠a:=λz=>by
     rw[z,eD]at i2;have e:ps.map V.ref=y.map V.str:=by injection i2 with e;injection e
     cases ps with
     |nil=>simp at hk
     |cons p' t=>
      cases y with
      |nil=>cases e
      |cons _ _=>cases e
    exact⟨i1,by rw[aF B];exact i _ _ (d _ _ i2),i3⟩
   ·rw[qv (xc hk)]at f;have:k-ps.length=0:=by
     have:=(ay.mp f).1;simpa using this
    rw[this]at f;cases f;have ek:k=j:=by omega
    subst ek;rw[zo hj]at h;cases h;exact⟨sm.free (d.free np),by rw[aF W];exact ep,I⟩
 ·have a3:σ.length=6:=E.len;refine q a ps H' ⟨E.sl (Ze (.inl S)) _,l.trans sm,QO (),eD,l.free g,nd,lp.symm,λk x p e1 e2=>⟨l.free (inn k x p e1 e2).1,(inn k x p e1 e2).2.1⟩,λx hx=>?_,hx⟩;obtain⟨k,hk,ek⟩:=kg hx;exact(inn k x ps[k] (by rw[<-ek];exact zo hk) (zo ())).2.2
theorem GN.fold:∀(zs:O Int) {L:O AZ},GN L->GN (zs.foldl lX L)
 |[],_,g=>g
 |z::zs,_,g=>GN.fold zs (g.step z).1
theorem ai(h:oX X H0 Hb (K3 b0 b1 U U) false one a ps σ H)(g:GN one)(h1:Lp b1 (xs.map eI))(hi:In xs.length 7)
  (q:∀Hs d f u v σ' H',oX X H0 Hs (K3 b0 b1 u v) false ((wN xs).foldl lX one) d f σ' H'->D.nx σ' H'):Ix (iF X.K (E8 HI)) (p7 3) (Q5 X) D σ H:=by
 refine⟨H0,_,_,h.env.grow h.sub,WF h1 hi,λJ H1 j y=>?_⟩;have A:=h.grow j
 let Hs:Hp:=λb=>if b=a\/b∈ps then U else H1 b
 have l:∀b,b≠a->b∉ps->Hs b=H1 b:=λb n m=>ZA λz=>z.elim n m;have B:∀b,b∈ps->∃w,H b=Z (.lst w):=λb m=>by
  obtain⟨k,x,e1,e2⟩:=h.get m;exact⟨_,(h.inn k x b e1 e2).2⟩
 have F:AV Hs H1:=λb w e=>by
  by_cases c:b=a\/b∈ps
  ·rw[show Hs b=U from zt c]at e;cases e
  ·rw[<-show Hs b=H1 b from ZA c];exact e
 have Y:=y Hs F (λb t=>l b (λz=>by rw[z,h.out]at t;cases t) λm=>by obtain⟨w,e⟩:=B b m;rw[t]at e;cases e)
  (λb o w e=>l b (λz=>by rw[z,j _ _ h.out]at e;cases e) λm=>by obtain⟨E,e'⟩:=B b m;rw[j _ _ e']at e;cases e)
  (λb vs e=>l b (λz=>by rw[z,j _ _ h.out]at e;cases e) λm=>by obtain⟨E,e'⟩:=B b m;rw[j _ _ e']at e;cases e)
 have G:AV Hb Hs:=λb w e=>by
  rw[l b (λz=>by rw[z,h.na]at e;cases e) λm=>by
   obtain⟨k,x,e1,e2⟩:=h.get m;rw[(h.inn k x b e1 e2).1]at e;cases e]
  exact A.sub _ _ e
 have hN:oX X H0 Hs (K3 b0 b1 U U) false one a ps σ H1:=⟨h.env.grow G,F,h.at2,A.out,zt (.inl S),h.nd,h.len,λk x p e1 e2=>⟨zt (.inr (ZN e2)),(A.inn k x p e1 e2).2⟩,h.sz,λb P w e z=>by
  cases c:Hb b with
  |none=>exact h.hx b P w e c
  |some E=>rw[G b E c]at z;cases z⟩
 generalize a4:wN xs=zs at Y q;refine⟨λi m σ' H'=>∃d f u v,oX X H0 Hs (K3 b0 b1 u v) false ((zs.take i).foldl lX one) d f σ' H'/\m=zs.length-i/\i<=zs.length,⟨zs.length,a,ps,U,U,by simpa using hN,by simp,QR _⟩,λi m σ' H' ⟨d,f,u,v,n,em,hi'⟩=>?_⟩;obtain⟨y1,y2⟩:=Y i H' n.sub;by_cases C:i<zs.length
 ·right;obtain⟨go,yl⟩:=y1 (.int zs[i]) (by rw[Zs,zo C];rfl);refine⟨go,λI H2=>∃d f v,oX X H0 Hs (K3 b0 b1 (Z (.z (.int zs[i]))) v) false ((zs.take (i+1)).foldl lX one) d f I H2,λI H2 ⟨a2,p2,v2,s⟩=>⟨zs.length-(i+1),by omega,a2,p2,_,v2,s,rfl,C⟩,λw H2 hy=>?_⟩;obtain⟨s2,N⟩:=yl w H2 hy;have Q:w=.int zs[i]:=by simpa only[AW]using N
  subst Q;have s:=n.grow s2;have e3:=s.env.set (i:=3) (b:=.z (.int zs[i])) (v:=.int zs[i]) (AV.refl Hs) (by simp only[aX,AW]) (.inr S) trivial;refine⟨H0,Hs,b0,b1,zs[i],_,d,f,v,s.sl () _ e3,GN.fold _ g,λa5 H3 L p3 W M=>⟨L,p3,W,?_⟩⟩;rw[yv C,List.foldl_append];exact M
 ·left;have:i=zs.length:=by omega
  subst this;rw[ir]at n;exact⟨y2 (by show(zs.map eI).length<=_;rw[zk];exact zl _),q Hs d f u v σ' H' n⟩
theorem Ke{f h SR:AB}{B:O AB}(i:PS X f (El 1 [] 2 (iC X.K (Jx (gv 0))) (p7 0) (λ_ H Q=>Q true H) (tF X.K IQ)))(m:∀{t:TS},vZ X B t->PS X h (Ix (iF X.K (E8 HI)) (p7 3) t))(C:vZ X B (Q5 X))(l:PS X SR (O3 (tF X.K LN))):Ut X [f,h,SR] gN:=⟨by
 intro AN s σ H D I q;obtain⟨H0,ρ,r,E,e,fo⟩:=q;unfold gN at e;split at e
 ·rename_i b0 b1;obtain⟨d0,p0,e⟩:=AT e;obtain⟨one,j,e⟩:=AT e;obtain⟨L,p1,e⟩:=AT e;obtain⟨xs,t1,e⟩:=AT e;split at e
  ·rename_i ok;cases e;have o:=Oa j;have A:=Ob t1;subst o A;have g:GN one:=⟨ok.1,ok.2.1⟩;have P:=uq g.ne;have J:=g.lt;refine(dI i (dI (m C) (Zc (dI l mL)))) AN s σ H D I ?_;refine dP E (λb p w z c=>by rw[I.base.nP b p w z]at c;cases c) (Tn p0) () λF ps H1 h1=>?_;refine ai h1 g (Tn p1) ok.2.2 λHs G M u v σ' H2 h2=>?_;refine h2.nP λN a=>?_;have d:=a.env.base.trans a.sub;exact⟨H0,_,_,a.Zd,Pf (GN.fold _ g),λw y k x n=>fo w y (d.trans k) (x.old d) n⟩
  ·cases e
 ·cases e⟩
end
theorem RH{one:O AZ}{xs:O Int}{b1:Bx}(a:Lp b0 (one.map (eT eS)))(h1:Lp b1 (xs.map eI)):RP gN [Z b0,Z b1,U,U,U,U] (λr=>As.rt ((oE (eT eS)) r)) (Ij one xs) (Z (DT one xs)):=R.tp (⟨Ij one xs,Z (DT one xs),λh=>by
 have h:DT one xs:=h;unfold gN;simp only[Tp a,Tp h1,Au,Ii,HS];rw[zt h]⟩)
section
variable{e:α->Dt}
def Se{k:Ev->Y As}{cO:γ->As}(i:Nat)(fe:Ev->Y Bx)(d:Dt)(a:fe ρ=Z (.z d))(v:Y (O α))(hi:ρ[i]?=Z (Z (qE e v)))(K:∀ds:O Dt,R k (ρ.set i (Z (.o ds))) cO):R (aO (Ms i fe) k) ρ cO:=⟨(K ((v.getD []).map e++[d])).v,bw (Z (v.isSome=true/\uY (v.getD []).length)) (K ((v.getD []).map e++[d])).D,λc=>by
 obtain⟨h1,b⟩:=aD c;obtain⟨h1,h2⟩:v.isSome=true/\uY (v.getD []).length:=h1;cases v with
 |none=>cases h1
 |some l=>
  have h2:l.length<=1000000:=h2;have hi:ρ[i]?=Z (Z (.o (l.map e))):=hi;rw[pY (ρ':=ρ.set i (Z (.o (l.map e++[d])))) (by
   unfold Ms;simp only[a,Au,Xe,hi,zk];rw[zt (JY h2 ())])]
  exact(K _).ok b⟩
end
section
variable{e:α->Dt}
def Tq(a:R fa ρ (lE e)):R fa ρ (F2 e):=⟨Z a.v,a.D,λh=>a.ok h⟩
end
def Tr(ρ:Ev)(i:Nat):Bx->Bx->Y As
 |.z d,.z (.int n)=>match ρ[i]? with
  |some (Z (.o ds))=>if 0<=n/\n<ds.length then Z (.nx (ρ.set i (Z (.o (ds.set n.toNat d)))))else U
  |_=>U
 |_,_=>U
def Tt(i:Nat)(f fk:Ev->Y Bx):Ev->Y As:=λρ=>(f ρ).bind λb=>(fk ρ).bind λk=>Tr ρ i b k
theorem Oc{K:B4}{H:Hp}:∀(m:Nat) {ds:O Dt} {vs:O V} {d:Dt} {v:V},aP K H ds vs->AW K H d v->aP K H (ds.set m d) (vs.set m v)
 |m,[],vs,d,v,h,_=>by
  cases vs with
  |nil=>exact h
  |cons v vs=>have:=h.length;simp at this
 |m,d0::ds,vs,d,v,h,hd=>by
  cases vs with
  |nil=>have:=h.length;simp at this
  |cons b vs=>
   obtain⟨a,r,e,q,t⟩:∃a r,b::vs=a::r/\AW K H d0 a/\aP K H ds r:=by
    simpa only[aP]using h
   cases e;cases m with
   |zero=>exact aP.cons hd t
   |succ m=>exact aP.cons q (Oc m t hd)
section
variable{ek:Expr}{pos':Pos}
theorem b7(i:Nat){p:Pos}(he:QV X e f)(hk:QV X ek fk)(I:X.N[i]?=Z x:=by rfl)(G:Z1 X.env.scope x:=by first|exact Kj rfl|exact ki (Kj S)|exact ki (ki S))(A:db x:=by decide)(B:(x==("__classdict__":AJ))=false:=by decide)(hs:swapsWithSole [.Subscript (.Name x p) ek pos'] e pos.line X.env=pure false:=by rfl)(C:swappedStores [.Subscript (.Name x p) ek pos'] e X.env=pure U:=by rfl)(hx:∀v,assign (.Subscript (.Name x p) ek pos') X.env v=(do let ov <-holding [v] (eval (.Name x p) X.env);let iv <-holding [v,ov] (eval ek X.env);standAt pos';holding [v,ov,iv] (setItem ov iv v);release [v,ov,iv] []):=by intro _;rfl):Wb X (.Assign [.Subscript (.Name x p) ek pos'] e pos) (Tt i f fk):=
 ⟨W6 (Wu he.run (XE (jE (i:=i) I G A B) hk.run Ch hx) hs C) λD σ H h=>by
  obtain⟨H0,ρ,r,E,e,q⟩:=h;obtain⟨b,eb,e⟩:=AT e;obtain⟨k,ek,e⟩:=AT e;refine⟨H0,ρ,b,E,eb,λv H1 o M y=>?_⟩;unfold Tr at e;split at e
  ·rename_i d n _;split at e
   ·rename_i ds j;split at e
    ·rename_i s;cases e;have g:=E.grow o;obtain⟨w,e1,a,vs,rfl,L,m⟩:=g.val i _ j;refine⟨_,e1,H0,ρ,_,g,ek,λu H2 c Q J=>?_⟩;have t:u=.int n:=by simpa only[aX,AW]using J
     have l:=c _ _ L;have z:=m.kp (.of c);have F:AW X.K H2 d v:=AW.kp (.of c) y;have P:=m.length;refine⟨a,vs,n,n.toNat,rfl,t,l,?_,q _ _ ((g.grow c).WW j e1 l (Oc _ z F))⟩;unfold WM;rw[zt s.1,zt ()]
    ·cases e
   ·cases e
  ·cases e⟩
end
section
variable{e:α->Dt}{k:Ev->Y As}{cO:γ->As}
theorem map_set{α β:Type}(f:α->β)(l:O α)(n:Nat)(x:α):(l.map f).set n (f x)=(l.set n x).map f:=by rw[List.map_set]
def cK(i:Nat)(xs:O α)(hi:ρ[i]?=Z (Z (.o (xs.map e))))(a:R fa ρ (zE e))(b:R fb ρ (zE eI))(K:∀ys:O α,R k (ρ.set i (Z (.o (ys.map e)))) cO):R (aO (Tt i fa fb) k) ρ cO:=⟨(K (xs.set b.v.toNat a.v)).v,bw (bw (bw a.D b.D) (Z (0<=b.v/\b.v<xs.length))) (K (xs.set b.v.toNat a.v)).D,λd=>by
 obtain⟨h,f⟩:=aD d;obtain⟨h,c⟩:=aD h;obtain⟨h1,h2⟩:=aD h;have c:0<=b.v/\b.v<xs.length:=c;rw[pY (ρ':=ρ.set i (Z (.o ((xs.set b.v.toNat a.v).map e)))) (by
  unfold Tt;rw[a.ok h1,Au,b.ok h2,Au];show Tr ρ i (.z (e a.v)) (.z (.int b.v))=_;unfold Tr;rw[hi];dsimp only;rw[zt (by rw[zk];exact c),map_set])]
 exact(K _).ok f⟩
end
theorem VF(h:eN d=true):∃x,d=.str x:=by
 cases d with
 |str x=>exact⟨x,rfl⟩
 |_=>cases h
theorem Od(h:Ap d=true):∃ds,d=.tup ds:=by
 cases d with
 |tup x=>exact⟨x,rfl⟩
 |_=>cases h
theorem Tv(h:Ap d=true):zp d=true:=by
 obtain⟨ds,rfl⟩:=Od h;rfl
theorem Tw(x y:AJ):Z6 (.str x) (.str y)=(x==y):=by
 rfl
theorem Tz(x y:AJ):EU (.str x) (.str y):=⟨by rfl,by simp[uP]⟩
theorem Kf(h:ds[k]?=Z d):qz (.tup ds) (k:Int)=d:=by
 have a:k<ds.length:=(ay.mp h).1;have:Av ds (k:Int)=Z d:=by
  unfold Av WM;rw[zt (),zt (),Au,kc,h]
 unfold qz;simp only[g8,mR,Au,this]
theorem Zg(a:Dt)(r:O Dt):qz (.tup (a::r)) 0=a:=Kf (k:=0) rfl
theorem NV(a b:Dt)(r:O Dt):qz (.tup (a::b::r)) 1=b:=Kf (k:=1) rfl
theorem NU(a b c:Dt)(r:O Dt):qz (.tup (a::b::c::r)) 2=c:=Kf (k:=2) rfl
theorem RA(h:d∈FZ (.str x)):d=eS (Z7 d):=by
 unfold FZ BQ at h;obtain⟨c,_,rfl⟩:=ax.mp h;rfl
theorem RC(x:AJ):(FZ (.str x)).length=x.length:=Vp x
theorem C7(a b:AJ):Vn a b=true↔FW a b/\a≠b:=by
 unfold Vn FW;rw[ltCps_eq];simp only[QA,ke];constructor
 ·intro h;exact⟨List.lt_asymm h,λe=>by subst e;exact List.lt_irrefl _ h⟩
 ·intro⟨h,hn⟩;by_cases q:a.cps.toList<b.cps.toList
  ·exact q
  ·exact absurd (Mu (a:=a) (b:=b) (by unfold FW;rw[ltCps_eq];simpa using h) (by unfold FW;rw[ltCps_eq];simpa using q)) hn
theorem Zh(n:Nat):rng 0 (n+1)=0::(rng 0 n).map (·+1):=by
 unfold rng;rw[je,Zl,qa,qa];refine congr (congrArg _ ?_) ?_
 ·simp
 ·apply QE;intro k _;simp only[Function.comp];omega
theorem u5{i:Int}(h:i∈rng 0 n):∃k:Nat,k<n/\i=(k:Int):=by
 unfold rng at h;obtain⟨k,hk,rfl⟩:=ax.mp h;exact⟨k,dg.mp hk,by omega⟩
def mG(xs:AZ):Bool:=((rng 0 ((xs.length:Int)-1).toNat).map λi:Int=>Vn (An xs i) (An xs (i+1))).all id
theorem TF(a:AJ)(l:AZ)(h:k<l.length):An (a::l) ((k:Int)+1)=An l (k:Int):=by
 have e:=DP (a::l) (k+1) (by simp;omega);rw[DP l k h,show((k:Int)+1)=((k+1:Nat):Int) by omega,e];rfl
theorem Oe(a b:AJ)(l:AZ):mG (a::b::l)=(Vn a b&&mG (b::l)):=by
 unfold mG;rw[show(((a::b::l).length:Int)-1).toNat=l.length+1 by simp only[Qr];omega,show(((b::l).length:Int)-1).toNat=l.length by simp only[Qr];omega,Zh,Zl,kC,qa];refine congr (congrArg _ ?_) (congrArg (λl:O Bool=>l.all id) ?_)
 ·have e0:=DP (a::b::l) 0 (by simp);have e1:=DP (a::b::l) 1 (by simp);show Vn (An (a::b::l) ((0:Nat):Int)) (An (a::b::l) ((1:Nat):Int))=Vn a b;rw[e0,e1];rfl
 ·apply QE;intro i hi;obtain⟨k,hk,rfl⟩:=u5 hi;have e1:=TF a (b::l) (k:=k) (by simp;omega);have e2:=TF a (b::l) (k:=k+1) (by simp;omega);have e3:((k+1:Nat):Int)=(k:Int)+1:=by omega
  rw[e3]at e2;simp only[Function.comp];rw[e1,e2]
theorem ur:∀(xs:AZ),mG xs=true↔xs.Pairwise λa b=>Vn a b=true
 |[]=>by simp[mG,rng]
 |[a]=>by simp[mG,rng]
 |a::b::l=>by
  rw[Oe,ZZ,ur (b::l),@du _ _ a (b::l)];constructor
  ·intro⟨h1,h2⟩;refine⟨λy c=>?_,h2⟩;rcases List.mem_cons.mp c with rfl|c
   ·exact h1
   ·have:=JS h2 c;unfold Vn at *
    simp only[QA]at *
    exact List.lt_trans h1 this
  ·intro⟨h1,h2⟩;exact⟨h1 b (zh ..),h2⟩
theorem TJ:∀{xs:AZ},xs.Nodup->mj xs=xs
 |[],_=>rfl
 |x::xs,h=>by
  have:=cc.mp h;unfold mj;rw[ZA this.1,TJ this.2]
theorem VG(xs:AZ):mG xs=decide (xs=aV (mj xs)):=by
 rw[KU,ur,QA];constructor
 ·intro h;have c:xs.Nodup:=h.imp λ{a b} q=>((C7 a b).mp q).2;rw[TJ c];exact xW (bx xs).symm (h.imp λ{a b} q=>((C7 a b).mp q).1) (f9 xs)
 ·intro h;rw[h];have c:(aV (mj xs)).Nodup:=(bx _).nodup_iff.mpr (yc xs);exact((f9 (mj xs)).and c).imp λ{a b} q=>(C7 a b).mpr q
end P1
namespace P1
open L2 S1 S6
theorem Es{α:Type}[DecidableEq α]:∀{xs ys:O α},xs.Nodup->(∀x∈xs,x∈ys)->xs.length<=ys.length
 |[],_,_,_=>QR _
 |x::xs,ys,nd,h=>by
  obtain⟨h1,h2⟩:=cc.mp nd;have hx:=h x (zh ..);have:=Es (ys:=ys.erase x) h2 λy a=>(lb λe=>h1 (by rw[<-e];exact a)).mpr (h y (zi _ a));rw[List.length_erase_of_mem hx]at this;have:=List.length_pos_of_mem hx;simp only[Qr];omega
structure Wd (U:AZ) (w:List AZ):Prop where
 ne:∀s∈w,s≠[]
 so:∀s∈w,s.Pairwise FW
 nd:w.flatten.Nodup
 sub:∀x∈w.flatten,x∈U
 st:w.Pairwise (λa b=>F' a b=true)
def same(w:O AZ)(x y:AJ):Prop:=∃s∈w,x∈s/\y∈s
theorem Et{α:Type}:∀{w:O (O α)},w.flatten.Nodup->∀{s:O α},s∈w->s.Nodup
 |a::w,h,s,hs=>by
  rw[Zp,yo]at h;rcases List.mem_cons.mp hs with e|e
  ·rw[e];exact h.1
  ·exact Et h.2.1 e
structure Da (m:List (Int×List α)) (xs:List α):Prop where
 k:(m.map (·.1)).Nodup
 ne:∀q∈m,q.2≠[]
 p:(m.map (·.2)).flatten.Perm xs
theorem Da.put{m:O (Int×O α)}{xs:O α}(h:Da m xs)(k:Int)(x:α):Da (uo m k x) (xs++[x]):=by
 unfold uo;split
 ·rename_i hk;obtain⟨q0,c,e⟩:=List.any_eq_true.mp hk;have e:q0.1=k:=yn e;obtain⟨g,AS,rfl⟩:=l5 c;have f:=h.k;rw[qo,Zl,yo]at f;have i:∀l:O (Int×O α),k∉l.map (·.1)->l.map (λq=>if q.1=k then(q.1,q.2++[x])else q)=l:=λl j=>by
   conv=>rhs;rw[<-List.map_id l]
   exact QE λq c=>by rw[ZA λz=>j (ax.mpr ⟨q,c,z⟩)];rfl
  have f1:=i g λz=>f.2.2 _ z _ (zh ..) e.symm;have f2:=i AS λz=>(cc.mp f.2.1).1 (by rw[e];exact z);have f3:(g++q0::AS).map (λq=>if q.1=k then(q.1,q.2++[x])else q)=g++(q0.1,q0.2++[x])::AS:=by rw[qo,Zl,f1,f2,zt e]
  rw[f3];refine⟨by have:=h.k;simpa using this,λq c=>?_,?_⟩
  ·rcases aJ.mp c with c|c
   ·exact h.ne q (kz _ c)
   ·rcases List.mem_cons.mp c with z|c
    ·rw[z];simp
    ·exact h.ne q (ZI _ (zi _ c))
  ·refine KS ?_ (h.p.append_right [x]);simp only[qo,Zl,JE,Zp,QN];refine List.Perm.append_left _ (List.Perm.append_left _ ?_);exact de
 ·rename_i hk;refine⟨?_,λq c=>?_,?_⟩
  ·rw[qo,yo];refine⟨h.k,by simp,λa n b d=>?_⟩;have d:b=k:=by simpa using d
   subst d;intro z;subst z;obtain⟨q,c,e⟩:=ax.mp n;exact hk (List.any_eq_true.mpr ⟨q,c,qS e⟩)
  ·rcases aJ.mp c with c|c
   ·exact h.ne q c
   ·cases au.mp c;simp
  ·rw[qo,JE];simpa using h.p.append_right [x]
theorem UH(k:β->Int)(v:β->α)(xs:O β):Da (Nx k v xs) (xs.map v):=by
 unfold Nx;have:∀(ys:O β) (m:O (Int×O α)) (zs:O α),Da m zs->Da (ys.foldl (λm x=>uo m (k x) (v x)) m) (zs++ys.map v):=by
  intro ys
  induction ys with
  |nil=>intro m zs h;simpa using h
  |cons y ys a=>
   intro m zs h;have:=a _ _ (h.put (k y) (v y));simpa[QN]using this
 simpa using this xs [] [] ⟨yf,λ_ h=>(by cases h),.nil⟩
theorem Eu[Inhabited α]{m:O (Int×α)}(b:(m.map (·.1)).Nodup){q:Int×α}(h:q∈m):look m q.1=q.2:=by
 unfold look;cases a:m.find? λp=>decide (p.1=q.1)with
 |none=>exact absurd (lI.mp a q h) (by simp)
 |some p=>
  have h1:=List.mem_of_find?_eq_some a;have h2:p.1=q.1:=by simpa using List.find?_some a
  have:p=q:=yq (f:=λp:Int×α=>p.1) b h1 h h2;rw[this];rfl
theorem wO:∀{m:O AZ},(m.map aV).flatten.Perm m.flatten
 |[]=>.nil
 |s::m=>by rw[Zl,Zp,Zp];exact(bx s).append wO
theorem iZ{w a:O AZ}(h:w.Perm a):w.flatten.Perm a.flatten:=by
 induction h with
 |nil=>exact .nil
 |cons x _ b=>rw[Zp,Zp];exact b.append_left x
 |swap x y l=>
  simp only[Zp,<-QN];exact de.append_right _
 |trans _ _ h1 h2=>exact h1.trans h2
theorem Re{m:O (Int×AZ)}{xs U:AZ}(h:Da m xs)(g:xs.Nodup)(f:∀x∈xs,x∈U):Wd U (fO ((m.map (·.1)).map λk:Int=>aV (look m k)))/\(fO ((m.map (·.1)).map λk:Int=>aV (look m k))).flatten.Perm xs:=by
 have e:((m.map (·.1)).map λk:Int=>aV (look m k))=(m.map (·.2)).map aV:=by
  rw[qa,qa];exact QE λq a=>by simp only[Function.comp,Eu h.k a]
 rw[e];have pm:=gU ((m.map (·.2)).map aV);have c:(fO ((m.map (·.2)).map aV)).flatten.Perm xs:=(iZ pm).trans (wO.trans h.p);have d:∀s∈fO ((m.map (·.2)).map aV),∃q∈m,s=aV q.2:=λs b=>by
  obtain⟨t,i,rfl⟩:=ax.mp (pm.mem_iff.mp b);obtain⟨q,a,rfl⟩:=ax.mp i;exact⟨q,a,rfl⟩
 refine⟨⟨λs b z=>?_,λs b=>?_,c.nodup_iff.mpr g,λx hx=>f x (c.mem_iff.mp hx),pF _⟩,c⟩
 ·obtain⟨q,a,rfl⟩:=d s b;exact h.ne q a (by have:=(bx q.2).length_eq;rw[z]at this;exact cb.mp this.symm)
 ·obtain⟨q,a,rfl⟩:=d s b;exact f9 _
end P1
section
set_option maxHeartbeats 1000000
namespace P1
open L2
open PySem.Builtin PySem.Builtin.Str
abbrev cs(s:AJ):O Nat:=s.cps.toList
theorem Kg(a b:AJ):cs (a++b)=cs a++cs b:=gR
theorem Ew(a:AJ):a.length=(cs a).length:=by simp[Str.length]
theorem aS(y p q:AJ)(ps:AZ):Str.join y (p::q::ps)=p++y++Str.join y (q::ps):=rfl
theorem VH{c:Nat}{s:AJ}(h:c∈cs s):zW ⟨#[c]⟩ s=true:=by
 unfold zW;obtain⟨i,hi⟩:=(mem_iff_at s c).mp h;rcases StrLaws.occ_head s ⟨#[c]⟩ 1 (zl 1)with⟨a,b⟩|⟨i,r,a,_,_⟩
 ·exact absurd hi (b i)
 ·rw[a];rfl
theorem Zi(h:n<=x.length):cs (Txt.slice x (Z (n:Int)) U)=(cs x).drop n:=by
 rw[slice_from_eq (b:=x.length) () () rfl];show((cs x).drop ((n:Int).toNat)).take _=_;rw[kc,List.take_of_length_le (by rw[ko,<-Ew];omega)]
theorem Zj(h:n<=x.length):cs (Txt.slice x U (Z (n:Int)))=(cs x).take n:=by
 have:=slice_closes_to (x:=x) (j:=(n:Int)) ⟨by omega,by rw[show x.cps.toList.length=x.length by simp[Str.length]];omega⟩;rw[eq_of_beq this];show((cs x).drop 0).take _=_;simp
theorem Zk(x:AJ):Bz x=(cs x).map λc=>⟨#[c]⟩:=rfl
theorem gE:∀(y p:AJ) (ps:AZ),cs (Txt.join y (p::ps))=cs p++ps.flatMap λq=>cs y++cs q:=by
 intro y p ps;rw[show Txt.join y (p::ps)=Str.join y (p::ps) from StrLaws.glued_eq_join y _]
 induction ps generalizing p with
 |nil=>simp[Str.join]
 |cons q ps a=>rw[aS,Kg,Kg,a,ic,QN,QN]
end P1
end
section
set_option maxHeartbeats 1000000
namespace P1
open L2 S1 S6
section
variable [Inhabited α]
end
section
variable{e:α->Dt} [Nk e]
end
end P1
end
namespace P1
open L2
open PySem.Builtin PySem.Builtin.Str
end P1
section
set_option maxHeartbeats 1000000
namespace P1
open L2
open PySem.Builtin PySem.Builtin.Str
end P1
end
section
set_option synthInstance.maxSize 100000
namespace G47
open L2 P1
noncomputable section
abbrev SE:=O P1.Dt
abbrev Q6:Type:=Int×AJ
abbrev uw:Type:=AJ×AZ×AZ
abbrev dW:uw->Dt:=DZ eS (eT eS) (eT eS)
abbrev NX:Type:=AZ×(O AZ)×(O AZ)
abbrev Nc:NX->Dt:=DZ (eL eS) (eL (eT eS)) (eL (eT eS))
def ux(d:Dt):AZ:=(WV d).map Z7
def cW(d:Dt):uw:=(Z7 (qz d 0),ux (qz d 1),ux (qz d 2))
def Zm:O Dt:=[Dt.non,(Dt.tup []),(Dt.int 7),(Dt.str "a"),(Dt.tup [(Dt.int 7)]),(Dt.tup [((eL eI) [])]),Dt.emp]
def top(i:Nat):AB:=PySem.Challenge.pw_onefolk_k47_joinings_behind_steps.main.body.getD i (.Pass ⟨0,0,0,0⟩)
abbrev Ey:AB:=top 27
abbrev vU:AB:=top 28
abbrev Ai:AB:=top 29
abbrev vV:AB:=top 30
abbrev Ez:AB:=top 32
abbrev Ik:AB:=top 31
abbrev qu:AB:=top 34
abbrev EY:AB:=top 35
abbrev rY:AB:=top 36
abbrev yC:AB:=top 37
abbrev yD:AB:=top 33
abbrev Il:AB:=top 38
abbrev Fd:AB:=top 10
abbrev Aj:AB:=top 11
abbrev yE:AB:=top 17
abbrev Im:AB:=top 16
abbrev yF:AB:=top 12
abbrev Ak:AB:=top 19
abbrev Og:AB:=top 21
abbrev Io:AB:=top 25
abbrev Fg:AB:=top 23
abbrev lG:AB:=top 24
abbrev wQ:AB:=top 40
abbrev s_law:AB:=top 41
def fuel:Nat:=4
def vW:Ev->Y As:=(aO (aO (B7 2 (b2 fW (b2 dO (b2 wB (gv 2) (cB (.int 69621))) (gv 3)) (cB (.int 2147483647)))) eF) (jk [3]))
def qT:Ev->Y As:=(aO (oV (lD Z5 (gv 1) (bI jG (aq (gv 0) aK))) (aO (fM (b2 g8 (gv 0) (gv 1))) eF) eF) (aO (B7 2 (b2 fW (b2 wB (cB (.int 48271)) (b2 dO (b2 dO (b2 wB (gv 1) (gv 1)) (b2 wB (cB (.int 7)) (gv 1))) (cB (.int 11)))) (cB (.int 2147483647)))) (aO (wD (E8 (CJ (gv 0) iG (jN (cB (.int 3))))) (nZ 3) vW) (aO (fM (gv 2)) eF))))
def iH:O Bx->Y Bx:=fL 4 qT
def lg:Ev->Y As:=(aO (aO (B7 3 (b2 fW (b2 dO (b2 dO (b2 wB (gv 3) (b2 dO (b2 fW (gv 3) (cB (.int 65521))) (cB (.int 40487)))) (b2 wB (cB (.int 7)) (gv 5))) (cB (.int 5))) (cB (.int 1999999973)))) (aO (Ms 2 (b2 g8 (bI gM (aq (gv 3) (aq (b2 fW (gv 4) (cB (.int 1000000))) aK))) (bI UG (aq (b2 EW (gv 4) (cB (.int 0))) aK)))) (aO (B7 4 (b2 o8 (gv 4) (cB (.int 1000000)))) eF))) (jk [5]))
def lH:Ev->Y As:=(aO (B7 2 (bI gM aK)) (aO (B7 3 (b2 fW (b2 wB (b2 dO (b2 fW (gv 0) (cB (.int 1999999973))) (cB (.int 31))) (cB (.int 765432101))) (cB (.int 1999999973)))) (aO (B7 4 (cB (.int 0))) (aO (oV (Ls (lD Z5 (gv 0) (cB (.int 0))) (lD Hn (gv 0) (b2 G' (cB (.int 10)) (cB (.int 18))))) (aO (aO (B7 4 (bI Xy (aq (gv 0) aK))) eF) (jk [])) (aO eF (jk []))) (aO (wD (UJ (aq (gv 1) aK)) (nZ 5) lg) (aO (Jk 2) eF))))))
def eV:O Bx->Y Bx:=fL 6 lH
def oF:Ev->Y As:=(aO (aO (B7 7 (b2 g8 (gv 2) (b2 fW (b2 dO (gv 6) (b2 g8 (gv 0) (cB (.int 2)))) (cB (.int 15))))) (aO (B7 8 (b2 dO (b2 dO (CJ (gv 3) iG (jN (gv 4))) (gv 7)) (CJ (gv 3) (jN (gv 4)) iG))) (aO (oV (lD BO (b2 fW (b2 g8 (gv 0) (cB (.int 3))) (cB (.int 3))) (cB (.int 1))) (aO (aO (B7 8 (b2 wB (b2 g8 (gv 2) (b2 o8 (gv 6) (cB (.int 8)))) (b2 dO (cB (.int 1)) (b2 fW (gv 6) (cB (.int 8)))))) eF) (jk [])) (aO eF (jk []))) (aO (Ms 5 (gv 8)) eF)))) (jk [6,7,8]))
def pG:Ev->Y As:=(aO (B7 2 (cB (.str "abcdefghijklmnopqrstuvwxyz"))) (aO (B7 3 (b1 (Mw "") (gO (UJ (aq (b2 fW (b2 g8 (gv 0) (cB (.int 0))) (cB (.int 6))) aK)) (nZ 2) wF (b2 g8 (gv 0) (b2 fW (b2 o8 (b2 g8 (gv 1) (gv 2)) (cB (.int 40))) (cB (.int 26)))) [2,0] 1))) (aO (B7 4 (b2 fW (b2 g8 (gv 0) (cB (.int 1))) (b2 dO (bI jG (aq (gv 3) aK)) (cB (.int 1))))) (aO (B7 5 (bI gM aK)) (aO (wD (UJ (aq (gv 1) aK)) (nZ 6) oF) (aO (Jk 5) eF))))))
def pH:O Bx->Y Bx:=fL 9 pG
def lJ:Ev->Y As:=(aO (B7 2 (λ_=>Z (.m [] U))) (aO (DX 2 4 3 (UJ (aq (bI jG (aq (gv 0) aK)) aK)) (b2 fW (b2 o8 (b2 g8 (gv 1) (b2 fW (gv 3) (bI jG (aq (gv 1) aK)))) (b2 dO (cB (.int 1)) (b2 o8 (gv 3) (bI jG (aq (gv 1) aK))))) (bI Qn (aq (cB (.int 1)) (aq (bI jG (aq (gv 0) aK)) aK)))) (lD EW (b2 fW (b2 g8 (gv 1) (cB (.int 0))) (cB (.int 3))) (cB (.int 0))) (b2 fW (gv 4) (cB (.int 3))) (b2 g8 (gv 0) (gv 3))) (aO (fM (bI qN (aq (gO (SJ (gv 2)) (nZ 1) wF (bI nW (aq (bI zX (aq (b2 Hl (gv 0) (gv 1)) aK)) aK)) [2] 1) aK))) eF)))
def ju:O Bx->Y Bx:=fL 5 lJ
def qU:Ev->Y As:=gN
def qW:O Bx->Y Bx:=fL 6 qU
def u6:Ev->Y As:=(aO (B7 2 (cV 2 eV (aq (b1 qH (cV 2 iH (aq (gv 0) (aq (gv 1) aK)))) (aq (cB (.int 12)) aK)))) (aO (B7 3 (b2 fW (b2 g8 (gv 2) (cB (.int 6))) (cB (.int 11)))) (aO (B7 4 (bI zX (aq (cV 2 pH (aq (gv 2) (aq (gv 3) aK))) aK))) (aO (oV (lD BO (b2 fW (b2 o8 (b2 g8 (gv 2) (cB (.int 6))) (cB (.int 11))) (cB (.int 16))) (cB (.int 7))) (aO (aO (B7 4 (bI zX (aq (gO (UJ (aq (cB (.int 16)) aK)) (nZ 0) wF (b2 wB (b2 g8 (cB (.str "ab")) (b2 o8 (gv 0) (cB (.int 8)))) (b2 dO (cB (.int 1)) (b2 fW (gv 0) (cB (.int 8))))) [] 1) aK))) eF) (jk [])) (aO eF (jk []))) (aO (B7 5 (cV 2 eV (aq (b1 qH (cV 2 iH (aq (gv 0) (aq (b1 qH (b2 dO (gv 1) (cB (.int 1)))) aK)))) (aq (cB (.int 16)) aK)))) (aO (B7 6 (cV 2 eV (aq (b1 qH (cV 2 iH (aq (gv 0) (aq (b1 qH (b2 dO (gv 1) (cB (.int 2)))) aK)))) (aq (cB (.int 16)) aK)))) (aO (B7 7 (cV 2 ju (aq (gv 4) (aq (gv 5) aK)))) (aO (B7 8 (cV 2 ju (aq (gv 4) (aq (gv 6) aK)))) (aO (oV (lD BO (b2 fW (b2 g8 (gv 2) (cB (.int 7))) (cB (.int 3))) (cB (.int 1))) (aO (aO (B7 8 (cV 2 qW (aq (gv 7) (aq (gv 6) aK)))) eF) (jk [])) (aO eF (jk []))) (EH 4 (EH 7 (EH 8 (aO (fM (bI dU (aq (gv 4) (aq (gv 7) (aq (gv 8) aK))))) eF)))))))))))))
def u9:O Bx->Y Bx:=fL 9 u6
def jc:Ev->Y As:=(aO (oV (lD BO (gv 0) (bI gM aK)) (aO (fM (bI dU (aq (cB (.str "join")) (aq (bI dU (aq (cB (.str "a")) aK)) (aq (bI dU (aq (cB (.str "b")) aK)) aK))))) eF) eF) (aO (B7 2 (b2 g8 (gv 0) (b2 fW (b2 g8 (gv 1) (cB (.int 0))) (bI jG (aq (gv 0) aK))))) (aO (B7 3 (b2 g8 (gv 0) (b2 fW (b2 g8 (gv 1) (cB (.int 1))) (bI jG (aq (gv 0) aK))))) (aO (oV (Ls (lD BO (b2 fW (b2 g8 (gv 1) (cB (.int 2))) (cB (.int 2))) (cB (.int 0))) (lD Z5 (bI jG (aq (gv 2) aK)) (cB (.int 2)))) (aO (fM (bI dU (aq (cB (.str "join")) (aq (gv 2) (aq (gv 3) aK))))) eF) eF) (aO (B7 4 (bI nW (aq (gO (L8 (aq (gv 2) aK)) (o7 2 (cY (nZ 1) (cY (nZ 2) rO))) (lD BO (b2 YD (b2 HG (b2 g8 (gv 0) (cB (.int 3))) (gv 1)) (cB (.int 1))) (cB (.int 1))) (gv 2) [1] 2) aK))) (aO (fM (bI dU (aq (cB (.str "split")) (aq (gv 4) (aq (bI nW (aq (gO (Jx (gv 2)) (nZ 1) (lD GI (gv 1) (gv 0)) (gv 1) [4] 1) aK)) aK))))) eF))))))
def jd:O Bx->Y Bx:=fL 5 jc
def qX:Ev->Y As:=(aO (yX (o7 3 (cY (nZ 3) (cY (nZ 4) (cY (nZ 5) rO)))) (gv 0)) (aO (B7 6 (b2 fW (b2 g8 (gv 2) (cB (.int 4))) (cB (.int 12)))) (aO (oV (lD BO (gv 6) (cB (.int 0))) (aO (fM (bI dU (aq (b2 g8 (bI gM (aq (cB (.str "splt")) (aq (cB (.str "")) (aq (cB .non) (aq (cB (.str "Join")) (aq (cB (.int 7)) (aq (bI dU (aq (cB (.str "join")) aK)) (aq (b1 qH (bI gM (aq (cB (.str "join")) aK))) aK)))))))) (b2 fW (b2 g8 (gv 2) (cB (.int 5))) (cB (.int 7)))) (aq (gv 4) (aq (gv 5) aK))))) eF) eF) (aO (oV (lD BO (gv 6) (cB (.int 1))) (aO (fM (bI dU (aq (gv 3) (aq (b1 qH (CJ (gv 4) (jN (cB (.int 1))) iG)) (aq (gv 5) aK))))) eF) eF) (aO (oV (lD BO (gv 6) (cB (.int 2))) (aO (fM (bI dU (aq (gv 3) (aq (b1 qH (b2 dO (gv 4) (bI dU (aq (cB (.str "zzzzzzz")) aK)))) (aq (gv 5) aK))))) eF) eF) (aO (oV (lD BO (gv 6) (cB (.int 3))) (aO (fM (bI dU (aq (gv 3) (aq (gv 4) (aq (gv 4) aK))))) eF) eF) (aO (oV (lD BO (gv 6) (cB (.int 4))) (aO (fM (bI dU (aq (gv 3) (aq (b1 qH (b2 UL (gv 4) (b1 Xr (cB (.int 1))))) (aq (gv 5) aK))))) eF) eF) (aO (oV (lD BO (gv 6) (cB (.int 5))) (aO (fM (bI dU (aq (gv 3) (aq (b1 qH (bI tM (aq (gv 4) aK))) (aq (gv 5) aK))))) eF) eF) (aO (oV (lD BO (gv 6) (cB (.int 6))) (aO (fM (bI dU (aq (b2 g8 (bI gM (aq (cB (.str "split")) (aq (cB (.str "join")) aK))) (bI UG (aq (b2 BO (gv 3) (cB (.str "split"))) aK))) (aq (gv 4) (aq (gv 5) aK))))) eF) eF) (aO (oV (lD BO (gv 6) (cB (.int 7))) (aO (fM (b2 g8 (bI gM (aq (bI dU (aq (gv 3) (aq (gv 4) aK))) (aq (bI dU (aq (gv 3) (aq (gv 4) (aq (gv 5) (aq (bI dU aK) aK))))) (aq (b1 qH (bI gM (aq (gv 3) (aq (gv 4) (aq (gv 5) aK))))) (aq (cB .non) (aq (cB .emp) (aq (cB (.str "join")) aK))))))) (b2 fW (b2 g8 (gv 2) (cB (.int 5))) (cB (.int 6))))) eF) eF) (aO (oV (lD BO (gv 6) (cB (.int 8))) (aO (fM (bI dU (aq (gv 3) (aq (gv 4) (aq (b1 qH (b2 dO (gv 5) (CJ (gv 4) iG (jN (cB (.int 1)))))) aK))))) eF) eF) (aO (oV (lD BO (gv 6) (cB (.int 9))) (aO (fM (bI dU (aq (gv 3) (aq (gv 4) (aq (b2 g8 (bI gM (aq (cB .non) (aq (bI dU aK) (aq (cB (.int 7)) (aq (cB (.str "a")) (aq (bI dU (aq (cB (.int 7)) aK)) (aq (bI dU (aq (b1 qH (bI gM aK)) aK)) aK))))))) (b2 fW (b2 g8 (gv 2) (cB (.int 5))) (cB (.int 6)))) aK))))) eF) eF) (aO (oV (lD BO (gv 6) (cB (.int 10))) (aO (fM (bI dU (aq (gv 3) (aq (b2 g8 (bI gM (aq (cB .non) (aq (bI dU aK) (aq (cB (.int 7)) (aq (cB (.str "a")) (aq (bI dU (aq (cB (.int 7)) aK)) (aq (bI dU (aq (b1 qH (bI gM aK)) aK)) (aq (cB .emp) aK)))))))) (b2 fW (b2 g8 (gv 2) (cB (.int 5))) (cB (.int 7)))) (aq (gv 5) aK))))) eF) eF) (aO (fM (bI dU (aq (gv 3) (aq (gv 4) (aq (gv 1) aK))))) eF))))))))))))))
def qY:O Bx->Y Bx:=fL 7 qX
def jB:Ev->Y As:=(aO (B7 3 (bI gM (aq (b2 g8 (gv 0) (cB (.int 1))) (aq (b2 g8 (gv 0) (cB (.int 2))) aK)))) (aO (B7 4 (b2 g8 (gv 3) (b2 fW (b2 g8 (gv 2) (cB (.int 0))) (cB (.int 2))))) (aO (B7 5 (b2 fW (b2 g8 (gv 2) (cB (.int 1))) (bI Qn (aq (cB (.int 1)) (aq (bI jG (aq (gv 4) aK)) aK))))) (aO (B7 6 (b2 dO (bI N5 (aq (gO (Jx (gv 1)) (nZ 0) wF (b1 qH (bI tM (aq (gv 0) aK))) [] 1) (aq (bI gM aK) aK))) (bI gM (aq (cB (.str "zzzzzzz")) aK)))) (aO (B7 7 (b2 g8 (gv 6) (b2 fW (b2 g8 (gv 2) (cB (.int 2))) (bI jG (aq (gv 6) aK))))) (aO (B7 8 (bI gM (aq (b1 qH (b2 dO (CJ (gv 4) iG (jN (gv 5))) (CJ (gv 4) (jN (b2 dO (gv 5) (cB (.int 1)))) iG))) (aq (b1 qH (b2 dO (b2 dO (CJ (gv 4) iG (jN (gv 5))) (bI dU (aq (gv 7) aK))) (CJ (gv 4) (jN (b2 dO (gv 5) (cB (.int 1)))) iG))) (aq (b1 qH (b2 dO (b2 dO (CJ (gv 4) iG (jN (gv 5))) (bI dU (aq (gv 7) aK))) (CJ (gv 4) (jN (gv 5)) iG))) aK))))) (aO (B7 8 (b2 dO (gv 8) (bI gM (aq (b1 qH (b2 dO (b2 dO (CJ (gv 4) iG (jN (gv 5))) (CJ (gv 4) (jN (gv 5)) (jN (b2 dO (gv 5) (cB (.int 1)))))) (CJ (gv 4) (jN (gv 5)) iG))) (aq (bI nW (aq (bI wM (aq (b2 dO (gv 4) (bI dU (aq (gv 7) aK))) aK)) aK)) aK))))) (aO (Ms 8 (b2 g8 (b2 dO (gv 1) (bI gM (aq (gv 4) aK))) (b2 fW (b2 g8 (gv 2) (cB (.int 2))) (b2 dO (bI jG (aq (gv 1) aK)) (cB (.int 1)))))) (aO (Tt 3 (b2 g8 (gv 8) (b2 fW (b2 o8 (b2 g8 (gv 2) (cB (.int 0))) (cB (.int 2))) (cB (.int 6)))) (b2 fW (b2 g8 (gv 2) (cB (.int 0))) (cB (.int 2)))) (aO (fM (bI dU (aq (b2 g8 (gv 0) (cB (.int 0))) (aq (b2 g8 (gv 3) (cB (.int 0))) (aq (b2 g8 (gv 3) (cB (.int 1))) aK))))) eF))))))))))
def jC:O Bx->Y Bx:=fL 9 jB
def mW:Ev->Y As:=(aO (oV (Ls (wA (tV (rP Ap (gv 0)))) (Ls (lD BO (gv 0) (bI dU aK)) (wA (tV (bI C3 (aq (gO (Jx (gv 0)) (nZ 0) wF (b1 qH (rP eN (gv 0))) [] 1) aK)))))) (aO (fM (cB (.bl false))) eF) eF) (aO (fM (b2 BO (bI tM (aq (gv 0) aK)) (Sx (GL (gv 0))))) eF))
def jV:O Bx->Y Bx:=fL 1 mW
def mX:Ev->Y As:=(aO (yX (o7 3 (cY (nZ 2) (cY (nZ 3) (cY (nZ 4) rO)))) (gv 1)) (aO (B7 5 (bI nW (aq (bI wM (aq (b2 dO (gv 3) (gv 4)) aK)) aK))) (aO (oV (Ay (lD BO (gv 2) (cB (.str "join"))) (Ay (lD Jr (gv 3) (gv 4)) (Ay (lD inX (gv 3) (gv 0)) (lD inX (gv 4) (gv 0))))) (aO (fM (b1 qH (bI qN (aq (b2 dO (gO (Jx (gv 0)) (nZ 2) (lD JR (gv 2) (bI gM (aq (gv 0) (aq (gv 1) aK)))) (gv 2) [3,4] 1) (bI gM (aq (gv 5) aK))) aK)))) eF) eF) (aO (oV (Ay (lD BO (gv 2) (cB (.str "split"))) (Ay (lD inX (gv 5) (gv 0)) (Ay (lD Jr (gv 3) (bI dU aK)) (lD Jr (gv 4) (bI dU aK))))) (aO (fM (b1 qH (bI qN (aq (b2 dO (gO (Jx (gv 0)) (nZ 1) (lD Jr (gv 1) (gv 0)) (gv 1) [5] 1) (bI gM (aq (gv 3) (aq (gv 4) aK)))) aK)))) eF) eF) (aO (fM (cB .non)) eF)))))
def mY:O Bx->Y Bx:=fL 6 mX
def vA:Ev->Y As:=(aO (oV (Ls (wA (tV (rP Ap (gv 1)))) (Ls (lD Jr (bI jG (aq (gv 1) aK)) (cB (.int 3))) (lD JR (b2 g8 (gv 1) (cB (.int 0))) (bI gM (aq (cB (.str "join")) (aq (cB (.str "split")) aK)))))) (aO (fM (cB .non)) eF) eF) (aO (oV (Ls (wA (tV (cV 1 jV (aq (b2 g8 (gv 1) (cB (.int 1))) aK)))) (wA (tV (cV 1 jV (aq (b2 g8 (gv 1) (cB (.int 2))) aK))))) (aO (fM (cB .non)) eF) eF) (aO (fM (b1 qH (cV 2 mY (aq (gv 0) (aq (gv 1) aK))))) eF)))
def qw:O Bx->Y Bx:=fL 2 vA
def qZ:Ev->Y As:=(aO (fM (Az (rP Ap (gv 0)) (b2 BO (bI jG (aq (gv 0) aK)) (gv 1)))) eF)
def q9:O Bx->Y Bx:=fL 2 qZ
def pI:Ev->Y As:=(aO (fM (Az (cV 2 q9 (aq (gv 0) (aq (gv 2) aK))) (Az (rP eN (b2 g8 (gv 0) (cB (.int 0)))) (b2 BO (b2 g8 (gv 0) (cB (.int 0))) (gv 1))))) eF)
def lY:O Bx->Y Bx:=fL 3 pI
def mZ:Ev->Y As:=(aO (fM (Az (rP eN (gv 0)) (Az (F3 FX FX (cB (.int 1)) (bI jG (aq (gv 0) aK)) (gv 2)) (bI C3 (aq (gO (Jx (gv 0)) (nZ 1) wF (b2 Fn (gv 1) (gv 0)) [1] 1) aK))))) eF)
def m7:O Bx->Y Bx:=fL 3 mZ
def vB:Ev->Y As:=(aO (fM (cV 3 m7 (aq (gv 0) (aq (cB (.str "abcdefghijklmnopqrstuvwxyz")) (aq (cB (.int 8)) aK))))) eF)
def vC:O Bx->Y Bx:=fL 1 vB
def ni:Ev->Y As:=(aO (fM (bI C3 (aq (gO (UJ (aq (b2 D5 (bI jG (aq (gv 0) aK)) (cB (.int 1))) aK)) (nZ 1) wF (b2 Z5 (b2 g8 (gv 0) (gv 1)) (b2 g8 (gv 0) (b2 dO (gv 1) (cB (.int 1))))) [0] 1) aK))) eF)
def nq:O Bx->Y Bx:=fL 1 ni
def pJ:Ev->Y As:=(aO (fM (Az (rP Ap (gv 0)) (Az (bI C3 (aq (gO (Jx (gv 0)) (nZ 0) wF (b1 qH (cV 1 vC (aq (gv 0) aK))) [] 1) aK)) (cV 1 nq (aq (gv 0) aK))))) eF)
def pK:O Bx->Y Bx:=fL 1 pJ
def yG:Ev->Y As:=(aO (fM (Az (cV 1 pK (aq (gv 0) aK)) (b2 EW (bI jG (aq (gv 0) aK)) (cB (.int 0))))) eF)
def uz:O Bx->Y Bx:=fL 1 yG
def vD:Ev->Y As:=(aO (oV (Ay (wA (tV (cV 3 lY (aq (gv 0) (aq (cB (.str "join")) (aq (cB (.int 3)) aK)))))) (wA (tV (cV 3 lY (aq (gv 0) (aq (cB (.str "split")) (aq (cB (.int 3)) aK))))))) (aO (fM (cB (.bl false))) eF) eF) (aO (fM (Az (cV 1 uz (aq (b2 g8 (gv 0) (cB (.int 1))) aK)) (cV 1 uz (aq (b2 g8 (gv 0) (cB (.int 2))) aK)))) eF))
def lq:O Bx->Y Bx:=fL 1 vD
def rz:Ev->Y As:=(aO (fM (bI nW (aq (bI wM (aq (b2 dO (gv 0) (gv 1)) aK)) aK))) eF)
def jK:O Bx->Y Bx:=fL 2 rz
def gj:Ev->Y As:=(aO (oV (wA (tV (cV 1 lq (aq (gv 1) aK)))) (aO EC eF) eF) (aO (yX (o7 3 (cY (nZ 2) (cY (nZ 3) (cY (nZ 4) rO)))) (gv 1)) (aO (yX (o7 2 (cY (nZ 5) (cY (nZ 6) rO))) (bI dU (aq (b1 qH (bI gM (aq (gv 3) (aq (gv 4) aK)))) (aq (b1 qH (bI gM (aq (b1 qH (cV 2 jK (aq (gv 3) (aq (gv 4) aK)))) aK))) aK)))) (aO (oV (lD BO (gv 2) (cB (.str "split"))) (aO (aO (yX (o7 2 (cY (nZ 5) (cY (nZ 6) rO))) (bI dU (aq (gv 6) (aq (gv 5) aK)))) eF) (jk [])) (aO eF (jk []))) (aO (oV (Ls (lD BO (gv 3) (gv 4)) (wA (tV (bI C3 (aq (gO (Jx (gv 5)) (nZ 1) wF (b2 inX (gv 1) (gv 0)) [0] 1) aK))))) (aO EC eF) eF) (aO (fM (bI qN (aq (b2 dO (gO (Jx (gv 0)) (nZ 1) (lD JR (gv 1) (gv 0)) (gv 1) [5] 1) (gv 6)) aK))) eF))))))
def dM:O Bx->Y Bx:=fL 7 gj
def ID:Ev->Y Bool:=wA (tV (cV 1 lq (aq (gv 1) aK)))
def Mn:Ev->Y As:=oV ID (aO EC eF) eF
def Mb:Ev->Y As:=yX (o7 3 (cY (nZ 2) (cY (nZ 3) (cY (nZ 4) rO)))) (gv 1)
def MV:Ev->Y Bx:=bI dU (aq (b1 qH (bI gM (aq (gv 3) (aq (gv 4) aK)))) (aq (b1 qH (bI gM (aq (b1 qH (cV 2 jK (aq (gv 3) (aq (gv 4) aK)))) aK))) aK))
def Nl:Ev->Y As:=yX (o7 2 (cY (nZ 5) (cY (nZ 6) rO))) MV
def MU:Ev->Y Bool:=lD BO (gv 2) (cB (.str "split"))
def LZ:Ev->Y As:=oV MU (aO (aO (yX (o7 2 (cY (nZ 5) (cY (nZ 6) rO))) (bI dU (aq (gv 6) (aq (gv 5) aK)))) eF) (jk [])) (aO eF (jk []))
def MS:Ev->Y Bool:=Ls (lD BO (gv 3) (gv 4)) (wA (tV (bI C3 (aq (gO (Jx (gv 5)) (nZ 1) wF (b2 inX (gv 1) (gv 0)) [0] 1) aK))))
def Zn:Ev->Y Dt:=F6 ID (Ic (λ_=>true) (cB (.str "this is no step"))) (λ_=>U)
def GE:Ev->Y Dt:=Eb Mn (Eb Mb (Eb Nl (Eb LZ (F6 MS (Ic (λ_=>true) (cB (.str "this step can't be done here"))) (λ_=>U)))))
def Al:Ev->Y Dt:=λρ=>(Zn ρ).or (GE ρ)
def iI:O Bx->Y Bx
 |[b0,b1]=>match dM [b0,b1]with
  |some b=>Z b
  |none=>(Ed 7 Al [b0,b1]).bind λ_=>Z (.z .non)
 |_=>U
def Oh:Ev->Y As:=(aO (aO (B7 10 (cV 2 qw (aq (gv 2) (aq (gv 9) aK)))) (aO (B7 11 (cV 2 iI (aq (gv 2) (aq (gv 9) aK)))) (aO (oV (Ls (lD Jr (gv 11) (gv 10)) (Ls (Ay (lD CG (gv 10) (cB .non)) (wA (tV (rP BU (gv 11))))) (lD Jr (gv 2) (gv 6)))) (aO (fM (cB (.bl false))) eF) eF) (aO (oV (lD CG (gv 10) (cB .non)) (aO (Ms 11 (bI dU aK)) (aO (oV (Ls (lD Jr (cV 2 iI (aq (gv 2) (aq (gv 9) aK))) (gv 10)) (lD Jr (gv 2) (gv 6))) (aO (fM (cB (.bl false))) eF) eF) eF)) eF) eF)))) (jk [9,10,11]))
def Oi:Ev->Y As:=(aO (aO (B7 5 (cV 2 eV (aq (b1 qH (cV 2 iH (aq (gv 0) (aq (gv 4) aK)))) (aq (cB (.int 9)) aK)))) (aO (B7 6 (bI tM (aq (gv 2) aK))) (aO (B7 7 (cV 2 jd (aq (gv 2) (aq (gv 5) aK)))) (aO (B7 8 (bI gM (aq (gv 7) (aq (b1 qH (cV 3 qY (aq (gv 7) (aq (gv 2) (aq (gv 5) aK))))) (aq (b1 qH (cV 3 jC (aq (gv 7) (aq (gv 2) (aq (b1 qH (CJ (gv 5) (jN (cB (.int 6))) iG)) aK))))) aK))))) (aO (wD (E8 (b2 dO (gv 8) (bI gM (aq (bI dU (aq (b2 g8 (gv 7) (cB (.int 0))) (aq (b2 g8 (gv 7) (cB (.int 2))) (aq (b2 g8 (gv 7) (cB (.int 1))) aK)))) aK)))) (nZ 9) Oh) (aO (B7 10 (cV 2 qw (aq (gv 2) (aq (gv 7) aK)))) (aO (oV (lD CG (gv 10) (cB .non)) (aO (aO (B7 2 (gv 10)) eF) (jk [])) (aO eF (jk []))) eF))))))) (jk [4,5,6,7,8,9,10,11]))
def TQ:Ev->Y As:=(aO (yX (o7 3 (cY (nZ 1) (cY (nZ 2) (cY (nZ 3) rO)))) (cV 2 u9 (aq (gv 0) (aq (cB (.int 0)) aK)))) (aO (wD (Go (aq (cB (.int 3)) (aq (b2 dO (cB (.int 3)) (bI Qn (aq (cB (.int 8)) (aq (bI XF (aq (b2 D5 (bI jG (aq (gv 0) aK)) (cB (.int 3))) (aq (cB (.int 12)) aK))) aK)))) aK))) (nZ 4) Oi) (aO (fM (cB (.bl true))) eF)))
def F_law:O Bx->Y Bx:=fL 12 TQ
end
end G47
end
section
set_option synthInstance.maxSize 100000
namespace G47
open L2 P1
abbrev rA:AB:=top 39
section
variable{FE c0 c1 c2 c3 c4 c6 f_o:A1}{ab9:FuncData}
def LG(D:A1)(n:Nat):A1->O V->Hp->VK->Prop:=λa vs H Q=>vs=[.ref a,.int n]/\H a=Z (Z8 a D U)/\∀H',AV H H'->Q (.bl true) H'
theorem TV:bH ["_law_e","_law_at","_law_kinds"] ["_law_e","_law_at"] (aM rA):=lW
theorem hJ(F:G8 K "_law_only" "_law_only" rA f_o ab9)(a3:Ea K D=true)(m0:mg "NoName"=Z (.ref c0))(m1:mg "NoText"=Z (.ref c1))(m2:mg "NoReason"=Z (.ref c2))(m3:mg "NoUndo"=Z (.ref c3))(m4:mg "NoRoom"=Z (.ref c4))(m5:mg "NoStep"=Z (.ref D))(m6:mg "NoRow"=Z (.ref c6))(mF:mg "FolkError"=Z (.ref FE))
  (h0:kitOne K (.ref D) (.ref c0)=Z false) (h1:kitOne K (.ref D) (.ref c1)=Z false) (h2:kitOne K (.ref D) (.ref c2)=Z false) (X:kitOne K (.ref D) (.ref c3)=Z false) (h4:kitOne K (.ref D) (.ref c4)=Z false) (h5:kitOne K (.ref D) (.ref D)=Z true) (h6:kitOne K (.ref D) (.ref c6)=Z false)
  (hF:kitOne K (.ref D) (.ref FE)=Z true) (J:kitOne K (.ref D) (.type "ValueError")=Z true) (d:mg "isinstance"=U) (N:mg "ValueError"=U) (lK:mg "range"=U):
  Td P w K mg base 1 f_o ab9 ["_law_e","_law_at"] (LG D 5):=by
 refine G8.okH (k:=0) F TV (λa vs H Q h=>by rw[h.1];rfl) λa4 a A outer s H vs Q B a5=>?_;have E:=TV.nd;have u:(A.deeper (AK "_law_only" (aM rA) s.heap.objs.size f_o a4)).units+100<cLine:=by have:=B.un;omega
 have g:∀C,C∈[D]->Ea K C=true:=λC z=>by rw[au.mp z];exact a3
 refine⟨_,(by exact(dI (pQ (i:=2) E S (.inl S) (Ci (aY (fV (jU (Cs:=[D]) g) S d S (aY (pv 0) (aY (jP (v:=.ref c0) S m0 S) cX))) (aY (fV (jU (Cs:=[D]) g) S d S (aY (pv 0) (aY (jP (v:=.ref c1) S m1 S) cX))) (aY (fV (jU (Cs:=[D]) g) S d S (aY (pv 0) (aY (jP (v:=.ref c2) S m2 S) cX))) (aY (fV (jU (Cs:=[D]) g) S d S (aY (pv 0) (aY (jP (v:=.ref c3) S m3 S) cX))) cX)))))) (dI (pQ (i:=2) E S (.inl S) (NL OQ (pv 2) (Ci (aY (fV (jU (Cs:=[D]) g) S d S (aY (pv 0) (aY (jP (v:=.ref c4) S m4 S) cX))) (aY (fV (jU (Cs:=[D]) g) S d S (aY (pv 0) (aY (jP (v:=.ref D) S m5 S) cX))) (aY (fV (jU (Cs:=[D]) g) S d S (aY (pv 0) (aY (jP (v:=.ref c6) S m6 S) cX))) cX))))))
  (uL (Ca (Pr (fV (jU (Cs:=[D]) g) S d S (aY (pv 0) (aY (jP (v:=.ref FE) S mF S) cX))) (Pr (fV (jU (Cs:=[D]) g) S d S (aY (pv 0) (aY (Bm (v:=.ty "ValueError") S N S S) cX))) (Wr (RN (of_eq u) (pv 2) (Y0 (e:=a) ["_law_k"] 7 () (qO ["_law_at"] [1]) B.hd S lK (aY Pn cX) (λ_ _ _ q=>q) (λ_ _ _ _=>(im 1).run) (λ_ _ _ _=>d7.run) (λ_ _ _ _=>(nU (of_eq u) (ao 1) (ao 0) (bB _)).run) fH) (bB _)))))))))),?_⟩
 obtain⟨rfl,ea,q⟩:=a5;have f:∀{H:Hp},H a=Z (Z8 a D U)->MR H a D:=λe=>⟨U,e,λ_ z=>nomatch z⟩;refine⟨.ref a,rfl,a,D,_,_,au.mpr rfl,rfl,f ea,.inl ⟨c0,rfl,h0⟩,?_⟩;refine⟨.ref a,rfl,a,D,_,_,au.mpr rfl,rfl,f ea,.inl ⟨c1,rfl,h1⟩,?_⟩;refine⟨.ref a,rfl,a,D,_,_,au.mpr rfl,rfl,f ea,.inl ⟨c2,rfl,h2⟩,?_⟩;refine⟨.ref a,rfl,a,D,_,_,au.mpr rfl,rfl,f ea,.inl ⟨c3,rfl,X⟩,?_⟩;refine⟨(show 4<=AA by decide +kernel),λp hp=>?_⟩;have t:AV H (B1 H p (.lst [.bl false,.bl false,.bl false,.bl false])):=bD hp;have n:=t _ _ ea;refine⟨.ref p,rfl,?_⟩;refine⟨.ref a,rfl,a,D,_,_,au.mpr rfl,rfl,f n,.inl ⟨c4,rfl,h4⟩,?_⟩;refine⟨.ref a,rfl,a,D,_,_,au.mpr rfl,rfl,f n,.inl ⟨D,rfl,h5⟩,?_⟩;refine⟨.ref a,rfl,a,D,_,_,au.mpr rfl,rfl,f n,.inl ⟨c6,rfl,h6⟩,?_⟩;refine⟨(show 3<=AA by decide +kernel),λp2 L=>?_⟩;have G:=bD (o:=.lst [.bl false,.bl true,.bl false]) L;refine⟨p,p2,[.bl false,.bl false,.bl false,.bl false],[.bl false,.bl true,.bl false],rfl,rfl,G _ _ aQ,aQ,(show 7<=AA by decide +kernel),λp3 M=>?_⟩;have s3:=bD (o:=.lst ([V.bl false,.bl false,.bl false,.bl false]++[.bl false,.bl true,.bl false])) M;have x:=t.trans (G.trans s3);have m:=x _ _ ea;have eu:B1 _ p3 _ p3=Z (HO.lst ([V.bl false,.bl false,.bl false,.bl false]++[.bl false,.bl true,.bl false])):=aQ (H:=B1 (B1 H p (.lst [.bl false,.bl false,.bl false,.bl false])) p2 (.lst [.bl false,.bl true,.bl false]));generalize B1 (B1 (B1 H p (.lst [.bl false,.bl false,.bl false,.bl false])) p2 (.lst [.bl false,.bl true,.bl false])) p3 (.lst ([V.bl false,.bl false,.bl false,.bl false]++[.bl false,.bl true,.bl false]))=H3 at *
 refine⟨.ref a,rfl,a,D,_,_,au.mpr rfl,rfl,f m,.inl ⟨FE,rfl,hF⟩,true,rfl,?_⟩;show(if true=true then _ else _);rw[zt rfl];refine⟨.ref a,rfl,a,D,_,_,au.mpr rfl,rfl,f m,.inr (.inl ⟨"ValueError",rfl,J⟩),true,rfl,?_⟩;show(if true=true then _ else _);rw[zt rfl];refine⟨.ref p3,rfl,[U,Z (.z (.int 5)),U],D,U,[.bl false,.bl false,.bl false,.bl false,.bl false,.bl true,.bl false],?_,m,rfl,λDd us H4 hD y a6 r4=>?_⟩
 ·refine⟨rfl,λk b z=>?_,λk j c a b z l=>?_,AV.refl H3,λk c a z l=>?_⟩
  ·match k with
   |0=>cases z
   |1=>cases z;exact⟨_,rfl,by simp only[aX,AW];rfl⟩
   |2=>cases z
   |_+3=>cases z
  ·match k with
   |0=>cases z
   |1=>cases z;cases l
   |2=>cases z
   |_+3=>cases z
  ·match k with
   |0=>cases z
   |1=>cases z;cases l
   |2=>cases z
   |_+3=>cases z
 ·refine⟨.o [.bl false,.bl false,.bl false,.bl false,.bl false,.bl true,.bl false],.o [.bl false,.bl false,.bl false,.bl false,.bl false,.bl true,.bl false],.z (.bl true),⟨p3,_,rfl,y _ _ eu,?_⟩,⟨Dd,us,rfl,a6,r4⟩,rfl,λw W s5 _ I=>?_⟩
  ·have b:∀c,AW K H4 (.bl c) (.bl c):=λc=>by simp only[AW]
   exact aP.cons (b _) (aP.cons (b _) (aP.cons (b _) (aP.cons (b _) (aP.cons (b _) (aP.cons (b _) (aP.cons (b _) aP.nil))))))
  ·obtain rfl:w=.bl true:=by simpa only[aX,AW]using I
   exact q W (x.trans (y.trans s5))
variable{zB wR Oj Zo:A1}{Fi Am Ol TX:FuncData}
theorem YX{f:AJ}{E:XK}{st:O AB}{g h:Ev->Y Dt}(a:Vt X C f E st g)(b:Vt X C f E st h):Vt X C f E st (λρ=>(g ρ).or (h ρ)):=⟨λAN s σ H D I q=>by
 obtain⟨H0,ρ,d,i,e,w⟩:=q;cases c:g ρ with
 |some j=>
  have e:(g ρ).or (h ρ)=Z d:=e;rw[c]at e;cases e;exact a.run AN s σ H D I ⟨H0,ρ,_,i,c,w⟩
 |none=>
  have e:(g ρ).or (h ρ)=Z d:=e;rw[c]at e;exact b.run AN s σ H D I ⟨H0,ρ,_,i,e,w⟩⟩
theorem NO:bH ["one","step","word","first","second","ahead","behind"] ["one","step"] (aM lG):=lW
theorem Rs(F:G8 K "behind_step" "behind_step" lG Oj Ol)(d:lR P w K mg base Ge 5 zB Fi ["thing"] (Xn K 1 lq))(g:mg "is_step"=Z (.ref zB))(e:keepIn K (.ref zB)=true)(f:BM K Fi ["thing"] [])
  (o:lR P w K mg base Ge 1 wR Am ["one","other"] (Xn K 2 jK)) (j:mg "together"=Z (.ref wR)) (n:keepIn K (.ref wR)=true) (m:BM K Am ["one","other"] []) (l:mg "all"=U)
  (hx:NT K D LH "ValueError.__new__" "ValueError.__init__"=true) (hk:keepIn K (.ref D)=true) (h:mg "NoStep"=Z (.ref D)):
  lR P w K mg base (Wc P w) 6 Oj Ol ["one","step"] (IR K 2 (Ed 7 Al) D ""):=by
 refine dQ (k:=5) (gx:=Al) F NO S S λp A outer s H E b i hp=>?_;have c:=Sd b;have a:=NO.nd;refine YX ?_ ?_
 ·exact yr (MO (kE (kh (Bu d (b.mono ()) S g e f (aj (ao 1) aB)))) (yr (Ia (k:=1) PySem.F.excBase_ValueError hx () hk (b.mono ()) S h i cU)) Nz)
 ·exact yt (eE (kE (kh (Bu d (b.mono ()) S g e f (aj (ao 1) aB)))) (aC JW aR) aR) (yt (qJ (ao 1) (pU S (cj (bh 2 a) (cj (bh 3 a) (cj (bh 4 a) lC))))) (yt (qJ (bR (aj (dX (cN (aj (ao 3) (aj (ao 4) aB)))) (aj (dX (cN (aj (dX (Bu o (b.mono ()) S j n m (aj (ao 3) (aj (ao 4) aB)))) aB))) aB))) (pU S (cj (bh 5 a) (cj (bh 6 a) lC)))) (yt (eE (bC (of_eq c) (ao 2) cU (bB _)) (cZ [] (aC (qJ (bR (aj (ao 6) (aj (ao 5) aB))) (pU S (cj (bh 5 a) (cj (bh 6 a) lC)))) aR)) (cZ [] aR)) (yr (MO (xH (kj (bC (of_eq c) (ao 3) (ao 4) (bB _)) (lB (kE (kh (aW (yW S) S l yV (aj (gZ ["own"] (qO ["one"] [0]) S (jA (ao 5)) (λ_ _ _ _=>(im 1)) (λ_ _ _ _=>d7) (λ_ _ _ _=>(nU (Dl c) (ao 1) (ao 0) (by with_unfolding_all rfl))) (fH)) aB))))))) (yr (Ia (k:=1) PySem.F.excBase_ValueError hx () hk (b.mono ()) S h i cU)) Nz)))))
theorem TY:bH ["_law_joining_here","_law_thing","_law_found","_law_e"] ["_law_joining_here","_law_thing"] (aM wQ):=lW
theorem Ts(F:G8 K "_law_told" "_law_told" wQ Zo TX)(G:lR P w K mg base Ge 6 Oj Ol ["one","step"] (Xn K 2 dM))(z:lR P w K mg base (Wc P w) 6 Oj Ol ["one","step"] (IR K 2 (Ed 7 Al) D ""))(m:mg "behind_step"=Z (.ref Oj))(n:keepIn K (.ref Oj)=true)(p:BM K Ol ["one","step"] [])
  (L:mg "FolkError"=Z (.ref FE)) (N:exmOne K (.ref D) (.ref FE)=Z true) (t:Td P w K mg base 1 f_o ab9 ["_law_e","_law_at"] (LG D 5)) (W:mg "_law_only"=Z (.ref f_o)) (B:keepIn K (.ref f_o)=true) (I:BM K ab9 ["_law_e","_law_at"] []):
  lR P w K mg base Ge 8 Zo TX ["_law_joining_here","_law_thing"] (Xn K 2 iI):=by
 refine G8.ok (k:=7) F TY (λvs H Q E h=>h.1) λa3 A outer s H vs Q E j J=>?_;have g:=TY.nd;refine⟨_,(by exact(dI (pQ (i:=2) g S (.inl S) Pq) (dI (gl (C:=D) (iv:=3) (iy:=2) (f:=Oj) S S g S S S S S L N (λa=>dI (pQ (X:=Cx.inX _ a) (i:=2) g S (.inl S) Wq) (uL (GD (X:=Cx.inX _ a) (VV (X:=Cx.inX _ a) (YZ (X:=Cx.inX _ a) t (jo.inX (j.mono ()) a) S W B I (aY (pv 3) (aY Pn cX)))) (uL (pQ (X:=Cx.inX _ a) (i:=2) g S (.inl S) Pq)) mL))) (jP (v:=.ref Oj) S m S) (lR.or G z) (j.mono ()) n p (aY (pv 0) (aY (pv 1) cX))) (uL (Ca (pv 2)))))),?_⟩;obtain⟨M,bs,r,l,no,er,q⟩:=J;unfold iI at er;split at er
 ·rename_i b0 b1;obtain⟨c,e,rfl⟩:∃c e,vs=[c,e]:=by
   match vs,M with
   |[c,e],_=>exact⟨c,e,rfl⟩
  cases eb:dM [b0,b1]with
  |some b=>
   rw[eb]at er;cases er;refine⟨rfl,c,rfl,e,rfl,.inl ⟨rfl,[b0,b1],r,l,no,eb,λv H' s' n' x=>⟨v,rfl,q v H' s' n' x⟩⟩⟩
  |none=>
   rw[eb]at er;obtain⟨d,ex,er⟩:=AT er;cases er;refine⟨rfl,c,rfl,e,rfl,.inr ⟨rfl,[b0,b1],d,l,no,ex,XW.no λH' s'=>⟨rfl,U,rfl,λa y=>?_⟩⟩⟩;have u:AV H' (B1 H' a (Z8 a D U)):=bD y;refine⟨.ref a,rfl,rfl,aQ,λo s5=>⟨true,rfl,?_⟩⟩;show(if true=true then _ else _);rw[zt rfl];exact⟨.non,rfl,q _ o ((s'.trans u).trans s5) trivial (by simp only[aX,AW])⟩
 ·cases er
end
set_option genInjectivity false
set_option genSizeOf false
structure T (K:B4) (mg:Str->Option Value) where
 {D:Addr}
 {FE:Addr}
 {c0:Addr}
 {c1:Addr}
 {c2:Addr}
 {c3:Addr}
 {c4:Addr}
 {c6:Addr}
 acf:mg "FolkError"=some (.ref FE)
 jmC:mg "NoStep"=some (.ref D)
 m0:mg "NoName"=some (.ref c0)
 m1:mg "NoText"=some (.ref c1)
 m2:mg "NoReason"=some (.ref c2)
 m3:mg "NoUndo"=some (.ref c3)
 m4:mg "NoRoom"=some (.ref c4)
 m6:mg "NoRow"=some (.ref c6)
 x_o:DQ K mg "_law_only" rA ["_law_e","_law_at"]
 jx:NT K D LH "ValueError.__new__" "ValueError.__init__"=true
 jkC:keepIn K (.ref D)=true
 jex:exmOne K (.ref D) (.ref FE)=some true
 akt:Ea K D=true
 h5:kitOne K (.ref D) (.ref D)=some true
 h0:kitOne K (.ref D) (.ref c0)=some false
 h1:kitOne K (.ref D) (.ref c1)=some false
 h2:kitOne K (.ref D) (.ref c2)=some false
 h3:kitOne K (.ref D) (.ref c3)=some false
 h4:kitOne K (.ref D) (.ref c4)=some false
 h6:kitOne K (.ref D) (.ref c6)=some false
 hF:kitOne K (.ref D) (.ref FE)=some true
 hve:kitOne K (.ref D) (.type "ValueError")=some true
 afV:mg "ValueError"=none
 iM:DQ K mg "_law_cell" Ey ["_law_script","_law_k"]
 eX:DQ K mg "_law_numbers" vU ["_law_cell_here","_law_many"]
 pL:DQ K mg "_law_names" Ai ["_law_xs","_law_many"]
 jw:DQ K mg "_law_joining" vV ["_law_names_here","_law_xs"]
 rB:DQ K mg "_law_near" Ez ["_law_one","_law_xs"]
 vG:DQ K mg "_law_two" Ik ["_law_script","_law_at"]
 jf:DQ K mg "_law_drawn_step" qu ["_law_joining_here","_law_xs"]
 rC:DQ K mg "_law_bent" EY ["_law_step","_law_joining_here","_law_xs"]
 jD:DQ K mg "_law_near_step" rY ["_law_step","_law_joining_here","_law_xs"]
 jW:DQ K mg "_law_is_set" yC ["_law_thing"]
 nu:DQ K mg "_law_behind" yD ["_law_joining_here","_law_step"]
 qx:DQ K mg "_law_due" Il ["_law_joining_here","_law_thing"]
 rE:DQ K mg "is_tuple" Fd ["thing","many"]
 lZ:DQ K mg "is_worded" Aj ["thing","word","many"]
 nA:DQ K mg "is_text_of" yE ["thing","signs","longest"]
 vH:DQ K mg "is_name" Im ["thing"]
 nC:DQ K mg "are_rising" yF ["things"]
 pN:DQ K mg "are_names" Ak ["thing"]
 uD:DQ K mg "is_set" Og ["thing"]
 jO:DQ K mg "is_step" Io ["thing"]
 iQ:DQ K mg "together" Fg ["one","other"]
 gk:DQ K mg "behind_step" lG ["one","step"]
 oG:DQ K mg "_law_told" wQ ["_law_joining_here","_law_thing"]
 x_law:DQ K mg "law" s_law ["_law_script"]
 ah5:mg "abs"=none
 Ao:mg "all"=none
 Om:mg "enumerate"=none
 ac6:mg "int"=none
 bG:mg "isinstance"=none
 jy:mg "len"=none
 zF:mg "list"=none
 Zq:mg "max"=none
 ah6:mg "min"=none
 lK:mg "range"=none
 ah7:mg "set"=none
 gF:mg "sorted"=none
 Zr:mg "str"=none
 ah8:mg "sum"=none
 jX:mg "tuple"=none
 VJ:∃tk,mg "LETTERS"=some (.str "abcdefghijklmnopqrstuvwxyz" tk)
 Fj:∃tk,mg "LONGEST_NAME"=some (.int 8 tk)
section
variable(t:T K mg)
theorem Oo:bH ["_law_script","_law_k","_law_state","_law_cell_here"] ["_law_script","_law_k"] (aM Ey):=lW
theorem Oq:Ok P w base t.iM 1 2 iH:=Ef (g:=qT) t.iM Oo λ_ _ _ _ _ _ b c a=>(aC (eE (bC Jz (ao 1) (aW fZ S t.jy fY (aj (ao 0) aB)) (bB _)) (aC (bO (bK (ao 0) (ao 1))) aR) aR) (aC (bL 2 a (aU bV (aU qM aG (aU bQ (aU bQ (aU qM (ao 1) (ao 1)) (aU qM aG (ao 1))) aG)) aG)) (aC (Cu PassesOwn.never S (Jm (mJ (ao 0) eZ (dR aG))) (bh 3 a) (cZ [3] (aC (bL 2 a (aU bV (aU bQ (aU qM (ao 2) aG) (ao 3)) aG)) aR))) (aC (bO (ao 2)) aR))))
theorem Fl:bH ["_law_cell_here","_law_many","_law_found","_law_state","_law_digits","_law_k"] ["_law_cell_here","_law_many"] (aM vU):=lW
theorem Fo:Ok P w base t.eX 1 2 eV:=Ef (g:=lH) t.eX Fl λ_ _ _ _ _ _ b c a=>(aC (bL 2 a (cN aB)) (aC (bL 3 a (aU bV (aU qM (aU bQ (aU bV (ao 0) aG) aG) aG) aG)) (aC (bL 4 a aG) (aC (eE (xH (kj (bC Jz (ao 0) aG (bB _)) (lB (bC af (ao 0) (aU P3 aG aG) (bB _))))) (cZ [] (aC (bL 4 a (aW WS S t.ah5 gp (aj (ao 0) aB))) aR)) (cZ [] aR)) (aC (Cu PassesOwn.never S (qj S t.lK (aj (ao 1) aB)) (bh 5 a) (cZ [5] (aC (bL 3 a (aU bV (aU bQ (aU bQ (aU qM (ao 3) (aU bQ (aU bV (ao 3) aG) aG)) (aU qM aG (ao 5))) aG) aG)) (aC (Jl 2 (bK (cN (aj (ao 3) (aj (aU bV (ao 4) aG) aB))) (dY Xz S t.ac6 Xv (aj (nU Xq (ao 4) aG (bB _)) aB)))) (aC (bL 4 a (aU jR (ao 4) aG)) aR))))) (aC (R5 2) aR))))))
theorem Kh:bH ["_law_xs","_law_many","_law_letters","_law_stem","_law_at","_law_found","_law_k","_law_mark","_law_name"] ["_law_xs","_law_many"] (aM Ai):=lW
theorem Kl:Ok P w base t.pL 1 2 pH:=Ef (g:=pG) t.pL Kh λ_ _ _ _ _ _ c b a=>(aC (bL 2 a cU) (aC (bL 3 a (bg (gZ ["_law_k"] (qO ["_law_letters","_law_xs"] [2,0]) S (Qg (qj S t.lK (aj (aU bV (bK (ao 0) aG) aG) aB))) (λ_ _ _ _=>(im 2)) (λ_ _ _ _=>d7) (λ_ _ _ _=>(bK (ao 0) (aU bV (aU jR (bK (ao 1) (ao 2)) aG) aG))) (fH)))) (aC (bL 4 a (aU bV (bK (ao 0) aG) (aU bQ (aW fZ S t.jy fY (aj (ao 3) aB)) aG))) (aC (bL 5 a (cN aB)) (aC (Cu PassesOwn.never S (qj S t.lK (aj (ao 1) aB)) (bh 6 a) (cZ [6,7,8] (aC (bL 7 a (bK (ao 2) (aU bV (aU bQ (ao 6) (bK (ao 0) aG)) aG))) (aC (bL 8 a (aU bQ (aU bQ (mJ (ao 3) eZ (dR (ao 4))) (ao 7)) (mJ (ao 3) (dR (ao 4)) eZ))) (aC (eE (bC (of_eq b) (aU bV (bK (ao 0) aG) aG) aG (bB _)) (cZ [] (aC (bL 8 a (aU qM (bK (ao 2) (aU jR (ao 6) aG)) (aU bQ aG (aU bV (ao 6) aG)))) aR)) (cZ [] aR)) (aC (Jl 5 (ao 8)) aR)))))) (aC (R5 5) aR))))))
theorem Fp:bH ["_law_names_here","_law_xs","_law_found","_law_k","_law_spot"] ["_law_names_here","_law_xs"] (aM vV):=lW
theorem Fq:Ok P w base t.jw 1 2 ju:=Ef (g:=lJ) t.jw Fp λ_ _ _ _ _ _ c b a=>(aC (bL 2 a fg) (aC (YJ 2 4 3 PassesOwn.never S a (qj S t.lK (aj (aW fZ S t.jy fY (aj (ao 0) aB)) aB)) (aU bV (aU jR (bK (ao 1) (aU bV (ao 3) (aW fZ S t.jy fY (aj (ao 1) aB)))) (aU bQ aG (aU jR (ao 3) (aW fZ S t.jy fY (aj (ao 1) aB))))) (aW (Qo S) S t.Zq Ql (aj aG (aj (aW fZ S t.jy fY (aj (ao 0) aB)) aB)))) (bC Xq (aU bV (bK (ao 1) aG) aG) aG (bB _)) (aU bV (ao 4) aG) (bK (ao 0) (ao 3))) (aC (bO (aW tW S t.gF fP (aj (Yi ["_law_spot"] (qO ["_law_found"] [2]) S (ao 2) (λ_ _ _ _=>(im 1)) (λ_ _ _ _=>d7) (λ_ _ _ _=>(dY nY S t.jX lV (aj (aW uU S t.gF fP (aj (PD b (ao 0) (ao 1)) aB)) aB))) (fH)) aB))) aR)))
theorem Ot:bH ["_law_one","_law_xs","_law_found","_law_x","_law_part","_law_name"] ["_law_one","_law_xs"] (aM Ez):=lW
theorem Ou:Ok P w base t.rB 1 2 qW:=Ef (g:=qU) t.rB Ot λ_ _ _ _ _ _ c b a=>Ke (N6 2 ["_law_part"] (qO [] []) S a (EV.run (jA (ao 0))) (λ_ _ _ _=>(uM (by show List.Nodup (_++_);decide +kernel) S (.inl S))) (λ_ _ _ _=>.inl ⟨rfl,rfl⟩) (λ_ _ _ _=>QV.run (dY xT S t.zF uR (aj (ao 0) aB)))) (λh=>Py PassesOwn.never S (EA.run (Jm (mJ (ao 1) eZ (dR (aU bQ aG (aU bV (bK (ao 1) aG) aG)))))) (uM a S (.inl S)) h) (VD (QB.run (bC (tK b) (ao 2) (cN aB) (bB _))) (pQ a S (.inl S) (WQ Ja (jE (i:=2) S (.inl S)) (QV.run (aU bV (ao 3) (aW fZ S t.jy fY (aj (ao 2) aB)))) (by intro _ _;with_unfolding_all rfl))) (pQ a S (.inl S) (N7 (Cj kL PySem.F.slot_list_pop PySem.F.type_list_pop WY (jE (i:=4) S (.inl S)) (aY (N7 (QV.run (aU bV (aU jR (ao 3) aG) (aW fZ S t.jy fY (aj (ao 4) aB))))) cX S)))) (N6 2 ["_law_some"] (qO [] []) S a (OB (jE (i:=2) S (.inl S))) (λ_ _ _ _=>(uM (by show List.Nodup (_++_);decide +kernel) S (.inl S))) (λ_ _ _ _=>.inr ⟨_,rfl,(QB.run (bC (tK b) (ao 0) (cN aB) (bB _)))⟩) (λ_ _ _ _=>(jE (i:=0) S (.inl S)))) (QB.run (xH (kj (bC (of_eq b) (aU bV (aU jR (ao 3) aG) aG) aG (bB _)) (lB (bC (of_eq b) (ao 2) (cN aB) (bB _)))))) (Bo (N7 (Cj kL KM KL nJ (jE (i:=2) S (.inl S)) (aY (Ci (aY (jE (i:=5) S (.inl S)) cX S)) cX S)))) (Bo (N7 (Cj kL KM KL nJ (N7 (WQ Ja (jE (i:=2) S (.inl S)) (QV.run (aU bV (aU jR (ao 3) aG) (aW fZ S t.jy fY (aj (ao 2) aB)))) (by intro _ _;with_unfolding_all rfl))) (aY (jE (i:=5) S (.inl S)) cX S))))) (Ca (QV.run (aW tW S t.gF fP (aj (gZ ["_law_part"] (qO [] []) S (jA (ao 2)) (λ_ _ _ _=>(im 0)) (λ_ _ _ _=>d7) (λ_ _ _ _=>(dY nY S t.jX lV (aj (aW uU S t.gF fP (aj (ao 0) aB)) aB))) (fH)) aB))))
theorem Ra:bH ["_law_script","_law_at","_law_xs","_law_many","_law_names_here","_law_ys","_law_zs","_law_one","_law_other"] ["_law_script","_law_at"] (aM Ik):=lW
theorem Rb(c:Ok P w base t.iM 1 2 iH)(f:Ok P w base t.jw 1 2 ju)(j:Ok P w base t.pL 1 2 pH)(h:Ok P w base t.rB 1 2 qW)(d:Ok P w base t.eX 1 2 eV):Ok P w base t.vG 2 2 u9:=Ef (g:=u6) t.vG Ra λ_ _ _ _ _ _ a e b=>(aC (bL 2 b (dZ t.eX d a (aj (dX (dZ t.iM c a (aj (ao 0) (aj (ao 1) aB)))) (aj aG aB)))) (aC (bL 3 b (aU bV (bK (ao 2) aG) aG)) (aC (bL 4 b (aW uU S t.gF fP (aj (dZ t.pL j a (aj (ao 2) (aj (ao 3) aB))) aB))) (aC (eE (bC (of_eq e) (aU bV (aU jR (bK (ao 2) aG) aG) aG) aG (bB _)) (cZ [] (aC (bL 4 b (aW uU S t.gF fP (aj (gZ ["_law_k"] (qO [] []) S (Qg (qj S t.lK (aj aG aB))) (λ_ _ _ _=>(im 0)) (λ_ _ _ _=>d7) (λ_ _ _ _=>(aU qM (bK cU (aU jR (ao 0) aG)) (aU bQ aG (aU bV (ao 0) aG)))) (fH)) aB))) aR)) (cZ [] aR)) (aC (bL 5 b (dZ t.eX d a (aj (dX (dZ t.iM c a (aj (ao 0) (aj (dX (aU bQ (ao 1) aG)) aB)))) (aj aG aB)))) (aC (bL 6 b (dZ t.eX d a (aj (dX (dZ t.iM c a (aj (ao 0) (aj (dX (aU bQ (ao 1) aG)) aB)))) (aj aG aB)))) (aC (bL 7 b (dZ t.jw f a (aj (ao 4) (aj (ao 5) aB)))) (aC (bL 8 b (dZ t.jw f a (aj (ao 4) (aj (ao 6) aB)))) (aC (eE (bC (of_eq e) (aU bV (bK (ao 2) aG) aG) aG (bB _)) (cZ [] (aC (bL 8 b (dZ t.rB h a (aj (ao 7) (aj (ao 6) aB)))) aR)) (cZ [] aR)) (QC (i:=4) (QC (i:=7) (QC (i:=8) (aC (bO (bR (aj (ao 4) (aj (ao 7) (aj (ao 8) aB))))) aR)))))))))))))
theorem yH:bH ["_law_joining_here","_law_xs","_law_one","_law_other","_law_some"] ["_law_joining_here","_law_xs"] (aM qu):=lW
theorem yI:Ok P w base t.jf 1 2 jd:=Ef (g:=jc) t.jf yH λ_ _ _ _ _ _ c b a=>(aC (eE (bC (of_eq b) (ao 0) (cN aB) (bB _)) (aC (bO (bR (aj cU (aj (bR (aj cU aB)) (aj (bR (aj cU aB)) aB))))) aR) aR) (aC (bL 2 a (bK (ao 0) (aU bV (bK (ao 1) aG) (aW fZ S t.jy fY (aj (ao 0) aB))))) (aC (bL 3 a (bK (ao 0) (aU bV (bK (ao 1) aG) (aW fZ S t.jy fY (aj (ao 0) aB))))) (aC (eE (xH (kj (bC (of_eq b) (aU bV (bK (ao 1) aG) aG) aG (bB _)) (lB (bC Jz (aW fZ S t.jy fY (aj (ao 2) aB)) aG (bB _))))) (aC (bO (bR (aj cU (aj (ao 2) (aj (ao 3) aB))))) aR) aR) (aC (bL 4 a (dY nY S t.jX lV (aj (gZ ["_law_k","_law_name"] (qO ["_law_xs"] [1]) S (UY S t.Om (aj (ao 2) aB)) (λ_ _ _ _=>(pU S (cj (im 1) (cj (im 2) lC)))) (λ_ _ _ _=>(n6 (bC (of_eq b) (aU Xs (aU P6 (bK (ao 0) aG) (ao 1)) aG) aG (bB _)))) (λ_ _ _ _=>(ao 2)) (f6 (Lz (fH) (Lz (fH) Os)))) aB))) (aC (bO (bR (aj cU (aj (ao 4) (aj (dY nY S t.jX lV (aj (gZ ["_law_name"] (qO ["_law_some"] [4]) S (jA (ao 2)) (λ_ _ _ _=>(im 1)) (λ_ _ _ _=>(n6 (bC Xu (ao 1) (ao 0) (by with_unfolding_all rfl)))) (λ_ _ _ _=>(ao 1)) (fH)) aB)) aB))))) aR))))))
theorem Ov:bH ["_law_step","_law_joining_here","_law_xs","_law_word","_law_one","_law_other","_law_way"] ["_law_step","_law_joining_here","_law_xs"] (aM EY):=lW
theorem Ow:Ok P w base t.rC 1 3 qY:=Ef (g:=qX) t.rC Ov λ_ _ _ _ _ _ c a b=>(aC (qJ (ao 0) (pU S (cj (bh 3 b) (cj (bh 4 b) (cj (bh 5 b) lC))))) (aC (bL 6 b (aU bV (bK (ao 2) aG) aG)) (aC (eE (bC (of_eq a) (ao 6) aG (bB _)) (aC (bO (bR (aj (bK (cN (aj cU (aj cU (aj pR (aj cU (aj aG (aj (bR (aj cU aB)) (aj (dX (cN (aj cU aB))) aB)))))))) (aU bV (bK (ao 2) aG) aG)) (aj (ao 4) (aj (ao 5) aB))))) aR) aR) (aC (eE (bC (of_eq a) (ao 6) aG (bB _)) (aC (bO (bR (aj (ao 3) (aj (dX (mJ (ao 4) (dR aG) eZ)) (aj (ao 5) aB))))) aR) aR) (aC (eE (bC (of_eq a) (ao 6) aG (bB _)) (aC (bO (bR (aj (ao 3) (aj (dX (aU bQ (ao 4) (bR (aj cU aB)))) (aj (ao 5) aB))))) aR) aR) (aC (eE (bC (of_eq a) (ao 6) aG (bB _)) (aC (bO (bR (aj (ao 3) (aj (ao 4) (aj (ao 4) aB))))) aR) aR) (aC (eE (bC (of_eq a) (ao 6) aG (bB _)) (aC (bO (bR (aj (ao 3) (aj (dX (SI (ao 4) (gu Y' aG))) (aj (ao 5) aB))))) aR) aR) (aC (eE (bC (of_eq a) (ao 6) aG (bB _)) (aC (bO (bR (aj (ao 3) (aj (dX (dY xT S t.zF uR (aj (ao 4) aB))) (aj (ao 5) aB))))) aR) aR) (aC (eE (bC (of_eq a) (ao 6) aG (bB _)) (aC (bO (bR (aj (bK (cN (aj cU (aj cU aB))) (dY Xz S t.ac6 Xv (aj (nU (of_eq a) (ao 3) cU (bB _)) aB))) (aj (ao 4) (aj (ao 5) aB))))) aR) aR) (aC (eE (bC (of_eq a) (ao 6) aG (bB _)) (aC (bO (bK (cN (aj (bR (aj (ao 3) (aj (ao 4) aB))) (aj (bR (aj (ao 3) (aj (ao 4) (aj (ao 5) (aj (bR aB) aB))))) (aj (dX (cN (aj (ao 3) (aj (ao 4) (aj (ao 5) aB))))) (aj pR (aj XC (aj cU aB))))))) (aU bV (bK (ao 2) aG) aG))) aR) aR) (aC (eE (bC (of_eq a) (ao 6) aG (bB _)) (aC (bO (bR (aj (ao 3) (aj (ao 4) (aj (dX (aU bQ (ao 5) (mJ (ao 4) eZ (dR aG)))) aB))))) aR) aR) (aC (eE (bC (of_eq a) (ao 6) aG (bB _)) (aC (bO (bR (aj (ao 3) (aj (ao 4) (aj (bK (cN (aj pR (aj (bR aB) (aj aG (aj cU (aj (bR (aj aG aB)) (aj (bR (aj (dX (cN aB)) aB)) aB))))))) (aU bV (bK (ao 2) aG) aG)) aB))))) aR) aR) (aC (eE (bC (of_eq a) (ao 6) aG (bB _)) (aC (bO (bR (aj (ao 3) (aj (bK (cN (aj pR (aj (bR aB) (aj aG (aj cU (aj (bR (aj aG aB)) (aj (bR (aj (dX (cN aB)) aB)) (aj XC aB)))))))) (aU bV (bK (ao 2) aG) aG)) (aj (ao 5) aB))))) aR) aR) (aC (bO (bR (aj (ao 3) (aj (ao 4) (aj (ao 1) aB))))) aR))))))))))))))
theorem zG:bH ["_law_step","_law_joining_here","_law_xs","_law_some","_law_part","_law_at","_law_names_here","_law_name","_law_more"] ["_law_step","_law_joining_here","_law_xs"] (aM rY):=lW
theorem zH:Ok P w base t.jD 1 3 jC:=Ef (g:=jB) t.jD zG λ_ _ _ _ _ _ b c a=>(aC (bL 3 a (cN (aj (bK (ao 0) aG) (aj (bK (ao 0) aG) aB)))) (aC (bL 4 a (bK (ao 3) (aU bV (bK (ao 2) aG) aG))) (aC (bL 5 a (aU bV (bK (ao 2) aG) (aW (Qo S) S t.Zq Ql (aj aG (aj (aW fZ S t.jy fY (aj (ao 4) aB)) aB))))) (aC (bL 6 a (aU bQ (aW (WU S) S t.ah8 cm (aj (gZ ["_law_one"] (qO [] []) S (jA (ao 1)) (λ_ _ _ _=>(im 0)) (λ_ _ _ _=>d7) (λ_ _ _ _=>(dX (dY xT S t.zF uR (aj (ao 0) aB)))) (fH)) (aj (cN aB) aB))) (cN (aj cU aB)))) (aC (bL 7 a (bK (ao 6) (aU bV (bK (ao 2) aG) (aW fZ S t.jy fY (aj (ao 6) aB))))) (aC (bL 8 a (cN (aj (dX (aU bQ (mJ (ao 4) eZ (dR (ao 5))) (mJ (ao 4) (dR (aU bQ (ao 5) aG)) eZ))) (aj (dX (aU bQ (aU bQ (mJ (ao 4) eZ (dR (ao 5))) (bR (aj (ao 7) aB))) (mJ (ao 4) (dR (aU bQ (ao 5) aG)) eZ))) (aj (dX (aU bQ (aU bQ (mJ (ao 4) eZ (dR (ao 5))) (bR (aj (ao 7) aB))) (mJ (ao 4) (dR (ao 5)) eZ))) aB))))) (aC (bL 8 a (aU bQ (ao 8) (cN (aj (dX (aU bQ (aU bQ (mJ (ao 4) eZ (dR (ao 5))) (mJ (ao 4) (dR (ao 5)) (dR (aU bQ (ao 5) aG)))) (mJ (ao 4) (dR (ao 5)) eZ))) (aj (dY nY S t.jX lV (aj (aW DR S t.gF fP (aj (aU bQ (ao 4) (bR (aj (ao 7) aB))) aB)) aB)) aB))))) (aC (Jl 8 (bK (aU bQ (ao 1) (cN (aj (ao 4) aB))) (aU bV (bK (ao 2) aG) (aU bQ (aW fZ S t.jy fY (aj (ao 1) aB)) aG)))) (aC (b7 3 (bK (ao 8) (aU bV (aU jR (bK (ao 2) aG) aG) aG)) (aU bV (bK (ao 2) aG) aG)) (aC (bO (bR (aj (bK (ao 0) aG) (aj (bK (ao 3) aG) (aj (bK (ao 3) aG) aB))))) aR))))))))))
theorem Gm:bH ["_law_thing"] ["_law_thing"] (aM yC):=lW
theorem Gn:Ok P w base t.jW 1 1 jV:=Ef (g:=mW) t.jW Gm λ_ _ _ _ _ _ b a c=>(aC (eE (xH (kj (kE (kh (mU (ao 0) S t.bG S t.jX))) (kj (bC (of_eq a) (ao 0) (bR aB) (bB _)) (lB (kE (kh (aW (yW S) S t.Ao yV (aj (gZ ["_law_name"] (qO [] []) S (jA (ao 0)) (λ_ _ _ _=>(im 0)) (λ_ _ _ _=>d7) (λ_ _ _ _=>(dX (wC (ao 0) S t.bG S t.Zr))) (fH)) aB)))))))) (aC (bO Lr) aR) aR) (aC (bO (nU (of_eq a) (dY xT S t.zF uR (aj (ao 0) aB)) (br S S t.gF (S2 S a S t.ah7 (ao 0))) (bB _))) aR))
theorem Gq:bH ["_law_joining_here","_law_step","_law_word","_law_one","_law_other","_law_both"] ["_law_joining_here","_law_step"] (aM yD):=lW
theorem Gr:Ok P w base t.nu 1 2 mY:=Ef (g:=mX) t.nu Gq λ_ _ _ _ _ _ c a b=>(aC (qJ (ao 1) (pU S (cj (bh 2 b) (cj (bh 3 b) (cj (bh 4 b) lC))))) (aC (bL 5 b (dY nY S t.jX lV (aj (aW DR S t.gF fP (aj (aU bQ (ao 3) (ao 4)) aB)) aB))) (aC (eE (xH (oZ (bC (of_eq a) (ao 2) cU (bB _)) (oZ (bC (tK a) (ao 3) (ao 4) (bB _)) (oZ (bC (Dl a) (ao 3) (ao 0) (by with_unfolding_all rfl)) (xG (bC (Dl a) (ao 4) (ao 0) (by with_unfolding_all rfl))))))) (aC (bO (dX (aW tW S t.gF fP (aj (aU bQ (gZ ["_law_part"] (qO ["_law_one","_law_other"] [3,4]) S (jA (ao 0)) (λ_ _ _ _=>(im 2)) (λ_ _ _ _=>(n6 (bC (JV a) (ao 2) (cN (aj (ao 0) (aj (ao 1) aB))) (by with_unfolding_all rfl)))) (λ_ _ _ _=>(ao 2)) (fH)) (cN (aj (ao 5) aB))) aB)))) aR) aR) (aC (eE (xH (oZ (bC (of_eq a) (ao 2) cU (bB _)) (oZ (bC (Dl a) (ao 5) (ao 0) (by with_unfolding_all rfl)) (oZ (bC (tK a) (ao 3) (bR aB) (bB _)) (xG (bC (tK a) (ao 4) (bR aB) (bB _))))))) (aC (bO (dX (aW tW S t.gF fP (aj (aU bQ (gZ ["_law_part"] (qO ["_law_both"] [5]) S (jA (ao 0)) (λ_ _ _ _=>(im 1)) (λ_ _ _ _=>(n6 (bC (tK a) (ao 1) (ao 0) (bB _)))) (λ_ _ _ _=>(ao 1)) (fH)) (cN (aj (ao 3) (aj (ao 4) aB)))) aB)))) aR) aR) (aC (bO pR) aR)))))
theorem Rc:bH ["_law_joining_here","_law_thing"] ["_law_joining_here","_law_thing"] (aM Il):=lW
theorem Rf(d:Ok P w base t.nu 1 2 mY)(b:Ok P w base t.jW 1 1 jV):Ok P w base t.qx 2 2 qw:=Ef (g:=vA) t.qx Rc λ_ _ _ _ _ _ a c e=>(aC (eE (xH (kj (kE (kh (mU (ao 1) S t.bG S t.jX))) (kj (bC (tK c) (aW fZ S t.jy fY (aj (ao 1) aB)) aG (bB _)) (lB (bC (JV c) (bK (ao 1) aG) (cN (aj cU (aj cU aB))) (by with_unfolding_all rfl)))))) (aC (bO pR) aR) aR) (aC (eE (xH (kj (kE (kh (dZ t.jW b a (aj (bK (ao 1) aG) aB)))) (lB (kE (kh (dZ t.jW b a (aj (bK (ao 1) aG) aB))))))) (aC (bO pR) aR) aR) (aC (bO (dX (dZ t.nu d a (aj (ao 0) (aj (ao 1) aB))))) aR)))
theorem Ox:bH ["thing","many"] ["thing","many"] (aM Fd):=lW
theorem Oz:Ok P w base t.rE 1 2 q9:=Ef (g:=qZ) t.rE Ox λ_ _ _ _ _ _ b a c=>(aC (bO (qG (mU (ao 0) S t.bG S t.jX) (yQ (nU (of_eq a) (aW fZ S t.jy fY (aj (ao 0) aB)) (ao 1) (bB _))))) aR)
theorem Km:bH ["thing","word","many"] ["thing","word","many"] (aM Aj):=lW
theorem Ko(c:Ok P w base t.rE 1 2 q9):Ok P w base t.lZ 2 3 lY:=Ef (g:=pI) t.lZ Km λ_ _ _ _ _ _ a b d=>(aC (bO (qG (dZ t.rE c a (aj (ao 0) (aj (ao 2) aB))) (qG (wC (bK (ao 0) aG) S t.bG S t.Zr) (yQ (nU (of_eq b) (bK (ao 0) aG) (ao 1) (bB _)))))) aR)
theorem Gs:bH ["thing","signs","longest"] ["thing","signs","longest"] (aM yE):=lW
theorem Gu:Ok P w base t.nA 1 3 m7:=Ef (g:=mZ) t.nA Gs λ_ _ _ _ _ _ a c b=>(aC (bO (qG (wC (ao 0) S t.bG S t.Zr) (qG (W8 DM DM aG (aW fZ S t.jy fY (aj (ao 0) aB)) (ao 2)) (yQ (aW (yW S) S t.Ao yV (aj (gZ ["sign"] (qO ["signs"] [1]) S (jA (ao 0)) (λ_ _ _ _=>(im 1)) (λ_ _ _ _=>d7) (λ_ _ _ _=>(nU UV (ao 1) (ao 0) (by with_unfolding_all rfl))) (fH)) aB)))))) aR)
theorem Rh:bH ["thing"] ["thing"] (aM Im):=lW
theorem Ri(b:Ok P w base t.nA 1 3 m7):Ok P w base t.vH 2 1 vC:=Ef (g:=vB) t.vH Rh λ_ _ _ _ _ _ d e h=>by
 obtain⟨i,c⟩:=t.VJ;obtain⟨f,a⟩:=t.Fj;exact(aC (bO (dZ t.nA b d (aj (ao 0) (aj (Xb S c) (aj (Xa S a) aB))))) aR)
theorem Gv:bH ["things"] ["things"] (aM yF):=lW
theorem Gw:Ok P w base t.nC 1 1 nq:=Ef (g:=ni) t.nC Gv λ_ _ _ _ _ _ a c b=>(aC (bO (aW (yW S) S t.Ao yV (aj (gZ ["at"] (qO ["things"] [0]) S (Qg (qj S t.lK (aj (aU Xp (aW fZ S t.jy fY (aj (ao 0) aB)) aG) aB))) (λ_ _ _ _=>(im 1)) (λ_ _ _ _=>d7) (λ_ _ _ _=>(nU Jz (bK (ao 0) (ao 1)) (bK (ao 0) (aU bQ (ao 1) aG)) (bB _))) (fH)) aB))) aR)
theorem Kq:bH ["thing"] ["thing"] (aM Ak):=lW
theorem Kr(b:Ok P w base t.nC 1 1 nq)(c:Ok P w base t.vH 2 1 vC):Ok P w base t.pN 3 1 pK:=Ef (g:=pJ) t.pN Kq λ_ _ _ _ _ _ a d e=>(aC (bO (qG (mU (ao 0) S t.bG S t.jX) (qG (aW (yW S) S t.Ao yV (aj (gZ ["name"] (qO [] []) S (jA (ao 0)) (λ_ _ _ _=>(im 0)) (λ_ _ _ _=>d7) (λ_ _ _ _=>(dX (dZ t.vH c a (aj (ao 0) aB)))) (fH)) aB)) (yQ (dZ t.nC b a (aj (ao 0) aB)))))) aR)
theorem VN:bH ["thing"] ["thing"] (aM Og):=lW
theorem VP(b:Ok P w base t.pN 3 1 pK):Ok P w base t.uD 4 1 uz:=Ef (g:=yG) t.uD VN λ_ _ _ _ _ _ a d c=>(aC (bO (qG (dZ t.pN b a (aj (ao 0) aB)) (yQ (nU Xq (aW fZ S t.jy fY (aj (ao 0) aB)) aG (bB _))))) aR)
theorem Rj:bH ["thing"] ["thing"] (aM Io):=lW
theorem Rk(b:Ok P w base t.uD 4 1 uz)(c:Ok P w base t.lZ 2 3 lY):Ok P w base t.jO 5 1 lq:=Ef (g:=vD) t.jO Rj λ_ _ _ _ _ _ a d e=>(aC (eE (xH (oZ (kE (kh (dZ t.lZ c a (aj (ao 0) (aj cU (aj aG aB)))))) (xG (kE (kh (dZ t.lZ c a (aj (ao 0) (aj cU (aj aG aB))))))))) (aC (bO Lr) aR) aR) (aC (bO (qG (dZ t.uD b a (aj (bK (ao 0) aG) aB)) (yQ (dZ t.uD b a (aj (bK (ao 0) aG) aB))))) aR))
theorem OD:bH ["one","other"] ["one","other"] (aM Fg):=lW
theorem OJ:Ok P w base t.iQ 1 2 jK:=Ef (g:=rz) t.iQ OD λ_ _ _ _ _ _ a c b=>(aC (bO (dY nY S t.jX lV (aj (aW DR S t.gF fP (aj (aU bQ (ao 0) (ao 1)) aB)) aB))) aR)
theorem Fv:bH ["one","step","word","first","second","ahead","behind"] ["one","step"] (aM lG):=lW
theorem Fw(d:Ok P w base t.jO 5 1 lq)(e:Ok P w base t.iQ 1 2 jK):Ok P w base t.gk 6 2 dM:=Ef (g:=gj) t.gk Fv λ_ _ _ _ _ _ c b a=>(aC (eE (kE (kh (dZ t.jO d c (aj (ao 1) aB)))) (aC JW aR) aR) (aC (qJ (ao 1) (pU S (cj (bh 2 a) (cj (bh 3 a) (cj (bh 4 a) lC))))) (aC (qJ (bR (aj (dX (cN (aj (ao 3) (aj (ao 4) aB)))) (aj (dX (cN (aj (dX (dZ t.iQ e c (aj (ao 3) (aj (ao 4) aB)))) aB))) aB))) (pU S (cj (bh 5 a) (cj (bh 6 a) lC)))) (aC (eE (bC (of_eq b) (ao 2) cU (bB _)) (cZ [] (aC (qJ (bR (aj (ao 6) (aj (ao 5) aB))) (pU S (cj (bh 5 a) (cj (bh 6 a) lC)))) aR)) (cZ [] aR)) (aC (eE (xH (kj (bC (of_eq b) (ao 3) (ao 4) (bB _)) (lB (kE (kh (aW (yW S) S t.Ao yV (aj (gZ ["own"] (qO ["one"] [0]) S (jA (ao 5)) (λ_ _ _ _=>(im 1)) (λ_ _ _ _=>d7) (λ_ _ _ _=>(nU (Dl b) (ao 1) (ao 0) (by with_unfolding_all rfl))) (fH)) aB))))))) (aC JW aR) aR) (aC (bO (aW tW S t.gF fP (aj (aU bQ (gZ ["own"] (qO ["ahead"] [5]) S (jA (ao 0)) (λ_ _ _ _=>(im 1)) (λ_ _ _ _=>(n6 (bC (JV b) (ao 1) (ao 0) (by with_unfolding_all rfl)))) (λ_ _ _ _=>(ao 1)) (fH)) (ao 6)) aB))) aR))))))
theorem O1(c:Ok P w base t.jO 5 1 lq)(d:Ok P w base t.iQ 1 2 jK)(a:Ok P w base t.gk 6 2 dM):Ok P w base t.oG 8 2 iI:=
 Ts t.oG.F a (Rs t.gk.F c t.jO.m t.jO.k t.jO.b d t.iQ.m t.iQ.k t.iQ.b t.Ao t.jx t.jkC t.jmC) t.gk.m t.gk.k t.gk.b t.acf t.jex
  (hJ t.x_o.F t.akt t.m0 t.m1 t.m2 t.m3 t.m4 t.jmC t.m6 t.acf t.h0 t.h1 t.h2 t.h3 t.h4 t.h5 t.h6 t.hF t.hve t.bG t.afV t.lK) t.x_o.m t.x_o.k t.x_o.b
theorem az:bH ["_law_script","_law_names_here","_law_joining_here","_law_other","_law_k","_law_xs","_law_kept","_law_step","_law_things","_law_thing","_law_due_here","_law_found"] ["_law_script"] (aM s_law):=lW
theorem VZ(l:Ok P w base t.rC 1 3 qY)(f:Ok P w base t.iM 1 2 iH)(h:Ok P w base t.jf 1 2 jd)(d:Ok P w base t.qx 2 2 qw)(k:Ok P w base t.jD 1 3 jC)(i:Ok P w base t.eX 1 2 eV)(e:Ok P w base t.oG 8 2 iI)(j:Ok P w base t.vG 2 2 u9):Ok P w base t.x_law 9 1 F_law:=Ef (g:=TQ) t.x_law az λ_ _ _ _ _ _ b c a=>(aC (qJ (dZ t.vG j b (aj (ao 0) (aj aG aB))) (pU S (cj (bh 1 a) (cj (bh 2 a) (cj (bh 3 a) lC))))) (aC (Cu PassesOwn.never S (Xg S t.lK (aj aG (aj (aU bQ aG (aW (Qo S) S t.Zq Ql (aj aG (aj (aW (RY S) S t.ah6 OG (aj (aU Xp (aW fZ S t.jy fY (aj (ao 0) aB)) aG) (aj aG aB))) aB)))) aB))) (bh 4 a) (cZ [4,5,6,7,8,9,10,11] (aC (bL 5 a (dZ t.eX i b (aj (dX (dZ t.iM f b (aj (ao 0) (aj (ao 4) aB)))) (aj aG aB)))) (aC (bL 6 a (dY xT S t.zF uR (aj (ao 2) aB))) (aC (bL 7 a (dZ t.jf h b (aj (ao 2) (aj (ao 5) aB)))) (aC (bL 8 a (cN (aj (ao 7) (aj (dX (dZ t.rC l b (aj (ao 7) (aj (ao 2) (aj (ao 5) aB))))) (aj (dX (dZ t.jD k b (aj (ao 7) (aj (ao 2) (aj (dX (mJ (ao 5) (dR aG) eZ)) aB))))) aB))))) (aC (Cu PassesOwn.never S (Jm (aU bQ (ao 8) (cN (aj (bR (aj (bK (ao 7) aG) (aj (bK (ao 7) aG) (aj (bK (ao 7) aG) aB)))) aB)))) (bh 9 a) (cZ [9,10,11] (aC (bL 10 a (dZ t.qx d b (aj (ao 2) (aj (ao 9) aB)))) (aC (bL 11 a (dZ t.oG e b (aj (ao 2) (aj (ao 9) aB)))) (aC (eE (xH (kj (bC (tK c) (ao 11) (ao 10) (bB _)) (kj (xH (oZ (bC Jw (ao 10) pR (bB _)) (xG (kE (kh (Mp (ao 11) S t.bG S t.zF)))))) (lB (bC (tK c) (ao 2) (ao 6) (bB _)))))) (aC (bO Lr) aR) aR) (aC (eE (bC Jw (ao 10) pR (bB _)) (aC (Jl 11 (bR aB)) (aC (eE (xH (kj (bC (tK c) (dZ t.oG e b (aj (ao 2) (aj (ao 9) aB))) (ao 10) (bB _)) (lB (bC (tK c) (ao 2) (ao 6) (bB _))))) (aC (bO Lr) aR) aR) aR)) aR) aR)))))) (aC (bL 10 a (dZ t.qx d b (aj (ao 2) (aj (ao 7) aB)))) (aC (eE (bC Jw (ao 10) pR (bB _)) (cZ [] (aC (bL 2 a (ao 10)) aR)) (cZ [] aR)) aR))))))))) (aC (bO Lr) aR)))
theorem DU:Ok P w base t.x_law 9 1 F_law:=by
 have a:=Oq (P:=P) (w:=w) (base:=base) t;have b:=Fo (P:=P) (w:=w) (base:=base) t;have v:=Kl (P:=P) (w:=w) (base:=base) t;have j:=Fq (P:=P) (w:=w) (base:=base) t;have z:=Ou (P:=P) (w:=w) (base:=base) t;have h:=Rb (P:=P) (w:=w) (base:=base) t a j v z b;have l:=yI (P:=P) (w:=w) (base:=base) t;have A:=Ow (P:=P) (w:=w) (base:=base) t;have y:=zH (P:=P) (w:=w) (base:=base) t;have f:=Gn (P:=P) (w:=w) (base:=base) t;have e:=Gr (P:=P) (w:=w) (base:=base) t;have o:=Rf (P:=P) (w:=w) (base:=base) t e f;have p:=Oz (P:=P) (w:=w) (base:=base) t;have q:=Ko (P:=P) (w:=w) (base:=base) t p;have n:=Gu (P:=P) (w:=w) (base:=base) t;have u:=Ri (P:=P) (w:=w) (base:=base) t n;have s:=Gw (P:=P) (w:=w) (base:=base) t;have i:=Kr (P:=P) (w:=w) (base:=base) t s u;have k:=VP (P:=P) (w:=w) (base:=base) t i;have d:=Rk (P:=P) (w:=w) (base:=base) t k q;have c:=OJ (P:=P) (w:=w) (base:=base) t;have m:=Fw (P:=P) (w:=w) (base:=base) t d c;have x:=O1 (P:=P) (w:=w) (base:=base) t d c m;have g:=VZ (P:=P) (w:=w) (base:=base) t A a l o y b x h;exact g
end
end G47
end
section
set_option synthInstance.maxSize 100000
namespace G47
open L2 P1
noncomputable section
def vX(a:Int)(b:Int):Int:=(let a:=(((a*69621)+b)%2147483647);a)
theorem Gx(d:BF)(e:Lp dB (d.map eI))(c:Int)(a:Int)(b:Int):RP vW [Z dB,Z (zE eI c),Z (zE eI a),Z (zE eI b)] (λs=>As.nx ((λa:Int=>[Z dB,Z (zE eI c),Z (zE eI a),U]) s)) (vX  a b) (U):=R.tp (cu (cL 2 (c7 (jt (SM (aA 2 (zE eI) a S) 69621 ()) (aA 3 (zE eI) b S)) 2147483647 ()) (λ_=>S) λa=>(cM (fJ a S))))
def bM(c:BF)(a:Int):Int:=(if(decide (a<(c.length:Int)))=true then(An c a)else(let b:=((48271*(((a*a)+(7*a))+11))%2147483647);(let b:Int:=((BE c U (Z 3)).foldl (λ(b:Int) (d:Int)=>(vX  b d)) b);b)))
def iT(b:BF)(a:Int):Prop:=(((decide (a<(b.length:Int)))=true->In b.length a)/\((decide (a<(b.length:Int)))=false->Fu a a))
theorem Rm(b:BF)(d:Lp dB (b.map eI))(a:Int):RP qT [Z dB,Z (zE eI a),U,U] (λr=>As.rt (zE eI r)) (bM b a) (Z (iT b a)):=R.tp (iu (cg (Yk (aA 1 (zE eI) a S) (BN (bY 0 eI b d S)))) (cu (cT (λr=>r) (gB (bY 0 eI b d S) (aA 1 (zE eI) a S)) (λ_=>S) λ_=>S)) (cM (cL 2 (c7 (QG 48271 () (jt (jt (MI (aA 1 (zE eI) a S) (aA 1 (zE eI) a S)) (QG 7 () (aA 1 (zE eI) a S))) (B8 11))) 2147483647 ()) (λ_=>S) λc=>(e8 (λc:Int=>[Z dB,Z (zE eI a),Z (zE eI c),U]) c S (Iy (HK (bY 0 eI b d S) wI (uf (B8 3)))) _ (λ_ _=>S) (λ(c:Int) (e:Int)=>(Gx b d a c e).r) (λ_ _=>S) λc=>(cT (λr=>r) (aA 2 (zE eI) c S) (λ_=>S) λ_=>S)))))
theorem rM:∀v bs,(aL eI (aZ eI aN)) v bs->bs.length=2/\(B9 (Z (iT v.1 v.2.1))->iH (bs.map B5)=Z ((zE eI) (bM v.1 v.2.1))):=by
 rintro⟨b,a,_⟩ _ ⟨dB,_,rfl,c,⟨_,rfl,rfl⟩⟩;exact⟨rfl,λh=>dh (g:=qT) (n:=4) (bs:=[B5 dB,.z (eI a)]) (Rm b (mK c) a) h⟩
def cJ(a:Int×BF×Int)(e:Int):Int×BF×Int:=(let b:=((((a.1*((a.1%65521)+40487))+(7*e))+5)%1999999973);(let c:=a.2.1++[(An [b,(a.2.2%1000000)] (if(decide ((0:Int)<a.2.2))=true then(1:Int)else 0))];(let d:=(a.2.2 / (1000000:Int));(b,c,d))))
def jg(a:Int×BF×Int)(b:Int):Prop:=(Fu a.1 ((a.1%65521)+40487)/\(let c:=((((a.1*((a.1%65521)+40487))+(7*b))+5)%1999999973);(In [c,(a.2.2%1000000)].length (if(decide ((0:Int)<a.2.2))=true then(1:Int)else 0)/\uY a.2.1.length)))
theorem zL(c:Int)(e:Int)(a:Int×BF×Int)(b:Int):RP lg [Z (zE eI c),Z (zE eI e),Z ((oE eI) a.2.1),Z ((zE eI) a.1),Z ((zE eI) a.2.2),Z (zE eI b)] (λs=>As.nx ((λa:Int×BF×Int=>[Z (zE eI c),Z (zE eI e),Z ((oE eI) a.2.1),Z ((zE eI) a.1),Z ((zE eI) a.2.2),U]) s)) (cJ  a b) (Z (jg  a b)):=R.tp (cu (cL 3 (c7 (jt (jt (MI (aA 3 (zE eI) a.1 S) (jt (c7 (aA 3 (zE eI) a.1 S) 65521 ()) (B8 40487))) (QG 7 () (aA 5 (zE eI) b S))) (B8 5)) 1999999973 ()) (λ_=>S) λd=>(cu (Yx 2 a.2.1 S (gB (fK (fu (aH (aA 3 (zE eI) d S) (aH (c7 (aA 4 (zE eI) a.2.2 S) 1000000 ()) (bA eI))) (zg S))) (Yt (IF (aA 4 (zE eI) a.2.2 S) (B8 0)))) λf=>(cu (cL 4 (mV (aA 4 (zE eI) a.2.2 S) 1000000 ()) (λ_=>S) λg=>(cM (fJ (d,f,g) S))))))))
def jh(g:Int)(f:Int)(b:BF)(c:Int)(d:Int):BF:=(let a:Int×BF×Int:=((rng 0 f.toNat).foldl (λ(a:Int×BF×Int) (e:Int)=>(cJ  a e)) (c,b,d));a.2.1)
def lA(g:Int)(c:Int)(d:BF)(e:Int)(f:Int):Prop:=(Rg c/\Nj (λ(a:Int×BF×Int) (b:Int)=>(cJ  a b)) (λ(a:Int×BF×Int) (b:Int)=>Z (jg  a b)) (rng 0 c.toNat) (e,d,f))
def zM:Ev->Y As:=(aO (wD (UJ (aq (gv 1) aK)) (nZ 5) lg) (aO (Jk 2) eF))
theorem zN(c:Int)(b:Int)(e:BF)(d:Int)(f:Int):RP zM [Z (zE eI c),Z (zE eI b),Z (oE eI e),Z (zE eI d),Z (zE eI f),U] (λr=>As.rt (oE eI r)) (jh c b e d f) (Z (lA c b e d f)):=R.tp (NN (λa:Int×BF×Int=>[Z (zE eI c),Z (zE eI b),Z ((oE eI) a.2.1),Z ((zE eI) a.1),Z ((zE eI) a.2.2),U]) (d,e,f) S (Ni (aA 1 (zE eI) b S)) _ (λ_ _=>S) (λ(a:Int×BF×Int) (g:Int)=>(zL c b a g).r) λa=>(Yw 2 (λr=>r) a.2.1 S (λ_=>S) λ_=>S))
def bJ(a:Int)(e:Int):BF:=(let c:=([]:O Int);(let d:=((((a%1999999973)+31)*765432101)%1999999973);(let b:=(0:Int);(let b:Int:=(if((decide (a<0))||(decide (((10:Int) ^ 18)<=a)))=true then(let b:=(if a<0 then -a else a);b)else b);(jh a e c d b)))))
def gn(a:Int)(e:Int):Prop:=(let c:=([]:O Int);(let d:=((((a%1999999973)+31)*765432101)%1999999973);(let b:=(0:Int);(let b:Int:=(if((decide (a<0))||(decide (((10:Int) ^ 18)<=a)))=true then(let b:=(if a<0 then -a else a);b)else b);(lA a e c d b)))))
theorem Gy(a:Int)(c:Int):RP lH [Z (zE eI a),Z (zE eI c),U,U,U,U] (λr=>As.rt (oE eI r)) (bJ a c) (Z (gn a c)):=R.tp (cL 2 (fu (bA eI) (zg S)) (λ_=>S) λe=>(cL 3 (c7 (SM (jt (c7 (aA 0 (zE eI) a S) 1999999973 ()) (B8 31)) 765432101 ()) 1999999973 ()) (λ_=>S) λd=>(cL 4 (B8 0) (λ_=>S) λb=>(HF (λb:Int=>[Z (zE eI a),Z (zE eI c),Z (oE eI e),Z (zE eI d),Z (zE eI b),U]) (zj (cg (Yk (aA 0 (zE eI) a S) (B8 0))) (cg (HL (aA 0 (zE eI) a S) (gc 10 18 18 () S)))) (cu (cL 4 (fm (aA 0 (zE eI) a S)) (λ_=>S) λb=>(cM (fJ b S)))) (cM (fJ b S)) λb=>(zN a c e d b).r))))
theorem lN:∀v bs,(aZ eI (aZ eI aN)) v bs->bs.length=2/\(B9 (Z (gn v.1 v.2.1))->eV (bs.map B5)=Z ((oE eI) (bJ v.1 v.2.1))):=by
 rintro⟨a,b,_⟩ _ ⟨_,rfl,⟨_,rfl,rfl⟩⟩;exact⟨rfl,λh=>dh (g:=lH) (n:=6) (bs:=[.z (eI a),.z (eI b)]) (Gy a b) h⟩
def fD(e:BF)(f:AJ)(g:AJ)(d:Int)(b:AZ)(c:Int):AZ:=(let h:=(ch f ((c+(An e 2))%15));(let a:=(((Txt.slice g U (Z d))++h)++(Txt.slice g (Z d) U));(let a:AJ:=(if(decide (((An e 3)%3)=1))=true then(let a:=(Txt.mul (ch f (c / (8:Int))) (1+(c%8)));a)else a);(let b:=b++[a];b))))
def jY(b:BF)(d:AJ)(e:AJ)(c:Int)(h:AZ)(a:Int):Prop:=((In b.length 2/\In d.length ((a+(An b 2))%15))/\(let g:=(ch d ((a+(An b 2))%15));((uY ((Txt.slice e U (Z c)).length+g.length)/\uY (((Txt.slice e U (Z c))++g).length+(Txt.slice e (Z c) U).length))/\(let f:=(((Txt.slice e U (Z c))++g)++(Txt.slice e (Z c) U));((In b.length 3/\((decide (((An b 3)%3)=1))=true->(In d.length (a / (8:Int))/\((1+(a%8))<=1000 ∧ -1000<=(1+(a%8))/\(ch d (a / (8:Int))).length<=1000))))/\(let f:AJ:=(if(decide (((An b 3)%3)=1))=true then(let f:=(Txt.mul (ch d (a / (8:Int))) (1+(a%8)));f)else f);uY h.length))))))
theorem Fy(g:BF)(j:Lp dB (g.map eI))(h:Int)(d:AJ)(e:AJ)(c:Int)(a:AZ)(f:Int):RP oF [Z dB,Z (zE eI h),Z (zE eS d),Z (zE eS e),Z (zE eI c),Z (oE eS a),Z (zE eI f),U,U] (λs=>As.nx ((λa:AZ=>[Z dB,Z (zE eI h),Z (zE eS d),Z (zE eS e),Z (zE eI c),Z (oE eS a),U,U,U]) s)) (fD g d e c a f) (Z (jY g d e c a f)):=R.tp (cu (cL 7 (SN (aA 2 (zE eS) d S) (c7 (jt (aA 6 (zE eI) f S) (gB (bY 0 eI g j S) (B8 2))) 15 ())) (λ_=>S) λi=>(cu (cL 8 (Yp (Yp (No (aA 3 (zE eS) e S) wI (uf (aA 4 (zE eI) c S))) (aA 7 (zE eS) i S)) (No (aA 3 (zE eS) e S) (uf (aA 4 (zE eI) c S)) wI)) (λ_=>S) λb=>(cu (HF (λb:AJ=>[Z dB,Z (zE eI h),Z (zE eS d),Z (zE eS e),Z (zE eI c),Z (oE eS a),Z (zE eI f),Z (zE eS i),Z (zE eS b)]) (cg (BG () (c7 (gB (bY 0 eI g j S) (B8 3)) 3 ()) (B8 1))) (cu (cL 8 (Yr (SN (aA 2 (zE eS) d S) (mV (aA 6 (zE eI) f S) 8 ())) (jt (B8 1) (c7 (aA 6 (zE eI) f S) 8 ()))) (λ_=>S) λb=>(cM (fJ b S)))) (cM (fJ b S)) λb=>(cu (Yx 5 a S (aA 8 (zE eS) b S) λa=>(cM (fJ a S))))))))))
def jZ(b:BF)(g:Int)(e:AJ)(c:AJ):AZ:=(let d:=((An b 1)%((c.length:Int)+1));(let a:=([]:AZ);(let a:AZ:=((rng 0 g.toNat).foldl (λ(a:AZ) (f:Int)=>(fD b e c d a f)) a);a)))
def oH(b:BF)(g:Int)(f:AJ)(c:AJ):Prop:=((In b.length 1/\0<((c.length:Int)+1))/\(let e:=((An b 1)%((c.length:Int)+1));(let a:=([]:AZ);(Rg g/\Nj (λ(a:AZ) (d:Int)=>(fD b f c e a d)) (λ(a:AZ) (d:Int)=>Z (jY b f c e a d)) (rng 0 g.toNat) a))))
def Fz:Ev->Y As:=(aO (B7 4 (b2 fW (b2 g8 (gv 0) (cB (.int 1))) (b2 dO (bI jG (aq (gv 3) aK)) (cB (.int 1))))) (aO (B7 5 (bI gM aK)) (aO (wD (UJ (aq (gv 1) aK)) (nZ 6) oF) (aO (Jk 5) eF))))
theorem FJ(d:BF)(g:Lp dB (d.map eI))(c:Int)(e:AJ)(b:AJ):RP Fz [Z dB,Z (zE eI c),Z (zE eS e),Z (zE eS b),U,U,U,U,U] (λr=>As.rt (oE eS r)) (jZ d c e b) (Z (oH d c e b)):=R.tp (cL 4 (ud (gB (bY 0 eI d g S) (B8 1)) (jt (SW (aA 3 (zE eS) b S)) (B8 1))) (λ_=>S) λf=>(cL 5 (fu (bA eS) (zg S)) (λ_=>S) λa=>(NN (λa:AZ=>[Z dB,Z (zE eI c),Z (zE eS e),Z (zE eS b),Z (zE eI f),Z (oE eS a),U,U,U]) a S (Ni (aA 1 (zE eI) c S)) _ (λ_ _=>S) (λ(a:AZ) (h:Int)=>(Fy d g c e b f a h).r) λa=>(Yw 5 (λr=>r) a S (λ_=>S) λ_=>S))))
def dG(a:BF)(e:Int):AZ:=(let b:=("abcdefghijklmnopqrstuvwxyz":AJ);(let c:=(Txt.join "" ((rng 0 ((An a 0)%6).toNat).map λd:Int=>(ch b (((An a d) / (40:Int))%26))));(jZ a e b c)))
def pP(a:BF)(e:Int):Prop:=(let c:=("abcdefghijklmnopqrstuvwxyz":AJ);(((((In a.length 0/\Rg ((An a 0)%6))/\(rng 0 ((An a 0)%6).toNat).length<=100000)/\(∀b∈(rng 0 ((An a 0)%6).toNat),(In a.length b/\In c.length (((An a b) / (40:Int))%26))))/\(((rng 0 ((An a 0)%6).toNat).map λb:Int=>(ch c (((An a b) / (40:Int))%26))).map (·.length)).sum+((rng 0 ((An a 0)%6).toNat).map λb:Int=>(ch c (((An a b) / (40:Int))%26))).length*("":AJ).length<=100000)/\(let d:=(Txt.join "" ((rng 0 ((An a 0)%6).toNat).map λb:Int=>(ch c (((An a b) / (40:Int))%26))));(oH a e c d))))
theorem O2(a:BF)(b:Lp dB (a.map eI))(c:Int):RP pG [Z dB,Z (zE eI c),U,U,U,U,U,U,U] (λr=>As.rt (oE eS r)) (dG a c) (Z (pP a c)):=R.tp (cL 2 (zx "abcdefghijklmnopqrstuvwxyz") (λ_=>S) λd=>(cL 3 (U' "" (fK (wL (Ni (c7 (gB (bY 0 eI a b S) (B8 0)) 6 ())) _ (λ_=>S) (λf:Int=>(SN (aA 0 (zE eS) d S) (c7 (mV (gB (bY 1 eI a b (congrArg Z (b.get S))) (aA 2 (zE eI) f S)) 40 ()) 26 ())))))) (λ_=>S) λe=>(FJ a b c d e).r))
theorem O4:∀v bs,(aL eI (aZ eI aN)) v bs->bs.length=2/\(B9 (Z (pP v.1 v.2.1))->pH (bs.map B5)=Z ((oE eS) (dG v.1 v.2.1))):=by
 rintro⟨c,a,_⟩ _ ⟨dB,_,rfl,b,⟨_,rfl,rfl⟩⟩;exact⟨rfl,λh=>dh (g:=pG) (n:=9) (bs:=[B5 dB,.z (eI a)]) (O2 c (mK b) a) h⟩
def bU(b:AZ)(a:BF):(O AZ):=(let d:=([]:(O (Int×AZ)));(let d:=(Nx (λc:Int=>(let y1:=(((An a (c%(a.length:Int))) / (1+(c / (a.length:Int))))%(if(b.length:Int)>1 then(b.length:Int)else 1));if(decide ((0:Int)<((An a 0)%3)))=true then(y1%3)else y1)) (λc:Int=>(let y1:=(((An a (c%(a.length:Int))) / (1+(c / (a.length:Int))))%(if(b.length:Int)>1 then(b.length:Int)else 1));let y2:=(if(decide ((0:Int)<((An a 0)%3)))=true then(y1%3)else y1);(An b c))) (rng 0 (b.length:Int).toNat));(fO ((d.map (·.1)).map λe:Int=>(aV (look d e))))))
def dN(b:AZ)(a:BF):Prop:=(let d:=([]:(O (Int×AZ)));((((d=[]/\Rg (b.length:Int))/\(rng 0 (b.length:Int).toNat).length<1000)/\(∀c∈(rng 0 (b.length:Int).toNat),(((((0<(a.length:Int)/\In a.length (c%(a.length:Int)))/\(0<(a.length:Int)/\(a.length:Int)<1073741824))/\(0<(1+(c / (a.length:Int)))/\(1+(c / (a.length:Int)))<1073741824))/\0<(if(b.length:Int)>1 then(b.length:Int)else 1))/\((let y1:=(((An a (c%(a.length:Int))) / (1+(c / (a.length:Int))))%(if(b.length:Int)>1 then(b.length:Int)else 1));In a.length 0)/\(let y1:=(((An a (c%(a.length:Int))) / (1+(c / (a.length:Int))))%(if(b.length:Int)>1 then(b.length:Int)else 1));let y2:=(if(decide ((0:Int)<((An a 0)%3)))=true then(y1%3)else y1);In b.length c)))))/\(let d:=(Nx (λc:Int=>(let y1:=(((An a (c%(a.length:Int))) / (1+(c / (a.length:Int))))%(if(b.length:Int)>1 then(b.length:Int)else 1));if(decide ((0:Int)<((An a 0)%3)))=true then(y1%3)else y1)) (λc:Int=>(let y1:=(((An a (c%(a.length:Int))) / (1+(c / (a.length:Int))))%(if(b.length:Int)>1 then(b.length:Int)else 1));let y2:=(if(decide ((0:Int)<((An a 0)%3)))=true then(y1%3)else y1);(An b c))) (rng 0 (b.length:Int).toNat));(((d.map (·.1)).length<=100000/\(∀e∈(d.map (·.1)),(has d e=true/\(look d e).length<64)))/\(((d.map (·.1)).map λe:Int=>(aV (look d e))).length<64/\∀x∈((d.map (·.1)).map λe:Int=>(aV (look d e))),x.isEmpty=false)))))
theorem Gz(b:AZ)(f:Lp dB (b.map eS))(a:BF){g:Bx}(d:Lp g (a.map eI)):RP lJ [Z dB,Z g,U,U,U] (λr=>As.rt ((oE (eT eS)) r)) (bU b a) (Z (dN b a)):=R.tp (cL 2 (am (eL eS)) (λ_=>S) λe=>(f7 2 4 3 e S (zg S) (ρ0:=[Z dB,Z g,U,U,U]) S (Ni (BN (bY 0 eS b f S))) (λc:Int=>(ud (Yj (gB (bY 1 eI a d S) (ud (aA 3 (zE eI) c S) (BN (bY 1 eI a d S)))) (jt (B8 1) (Yj (aA 3 (zE eI) c S) (BN (bY 1 eI a d S))))) (Yu (B8 1) (BN (bY 0 eS b f S))))) (λ(c:Int) y1=>(cg (IF (c7 (gB (bY 1 eI a d S) (B8 0)) 3 ()) (B8 0)))) (λ(c:Int) y1=>(c7 (aA 4 (zE eI) y1 S) 3 ())) (λ(c:Int) y1 y2=>(gB (bY 0 eS b f S) (aA 3 (zE eI) c S))) λe=>(cT (λr=>r) (yj (fK (wL (ON (aA 2 (nI (eL eS)) e S)) _ (λ_=>S) (λh:Int=>(qP (fK (BP (su (iN (aA 0 (nI (eL eS)) e S) (aA 1 (zE eI) h S)))))))))) (λ_=>S) λ_=>S)))
theorem vY:∀v bs,(aL eS (aL eI aN)) v bs->bs.length=2/\(B9 (Z (dN v.1 v.2.1))->ju (bs.map B5)=Z ((oE (eT eS)) (bU v.1 v.2.1))):=by
 rintro⟨d,b,_⟩ _ ⟨dB,_,rfl,c,⟨e,_,rfl,a,rfl⟩⟩;exact⟨rfl,λh=>dh (g:=lJ) (n:=5) (bs:=[B5 dB,B5 e]) (Gz d (mK c) b (mK a)) h⟩
def oJ(a:O AZ)(b:BF):(O AZ):=Ij a b
def oK(a:O AZ)(b:BF):Prop:=DT a b
theorem Ro(b:O AZ)(e:Lp dB (b.map (eT eS)))(a:BF){c:Bx}(d:Lp c (a.map eI)):RP qU [Z dB,Z c,U,U,U,U] (λr=>As.rt ((oE (eT eS)) r)) (oJ b a) (Z (oK b a)):=RH e d
theorem Rp:∀v bs,(aL (eT eS) (aL eI aN)) v bs->bs.length=2/\(B9 (Z (oK v.1 v.2.1))->qW (bs.map B5)=Z ((oE (eT eS)) (oJ v.1 v.2.1))):=by
 rintro⟨d,b,_⟩ _ ⟨dB,_,rfl,c,⟨e,_,rfl,a,rfl⟩⟩;exact⟨rfl,λh=>dh (g:=qU) (n:=6) (bs:=[B5 dB,B5 e]) (Ro d (mK c) b (mK a)) h⟩
def nO(d:BF)(e:Int):NX:=(let c:=(bJ (bM d e) 12);(let j:=((An c 6)%11);(let a:=(aV (dG c j));(let a:AZ:=(if(decide ((((An c 6) / (11:Int))%16)=7))=true then(let a:=(aV ((rng 0 (kN 16)).map λf:Int=>(Txt.mul (ch ("ab":AJ) (f / (8:Int))) (1+(f%8)))));a)else a);(let i:=(bJ (bM d (e+1)) 16);(let g:=(bJ (bM d (e+2)) 16);(let h:=(bU a i);(let b:=(bU a g);(let b:(O AZ):=(if(decide (((An c 7)%3)=1))=true then(let b:=(oJ h g);b)else b);(a,h,b))))))))))
def qy(c:BF)(d:Int):Prop:=(((iT c d)/\(gn (bM c d) 12))/\(let b:=(bJ (bM c d) 12);(In b.length 6/\(let g:=((An b 6)%11);(((pP b g)/\(dG b g).length<64)/\(let e:=(aV (dG b g));((In b.length 6/\((decide ((((An b 6) / (11:Int))%16)=7))=true->(((rng 0 (kN 16)).length<=100000/\(∀a∈(rng 0 (kN 16)),(In ("ab":AJ).length (a / (8:Int))/\((1+(a%8))<=1000 ∧ -1000<=(1+(a%8))/\(ch ("ab":AJ) (a / (8:Int))).length<=1000))))/\((rng 0 (kN 16)).map λa:Int=>(Txt.mul (ch ("ab":AJ) (a / (8:Int))) (1+(a%8)))).length<64)))/\(let e:AZ:=(if(decide ((((An b 6) / (11:Int))%16)=7))=true then(let e:=(aV ((rng 0 (kN 16)).map λa:Int=>(Txt.mul (ch ("ab":AJ) (a / (8:Int))) (1+(a%8)))));e)else e);(((iT c (d+1))/\(gn (bM c (d+1)) 16))/\(let h:=(bJ (bM c (d+1)) 16);(((iT c (d+2))/\(gn (bM c (d+2)) 16))/\(let f:=(bJ (bM c (d+2)) 16);((dN e h)/\(let i:=(bU e h);((dN e f)/\(let j:=(bU e f);(In b.length 7/\((decide (((An b 7)%3)=1))=true->(oK i f)))))))))))))))))))
theorem VR(e:BF)(j:Lp dB (e.map eI))(b:Int):RP u6 [Z dB,Z (zE eI b),U,U,U,U,U,U,U] (λr=>As.rt (zE Nc r)) (nO e b) (Z (qy e b)):=R.tp (cL 2 (At lN (fB (jr (At rM (pX (bY 0 eI e j S) (fB (aA 1 (zE eI) b S) cG)))) (fB (B8 12) cG))) (λ_=>S) λd=>(cL 3 (c7 (gB (kY (aA 2 (lE eI) d S)) (B8 6)) 11 ()) (λ_=>S) λh=>(cL 4 (BP (fK (At O4 (pX (kY (aA 2 (lE eI) d S)) (fB (aA 3 (zE eI) h S) cG))))) (λ_=>S) λa=>(HF (λa:AZ=>[Z dB,Z (zE eI b),Z (oE eI d),Z (zE eI h),Z (oE eS a),U,U,U,U]) (cg (BG () (c7 (mV (gB (kY (aA 2 (lE eI) d S)) (B8 6)) 11 ()) 16 ()) (B8 7))) (cu (cL 4 (BP (fK (wL (i8 16 16 S (by unfold Rg;decide)) _ (λ_=>S) (λk:Int=>(Yr (SN (zx "ab") (mV (aA 0 (zE eI) k S) 8 ())) (jt (B8 1) (c7 (aA 0 (zE eI) k S) 8 ()))))))) (λ_=>S) λa=>(cM (fJ a S)))) (cM (fJ a S)) λa=>(cL 5 (At lN (fB (jr (At rM (pX (bY 0 eI e j S) (fB (jr (jt (aA 1 (zE eI) b S) (B8 1))) cG)))) (fB (B8 16) cG))) (λ_=>S) λi=>(cL 6 (At lN (fB (jr (At rM (pX (bY 0 eI e j S) (fB (jr (jt (aA 1 (zE eI) b S) (B8 2))) cG)))) (fB (B8 16) cG))) (λ_=>S) λf=>(cL 7 (At vY (pX (kY (aA 4 (lE eS) a S)) (pX (kY (aA 5 (lE eI) i S)) cG))) (λ_=>S) λg=>(cL 8 (At vY (pX (kY (aA 4 (lE eS) a S)) (pX (kY (aA 6 (lE eI) f S)) cG))) (λ_=>S) λc=>(HF (λc:(O AZ)=>[Z dB,Z (zE eI b),Z (oE eI d),Z (zE eI h),Z (oE eS a),Z (oE eI i),Z (oE eI f),Z ((oE (eT eS)) g),Z ((oE (eT eS)) c)]) (cg (BG () (c7 (gB (kY (aA 2 (lE eI) d S)) (B8 7)) 3 ()) (B8 1))) (cu (cL 8 (At Rp (pX (kY (aA 7 (lE (eT eS)) g S)) (pX (kY (aA 6 (lE eI) f S)) cG))) (λ_=>S) λc=>(cM (fJ c S)))) (cM (fJ c S)) λc=>(IJ 4 [Z dB,Z (zE eI b),Z (oE eI d),Z (zE eI h),Z ((zE (eL eS)) a),Z (oE eI i),Z (oE eI f),Z ((oE (eT eS)) g),Z ((oE (eT eS)) c)] S (IJ 7 [Z dB,Z (zE eI b),Z (oE eI d),Z (zE eI h),Z ((zE (eL eS)) a),Z (oE eI i),Z (oE eI f),Z ((zE (eL (eT eS))) g),Z ((oE (eT eS)) c)] S (IJ 8 [Z dB,Z (zE eI b),Z (oE eI d),Z (zE eI h),Z ((zE (eL eS)) a),Z (oE eI i),Z (oE eI f),Z ((zE (eL (eT eS))) g),Z ((zE (eL (eT eS))) c)] S (cT (λr=>r) (Dr (aA 4 (zE (eL eS)) a S) (aA 7 (zE (eL (eT eS))) g S) (aA 8 (zE (eL (eT eS))) c S)) (λ_=>S) λ_=>S)))))))))))))
theorem V0:∀v bs,(aL eI (aZ eI aN)) v bs->bs.length=2/\(B9 (Z (qy v.1 v.2.1))->u9 (bs.map B5)=Z ((zE Nc) (nO v.1 v.2.1))):=by
 rintro⟨b,a,_⟩ _ ⟨dB,_,rfl,c,⟨_,rfl,rfl⟩⟩;exact⟨rfl,λh=>dh (g:=u6) (n:=9) (bs:=[B5 dB,.z (eI a)]) (VR b (mK c) a) h⟩
def dJ(a:O AZ)(b:BF):uw:=(if(decide (a=([]:O AZ)))=true then(("join":AJ),[("a":AJ)],[("b":AJ)])else(let c:=(An a ((An b 0)%(a.length:Int)));(let f:=(An a ((An b 1)%(a.length:Int)));(if((decide (((An b 2)%2)=0))||(decide ((c.length:Int)<2)))=true then(("join":AJ),c,f)else(let e:=(((rW 0 c).filter λq1:Q6=>(decide ((Builtin.bitAnd ((An b 3) / 2 ^ q1.1.toNat) 1)=1))).map λq1:Q6=>q1.2);(("split":AJ),e,((c.filter λd:AJ=>(!decide (d∈e))).map λd:AJ=>d)))))))
def gK(a:O AZ)(b:BF):Prop:=((decide (a=([]:O AZ)))=false->(((In b.length 0/\0<(a.length:Int))/\In a.length ((An b 0)%(a.length:Int)))/\(let c:=(An a ((An b 0)%(a.length:Int)));(((In b.length 1/\0<(a.length:Int))/\In a.length ((An b 1)%(a.length:Int)))/\(let e:=(An a ((An b 1)%(a.length:Int)));(In b.length 2/\(((decide (((An b 2)%2)=0))||(decide ((c.length:Int)<2)))=false->(((rW 0 c).length<=100000/\(∀q1∈(rW 0 c),(In b.length 3/\0<=q1.1)))/\(let d:=(((rW 0 c).filter λq1:Q6=>(decide ((Builtin.bitAnd ((An b 3) / 2 ^ q1.1.toNat) 1)=1))).map λq1:Q6=>q1.2);c.length<=100000)))))))))
theorem zO(a:O AZ)(d:Lp dB (a.map (eT eS)))(b:BF){h:Bx}(c:Lp h (b.map eI)):RP jc [Z dB,Z h,U,U,U] (λr=>As.rt (zE dW r)) (dJ a b) (Z (gK a b)):=R.tp (iu (cg (Ym () (bY 0 (eT eS) a d S) (fK (fu (bA (eT eS)) (zg S))))) (cu (cT (λr=>r) (Dr (zx "join") (zm (aH (zx "a") (bA eS)) (zg S)) (zm (aH (zx "b") (bA eS)) (zg S))) (λ_=>S) λ_=>S)) (cM (cL 2 (gB (bY 0 (eT eS) a d S) (ud (gB (bY 1 eI b c S) (B8 0)) (BN (bY 0 (eT eS) a d S)))) (λ_=>S) λe=>(cL 3 (gB (bY 0 (eT eS) a d S) (ud (gB (bY 1 eI b c S) (B8 1)) (BN (bY 0 (eT eS) a d S)))) (λ_=>S) λi=>(iu (zj (cg (BG () (c7 (gB (bY 1 eI b c S) (B8 2)) 2 ()) (B8 0))) (cg (Yk (QK (aA 2 (zE (eT eS)) e S)) (B8 2)))) (cu (cT (λr=>r) (Dr (zx "join") (aA 2 (zE (eT eS)) e S) (aA 3 (zE (eT eS)) i S)) (λ_=>S) λ_=>S)) (cM (cL 4 (qP (fK (SA (VA (aA 2 (zE (eT eS)) e S)) _ (λ_=>S) (λq1:Q6=>(cg (BG () (XA (PF (gB (bY 0 eI b c (congrArg Z (c.get S))) (B8 3)) (aA 1 (zE eI) q1.1 S)) (B8 1)) (B8 1)))) (λq1:Q6=>(aA 2 (zE eS) q1.2 S))))) (λ_=>S) λg=>(cT (λr=>r) (Dr (zx "split") (aA 4 (zE (eT eS)) g S) (qP (fK (yh (c9 (aA 2 (zE (eT eS)) e S)) _ (λ_=>S) (λf:AJ=>(cg (iA (aA 1 (zE eS) f S) (aA 0 (zE (eT eS)) g S)))) (λf:AJ=>(aA 1 (zE eS) f S)) (λ_=>S) λ_=>S)))) (λ_=>S) λ_=>S))))))))
theorem zP:∀v bs,(aL (eT eS) (aL eI aN)) v bs->bs.length=2/\(B9 (Z (gK v.1 v.2.1))->jd (bs.map B5)=Z ((zE dW) (dJ v.1 v.2.1))):=by
 rintro⟨a,c,_⟩ _ ⟨dB,_,rfl,d,⟨e,_,rfl,b,rfl⟩⟩;exact⟨rfl,λh=>dh (g:=jc) (n:=5) (bs:=[B5 dB,B5 e]) (zO a (mK d) c (mK b)) h⟩
def jL(c:uw)(d:O AZ)(b:BF):Dt:=(let q1:=c;(let a:=((An b 4)%12);(if(decide (a=0))=true then(Dt.tup [((eO eD) (An ([(Z (eS ("splt":AJ))),(Z (eS ("":AJ))),U,(Z (eS ("Join":AJ))),(Z (eI 7)),(Z ((QF eS) ("join":AJ))),(Z ((eL eS) [("join":AJ)]))]:O (Y Dt)) ((An b 5)%7))),((eT eS) q1.2.1),((eT eS) q1.2.2)])else(if(decide (a=1))=true then(Dt.tup [(eS q1.1),((eT eS) (BE q1.2.1 (Z 1) U)),((eT eS) q1.2.2)])else(if(decide (a=2))=true then(Dt.tup [(eS q1.1),((eT eS) (q1.2.1++[("zzzzzzz":AJ)])),((eT eS) q1.2.2)])else(if(decide (a=3))=true then(Dt.tup [(eS q1.1),((eT eS) q1.2.1),((eT eS) q1.2.1)])else(if(decide (a=4))=true then(Dt.tup [(eS q1.1),((eT eS) q1.2.1.reverse),((eT eS) q1.2.2)])else(if(decide (a=5))=true then(Dt.tup [(eS q1.1),((eL eS) q1.2.1),((eT eS) q1.2.2)])else(if(decide (a=6))=true then(Dt.tup [(eS (An [("split":AJ),("join":AJ)] (if(decide (q1.1=("split":AJ)))=true then(1:Int)else 0))),((eT eS) q1.2.1),((eT eS) q1.2.2)])else(if(decide (a=7))=true then(An [(Dt.tup [(eS q1.1),((eT eS) q1.2.1)]),(Dt.tup [(eS q1.1),((eT eS) q1.2.1),((eT eS) q1.2.2),(Dt.tup [])]),((eL eD) [(eS q1.1),((eT eS) q1.2.1),((eT eS) q1.2.2)]),Dt.non,Dt.emp,(Dt.str "join")] ((An b 5)%6))else(if(decide (a=8))=true then(Dt.tup [(eS q1.1),((eT eS) q1.2.1),((eT eS) (q1.2.2++(BE q1.2.1 U (Z 1))))])else(if(decide (a=9))=true then(Dt.tup [(eS q1.1),((eT eS) q1.2.1),((eO eD) (An ([U,(Z (Dt.tup [])),(Z (eI 7)),(Z (eS ("a":AJ))),(Z (QF eI 7)),(Z ((QF (eL eI)) []))]:O (Y Dt)) ((An b 5)%6)))])else(if(decide (a=10))=true then(Dt.tup [(eS q1.1),(An Zm ((An b 5)%7)),((eT eS) q1.2.2)])else(Dt.tup [(eS q1.1),((eT eS) q1.2.1),((eL (eT eS)) d)]))))))))))))))
def oM(c:uw)(d:O AZ)(b:BF):Prop:=(let q1:=c;(In b.length 4/\(let a:=((An b 4)%12);(((decide (a=0))=true->(In b.length 5/\In ([(Z (eS ("splt":AJ))),(Z (eS ("":AJ))),U,(Z (eS ("Join":AJ))),(Z (eI 7)),(Z ((QF eS) ("join":AJ))),(Z ((eL eS) [("join":AJ)]))]:O (Y Dt)).length ((An b 5)%7)))/\((decide (a=0))=false->((decide (a=1))=false->(((decide (a=2))=true->uY (q1.2.1.length+[("zzzzzzz":AJ)].length))/\((decide (a=2))=false->((decide (a=3))=false->((decide (a=4))=false->((decide (a=5))=false->(((decide (a=6))=true->In [("split":AJ),("join":AJ)].length (if(decide (q1.1=("split":AJ)))=true then(1:Int)else 0))/\((decide (a=6))=false->(((decide (a=7))=true->(In b.length 5/\In [(Dt.tup [(eS q1.1),((eT eS) q1.2.1)]),(Dt.tup [(eS q1.1),((eT eS) q1.2.1),((eT eS) q1.2.2),(Dt.tup [])]),((eL eD) [(eS q1.1),((eT eS) q1.2.1),((eT eS) q1.2.2)]),Dt.non,Dt.emp,(Dt.str "join")].length ((An b 5)%6)))/\((decide (a=7))=false->(((decide (a=8))=true->uY (q1.2.2.length+(BE q1.2.1 U (Z 1)).length))/\((decide (a=8))=false->(((decide (a=9))=true->(In b.length 5/\In ([U,(Z (Dt.tup [])),(Z (eI 7)),(Z (eS ("a":AJ))),(Z (QF eI 7)),(Z ((QF (eL eI)) []))]:O (Y Dt)).length ((An b 5)%6)))/\((decide (a=9))=false->((decide (a=10))=true->(In b.length 5/\In Zm.length ((An b 5)%7))))))))))))))))))))))
theorem Rq(e:uw)(d:O AZ)(b:BF){f:Bx}(c:Lp f (b.map eI)):RP qX [Z (zE dW e),Z ((zE (eL (eT eS))) d),Z f,U,U,U,U] (λr=>As.rt (zE eD r)) (jL e d b) (Z (oM e d b)):=R.tp (HD (aA 0 (zE dW) e S) _ (λ_=>S) λq1=>(cL 6 (c7 (gB (bY 2 eI b c S) (B8 4)) 12 ()) (λ_=>S) λa=>(iu (cg (BG () (aA 6 (zE eI) a S) (B8 0))) (cu (cT (λr=>r) (gD (aH (bN (gB (fK (fu (aH (kZ (bN (zx "splt"))) (aH (kZ (bN (zx ""))) (aH Dm (aH (kZ (bN (zx "Join"))) (aH (kZ (bN (B8 7))) (aH (kZ (bN (QH (zx "join")))) (aH (kZ (bN (zf (fu (aH (zx "join") (bA eS)) (zg S))))) (bA (eO eD))))))))) (zg S))) (c7 (gB (bY 2 eI b c S) (B8 5)) 7 ()))) (aH (bN (aA 4 (zE (eT eS)) q1.2.1 S)) (aH (bN (aA 5 (zE (eT eS)) q1.2.2 S)) (bA eD)))) (zg S)) (λ_=>S) λ_=>S)) (cM (iu (cg (BG () (aA 6 (zE eI) a S) (B8 1))) (cu (cT (λr=>r) (gD (aH (bN (aA 3 (zE eS) q1.1 S)) (aH (bN (jr (ug (aA 4 (zE (eT eS)) q1.2.1 S) (uf (B8 1)) wI))) (aH (bN (aA 5 (zE (eT eS)) q1.2.2 S)) (bA eD)))) (zg S)) (λ_=>S) λ_=>S)) (cM (iu (cg (BG () (aA 6 (zE eI) a S) (B8 2))) (cu (cT (λr=>r) (gD (aH (bN (aA 3 (zE eS) q1.1 S)) (aH (bN (jr (mq (aA 4 (zE (eT eS)) q1.2.1 S) (zm (aH (zx "zzzzzzz") (bA eS)) (zg S))))) (aH (bN (aA 5 (zE (eT eS)) q1.2.2 S)) (bA eD)))) (zg S)) (λ_=>S) λ_=>S)) (cM (iu (cg (BG () (aA 6 (zE eI) a S) (B8 3))) (cu (cT (λr=>r) (gD (aH (bN (aA 3 (zE eS) q1.1 S)) (aH (bN (aA 4 (zE (eT eS)) q1.2.1 S)) (aH (bN (aA 4 (zE (eT eS)) q1.2.1 S)) (bA eD)))) (zg S)) (λ_=>S) λ_=>S)) (cM (iu (cg (BG () (aA 6 (zE eI) a S) (B8 4))) (cu (cT (λr=>r) (gD (aH (bN (aA 3 (zE eS) q1.1 S)) (aH (bN (jr (UE (aA 4 (zE (eT eS)) q1.2.1 S)))) (aH (bN (aA 5 (zE (eT eS)) q1.2.2 S)) (bA eD)))) (zg S)) (λ_=>S) λ_=>S)) (cM (iu (cg (BG () (aA 6 (zE eI) a S) (B8 5))) (cu (cT (λr=>r) (gD (aH (bN (aA 3 (zE eS) q1.1 S)) (aH (bN (zf (BL (aA 4 (zE (eT eS)) q1.2.1 S)))) (aH (bN (aA 5 (zE (eT eS)) q1.2.2 S)) (bA eD)))) (zg S)) (λ_=>S) λ_=>S)) (cM (iu (cg (BG () (aA 6 (zE eI) a S) (B8 6))) (cu (cT (λr=>r) (gD (aH (bN (gB (fK (fu (aH (zx "split") (aH (zx "join") (bA eS))) (zg S))) (Yt (BG () (aA 3 (zE eS) q1.1 S) (zx "split"))))) (aH (bN (aA 4 (zE (eT eS)) q1.2.1 S)) (aH (bN (aA 5 (zE (eT eS)) q1.2.2 S)) (bA eD)))) (zg S)) (λ_=>S) λ_=>S)) (cM (iu (cg (BG () (aA 6 (zE eI) a S) (B8 7))) (cu (cT (λr=>r) (gB (fK (fu (aH (gD (aH (bN (aA 3 (zE eS) q1.1 S)) (aH (bN (aA 4 (zE (eT eS)) q1.2.1 S)) (bA eD))) (zg S)) (aH (gD (aH (bN (aA 3 (zE eS) q1.1 S)) (aH (bN (aA 4 (zE (eT eS)) q1.2.1 S)) (aH (bN (aA 5 (zE (eT eS)) q1.2.2 S)) (aH (gD (bA eD) (zg S)) (bA eD))))) (zg S)) (aH (bN (zf (fu (aH (bN (aA 3 (zE eS) q1.1 S)) (aH (bN (aA 4 (zE (eT eS)) q1.2.1 S)) (aH (bN (aA 5 (zE (eT eS)) q1.2.2 S)) (bA eD)))) (zg S)))) (aH (EO .non) (aH (vR .emp eD .emp S) (aH (EO (.str "join")) (bA eD))))))) (zg S))) (c7 (gB (bY 2 eI b c S) (B8 5)) 6 ())) (λ_=>S) λ_=>S)) (cM (iu (cg (BG () (aA 6 (zE eI) a S) (B8 8))) (cu (cT (λr=>r) (gD (aH (bN (aA 3 (zE eS) q1.1 S)) (aH (bN (aA 4 (zE (eT eS)) q1.2.1 S)) (aH (bN (jr (mq (aA 5 (zE (eT eS)) q1.2.2 S) (ug (aA 4 (zE (eT eS)) q1.2.1 S) wI (uf (B8 1)))))) (bA eD)))) (zg S)) (λ_=>S) λ_=>S)) (cM (iu (cg (BG () (aA 6 (zE eI) a S) (B8 9))) (cu (cT (λr=>r) (gD (aH (bN (aA 3 (zE eS) q1.1 S)) (aH (bN (aA 4 (zE (eT eS)) q1.2.1 S)) (aH (bN (gB (fK (fu (aH Dm (aH (kZ (gD (bA eD) (zg S))) (aH (kZ (bN (B8 7))) (aH (kZ (bN (zx "a"))) (aH (kZ (bN (QH (B8 7)))) (aH (kZ (bN (QH (zf (fu (bA eI) (zg S)))))) (bA (eO eD)))))))) (zg S))) (c7 (gB (bY 2 eI b c S) (B8 5)) 6 ()))) (bA eD)))) (zg S)) (λ_=>S) λ_=>S)) (cM (iu (cg (BG () (aA 6 (zE eI) a S) (B8 10))) (cu (cT (λr=>r) (gD (aH (bN (aA 3 (zE eS) q1.1 S)) (aH (gB (fK (fu (aH (EO .non) (aH (gD (bA eD) (zg S)) (aH (EO (.int 7)) (aH (EO (.str "a")) (aH (gD (aH (EO (.int 7)) (bA eD)) (zg S)) (aH (gD (aH (bN (zf (fu (bA eI) (zg S)))) (bA eD)) (zg S)) (aH (vR .emp eD .emp S) (bA eD)))))))) (zg S))) (c7 (gB (bY 2 eI b c S) (B8 5)) 7 ())) (aH (bN (aA 5 (zE (eT eS)) q1.2.2 S)) (bA eD)))) (zg S)) (λ_=>S) λ_=>S)) (cM (cT (λr=>r) (gD (aH (bN (aA 3 (zE eS) q1.1 S)) (aH (bN (aA 4 (zE (eT eS)) q1.2.1 S)) (aH (bN (aA 1 (zE (eL (eT eS))) d S)) (bA eD)))) (zg S)) (λ_=>S) λ_=>S)))))))))))))))))))))))))
theorem Rr:∀v bs,(aZ dW (aZ (eL (eT eS)) (aL eI aN))) v bs->bs.length=3/\(B9 (Z (oM v.1 v.2.1 v.2.2.1))->qY (bs.map B5)=Z ((zE eD) (jL v.1 v.2.1 v.2.2.1))):=by
 rintro⟨b,a,d,_⟩ _ ⟨_,rfl,⟨_,rfl,⟨c,_,rfl,e,rfl⟩⟩⟩;exact⟨rfl,λh=>dh (g:=qX) (n:=7) (bs:=[.z (dW b),.z ((eL (eT eS)) a),B5 c]) (Rq b a d (mK e)) h⟩
def d8(g:uw)(f:O AZ)(c:BF):uw:=(let e:=[g.2.1,g.2.2];(let a:=(An e ((An c 0)%2));(let b:=((An c 1)%(if(a.length:Int)>1 then(a.length:Int)else 1));(let i:=((f.map λj:AZ=>j).flatten++[("zzzzzzz":AJ)]);(let h:=(An i ((An c 2)%(i.length:Int)));(let d:=[((BE a U (Z b))++(BE a (Z (b+1)) U)),(((BE a U (Z b))++[h])++(BE a (Z (b+1)) U)),(((BE a U (Z b))++[h])++(BE a (Z b) U))];(let d:=(d++[(((BE a U (Z b))++(BE a (Z b) (Z (b+1))))++(BE a (Z b) U)),(aV (a++[h]))]);(let d:=d++[(An (f++[a]) ((An c 2)%((f.length:Int)+1)))];(let e:=(e.set (((An c 0)%2)).toNat (An d (((An c 0) / (2:Int))%6)));(g.1,(An e 0),(An e 1)))))))))))
def iw(j:uw)(d:O AZ)(c:BF):Prop:=(let g:=[j.2.1,j.2.2];((In c.length 0/\In g.length ((An c 0)%2))/\(let a:=(An g ((An c 0)%2));((In c.length 1/\0<(if(a.length:Int)>1 then(a.length:Int)else 1))/\(let b:=((An c 1)%(if(a.length:Int)>1 then(a.length:Int)else 1));(((d.length<=100000/\((d.map λh:AZ=>h).length<=1000/\(d.map λh:AZ=>h).flatten.length<=100000))/\uY ((d.map λh:AZ=>h).flatten.length+[("zzzzzzz":AJ)].length))/\(let i:=((d.map λh:AZ=>h).flatten++[("zzzzzzz":AJ)]);(((In c.length 2/\0<(i.length:Int))/\In i.length ((An c 2)%(i.length:Int)))/\(let e:=(An i ((An c 2)%(i.length:Int)));((uY ((BE a U (Z b)).length+(BE a (Z (b+1)) U).length)/\((uY ((BE a U (Z b)).length+[e].length)/\uY (((BE a U (Z b))++[e]).length+(BE a (Z (b+1)) U).length))/\(uY ((BE a U (Z b)).length+[e].length)/\uY (((BE a U (Z b))++[e]).length+(BE a (Z b) U).length))))/\(let f:=[((BE a U (Z b))++(BE a (Z (b+1)) U)),(((BE a U (Z b))++[e])++(BE a (Z (b+1)) U)),(((BE a U (Z b))++[e])++(BE a (Z b) U))];((((uY ((BE a U (Z b)).length+(BE a (Z b) (Z (b+1))).length)/\uY (((BE a U (Z b))++(BE a (Z b) (Z (b+1)))).length+(BE a (Z b) U).length))/\(uY (a.length+[e].length)/\(a++[e]).length<64))/\uY (f.length+[(((BE a U (Z b))++(BE a (Z b) (Z (b+1))))++(BE a (Z b) U)),(aV (a++[e]))].length))/\(let f:=(f++[(((BE a U (Z b))++(BE a (Z b) (Z (b+1))))++(BE a (Z b) U)),(aV (a++[e]))]);((((uY (d.length+[a].length)/\(In c.length 2/\0<((d.length:Int)+1)))/\In (d++[a]).length ((An c 2)%((d.length:Int)+1)))/\uY f.length)/\(let f:=f++[(An (d++[a]) ((An c 2)%((d.length:Int)+1)))];((((In c.length 0/\In f.length (((An c 0) / (2:Int))%6))/\In c.length 0)/\(0<=((An c 0)%2)/\((An c 0)%2)<g.length))/\(let g:=(g.set (((An c 0)%2)).toNat (An f (((An c 0) / (2:Int))%6)));(In g.length 0/\In g.length 1))))))))))))))))))
theorem Bh(e:uw)(d:O AZ)(c:BF){j:Bx}(f:Lp j (c.map eI)):RP jB [Z (zE dW e),Z ((zE (eL (eT eS))) d),Z j,U,U,U,U,U,U] (λr=>As.rt (zE dW r)) (d8 e d c) (Z (iw e d c)):=R.tp (cL 3 (fu (aH (Hy (aA 0 (zE dW) e S) (λq=>q.2.1) (eT eS) 1 λ_=>S) (aH (Hy (aA 0 (zE dW) e S) (λq=>q.2.2) (eT eS) 2 λ_=>S) (bA (eT eS)))) (zg S)) (λ_=>S) λh=>(cL 4 (gB (kY (aA 3 (lE (eT eS)) h S)) (c7 (gB (bY 2 eI c f S) (B8 0)) 2 ())) (λ_=>S) λa=>(cL 5 (ud (gB (bY 2 eI c f S) (B8 1)) (Yu (B8 1) (QK (aA 4 (zE (eT eS)) a S)))) (λ_=>S) λb=>(cL 6 (wJ (kY (ci (fK (BR (Ng (su (aA 1 (zE (eL (eT eS))) d S))) _ (λ_=>S) (λl:AZ=>(zf (BL (aA 0 (zE (eT eS)) l S)))) λ_=>S)))) (fK (fu (aH (zx "zzzzzzz") (bA eS)) (zg S)))) (λ_=>S) λk=>(cL 7 (gB (kY (aA 6 (lE eS) k S)) (ud (gB (bY 2 eI c f S) (B8 2)) (BN (kY (aA 6 (lE eS) k S))))) (λ_=>S) λi=>(cL 8 (fu (aH (jr (mq (ug (aA 4 (zE (eT eS)) a S) wI (uf (aA 5 (zE eI) b S))) (ug (aA 4 (zE (eT eS)) a S) (uf (jt (aA 5 (zE eI) b S) (B8 1))) wI))) (aH (jr (mq (mq (ug (aA 4 (zE (eT eS)) a S) wI (uf (aA 5 (zE eI) b S))) (zm (aH (aA 7 (zE eS) i S) (bA eS)) (zg S))) (ug (aA 4 (zE (eT eS)) a S) (uf (jt (aA 5 (zE eI) b S) (B8 1))) wI))) (aH (jr (mq (mq (ug (aA 4 (zE (eT eS)) a S) wI (uf (aA 5 (zE eI) b S))) (zm (aH (aA 7 (zE eS) i S) (bA eS)) (zg S))) (ug (aA 4 (zE (eT eS)) a S) (uf (aA 5 (zE eI) b S)) wI))) (bA (eT eS))))) (zg S)) (λ_=>S) λg=>(cL 8 (wJ (kY (aA 8 (lE (eT eS)) g S)) (fK (fu (aH (jr (mq (mq (ug (aA 4 (zE (eT eS)) a S) wI (uf (aA 5 (zE eI) b S))) (ug (aA 4 (zE (eT eS)) a S) (uf (aA 5 (zE eI) b S)) (uf (jt (aA 5 (zE eI) b S) (B8 1))))) (ug (aA 4 (zE (eT eS)) a S) (uf (aA 5 (zE eI) b S)) wI))) (aH (qP (fK (DW (mq (aA 4 (zE (eT eS)) a S) (zm (aH (aA 7 (zE eS) i S) (bA eS)) (zg S)))))) (bA (eT eS)))) (zg S)))) (λ_=>S) λg=>(Yx 8 g S (gB (fK (wJ (su (aA 1 (zE (eL (eT eS))) d S)) (fK (fu (aH (aA 4 (zE (eT eS)) a S) (bA (eT eS))) (zg S))))) (ud (gB (bY 2 eI c f S) (B8 2)) (jt (BN (su (aA 1 (zE (eL (eT eS))) d S))) (B8 1)))) λg=>(cK 3 h S (gB (kY (aA 8 (lE (eT eS)) g S)) (c7 (mV (gB (bY 2 eI c f S) (B8 0)) 2 ()) 6 ())) (c7 (gB (bY 2 eI c f S) (B8 0)) 2 ()) λh=>(cT (λr=>r) (Dr (Hy (aA 0 (zE dW) e S) (λq=>q.1) eS 0 λ_=>S) (gB (kY (aA 3 (lE (eT eS)) h S)) (B8 0)) (gB (kY (aA 3 (lE (eT eS)) h S)) (B8 1))) (λ_=>S) λ_=>S))))))))))
theorem Bj:∀v bs,(aZ dW (aZ (eL (eT eS)) (aL eI aN))) v bs->bs.length=3/\(B9 (Z (iw v.1 v.2.1 v.2.2.1))->jC (bs.map B5)=Z ((zE dW) (d8 v.1 v.2.1 v.2.2.1))):=by
 rintro⟨b,a,d,_⟩ _ ⟨_,rfl,⟨_,rfl,⟨c,_,rfl,e,rfl⟩⟩⟩;exact⟨rfl,λh=>dh (g:=jB) (n:=9) (bs:=[.z (dW b),.z ((eL (eT eS)) a),B5 c]) (Bh b a d (mK e)) h⟩
def cF(vs:Dt):Bool:=(if((!(Ap vs))||((Z6 vs (Dt.tup []))||(!(((FZ vs).map λa:Dt=>(eN a)).all id))))=true then false else(decide ((ux vs)=(aV (mj (ux vs))))))
def j4(vs:Dt):Prop:=(((!(Ap vs))=false->(EU vs (Dt.tup [])/\((Z6 vs (Dt.tup []))=false->(zp vs=true/\(FZ vs).length<=100000))))/\(((!(Ap vs))||((Z6 vs (Dt.tup []))||(!(((FZ vs).map λa:Dt=>(eN a)).all id))))=false->(vs=(eT eS) (ux vs)/\(vs=(eT eS) (ux vs)/\((ux vs).length<4000/\(mj (ux vs)).length<64)))))
theorem Ku(vs:Dt):RP mW [Z (zE eD vs)] (λr=>As.rt (zE eB r)) (cF vs) (Z (j4 vs)):=R.tp (iu (zj (rR (Bf (Dw Ap (aA 0 (zE eD) vs S)))) (zj (cg (NY (aA 0 (zE eD) vs S) (gD (bA eD) (zg S)))) (rR (Bf (HB (fK (BR (IH (aA 0 (zE eD) vs S)) _ (λ_=>S) (λa:Dt=>(jr (Dw eN (aA 0 (zE eD) a S)))) λ_=>S))))))) (cu (cT (λr=>r) (vR (.bl false) eB false S) (λ_=>S) λ_=>S)) (cM (cT (λr=>r) (Ym () (fK (BL (uZ (aA 0 (zE eD) vs S) ux (eT eS)))) (fK (OE (eK (uZ (aA 0 (zE eD) vs S) ux (eT eS)))))) (λ_=>S) λ_=>S)))
theorem yK:∀v bs,(aZ eD aN) v bs->bs.length=1/\(B9 (Z (j4 v.1))->jV (bs.map B5)=Z ((zE eB) (cF v.1))):=by
 rintro⟨vs,_⟩ _ ⟨_,rfl,rfl⟩;exact⟨rfl,λh=>dh (g:=mW) (n:=1) (bs:=[.z (eD vs)]) (Ku vs) h⟩
def bZ(b:O AZ)(d:uw):(Y (O AZ)):=(let q1:=d;(let c:=(aV (q1.2.1++q1.2.2));(if((decide (q1.1=("join":AJ)))&&((!decide (q1.2.1=q1.2.2))&&((cH q1.2.1 b)&&(cH q1.2.2 b))))=true then(Z (fO (((b.filter λa:AZ=>(!cH a [q1.2.1,q1.2.2])).map λa:AZ=>a)++[c])))else(if((decide (q1.1=("split":AJ)))&&((cH c b)&&((!decide (q1.2.1=([]:AZ)))&&(!decide (q1.2.2=([]:AZ))))))=true then(Z (fO (((b.filter λa:AZ=>(!decide (a=c))).map λa:AZ=>a)++[q1.2.1,q1.2.2])))else U))))
def dj(b:O AZ)(d:uw):Prop:=(let q1:=d;((uY (q1.2.1.length+q1.2.2.length)/\(q1.2.1++q1.2.2).length<64)/\(let c:=(aV (q1.2.1++q1.2.2));((((decide (q1.1=("join":AJ)))&&((!decide (q1.2.1=q1.2.2))&&((cH q1.2.1 b)&&(cH q1.2.2 b))))=true->((b.length<=100000/\uY (((b.filter λa:AZ=>(!cH a [q1.2.1,q1.2.2])).map λa:AZ=>a).length+[c].length))/\((((b.filter λa:AZ=>(!cH a [q1.2.1,q1.2.2])).map λa:AZ=>a)++[c]).length<64/\∀x∈(((b.filter λa:AZ=>(!cH a [q1.2.1,q1.2.2])).map λa:AZ=>a)++[c]),x.isEmpty=false)))/\(((decide (q1.1=("join":AJ)))&&((!decide (q1.2.1=q1.2.2))&&((cH q1.2.1 b)&&(cH q1.2.2 b))))=false->(((decide (q1.1=("split":AJ)))&&((cH c b)&&((!decide (q1.2.1=([]:AZ)))&&(!decide (q1.2.2=([]:AZ))))))=true->((b.length<=100000/\uY (((b.filter λa:AZ=>(!decide (a=c))).map λa:AZ=>a).length+[q1.2.1,q1.2.2].length))/\((((b.filter λa:AZ=>(!decide (a=c))).map λa:AZ=>a)++[q1.2.1,q1.2.2]).length<64/\∀x∈(((b.filter λa:AZ=>(!decide (a=c))).map λa:AZ=>a)++[q1.2.1,q1.2.2]),x.isEmpty=false))))))))
theorem Kv(a:O AZ)(c:Lp dB (a.map (eT eS)))(d:uw):RP mX [Z dB,Z (zE dW d),U,U,U,U] (λr=>As.rt ((zE (eO (eL (eT eS)))) r)) (bZ a d) (Z (dj a d)):=R.tp (HD (aA 1 (zE dW) d S) _ (λ_=>S) λq1=>(cL 5 (qP (fK (DW (mq (aA 3 (zE (eT eS)) q1.2.1 S) (aA 4 (zE (eT eS)) q1.2.2 S))))) (λ_=>S) λe=>(iu (Af (cg (BG () (aA 2 (zE eS) q1.1 S) (zx "join"))) (Af (cg (Yl () (aA 3 (zE (eT eS)) q1.2.1 S) (aA 4 (zE (eT eS)) q1.2.2 S))) (Af (cg (Nq () (aA 3 (zE (eT eS)) q1.2.1 S) (bY 0 (eT eS) a c S))) (cg (Nq () (aA 4 (zE (eT eS)) q1.2.2 S) (bY 0 (eT eS) a c S)))))) (cu (cT (λr=>r) (kZ (zf (yj (fK (wJ (fK (yh (Ng (bY 0 (eT eS) a c S)) _ (λ_=>S) (λb:AZ=>(cg (YC () (aA 2 (zE (eT eS)) b S) (fK (fu (aH (aA 0 (zE (eT eS)) q1.2.1 S) (aH (aA 1 (zE (eT eS)) q1.2.2 S) (bA (eT eS)))) (zg S)))))) (λb:AZ=>(aA 2 (zE (eT eS)) b S)) (λ_=>S) λ_=>S)) (fK (fu (aH (aA 5 (zE (eT eS)) e S) (bA (eT eS))) (zg S)))))))) (λ_=>S) λ_=>S)) (cM (iu (Af (cg (BG () (aA 2 (zE eS) q1.1 S) (zx "split"))) (Af (cg (Nq () (aA 5 (zE (eT eS)) e S) (bY 0 (eT eS) a c S))) (Af (cg (Yl () (aA 3 (zE (eT eS)) q1.2.1 S) (Yn eS))) (cg (Yl () (aA 4 (zE (eT eS)) q1.2.2 S) (Yn eS)))))) (cu (cT (λr=>r) (kZ (zf (yj (fK (wJ (fK (yh (Ng (bY 0 (eT eS) a c S)) _ (λ_=>S) (λb:AZ=>(cg (Yl () (aA 1 (zE (eT eS)) b S) (aA 0 (zE (eT eS)) e S)))) (λb:AZ=>(aA 1 (zE (eT eS)) b S)) (λ_=>S) λ_=>S)) (fK (fu (aH (aA 3 (zE (eT eS)) q1.2.1 S) (aH (aA 4 (zE (eT eS)) q1.2.2 S) (bA (eT eS)))) (zg S)))))))) (λ_=>S) λ_=>S)) (cM (cT (λr=>r) Dm (λ_=>S) λ_=>S)))))))
theorem Kw:∀v bs,(aL (eT eS) (aZ dW aN)) v bs->bs.length=2/\(B9 (Z (dj v.1 v.2.1))->mY (bs.map B5)=Z ((zE (eO (eL (eT eS)))) (bZ v.1 v.2.1))):=by
 rintro⟨c,a,_⟩ _ ⟨dB,_,rfl,b,⟨_,rfl,rfl⟩⟩;exact⟨rfl,λh=>dh (g:=mX) (n:=6) (bs:=[B5 dB,.z (dW a)]) (Kv c (mK b) a) h⟩
def bT(a:O AZ)(vs:Dt):(Y (O AZ)):=(if((!(Ap vs))||((!decide ((wK vs)=3))||(!J5 (qz vs 0) ([("join":AJ),("split":AJ)].map eS))))=true then U else(if((!(cF (qz vs 1)))||(!(cF (qz vs 2))))=true then U else(bZ a (cW vs))))
def iz(a:O AZ)(vs:Dt):Prop:=(((!(Ap vs))=false->(zp vs=true/\((!decide ((wK vs)=3))=false->(DD vs (0:Int)/\Vq (qz vs 0) ([("join":AJ),("split":AJ)].map eS)))))/\(((!(Ap vs))||((!decide ((wK vs)=3))||(!J5 (qz vs 0) ([("join":AJ),("split":AJ)].map eS))))=false->(((DD vs (1:Int)/\(j4 (qz vs 1)))/\((!(cF (qz vs 1)))=false->(DD vs (2:Int)/\(j4 (qz vs 2)))))/\(((!(cF (qz vs 1)))||(!(cF (qz vs 2))))=false->(vs=dW (cW vs)/\(dj a (cW vs)))))))
theorem V1(a:O AZ)(b:Lp dB (a.map (eT eS)))(vs:Dt):RP vA [Z dB,Z (zE eD vs)] (λr=>As.rt ((zE (eO (eL (eT eS)))) r)) (bT a vs) (Z (iz a vs)):=R.tp (iu (zj (rR (Bf (Dw Ap (aA 1 (zE eD) vs S)))) (zj (cg (Yl () (Dv (aA 1 (zE eD) vs S)) (B8 3))) (cg (bi (Du (aA 1 (zE eD) vs S) (B8 0)) (fK (fu (aH (zx "join") (aH (zx "split") (bA eS))) (zg S))))))) (cu (cT (λr=>r) Dm (λ_=>S) λ_=>S)) (cM (iu (zj (rR (Bf (At yK (fB (Du (aA 1 (zE eD) vs S) (B8 1)) cG)))) (rR (Bf (At yK (fB (Du (aA 1 (zE eD) vs S) (B8 2)) cG))))) (cu (cT (λr=>r) Dm (λ_=>S) λ_=>S)) (cM (cT (λr=>r) (jr (At Kw (pX (bY 0 (eT eS) a b S) (fB (uZ (aA 1 (zE eD) vs S) cW dW) cG)))) (λ_=>S) λ_=>S)))))
theorem Iv:∀v bs,(aL (eT eS) (aZ eD aN)) v bs->bs.length=2/\(B9 (Z (iz v.1 v.2.1))->qw (bs.map B5)=Z ((zE (eO (eL (eT eS)))) (bT v.1 v.2.1))):=by
 rintro⟨b,vs,_⟩ _ ⟨dB,_,rfl,a,⟨_,rfl,rfl⟩⟩;exact⟨rfl,λh=>dh (g:=vA) (n:=2) (bs:=[B5 dB,.z (eD vs)]) (V1 b (mK a) vs) h⟩
def iU(vx:Dt)(a:Int):Bool:=((Ap vx)&&(decide ((wK vx)=a)))
def wX(vx:Dt)(a:Int):Prop:=((Ap vx)=true->zp vx=true)
theorem Rt(vx:Dt)(a:Int):RP qZ [Z (zE eD vx),Z (zE eI a)] (λr=>As.rt (zE eB r)) (iU vx a) (Z (wX vx a)):=R.tp (cT (λr=>r) (yd (Dw Ap (aA 0 (zE eD) vx S)) (BG () (Dv (aA 0 (zE eD) vx S)) (aA 1 (zE eI) a S))) (λ_=>S) λ_=>S)
theorem Ru:∀v bs,(aZ eD (aZ eI aN)) v bs->bs.length=2/\(B9 (Z (wX v.1 v.2.1))->q9 (bs.map B5)=Z ((zE eB) (iU v.1 v.2.1))):=by
 rintro⟨vx,a,_⟩ _ ⟨_,rfl,⟨_,rfl,rfl⟩⟩;exact⟨rfl,λh=>dh (g:=qZ) (n:=2) (bs:=[.z (eD vx),.z (eI a)]) (Rt vx a) h⟩
def cI(vx:Dt)(b:AJ)(a:Int):Bool:=((iU vx a)&&((eN (qz vx 0))&&(Z6 (qz vx 0) (eS b))))
def iV(vx:Dt)(b:AJ)(a:Int):Prop:=((wX vx a)/\((iU vx a)=true->(DD vx (0:Int)/\((eN (qz vx 0))=true->(DD vx (0:Int)/\EU (qz vx 0) (eS b))))))
theorem O5(vx:Dt)(b:AJ)(a:Int):RP pI [Z (zE eD vx),Z (zE eS b),Z (zE eI a)] (λr=>As.rt (zE eB r)) (cI vx b a) (Z (iV vx b a)):=R.tp (cT (λr=>r) (yd (At Ru (fB (aA 0 (zE eD) vx S) (fB (aA 2 (zE eI) a S) cG))) (yd (Dw eN (Du (aA 0 (zE eD) vx S) (B8 0))) (NY (Du (aA 0 (zE eD) vx S) (B8 0)) (bN (aA 1 (zE eS) b S))))) (λ_=>S) λ_=>S)
theorem Aq:∀v bs,(aZ eD (aZ eS (aZ eI aN))) v bs->bs.length=3/\(B9 (Z (iV v.1 v.2.1 v.2.2.1))->lY (bs.map B5)=Z ((zE eB) (cI v.1 v.2.1 v.2.2.1))):=by
 rintro⟨vx,b,a,_⟩ _ ⟨_,rfl,⟨_,rfl,⟨_,rfl,rfl⟩⟩⟩;exact⟨rfl,λh=>dh (g:=pI) (n:=3) (bs:=[.z (eD vx),.z (eS b),.z (eI a)]) (O5 vx b a) h⟩
def j5(vx:Dt)(a:AJ)(c:Int):Bool:=((eN vx)&&(((decide ((1:Int)<=(wK vx)))&&(decide ((wK vx)<=c)))&&(((FZ vx).map λb:Dt=>(zW (Z7 b) a)).all id)))
def j6(vx:Dt)(c:AJ)(b:Int):Prop:=((eN vx)=true->((zp vx=true/\((decide ((1:Int)<=(wK vx)))=true->zp vx=true))/\(((decide ((1:Int)<=(wK vx)))&&(decide ((wK vx)<=b)))=true->((zp vx=true/\(FZ vx).length<=100000)/\(∀a∈(FZ vx),a=eS (Z7 a))))))
theorem Kz(vx:Dt)(a:AJ)(b:Int):RP mZ [Z (zE eD vx),Z (zE eS a),Z (zE eI b)] (λr=>As.rt (zE eB r)) (j5 vx a b) (Z (j6 vx a b)):=R.tp (cT (λr=>r) (yd (Dw eN (aA 0 (zE eD) vx S)) (yd (So (MB (B8 1) (Dv (aA 0 (zE eD) vx S))) (MB (Dv (aA 0 (zE eD) vx S)) (aA 2 (zE eI) b S))) (HB (fK (wL (IH (aA 0 (zE eD) vx S)) _ (λ_=>S) (λc:Dt=>(XL (uZ (aA 1 (zE eD) c S) Z7 eS) (aA 0 (zE eS) a S)))))))) (λ_=>S) λ_=>S)
theorem KC:∀v bs,(aZ eD (aZ eS (aZ eI aN))) v bs->bs.length=3/\(B9 (Z (j6 v.1 v.2.1 v.2.2.1))->m7 (bs.map B5)=Z ((zE eB) (j5 v.1 v.2.1 v.2.2.1))):=by
 rintro⟨vx,a,b,_⟩ _ ⟨_,rfl,⟨_,rfl,⟨_,rfl,rfl⟩⟩⟩;exact⟨rfl,λh=>dh (g:=mZ) (n:=3) (bs:=[.z (eD vx),.z (eS a),.z (eI b)]) (Kz vx a b) h⟩
def fQ(vx:Dt):Bool:=(j5 vx ("abcdefghijklmnopqrstuvwxyz":AJ) 8)
def vJ(vx:Dt):Prop:=(j6 vx ("abcdefghijklmnopqrstuvwxyz":AJ) 8)
theorem V2(vx:Dt):RP vB [Z (zE eD vx)] (λr=>As.rt (zE eB r)) (fQ vx) (Z (vJ vx)):=R.tp (cT (λr=>r) (At KC (fB (aA 0 (zE eD) vx S) (fB (zx "abcdefghijklmnopqrstuvwxyz") (fB (B8 8) cG)))) (λ_=>S) λ_=>S)
theorem V3:∀v bs,(aZ eD aN) v bs->bs.length=1/\(B9 (Z (vJ v.1))->vC (bs.map B5)=Z ((zE eB) (fQ v.1))):=by
 rintro⟨vx,_⟩ _ ⟨_,rfl,rfl⟩;exact⟨rfl,λh=>dh (g:=vB) (n:=1) (bs:=[.z (eD vx)]) (V2 vx) h⟩
def nF(a:AZ):Bool:=(((rng 0 ((a.length:Int)-1).toNat).map λb:Int=>(Vn (An a b) (An a (b+1)))).all id)
def nG(a:AZ):Prop:=((Rg ((a.length:Int)-1)/\(rng 0 ((a.length:Int)-1).toNat).length<=100000)/\(∀b∈(rng 0 ((a.length:Int)-1).toNat),(In a.length b/\In a.length (b+1))))
theorem KH(a:AZ):RP ni [Z ((zE (eT eS)) a)] (λr=>As.rt (zE eB r)) (nF a) (Z (nG a)):=R.tp (cT (λr=>r) (HB (fK (wL (Ni (NS (QK (aA 0 (zE (eT eS)) a S)) (B8 1))) _ (λ_=>S) (λb:Int=>(aI (LW (aA 0 (zE (eT eS)) a S) (aA 1 (zE eI) b S)) (LW (aA 0 (zE (eT eS)) a S) (jt (aA 1 (zE eI) b S) (B8 1)))))))) (λ_=>S) λ_=>S)
theorem KJ:∀v bs,(aZ (eT eS) aN) v bs->bs.length=1/\(B9 (Z (nG v.1))->nq (bs.map B5)=Z ((zE eB) (nF v.1))):=by
 rintro⟨a,_⟩ _ ⟨_,rfl,rfl⟩;exact⟨rfl,λh=>dh (g:=ni) (n:=1) (bs:=[.z (eT eS a)]) (KH a) h⟩
def fX(vx:Dt):Bool:=((Ap vx)&&((((FZ vx).map λa:Dt=>(fQ a)).all id)&&(nF (ux vx))))
def uG(vx:Dt):Prop:=((Ap vx)=true->(((zp vx=true/\(FZ vx).length<=100000)/\(∀a∈(FZ vx),(vJ a)))/\((((FZ vx).map λa:Dt=>(fQ a)).all id)=true->(vx=(eT eS) (ux vx)/\(nG (ux vx))))))
theorem O6(vx:Dt):RP pJ [Z (zE eD vx)] (λr=>As.rt (zE eB r)) (fX vx) (Z (uG vx)):=R.tp (cT (λr=>r) (yd (Dw Ap (aA 0 (zE eD) vx S)) (yd (HB (fK (wL (IH (aA 0 (zE eD) vx S)) _ (λ_=>S) (λa:Dt=>(jr (At V3 (fB (aA 0 (zE eD) a S) cG))))))) (At KJ (fB (uZ (aA 0 (zE eD) vx S) ux (eT eS)) cG)))) (λ_=>S) λ_=>S)
theorem O7:∀v bs,(aZ eD aN) v bs->bs.length=1/\(B9 (Z (uG v.1))->pK (bs.map B5)=Z ((zE eB) (fX v.1))):=by
 rintro⟨vx,_⟩ _ ⟨_,rfl,rfl⟩;exact⟨rfl,λh=>dh (g:=pJ) (n:=1) (bs:=[.z (eD vx)]) (O6 vx) h⟩
def cD(vx:Dt):Bool:=((fX vx)&&(decide ((0:Int)<(wK vx))))
def uH(vx:Dt):Prop:=((uG vx)/\((fX vx)=true->zp vx=true))
theorem Zu(vx:Dt):RP yG [Z (zE eD vx)] (λr=>As.rt (zE eB r)) (cD vx) (Z (uH vx)):=R.tp (cT (λr=>r) (yd (At O7 (fB (aA 0 (zE eD) vx S) cG)) (IF (Dv (aA 0 (zE eD) vx S)) (B8 0))) (λ_=>S) λ_=>S)
theorem O8:∀v bs,(aZ eD aN) v bs->bs.length=1/\(B9 (Z (uH v.1))->uz (bs.map B5)=Z ((zE eB) (cD v.1))):=by
 rintro⟨vx,_⟩ _ ⟨_,rfl,rfl⟩;exact⟨rfl,λh=>dh (g:=yG) (n:=1) (bs:=[.z (eD vx)]) (Zu vx) h⟩
def dD(vx:Dt):Bool:=(if((!(cI vx ("join":AJ) 3))&&(!(cI vx ("split":AJ) 3)))=true then false else((cD (qz vx 1))&&(cD (qz vx 2))))
def iB(vx:Dt):Prop:=(((iV vx ("join":AJ) 3)/\((!(cI vx ("join":AJ) 3))=true->(iV vx ("split":AJ) 3)))/\(((!(cI vx ("join":AJ) 3))&&(!(cI vx ("split":AJ) 3)))=false->((DD vx (1:Int)/\(uH (qz vx 1)))/\((cD (qz vx 1))=true->(DD vx (2:Int)/\(uH (qz vx 2)))))))
theorem V4(vx:Dt):RP vD [Z (zE eD vx)] (λr=>As.rt (zE eB r)) (dD vx) (Z (iB vx)):=R.tp (iu (Af (rR (Bf (At Aq (fB (aA 0 (zE eD) vx S) (fB (zx "join") (fB (B8 3) cG)))))) (rR (Bf (At Aq (fB (aA 0 (zE eD) vx S) (fB (zx "split") (fB (B8 3) cG))))))) (cu (cT (λr=>r) (vR (.bl false) eB false S) (λ_=>S) λ_=>S)) (cM (cT (λr=>r) (yd (At O8 (fB (Du (aA 0 (zE eD) vx S) (B8 1)) cG)) (At O8 (fB (Du (aA 0 (zE eD) vx S) (B8 2)) cG))) (λ_=>S) λ_=>S)))
theorem Iw:∀v bs,(aZ eD aN) v bs->bs.length=1/\(B9 (Z (iB v.1))->lq (bs.map B5)=Z ((zE eB) (dD v.1))):=by
 rintro⟨vx,_⟩ _ ⟨_,rfl,rfl⟩;exact⟨rfl,λh=>dh (g:=vD) (n:=1) (bs:=[.z (eD vx)]) (V4 vx) h⟩
def fG(a:AZ)(b:AZ):AZ:=(aV (a++b))
def iW(a:AZ)(b:AZ):Prop:=(uY (a.length+b.length)/\(a++b).length<64)
theorem Rv(a:AZ)(b:AZ):RP rz [Z ((zE (eT eS)) a),Z ((zE (eT eS)) b)] (λr=>As.rt ((zE (eT eS)) r)) (fG a b) (Z (iW a b)):=R.tp (cT (λr=>r) (qP (fK (DW (mq (aA 0 (zE (eT eS)) a S) (aA 1 (zE (eT eS)) b S))))) (λ_=>S) λ_=>S)
theorem FN:∀v bs,(aZ (eT eS) (aZ (eT eS) aN)) v bs->bs.length=2/\(B9 (Z (iW v.1 v.2.1))->jK (bs.map B5)=Z ((zE (eT eS)) (fG v.1 v.2.1))):=by
 rintro⟨a,b,_⟩ _ ⟨_,rfl,⟨_,rfl,rfl⟩⟩;exact⟨rfl,λh=>dh (g:=rz) (n:=2) (bs:=[.z (eT eS a),.z (eT eS b)]) (Rv a b) h⟩
def gq(c:O AZ)(d:Dt):(O AZ):=(if(!(dD d))=true then default else(let q1:=(cW d);(let q2:=([q1.2.1,q1.2.2],[(fG q1.2.1 q1.2.2)]);(let b:(O AZ)×(O AZ):=(if(decide (q1.1=("split":AJ)))=true then(let q3:=(q2.2,q2.1);(q3.1,q3.2))else(q2.1,q2.2));(if((decide (q1.2.1=q1.2.2))||(!((b.1.map λa:AZ=>(cH a c)).all id)))=true then default else(fO (((c.filter λa:AZ=>(!cH a b.1)).map λa:AZ=>a)++b.2)))))))
def lO(c:O AZ)(d:Dt):Prop:=((iB d)/\(((!(dD d))=true->False)/\((!(dD d))=false->(d=dW (cW d)/\(let q1:=(cW d);((iW q1.2.1 q1.2.2)/\(let q2:=([q1.2.1,q1.2.2],[(fG q1.2.1 q1.2.2)]);(let b:(O AZ)×(O AZ):=(if(decide (q1.1=("split":AJ)))=true then(let q3:=(q2.2,q2.1);(q3.1,q3.2))else(q2.1,q2.2));(((decide (q1.2.1=q1.2.2))=false->b.1.length<=100000)/\((((decide (q1.2.1=q1.2.2))||(!((b.1.map λa:AZ=>(cH a c)).all id)))=true->False)/\(((decide (q1.2.1=q1.2.2))||(!((b.1.map λa:AZ=>(cH a c)).all id)))=false->((c.length<=100000/\uY (((c.filter λa:AZ=>(!cH a b.1)).map λa:AZ=>a).length+b.2.length))/\((((c.filter λa:AZ=>(!cH a b.1)).map λa:AZ=>a)++b.2).length<64/\∀x∈(((c.filter λa:AZ=>(!cH a b.1)).map λa:AZ=>a)++b.2),x.isEmpty=false)))))))))))))
theorem GC(d:O AZ)(e:Lp dB (d.map (eT eS)))(b:Dt):RP gj [Z dB,Z (zE eD b),U,U,U,U,U] (λr=>As.rt ((oE (eT eS)) r)) (gq d b) (Z (lO d b)):=R.tp (iu (rR (Bf (At Iw (fB (aA 1 (zE eD) b S) cG)))) (cu S5) (cM (HD (uZ (aA 1 (zE eD) b S) cW dW) _ (λ_=>S) λq1=>(HD (QJ (zf (fu (aH (aA 3 (zE (eT eS)) q1.2.1 S) (aH (aA 4 (zE (eT eS)) q1.2.2 S) (bA (eT eS)))) (zg S))) (zf (fu (aH (jr (At FN (fB (aA 3 (zE (eT eS)) q1.2.1 S) (fB (aA 4 (zE (eT eS)) q1.2.2 S) cG)))) (bA (eT eS))) (zg S)))) _ (λ_=>S) λq2=>(HF (λa:(O AZ)×(O AZ)=>[Z dB,Z (zE eD b),Z ((zE eS) q1.1),Z ((zE (eT eS)) q1.2.1),Z ((zE (eT eS)) q1.2.2),Z ((zE (eL (eT eS))) a.1),Z ((zE (eL (eT eS))) a.2)]) (cg (BG () (aA 2 (zE eS) q1.1 S) (zx "split"))) (cu (HD (QJ (aA 6 (zE (eL (eT eS))) q2.2 S) (aA 5 (zE (eL (eT eS))) q2.1 S)) _ (λ_=>S) λq3=>(cM (fJ (q3.1,q3.2) S)))) (cM (fJ (q2.1,q2.2) S)) λa=>(iu (zj (cg (BG () (aA 3 (zE (eT eS)) q1.2.1 S) (aA 4 (zE (eT eS)) q1.2.2 S))) (rR (Bf (HB (fK (BR (Ng (su (aA 5 (zE (eL (eT eS))) a.1 S))) _ (λ_=>S) (λc:AZ=>(Nq () (aA 1 (zE (eT eS)) c S) (bY 0 (eT eS) d e (congrArg Z (e.get S))))) λ_=>S)))))) (cu S5) (cM (cT (λr=>r) (yj (fK (wJ (fK (yh (Ng (bY 0 (eT eS) d e S)) _ (λ_=>S) (λc:AZ=>(cg (YC () (aA 1 (zE (eT eS)) c S) (su (aA 0 (zE (eL (eT eS))) a.1 S))))) (λc:AZ=>(aA 1 (zE (eT eS)) c S)) (λ_=>S) λ_=>S)) (su (aA 6 (zE (eL (eT eS))) a.2 S))))) (λ_=>S) λ_=>S))))))))
def Wi(a:Dt):O AZ×O AZ:=(if decide ((cW a).1=("split":AJ))=true then([fG (cW a).2.1 (cW a).2.2],[(cW a).2.1,(cW a).2.2])else([(cW a).2.1,(cW a).2.2],[fG (cW a).2.1 (cW a).2.2]))
def C5(b:O AZ)(a:Dt):Bool:=(decide ((cW a).2.1=(cW a).2.2))||(!(((Wi a).1.map λc:AZ=>(cH c b)).all id))
def Rz(b:O AZ)(a:Dt):Prop:=iB a/\(dD a=true->a=dW (cW a)/\iW (cW a).2.1 (cW a).2.2/\C5 b a=true)
theorem N0{R:Ev->Y As}(h:p ρ=Z true):aO (oV p (aO EC eF) eF) R ρ=U:=by
 unfold aO oV;rw[h];rfl
theorem gm{R:Ev->Y As}(h:p ρ=Z false):aO (oV p (aO EC eF) eF) R ρ=R ρ:=by
 unfold aO oV;rw[h];rfl
theorem He{R:Ev->Y As}{ρ':Ev}(h:g ρ=Z (.nx ρ')):aO g R ρ=R ρ':=by
 unfold aO;rw[h];rfl
theorem GM{R:Ev->Y Dt}{ρ':Ev}(h:g ρ=Z (.nx ρ')):Eb g R ρ=R ρ':=by
 unfold Eb;rw[h];rfl
theorem Sf{ρ':Ev}(h:f ρ=Z (.z d))(h':gt d ρ=Z ρ'):yX gt f ρ=Z (.nx ρ'):=by
 unfold yX;rw[h];show(gt d ρ).bind _=_;rw[h'];rfl
theorem LA{a b:Ev->Y Dt}{k:Bool}(h:p ρ=Z k):F6 p a b ρ=if k=true then a ρ else b ρ:=by
 unfold F6;rw[h];rfl
theorem MC{a b:Ev->Y As}{k:Bool}(h:p ρ=Z k):oV p a b ρ=if k=true then a ρ else b ρ:=by
 unfold oV;rw[h];rfl
theorem RO(c:O AZ)(d:Lp dB (c.map (eT eS)))(a:Dt):RP ID [Z dB,Z (zE eD a),U,U,U,U,U] (λb=>b) (!(dD a)) (Z (iB a)):=R.tp (rR (Bf (At Iw (fB (aA 1 (zE eD) a S) cG))))
theorem Po(a:Dt)(q1:AJ×AZ×AZ):RP MV [Z dB,Z (zE eD a),Z ((zE eS) q1.1),Z ((zE (eT eS)) q1.2.1),Z ((zE (eT eS)) q1.2.2),U,U] (zE (DJ (eL (eT eS)) (eL (eT eS)))) ([q1.2.1,q1.2.2],[fG q1.2.1 q1.2.2]) (Z (iW q1.2.1 q1.2.2)):=R.tp (QJ (zf (fu (aH (aA 3 (zE (eT eS)) q1.2.1 S) (aH (aA 4 (zE (eT eS)) q1.2.2 S) (bA (eT eS)))) (zg S))) (zf (fu (aH (jr (At FN (fB (aA 3 (zE (eT eS)) q1.2.1 S) (fB (aA 4 (zE (eT eS)) q1.2.2 S) cG)))) (bA (eT eS))) (zg S))))
theorem UR(a:Dt)(q1:AJ×AZ×AZ)(s:O AZ×O AZ):RP MU [Z dB,Z (zE eD a),Z ((zE eS) q1.1),Z ((zE (eT eS)) q1.2.1),Z ((zE (eT eS)) q1.2.2),Z ((zE (eL (eT eS))) s.1),Z ((zE (eL (eT eS))) s.2)] (λb=>b) (decide (q1.1=("split":AJ))) U:=R.tp (cg (BG () (aA 2 (zE eS) q1.1 S) (zx "split")))
theorem eR(d:O AZ)(e:Lp dB (d.map (eT eS)))(f:Dt)(q1:AJ×AZ×AZ)(a:O AZ×O AZ):RP MS [Z dB,Z (zE eD f),Z ((zE eS) q1.1),Z ((zE (eT eS)) q1.2.1),Z ((zE (eT eS)) q1.2.2),Z ((zE (eL (eT eS))) a.1),Z ((zE (eL (eT eS))) a.2)] (λb=>b) ((decide (q1.2.1=q1.2.2))||(!((a.1.map λc:AZ=>(cH c d)).all id))) (Z ((decide (q1.2.1=q1.2.2))=false->a.1.length<=100000)):=R.tp (zj (cg (BG () (aA 3 (zE (eT eS)) q1.2.1 S) (aA 4 (zE (eT eS)) q1.2.2 S))) (rR (Bf (HB (fK (BR (Ng (su (aA 5 (zE (eL (eT eS))) a.1 S))) _ (λ_=>S) (λc:AZ=>(Nq () (aA 1 (zE (eT eS)) c S) (bY 0 (eT eS) d e (congrArg Z (e.get S))))) λ_=>S))))))
theorem bP(b:O AZ)(g:Lp dB (b.map (eT eS)))(a:Dt)(h:Rz b a):gj [Z dB,Z (zE eD a),U,U,U,U,U]=U/\∃d,Al [Z dB,Z (zE eD a),U,U,U,U,U]=Z d:=by
 obtain⟨h1,h2⟩:=h;have p1:=RO b g a h1;cases e:dD a with
 |false=>
  rw[e]at p1;refine⟨N0 p1,.str "this is no step", ?_⟩;show((Zn _).or (GE _))=_;unfold Zn;rw[LA p1];rfl
 |true=>
  rw[e]at p1;obtain⟨j,i,n⟩:=h2 e;have e2:∀q,Mb [Z dB,Z ((zE eD) (dW q)),U,U,U,U,U]=Z (.nx [Z dB,Z ((zE eD) (dW q)),Z ((zE eS) q.1),Z ((zE (eT eS)) q.2.1),Z ((zE (eT eS)) q.2.2),U,U]):=λ_=>S;have e2:=e2 (cW a);rw[<-j]at e2;have e3:Nl _=Z (.nx [Z dB,Z (zE eD a),Z ((zE eS) (cW a).1),Z ((zE (eT eS)) (cW a).2.1),Z ((zE (eT eS)) (cW a).2.2),Z ((zE (eL (eT eS))) [(cW a).2.1,(cW a).2.2]),Z ((zE (eL (eT eS))) [fG (cW a).2.1 (cW a).2.2])]):=Sf (Po (dB:=dB) a (cW a) i) rfl;have f:LZ [Z dB,Z (zE eD a),Z ((zE eS) (cW a).1),Z ((zE (eT eS)) (cW a).2.1),Z ((zE (eT eS)) (cW a).2.2),Z ((zE (eL (eT eS))) [(cW a).2.1,(cW a).2.2]),Z ((zE (eL (eT eS))) [fG (cW a).2.1 (cW a).2.2])]=Z (.nx [Z dB,Z (zE eD a),Z ((zE eS) (cW a).1),Z ((zE (eT eS)) (cW a).2.1),Z ((zE (eT eS)) (cW a).2.2),Z ((zE (eL (eT eS))) (Wi a).1),Z ((zE (eL (eT eS))) (Wi a).2)]):=by
   refine(MC (UR (dB:=dB) a (cW a) ([(cW a).2.1,(cW a).2.2],[fG (cW a).2.1 (cW a).2.2]) trivial)).trans ?_;unfold Wi;cases decide ((cW a).1=("split":AJ))<;>rfl
  have l:(Wi a).1.length<=100000:=by
   unfold Wi;cases decide ((cW a).1=("split":AJ))
   ·show 2<=100000;omega
   ·show 1<=100000;omega
  have c:=eR b g a (cW a) (Wi a) (λ_=>l);have m:((decide ((cW a).2.1=(cW a).2.2))||(!(((Wi a).1.map λk:AZ=>(cH k b)).all id)))=true:=n;rw[m]at c;refine⟨(gm p1).trans ((He e2).trans ((He e3).trans ((He f).trans (N0 c)))),.str "this step can't be done here", ?_⟩;show((Zn _).or (GE _))=_;have g1:Zn [Z dB,Z (zE eD a),U,U,U,U,U]=U:=(LA p1).trans rfl;rw[g1];show GE _=_;have o:Mn [Z dB,Z (zE eD a),U,U,U,U,U]=Z (.nx [Z dB,Z (zE eD a),U,U,U,U,U]):=(MC p1).trans rfl;exact(GM o).trans ((GM e2).trans ((GM e3).trans ((GM f).trans ((LA c).trans S))))
def gA(a:O AZ)(vs:Dt):(Y (O AZ)):=(if(bT a vs).isNone=true then U else(Z (gq a vs)))
def oN(a:O AZ)(vs:Dt):Prop:=((bT a vs).isNone=true->Rz a vs)/\((bT a vs).isNone=false->(lO a vs))
theorem FP:∀v bs,(aL (eT eS) (aZ eD aN)) v bs->bs.length=2/\(B9 (Z (oN v.1 v.2.1))->iI (bs.map B5)=Z ((qE (eT eS)) (gA v.1 v.2.1))):=by
 rintro⟨a,vs,_⟩ _ ⟨dB,_,rfl,f,⟨_,rfl,rfl⟩⟩;refine⟨rfl,λh=>?_⟩;obtain⟨m,j⟩:oN a vs:=h;show iI [B5 dB,.z (eD vs)]=Z ((qE (eT eS)) (gA a vs));unfold gA;cases e:(bT a vs).isNone with
 |true=>
  obtain⟨i,d,hx⟩:=bP a (mK f) vs (m e);have c:dM [B5 dB,.z (eD vs)]=U:=by
   show Option.bind (gj _) _=U;have l:gj [Z (B5 dB),Z (.z (eD vs)),U,U,U,U,U]=U:=i;exact(congrArg (λo=>Option.bind o _) l).trans rfl
  have k:Ed 7 Al [B5 dB,.z (eD vs)]=Z d:=hx;show(match dM [B5 dB,.z (eD vs)]with|some b=>Z b|none=>(Ed 7 Al [B5 dB,.z (eD vs)]).bind λ_=>Z (.z .non))=_;rw[c,k];rfl
 |false=>
  have c:dM [B5 dB,.z (eD vs)]=Z ((oE (eT eS)) (gq a vs)):=dh (g:=gj) (n:=7) (bs:=[B5 dB,.z (eD vs)]) (GC a (mK f) vs) (j e);show(match dM [B5 dB,.z (eD vs)]with|some b=>Z b|none=>(Ed 7 Al [B5 dB,.z (eD vs)]).bind λ_=>Z (.z .non))=_;rw[c];rfl
def oO(a:(Y (O AZ)))(d:O AZ)(e:Unit)(vs:Dt):yN (Unit) Bool:=(let c:=(bT (a.getD default) vs);(let b:=(gA (a.getD default) vs);(if((!decide (b=c))||((c.isSome&&(!b.isSome))||(!decide (a=(Z d)))))=true then(yN.rt false)else(if c.isSome=true then(let b:=((b.getD []).map (eT eS)++[.tup []]);(if((!decide ((gA (a.getD default) vs)=c))||(!decide (a=(Z d))))=true then(yN.rt false)else(yN.nx io)))else(yN.nx io)))))
def uI(a:(Y (O AZ)))(d:O AZ)(e:Unit)(vs:Dt):Prop:=((a.isSome=true/\(iz (a.getD default) vs))/\(let c:=(bT (a.getD default) vs);((a.isSome=true/\(oN (a.getD default) vs))/\(let b:=(gA (a.getD default) vs);(((!decide (b=c))||((c.isSome&&(!b.isSome))||(!decide (a=(Z d)))))=false->(c.isSome=true->((b.isSome=true/\uY (b.getD []).length)/\(let b:=((b.getD []).map (eT eS)++[.tup []]);(a.isSome=true/\(oN (a.getD default) vs))))))))))
theorem Zv(m:BF)(n:Lp dB (m.map eI))(j:AZ)(a:(Y (O AZ)))(l:O AZ)(k:Int)(i:BF)(b:O AZ)(h:uw)(g:SE)(f:Unit)(vs:Dt):RP Oh [Z dB,Z ((zE (eL eS)) j),Z ((zE (eO (eL (eT eS)))) a),Z ((zE (eL (eT eS))) l),Z (zE eI k),Z (oE eI i),Z ((oE (eT eS)) b),Z (zE dW h),Z (oE eD g),Z (zE eD vs),U,U] (cC (λf:Unit=>[Z dB,Z ((zE (eL eS)) j),Z ((zE (eO (eL (eT eS)))) a),Z ((zE (eL (eT eS))) l),Z (zE eI k),Z (oE eI i),Z ((oE (eT eS)) b),Z (zE dW h),Z (oE eD g),U,U,U]) (zE eB)) (oO a b f vs) (Z (uI a b f vs)):=R.tp (cu (cL 10 (At Iv (pX (su (Ae (aA 2 (zE (eO (eL (eT eS)))) a S))) (fB (aA 9 (zE eD) vs S) cG))) (λ_=>S) λd=>(cu (cL 11 (At FP (pX (su (Ae (aA 2 (zE (eO (eL (eT eS)))) a S))) (fB (aA 9 (zE eD) vs S) cG))) (λv=>by cases v<;>rfl) λc=>(cu (iu (zj (cg (Te (e:=(eT eS)) () (Y5 11 (eT eS) c S) (aA 10 (zE (eO (eL (eT eS)))) d S))) (zj (Af (cg (JX (aA 10 (zE (eO (eL (eT eS)))) d S) λ_=>S)) (rR (Bf (SY (Y5 11 (eT eS) c S))))) (cg (Te (e:=(eT eS)) () (aA 2 (zE (eO (eL (eT eS)))) a S) (Tq (aA 6 (lE (eT eS)) b S)))))) (cu (cT .rt (vR (.bl false) eB false S) (λ_=>S) λ_=>S)) (cM (cu (iu (cg (JX (aA 10 (zE (eO (eL (eT eS)))) d S) λ_=>S)) (cu (Se 11 (bI dU aK) (.tup []) S c S λc=>(cu (iu (zj (cg (Te (e:=(eT eS)) () (At FP (pX (su (Ae (aA 2 (zE (eO (eL (eT eS)))) a S))) (fB (aA 9 (zE eD) vs S) cG))) (aA 10 (zE (eO (eL (eT eS)))) d S))) (cg (Te (e:=(eT eS)) () (aA 2 (zE (eO (eL (eT eS)))) a S) (Tq (aA 6 (lE (eT eS)) b S))))) (cu (cT .rt (vR (.bl false) eB false S) (λ_=>S) λ_=>S)) (cM (cM (cM (fJ (.nx io) S)))))))) (cM (cM (fJ (.nx io) S))))))))))))
def oR(f:BF)(a:(Y (O AZ)))(i:Int):yN ((Y (O AZ))) Bool:=(let c:=(bJ (bM f i) 9);(let h:=(a.getD default);(let b:=(dJ (a.getD default) c);(let g:=[(dW b),(jL b (a.getD default) c),(dW (d8 b (a.getD default) (BE c (Z 6) U)))];(CI (qp (λ(e:Unit) (vs:Dt)=>((oO a h e vs):yN (Unit) Bool)) (g++[(Dt.tup [(eS b.1),((eT eS) b.2.2),((eT eS) b.2.1)])]) io) (λr=>yN.rt r) λe:Unit=>(let d:=(bT (a.getD default) (dW b));(let a:(Y (O AZ)):=(if d.isSome=true then(let a:=d;a)else a);(yN.nx a))))))))
def uJ(e:BF)(a:(Y (O AZ)))(h:Int):Prop:=(((iT e h)/\(gn (bM e h) 9))/\(let c:=(bJ (bM e h) 9);(a.isSome=true/\(let g:=(a.getD default);((a.isSome=true/\(gK (a.getD default) c))/\(let b:=(dJ (a.getD default) c);(((a.isSome=true/\(oM b (a.getD default) c))/\(a.isSome=true/\(iw b (a.getD default) (BE c (Z 6) U))))/\(let f:=[(dW b),(jL b (a.getD default) c),(dW (d8 b (a.getD default) (BE c (Z 6) U)))];((uY (f.length+[(Dt.tup [(eS b.1),((eT eS) b.2.2),((eT eS) b.2.1)])].length)/\Ag (λ(d:Unit) (vs:Dt)=>((oO a g d vs):yN (Unit) Bool)) (λ(d:Unit) (vs:Dt)=>Z (uI a g d vs)) (f++[(Dt.tup [(eS b.1),((eT eS) b.2.2),((eT eS) b.2.1)])]) io)/\(J2 (qp (λ(d:Unit) (vs:Dt)=>((oO a g d vs):yN (Unit) Bool)) (f++[(Dt.tup [(eS b.1),((eT eS) b.2.2),((eT eS) b.2.1)])]) io) λd:Unit=>(a.isSome=true/\(iz (a.getD default) (dW b)))))))))))))
theorem Zw(g:BF)(l:Lp dB (g.map eI))(e:AZ)(f:O AZ)(a:(Y (O AZ)))(c:Int):RP Oi [Z dB,Z ((zE (eL eS)) e),Z ((zE (eO (eL (eT eS)))) a),Z ((zE (eL (eT eS))) f),Z (zE eI c),U,U,U,U,U,U,U] (cC (λa:(Y (O AZ))=>[Z dB,Z ((zE (eL eS)) e),Z ((zE (eO (eL (eT eS)))) a),Z ((zE (eL (eT eS))) f),U,U,U,U,U,U,U,U]) (zE eB)) (oR g a c) (Z (uJ g a c)):=R.tp (cu (cL 5 (At lN (fB (jr (At rM (pX (bY 0 eI g l S) (fB (aA 4 (zE eI) c S) cG)))) (fB (B8 9) cG))) (λ_=>S) λd=>(cu (cL 6 (SG (su (Ae (aA 2 (zE (eO (eL (eT eS)))) a S)))) (λ_=>S) λi=>(cu (cL 7 (At zP (pX (su (Ae (aA 2 (zE (eO (eL (eT eS)))) a S))) (pX (kY (aA 5 (lE eI) d S)) cG))) (λ_=>S) λb=>(cu (cL 8 (fu (aH (bN (aA 7 (zE dW) b S)) (aH (jr (At Rr (fB (aA 7 (zE dW) b S) (fB (Ae (aA 2 (zE (eO (eL (eT eS)))) a S)) (pX (kY (aA 5 (lE eI) d S)) cG))))) (aH (bN (jr (At Bj (fB (aA 7 (zE dW) b S) (fB (Ae (aA 2 (zE (eO (eL (eT eS)))) a S)) (pX (su (zf (HK (kY (aA 5 (lE eI) d S)) (uf (B8 6)) wI))) cG)))))) (bA eD)))) (zg S)) (λ_=>S) λh=>(cu (Yy (λj:Unit=>[Z dB,Z ((zE (eL eS)) e),Z ((zE (eO (eL (eT eS)))) a),Z ((zE (eL (eT eS))) f),Z (zE eI c),Z (oE eI d),Z ((oE (eT eS)) i),Z (zE dW b),Z (oE eD h),U,U,U]) io S (Iy (wJ (kY (aA 8 (lE eD) h S)) (fK (fu (aH (gD (aH (bN (Hy (aA 7 (zE dW) b S) (λq=>q.1) eS 0 λ_=>S)) (aH (bN (Hy (aA 7 (zE dW) b S) (λq=>q.2.2) (eT eS) 2 λ_=>S)) (aH (bN (Hy (aA 7 (zE dW) b S) (λq=>q.2.1) (eT eS) 1 λ_=>S)) (bA eD)))) (zg S)) (bA eD)) (zg S))))) _ (λ_ _=>S) (λ(j:Unit) (vs:Dt)=>((Zv g l e a f c d i b h j vs).r:R _ _ (cC (λj:Unit=>[Z dB,Z ((zE (eL eS)) e),Z ((zE (eO (eL (eT eS)))) a),Z ((zE (eL (eT eS))) f),Z (zE eI c),Z (oE eI d),Z ((oE (eT eS)) i),Z (zE dW b),Z (oE eD h),U,U,U]) (zE eB)))) .rt (λ_=>S) λj=>(cu (cL 10 (At Iv (pX (su (Ae (aA 2 (zE (eO (eL (eT eS)))) a S))) (fB (bN (aA 7 (zE dW) b S)) cG))) (λ_=>S) λk=>(cu (HF (λa:(Y (O AZ))=>[Z dB,Z ((zE (eL eS)) e),Z ((zE (eO (eL (eT eS)))) a),Z ((zE (eL (eT eS))) f),Z (zE eI c),Z (oE eI d),Z ((oE (eT eS)) i),Z (zE dW b),Z (oE eD h),U,Z ((zE (eO (eL (eT eS)))) k),U]) (cg (JX (aA 10 (zE (eO (eL (eT eS)))) k S) λ_=>S)) (cu (cL 2 (aA 10 (zE (eO (eL (eT eS)))) k S) (λ_=>S) λa=>(cM (fJ a S)))) (cM (fJ a S)) λa=>(cM (fJ (.nx a) S))))))))))))))))
def O9(a:BF):Bool:=(let q1:=(nO a 0);(CI (qp (λ(b:(Y (O AZ))) (c:Int)=>((oR a b c):yN ((Y (O AZ))) Bool)) (rng 3 ((3+(if(if(12:Int)<((a.length:Int)-3)then(12:Int)else((a.length:Int)-3))>8 then(if(12:Int)<((a.length:Int)-3)then(12:Int)else((a.length:Int)-3))else 8))-3).toNat) q1.2.1) (λr=>r) λb:(Y (O AZ))=>true))
def Pa(a:BF):Prop:=((qy a 0)/\(let q1:=(nO a 0);(((Rg (3:Int)/\Rg (3+(if(if(12:Int)<((a.length:Int)-3)then(12:Int)else((a.length:Int)-3))>8 then(if(12:Int)<((a.length:Int)-3)then(12:Int)else((a.length:Int)-3))else 8)))/\Ag (λ(b:(Y (O AZ))) (c:Int)=>((oR a b c):yN ((Y (O AZ))) Bool)) (λ(b:(Y (O AZ))) (c:Int)=>Z (uJ a b c)) (rng 3 ((3+(if(if(12:Int)<((a.length:Int)-3)then(12:Int)else((a.length:Int)-3))>8 then(if(12:Int)<((a.length:Int)-3)then(12:Int)else((a.length:Int)-3))else 8))-3).toNat) q1.2.1)/\(J2 (qp (λ(b:(Y (O AZ))) (c:Int)=>((oR a b c):yN ((Y (O AZ))) Bool)) (rng 3 ((3+(if(if(12:Int)<((a.length:Int)-3)then(12:Int)else((a.length:Int)-3))>8 then(if(12:Int)<((a.length:Int)-3)then(12:Int)else((a.length:Int)-3))else 8))-3).toNat) q1.2.1) λb:(Y (O AZ))=>True))))
theorem RS(a:BF)(c:Lp dB (a.map eI)):RP TQ [Z dB,U,U,U,U,U,U,U,U,U,U,U] (λr=>As.rt (zE eB r)) (O9 a) (Z (Pa a)):=R.tp (HD (At V0 (pX (bY 0 eI a c S) (fB (B8 0) cG))) _ (λ_=>S) λq1=>(Yy (λb:(Y (O AZ))=>[Z dB,Z ((zE (eL eS)) q1.1),Z ((zE (eO (eL (eT eS)))) b),Z ((zE (eL (eT eS))) q1.2.2),U,U,U,U,U,U,U,U]) q1.2.1 S (f' (B8 3) (jt (B8 3) (Yu (B8 8) (OM (NS (BN (bY 0 eI a c S)) (B8 3)) (B8 12))))) _ (λ_ _=>S) (λ(b:(Y (O AZ))) (d:Int)=>((Zw a c q1.1 q1.2.2 b d).r:R _ _ (cC (λb:(Y (O AZ))=>[Z dB,Z ((zE (eL eS)) q1.1),Z ((zE (eO (eL (eT eS)))) b),Z ((zE (eL (eT eS))) q1.2.2),U,U,U,U,U,U,U,U]) (zE eB)))) (λr=>r) (λ_=>S) λb=>(cT (λr=>r) (vR (.bl true) eB true S) (λ_=>S) λ_=>S)))
theorem M3:∀v bs,(aL eI aN) v bs->bs.length=1/\(B9 (Z (Pa v.1))->F_law (bs.map B5)=Z ((zE eB) (O9 v.1))):=by
 rintro⟨a,_⟩ _ ⟨dB,_,rfl,b,rfl⟩;exact⟨rfl,λh=>dh (g:=TQ) (n:=12) (bs:=[B5 dB]) (RS a (mK b)) h⟩
theorem MA(h:∀a:O Int,a.length<=63->Pa a/\O9 a=true):(∀a:O Int,a.length<=63->F_law [.z (.lst (a.map .int))]=Z (.z (.bl true)))/\∀a:O Int,a.length<=63->F_law [.l (a.map .int)]=Z (.z (.bl true)):=
 ⟨λa b=>((M3 (a,io) [.z (.lst (a.map .int))] ⟨_,_,rfl,rfl,rfl⟩).2 (h a b).1).trans (by rw[(h a b).2]),λa b=>((M3 (a,io) [.l (a.map .int)] ⟨_,_,rfl,rfl,rfl⟩).2 (h a b).1).trans (by rw[(h a b).2])⟩
end
end G47
end
section
set_option synthInstance.maxSize 100000
namespace G47
open L2 P1
theorem KN(b:O Int)(k:Int)(a:0<=k)(h1:k<=1000):iT b k:=by
 unfold iT;exact⟨λh=>BC a (by simpa using h),λ_=>NG a ()⟩
theorem Zx(k:Nat)(s:Int×O Int×Int)(hk:k<1000)(h:(0<=s.1/\s.1<1999999973)/\s.2.1.length=k/\(∀x∈s.2.1,0<=x)/\0<=s.2.2):jg s k/\(0<=(cJ s k).1/\(cJ s k).1<1999999973)/\(cJ s k).2.1.length=k+1/\(∀x∈(cJ s k).2.1,0<=x)/\0<=(cJ s k).2.2:=by
 obtain⟨h1,h2,b,c⟩:=h;have a:In 2 (if(decide ((0:Int)<s.2.2))=true then(1:Int)else 0):=by split<;>exact BC () ()
 refine⟨⟨NG h1.1 (),a,?_⟩,jT _ (),?_,?_,Int.ediv_nonneg c ()⟩
 ·show s.2.1.length<=1000000;omega
 ·show(s.2.1++[_]).length=k+1;rw[zC,h2];rfl
 ·intro x hx;rcases aJ.mp hx with hx|hx
  ·exact b x hx
  ·cases au.mp hx;have:=oA (xs:=[((((s.1*((s.1%65521)+40487))+(7*k))+5)%1999999973),(s.2.2%1000000)]) a;simp only[ja,jv,or_false]at this;rcases this with e|e<;>rw[e]
   ·exact(jT _ ()).1
   ·exact(jT _ ()).1
theorem KQ(c m:Int)(e:0<=m)(h1:m<=1000):gn c m/\(bJ c m).length=m.toNat/\∀x∈bJ c m,0<=x:=by
 have f:∀st a:Int,(0<=st/\st<1999999973)->0<=a->lA c m [] st a/\(jh c m [] st a).length=m.toNat/\∀x∈jh c m [] st a,0<=x:=λst a d b=>by
  have:=Nt (P:=λs k=>Z (jg s k)) (λk s=>(0<=s.1/\s.1<1999999973)/\s.2.1.length=k/\(∀x∈s.2.1,0<=x)/\0<=s.2.2) (step:=λs k=>cJ s k) m.toNat (st,[],a) ⟨d,rfl,λx h=>(by cases h),b⟩ λk s hk h=>Zx k s () h;exact⟨⟨HN e (),this.1⟩,this.2.2.1,this.2.2.2.1⟩
 refine f _ _ (jT _ ()) ?_;dsimp only;split<;>(try split)<;>omega
theorem C0{α:Type}(c:Array α):∀(n:Nat) (a:Array α),((aw n c).foldl (·++·) a).size=a.size+n*c.size
 |0,a=>by simp
 |n+1,a=>by
  rw[YI,KP,C0 c n,ku,lx];omega
theorem Ju(x:AJ)(k:Int):(Txt.mul x k).length<=x.length*k.toNat:=by
 unfold Txt.mul;split
 ·exact QR _
 split
 ·rename_i a h;simp only[eA,beq_iff_eq]at h;rcases h with h|h
  ·subst h;simp
  ·rw[h];simp
 ·show(Array.size _)<=_;rw[C0];have:x.cps.size=x.length:=rfl;rw[this,Nat.mul_comm];simp
def LT:AJ:=("abcdefghijklmnopqrstuvwxyz":AJ)
theorem Rw:LT.length=26:=by decide +kernel
theorem Rx(h:n<=1000):uY n:=ZH h ()
theorem Ry(xs:O Int)(l:6<=xs.length)(b:AJ)(hs:b.length<=5)(at_:Int)(k:Nat)(a:AZ)(hk:k<200)(h:a.length=k/\∀n∈a,n.length<=12):jY xs LT b at_ a k/\(fD xs LT b at_ a k).length=k+1/\∀n∈fD xs LT b at_ a k,n.length<=12:=by
 have g:=ZH (slice_le b U (Z at_)) hs;have i:=ZH (slice_le b (Z at_) U) hs;have c1:=zu LT ((↑k+An xs 2)%15);have j:=jT (k:Int) (m:=8) ();have d:(0:Int)<=(k:Int) / 8/\(k:Int) / 8<26:=by omega
 refine⟨⟨⟨BC () (),jJ () (by rw[Rw];decide)⟩,⟨Rx (),Rx (by rw[uh];omega)⟩,⟨BC () (),λ_=>⟨BC d.1 (by rw[Rw];exact d.2),by omega,by omega,by rw[zu];decide⟩⟩,Rx ()⟩,?_⟩;have e:∀n:AJ,n.length<=12->(a++[n]).length=k+1/\∀m∈a++[n],m.length<=12:=λn f=>⟨by simp[h.1],λm c=>by
  rcases aJ.mp c with c|c
  ·exact h.2 m c
  ·cases au.mp c;exact f⟩
 unfold fD;dsimp only;split
 ·exact e _ (by have:=Ju (ch LT ((k:Int) / 8)) (1+(k:Int)%8);rw[zu]at this;exact ZH this ())
 ·exact e _ (by rw[uh,uh,c1];omega)
theorem Zy(xs:AZ)(n:Nat)(h:∀x∈xs,x.length<=n):(Txt.join "" xs).length<=xs.length*n:=by
 have h1:=StrLaws.join_length_le ("":AJ) xs;rw[<-StrLaws.glued_eq_join]at h1;have h2:(xs.map (·.length)).sum<=xs.length*n:=by
  clear h1
  induction xs with
  |nil=>simp
  |cons a l b=>
   have:=b λx hx=>h x (zi _ hx);have:=h a (zh ..);simp only[Zl,List.sum_cons,Qr,lx];omega
 have c:("":AJ).length=0:=rfl;rw[c,Nat.mul_zero]at h1;exact ZH h1 ()
theorem XV(xs:AZ)(h:∀x∈xs,x.length=1):(xs.map (·.length)).sum=xs.length:=by
 induction xs with
 |nil=>rfl
 |cons a l b=>
  have:=b λx hx=>h x (zi _ hx);have:=h a (zh ..);simp only[Zl,List.sum_cons,Qr];omega
theorem Zz(xs:O Int)(l:6<=xs.length)(a:Int)(i:0<=a)(h1:a<=200):pP xs a/\(dG xs a).length=a.toNat/\∀n∈dG xs a,n.length<=12:=by
 have e:=jT (An xs 0) (m:=6) ();have st:∀b:AJ,b.length<=5->oH xs a LT b/\(jZ xs a LT b).length=a.toNat/\∀n∈jZ xs a LT b,n.length<=12:=λb g=>by
  have:=Nt (P:=λf k=>Z (jY xs LT b (An xs 1%((b.length:Int)+1)) f k)) (step:=λf k=>fD xs LT b (An xs 1%((b.length:Int)+1)) f k) (λk s=>s.length=k/\∀n∈s,n.length<=12) a.toNat [] ⟨rfl,λn h=>(by cases h)⟩ λk s hk h=>Ry xs l b g _ k s () h;exact⟨⟨⟨BC () (),by omega⟩,HN i (),this.1⟩,this.2⟩
 have c1:∀x∈((rng 0 (An xs 0%6).toNat).map λc:Int=>ch LT (An xs c / 40%26)),x.length=1:=λx hx=>by
  obtain⟨k,_,rfl⟩:=ax.mp hx;exact zu _ _
 have:=st (Txt.join "" ((rng 0 (An xs 0%6).toNat).map λc:Int=>ch LT (An xs c / 40%26))) (by
  have:=Zy _ 1 λx hx=>ew (c1 x hx);rw[zk,lF]at this;omega)
 refine⟨⟨⟨⟨⟨⟨BC () (),HN e.1 ()⟩,by rw[lF];omega⟩,λk hk=>?_⟩,?_⟩,this.1⟩,this.2⟩
 ·obtain⟨j,o,rfl⟩:=u5 hk;exact⟨BC () (),jJ () (by rw[show("abcdefghijklmnopqrstuvwxyz":AJ)=LT from rfl,Rw];decide)⟩
 ·rw[show("abcdefghijklmnopqrstuvwxyz":AJ)=LT from rfl,XV _ c1,zk,lF];have d:("":AJ).length=0:=rfl;rw[d];omega
def D7(xs:O Int)(a:AJ)(at_:Int)(k:Int):AJ:=if(decide (((An xs 3)%3)=1))=true then(Txt.mul (ch LT (k / (8:Int))) (1+(k%8)))else(((Txt.slice a U (Z at_))++(ch LT ((k+(An xs 2))%15)))++(Txt.slice a (Z at_) U))
theorem wY{α β:Type}(g:β->α):∀(l:O β) (f:O α),l.foldl (λf k=>f++[g k]) f=f++l.map g
 |[],f=>by simp
 |k::l,f=>by rw[KP,wY g l];simp
theorem ZC(xs:O Int)(a:Int):∃b at_,dG xs a=(rng 0 a.toNat).map (D7 xs b at_):=by
 refine⟨_,_,(wY (D7 xs _ _) _ []).trans (KO _)⟩
theorem RB{a b m c:AJ}(h:(a++m)++b=(a++c)++b):m=c:=by
 have h:=congrArg (λs:AJ=>s.cps.toList) h;have h:((a.cps++m.cps)++b.cps).toList=((a.cps++c.cps)++b.cps).toList:=h;simp only[gR]at h;have:=List.append_cancel_left (List.append_cancel_right h);cases m;cases c;congr 1;exact Array.ext' this
theorem P9:∀i:Fin 30,∀j:Fin 30,Txt.mul (ch LT ((i.val:Int) / 8)) (1+(i.val:Int)%8)=Txt.mul (ch LT ((j.val:Int) / 8)) (1+(j.val:Int)%8)->i=j:=by decide +kernel
theorem WC:∀i:Fin 15,∀j:Fin 15,ch LT (i.val:Int)=ch LT (j.val:Int)->i=j:=by decide +kernel
theorem RU{x y:Int}(hx:0<=x/\x<15)(a:0<=y/\y<15)(h:ch LT x=ch LT y):x=y:=by
 have:=WC ⟨x.toNat,by omega⟩ ⟨y.toNat,by omega⟩ (by
  show ch LT ((x.toNat:Nat):Int)=ch LT ((y.toNat:Nat):Int);rw[gS hx.1,gS a.1];exact h)
 have:=congrArg Fin.val this;have:x.toNat=y.toNat:=this;omega
theorem OP{xs:O Int}{a:AJ}{at_:Int}(hi:i<15)(b:j<15)(h:D7 xs a at_ i=D7 xs a at_ j):i=j:=by
 unfold D7 at h;by_cases e:(decide (((An xs 3)%3)=1))=true
 ·rw[zt e,zt e]at h;exact congrArg Fin.val (P9 ⟨i,by omega⟩ ⟨j,by omega⟩ h)
 ·rw[ZA e,ZA e]at h;have:=RU (jT _ ()) (jT _ ()) (RB h);omega
theorem YW{g:Int->AJ}(h:∀i j:Nat,i<n->j<n->g i=g j->i=j):((rng 0 n).map g).Nodup:=by
 unfold rng;rw[qa];unfold List.Nodup;rw[me];refine List.Pairwise.imp_of_mem ?_ (List.nodup_range (n:=n));intro a b c f d e;refine d (h a b (dg.mp c) (dg.mp f) ?_);have e:g (0+(a:Int))=g (0+(b:Int)):=e;rwa [lL,lL]at e
theorem ZD(xs:O Int)(a:Int)(h:a<=15):(dG xs a).Nodup:=by
 obtain⟨b,at_,e⟩:=ZC xs a;rw[e];exact YW λi j hi c=>OP () ()
def Lw(c:Nat):Prop:=97<=c/\c<=122
def Nm(s:AJ):Prop:=1<=s.length/\s.length<=8/\∀c∈cs s,Lw c
theorem SZ{c:Nat}(h:Lw c):c∈cs LT:=by
 have:∀i:Fin 26,97+i.val∈cs LT:=by decide +kernel
 have:=this ⟨c-97,by unfold Lw at h;omega⟩;unfold Lw at h;rwa [show 97+(c-97)=c by omega]at this
theorem a8(p:AJ->Bool):((FZ (.str x)).map λv:Dt=>p (Z7 v))=(Bz x).map p:=by
 rw[show FZ (.str x)=(Bz x).map Dt.str from Nh x,qa];rfl
theorem TR{a:AJ}(h:Nm a):fQ (.str a)=true:=by
 unfold fQ j5;show((decide ((1:Int)<=(a.length:Int))&&decide ((a.length:Int)<=8))&&(((FZ (.str a)).map λv:Dt=>zW (Z7 v) ("abcdefghijklmnopqrstuvwxyz":AJ)).all id))=true;rw[a8 (λv=>zW v _),ZZ,ZZ,QA,QA];refine⟨⟨by have:=h.1;omega,by have:=h.2.1;omega⟩,?_⟩;rw[ik,QI];intro v b;rw[Zk]at b;obtain⟨c,d,rfl⟩:=ax.mp b;exact VH (SZ (h.2.2 c d))
theorem VO(c:Nat)(n:Int)(h:1<=n):cs (Txt.mul ⟨#[c]⟩ n)=aw n.toNat c:=by
 unfold Txt.mul;split
 ·omega
 split
 ·rename_i h;simp only[eA,beq_iff_eq]at h;rcases h with h|h
  ·subst h;rfl
  ·cases h
 ·have:∀(k:Nat) (a:Array Nat),((aw k (#[c]:Array Nat)).foldl (·++·) a).toList=a.toList++aw k c:=by
   intro k
   induction k with
   |zero=>intro a;simp
   |succ k b=>
    intro a;rw[YI,KP,b,gR,YI];simp
  exact(this _ _).trans (by simp)
theorem ZF{i:Int}(h:0<=i/\i<26):ch LT i=⟨#[97+i.toNat]⟩:=by
 have:∀i:Fin 26,ch LT (i.val:Int)=⟨#[97+i.val]⟩:=by decide +kernel
 have:=this ⟨i.toNat,by omega⟩;rwa [show((⟨i.toNat,by omega⟩:Fin 26).val:Int)=i by show(i.toNat:Int)=i;omega]at this
theorem hV{i n:Int}(h:0<=i/\i<26)(h1:1<=n)(b:n<=8):Nm (Txt.mul (ch LT i) n):=by
 have e:=VO (97+i.toNat) n h1;rw[<-ZF h]at e;refine⟨?_,?_,λc a=>?_⟩
 ·rw[Ew,e,eh];omega
 ·rw[Ew,e,eh];omega
 ·rw[e]at a;rw[(List.mem_replicate.mp a).2];unfold Lw;omega
theorem ZG{l:AZ}{c:Nat}(h:c∈cs (Txt.join "" l)):∃q∈l,c∈cs q:=by
 cases l with
 |nil=>cases h
 |cons p ps=>
  rw[gE]at h;rcases aJ.mp h with h|h
  ·exact⟨p,zh ..,h⟩
  ·obtain⟨q,a,h⟩:=List.mem_flatMap.mp h;exact⟨q,zi _ a,h⟩
theorem V5(xs:O Int)(f:Int):∃(d:AJ) (at_:Int),(∀c∈cs d,Lw c)/\d.length<=5/\0<=at_/\at_<=(d.length:Int)/\dG xs f=(rng 0 f.toNat).map (D7 xs d at_):=by
 have i:=jT (An xs 0) (m:=6) ();have e:∀x∈((rng 0 (An xs 0%6).toNat).map λa:Int=>ch LT (An xs a / 40%26)),x.length=1/\∀c∈cs x,Lw c:=λx hx=>by
  obtain⟨k,_,rfl⟩:=ax.mp hx;refine⟨zu _ _,λc b=>?_⟩;rw[ZF (jT _ ())]at b;cases au.mp b;have:=jT (An xs k / 40) (m:=26) ();unfold Lw;omega
 refine⟨Txt.join "" ((rng 0 (An xs 0%6).toNat).map λa:Int=>ch LT (An xs a / 40%26)),An xs 1%(((Txt.join "" ((rng 0 (An xs 0%6).toNat).map λa:Int=>ch LT (An xs a / 40%26))).length:Int)+1),λc b=>?_,?_,?_,?_,(wY (D7 xs _ _) _ []).trans (KO _)⟩
 ·obtain⟨q,g,h⟩:=ZG b;exact(e q g).2 c h
 ·have:=Zy _ 1 λx hx=>ew (e x hx).1;rw[zk,lF]at this;omega
 ·exact(jT _ ()).1
 ·have:=(jT (An xs 1) (m:=((Txt.join "" ((rng 0 (An xs 0%6).toNat).map λa:Int=>ch LT (An xs a / 40%26))).length:Int)+1) ()).2;omega
theorem eQ{xs:O Int}{a:AJ}{at_:Int}(h1:∀c∈cs a,Lw c)(h2:a.length<=5)(h:0<=at_)(j:at_<=(a.length:Int)){k:Int}(hk:0<=k/\k<15):Nm (D7 xs a at_ k):=by
 unfold D7;split
 ·exact hV () () ()
 ·have d:=Zj (x:=a) (n:=at_.toNat) ();have f:=Zi (x:=a) (n:=at_.toNat) ();rw[gS h]at d f;have c1:=ZF (i:=(k+An xs 2)%15) (by have:=jT (k+An xs 2) (m:=15) ();omega);have m:=jT (k+An xs 2) (m:=15) ();have e:cs ((Txt.slice a U (Z at_)++ch LT ((k+An xs 2)%15))++Txt.slice a (Z at_) U)=((cs a).take at_.toNat++[97+((k+An xs 2)%15).toNat])++(cs a).drop at_.toNat:=by
   rw[Kg,Kg,d,f,c1]
  have g:((Txt.slice a U (Z at_)++ch LT ((k+An xs 2)%15))++Txt.slice a (Z at_) U).length=a.length+1:=by
   rw[Ew,e,zC,zC,JU,ko,<-Ew];show _+1+_=_;omega
  refine⟨by rw[g];omega,by rw[g];omega,λc b=>?_⟩;rw[e]at b;rcases aJ.mp b with b|b
  ·rcases aJ.mp b with b|b
   ·exact h1 c (la b)
   ·cases au.mp b;unfold Lw;omega
  ·exact h1 c (k7 b)
theorem ZJ(xs:O Int)(a:Int)(h:a<=15):∀n∈dG xs a,Nm n:=by
 obtain⟨g,at_,h1,h2,c,d,e⟩:=V5 xs a;rw[e];intro n b;obtain⟨k,hk,rfl⟩:=ax.mp b;obtain⟨j,f,rfl⟩:=u5 hk;exact eQ h1 h2 c d ()
theorem Za(p:α->Bool)(l:O α):(l.filter p).length<=l.length:=yz p l
theorem hZ[Inhabited α](xs:O α):(rng 0 (xs.length:Int).toNat).map (λk:Int=>An xs k)=xs:=by
 refine ib λk=>?_;rw[Zs];by_cases h:k<xs.length
 ·have h1:(rng 0 (xs.length:Int).toNat)[k]?=Z (k:Int):=by
   unfold rng;rw[Zs,gG ()];simp
  rw[h1,ez,DP xs k h,zo h]
 ·rw[QP (by rw[lF];omega),QP ()];rfl
theorem RD(a:AZ)(xs:O Int)(g:a.Nodup)(y:a.length<60)(t:0<xs.length)(h1:xs.length<=1000):dN a xs/\Wd a (bU a xs)/\(bU a xs).flatten.Perm a:=by
 have hx:(0:Int)<(xs.length:Int):=by omega
 have pos:(0:Int)<(if(a.length:Int)>1 then(a.length:Int)else 1):=by split<;>omega
 unfold bU dN;dsimp only;have G:=UH (λc:Int=>if(decide ((0:Int)<((An xs 0)%3)))=true then((((An xs (c%(xs.length:Int))) / (1+(c / (xs.length:Int))))%(if(a.length:Int)>1 then(a.length:Int)else 1))%3)else(((An xs (c%(xs.length:Int))) / (1+(c / (xs.length:Int))))%(if(a.length:Int)>1 then(a.length:Int)else 1))) (λc:Int=>An a c) (rng 0 (a.length:Int).toNat);rw[hZ]at G;generalize Nx _ _ _=m at G;have W:=Re G g λx h=>h;have Za:∀(w:O AZ),(∀s∈w,s≠[])->w.length<=w.flatten.length:=λw=>by
  induction w with
  |nil=>intro _;exact QR _
  |cons s w f=>
   intro h;have:=f λs d=>h s (zi _ d);have:=bc.mpr (h s (zh ..));rw[Zp,zC,Qr];omega
 have n:m.length<=a.length:=by
  have:=Za (m.map (·.2)) λs d=>by obtain⟨q,b,rfl⟩:=ax.mp d;exact G.ne q b
  rw[zk,G.p.length_eq]at this;exact this
 have i:∀q∈m,q.2.length<=a.length:=λq b=>by
  rw[<-G.p.length_eq];obtain⟨u,AS,e⟩:=l5 (ax.mpr ⟨q,b,rfl⟩:q.2∈m.map (·.2));rw[e,JE,Zp];simp only[zC];omega
 refine⟨⟨⟨⟨⟨rfl,HN () ()⟩,by rw[lF];omega⟩,λv l=>?_⟩,⟨by rw[zk];omega,λk hk=>?_⟩,by rw[zk,zk];omega,λs d=>?_⟩,W.1,W.2⟩
 ·obtain⟨k,hk,rfl⟩:=u5 l;have d0:(0:Int)<=(k:Int) / (xs.length:Int):=Int.ediv_nonneg () ();have o:(k:Int) / (xs.length:Int)<=k:=Int.ediv_le_self _ ();exact⟨⟨⟨⟨⟨hx,jJ hx ()⟩,hx,by omega⟩,by omega,by omega⟩,pos⟩,BC () hx,jH ()⟩
 ·obtain⟨q,b,rfl⟩:=ax.mp hk;refine⟨List.any_eq_true.mpr ⟨q,b,by simp⟩,?_⟩;rw[Eu G.k b];have:=i q b;omega
 ·obtain⟨k,hk,rfl⟩:=ax.mp d;obtain⟨q,b,rfl⟩:=ax.mp hk;rw[Eu G.k b];have:=G.ne q b;have hp:=(bx q.2).length_eq;cases j:aV q.2 with
  |nil=>rw[j]at hp;exact absurd (cb.mp hp.symm) this
  |cons _ _=>rfl
theorem dH(h:n<=100000):uY n:=ZH h ()
theorem P8{a b:AZ}(h:a.Perm b):aV a=aV b:=xW ((bx a).trans (h.trans (bx b).symm)) (f9 a) (f9 b)
structure SL (L:List AZ):Prop where
 nd:L.flatten.Nodup
 ne:∀x∈L,x≠[]
 ln:L.flatten.length<60
theorem SL.perm{a:O AZ}(h:SL L)(p:L.Perm a):SL a:=⟨(iZ p).nodup_iff.mp h.nd,λx hx=>h.ne x (p.mem_iff.mpr hx),by rw[<-(iZ p).length_eq];exact h.ln⟩
theorem SL.of{a:O AZ}(h:SL L)(p:L.flatten.Perm a.flatten)(n:∀x∈a,x≠[]):SL a:=⟨p.nodup_iff.mp h.nd,n,by rw[<-p.length_eq];exact h.ln⟩
theorem ZK:∀{L:O AZ},(∀x∈L,x≠[])->L.length<=L.flatten.length
 |[],_=>zl _
 |x::L,h=>by
  have:=ZK λy a=>h y (zi _ a);have hx:0<x.length:=bc.mpr (h x zh);rw[Zp,zC,Qr];omega
theorem SL.ll(h:SL L):L.length<60:=JY (ZK h.ne) h.ln
theorem SL.apart{x:AZ}(h:SL (x::L)):∀y∈L,y≠x:=λy b e=>by
 have a:=h.nd;rw[Zp]at a;have hx:=h.ne x zh;obtain⟨z,r,rfl⟩:=hQ hx;exact(List.nodup_append.mp a).2.2 z zh z (iJ.mpr ⟨y,b,e▸zh⟩) rfl
theorem SL.tl{x:AZ}(h:SL (x::L)):SL L:=⟨(List.nodup_append.mp (Zp▸h.nd)).2.1,λy a=>h.ne y (zi _ a),by have:=h.ln;rw[Zp,zC]at this;omega⟩
theorem ZL{x:AZ}(h:∀y∈L,y≠x):(x::L).filter (λa:AZ=>(!decide (a=x)))=L:=by
 rw[yb (by simp)];exact gQ.mpr λy b=>by simp[h y b]
theorem ZM{x y:AZ}(hx:∀z∈L,z≠x)(c:∀z∈L,z≠y):(x::y::L).filter (λb:AZ=>(!cH b [x,y]))=L:=by
 rw[yb (by simp[cH]),yb (by simp[cH])];exact gQ.mpr λz a=>by simp[cH,hx z a,c z a]
theorem KR{x:AZ}(h:x≠[]):x.isEmpty=false:=by cases x with|nil=>exact absurd S h|cons _ _=>rfl
theorem T4{x:AZ}(h:x≠[]):aV x≠[]:=λe=>h (by have:=(bx x).length_eq;rw[e]at this;exact cb.mp this.symm)
theorem SL.mrg{x y:AZ}(h:SL (x::y::L)):SL (aV (x++y)::L):=h.of (by
 rw[Zp,Zp,Zp,<-QN];exact(bx _).symm.append_right _) λz a=>by
 rcases List.mem_cons.mp a with q|q
 ·rw[q];exact T4 λe=>h.ne x zh (List.append_eq_nil_iff.mp e).1
 ·exact h.ne z (zi _ (zi _ q))
structure PN (N:AZ):Prop where
 nd:N.Nodup
 ln:N.length<=30
 so:aV N=N
structure PJ (N:AZ) (A:List AZ):Prop where
 W:Wd N A
 pm:A.flatten.Perm N
section
variable{A B:O AZ}{m:O (AJ×AJ)}
theorem PJ.sl(n:PN N)(a:PJ N A):SL A:=⟨a.W.nd,a.W.ne,by rw[a.pm.length_eq];have:=n.ln;omega⟩
end
theorem zQ:∀{L:O AZ} {k:Nat} {x y:AZ},L[k]?=Z x->((L.set k y).flatten++x).Perm (L.flatten++y)
 |[],_,_,_,h=>by simp at h
 |z::L,0,x,y,h=>by
  cases h;rw[lP,Zp,Zp];refine(de).trans ?_;rw[QN];exact List.Perm.append_left z de
 |z::L,k+1,x,y,h=>by
  rw[lS,Zp,Zp,QN,QN];exact(zQ (L:=L) (k:=k) (by simpa using h)).append_left z
theorem FQ:∀(l:AZ) (k:Nat) (h:k<l.length),(l[k]::l.eraseIdx k).Perm l
 |x::l,0,_=>Kk _
 |x::l,k+1,h=>by
  rw[kM];exact(List.Perm.swap x _ _).trans ((FQ l k (by simpa using h)).cons x)
theorem ZP{x:AZ}(hk:L[k]?=Z x)(a:j<x.length):(x.getD j ""::(Kc L k j).flatten).Perm L.flatten:=by
 unfold Kc;rw[yx,getD_some hk,getD_some (zo a)];have p:=zQ (y:=x.eraseIdx j) hk;have q:(x[j]::x.eraseIdx j).Perm x:=FQ x j a;have:((x[j]::(L.set k (x.eraseIdx j)).flatten)++x.eraseIdx j).Perm (L.flatten++x.eraseIdx j):=by
  refine KS ?_ p;rw[mB];exact List.perm_middle.symm.trans (q.append_left _)
 exact(hX _).mp this
theorem ZQ{x:Int}{nm:AJ}:(Be L x nm).flatten.Perm (nm::L.flatten):=by
 unfold Be;split
 ·rw[JE];exact hY nm L.flatten
 ·rename_i q;have a:L≠[]:=λz=>q (by simp[z]);have hk:mD (x / 512) L.length<L.length:=qR (bc.mpr a);have e:L[mD (x / 512) L.length]?=Z L[mD (x / 512) L.length]:=zo hk;rw[getD_some e];have p:=zQ (y:=L[mD (x / 512) L.length]++[nm]) e;refine(hX L[mD (x / 512) L.length]).mp (p.trans ?_);rw[<-QN];exact(hY nm _)
theorem V6(g:GN L)(x:Int):(lX L x).flatten.Perm L.flatten:=by
 unfold lX;split
 ·exact Kk _
 ·rename_i a;have e:=Er (x:=x) a;have hp:Em L x≠[]:=g.ne _ (ZN e);exact ZQ.trans (ZP e (qR (bc.mpr hp)))
theorem Iz:∀(zs:O Int) {L:O AZ},GN L->(zs.foldl lX L).flatten.Perm L.flatten
 |[],_,_=>Kk _
 |z::zs,_,g=>(Iz zs (g.step z).1).trans (V6 g z)
theorem b9{A:O AZ}(n:PN N)(a:PJ N A){xs:O Int}(hx:7<xs.length):oK A xs/\PJ N (oJ A xs):=by
 have f:=a.pm.length_eq;have e:=n.ln;have g:GN A:=⟨a.W.ne,by omega⟩;have p:=Iz (wN xs) g;have g2:=GN.fold (wN xs) g;refine⟨⟨a.W.ne,by omega,jH (k:=7) hx⟩,?_⟩;show PJ N (Ij A xs);unfold Ij;generalize (wN xs).foldl lX A=L at p g2;have b:(fO (L.map aV)).flatten.Perm N:=(iZ (gU _)).trans (wO.trans (p.trans a.pm));refine⟨⟨λs c=>?_,λs c=>?_,b.nodup_iff.mpr n.nd,λx hx=>b.mem_iff.mp hx,pF _⟩,b⟩
 ·obtain⟨z,d,rfl⟩:=ax.mp ((gU _).mem_iff.mp c);exact T4 (g2.ne z d)
 ·obtain⟨z,d,rfl⟩:=ax.mp ((gU _).mem_iff.mp c);exact f9 z
theorem KY{X:AZ}(a:X.Nodup)(b:X.length<=30):PN (aV X):=⟨(bx X).nodup_iff.mpr a,by rw[(bx X).length_eq];exact b,P8 (bx X)⟩
theorem Pb(n:PN N){xs:O Int}(h:xs.length=16):dN N xs/\PJ N (bU N xs):=by
 have a:=n.ln;obtain⟨d,W,p⟩:=RD N xs n.nd () () ();exact⟨d,W,p⟩
def DC:AZ:=(rng 0 16).map λa:Int=>(Txt.mul (ch ("ab":AJ) (a / (8:Int))) (1+(a%8)))
theorem ZR:DC.Nodup:=by unfold DC;decide +kernel
theorem KZ:DC.length=16:=by unfold DC;rw[zk,lF]
theorem R1:∀x∈DC,Nm x:=by
 unfold DC Nm Lw;decide +kernel
theorem a0(b:O Int)(a:Int)(H:0<=a)(h1:a<=100):qy b a/\∃N A B,nO b a=(N,A,B)/\PN N/\(∀x∈N,Nm x)/\PJ N A/\PJ N B:=by
 obtain⟨l,i,_⟩:=KQ (bM b a) 12 () ();obtain⟨d2,f,_⟩:=KQ (bM b (a+1)) 16 () ();obtain⟨j,g,_⟩:=KQ (bM b (a+2)) 16 () ();have c1:=KN b a H ();have c2:=KN b (a+1) () ();have c3:=KN b (a+2) () ();unfold qy nO;dsimp only;rw[LL];generalize bJ (bM b a) 12=xs at l i;generalize bJ (bM b (a+1)) 16=ys at d2 f;generalize bJ (bM b (a+2)) 16=zs at j g;have i:xs.length=12:=i;have f:ys.length=16:=f;have g:zs.length=16:=g;obtain⟨s,C⟩:=jT (An xs 6) (m:=11) ();generalize An xs 6%11=many at s C;obtain⟨q,G,_⟩:=Zz xs () many s ();have w:=ZD xs many ();have p0:PN (aV (dG xs many)):=KY w (by rw[G];omega);have y:(rng 0 16).length<=100000/\∀d∈(rng 0 16),(In ("ab":AJ).length (d / (8:Int))/\((1+(d%8))<=1000 ∧ -1000<=(1+(d%8))/\(ch ("ab":AJ) (d / (8:Int))).length<=1000)):=by
  refine⟨by rw[lF];decide,λv F=>?_⟩;obtain⟨k,hk,rfl⟩:=u5 F;have:("ab":AJ).length=2:=by decide
  rw[this,zu];exact⟨BC () (),by omega,by omega,by decide⟩
 have t:∀N,PN N->((dN N ys)/\((dN N zs)/\(In xs.length 7/\((decide (((An xs 7)%3)=1))=true->(oK (bU N ys) zs)))))/\PJ N (bU N ys)/\PJ N (if(decide (((An xs 7)%3)=1))=true then oJ (bU N ys) zs else bU N zs):=λN n=>by
  obtain⟨e1,u⟩:=Pb n f;obtain⟨e2,E⟩:=Pb n g;obtain⟨e3,D⟩:=b9 n u (xs:=zs) ();refine⟨⟨e1,e2,jH (k:=7) (),λ_=>e3⟩,u,?_⟩;split
  ·exact D
  ·exact E
 have e:In xs.length 6:=jH (k:=6) ();by_cases c:(decide ((((An xs 6) / (11:Int))%16)=7))=true
 ·rw[zt c];obtain⟨h,p,o⟩:=t (aV DC) (KY ZR (by rw[KZ];decide));exact⟨⟨⟨c1,l⟩,e,⟨q,by omega⟩,⟨e,λ_=>⟨y,by show DC.length<64;rw[KZ];decide⟩⟩,⟨c2,d2⟩,⟨c3,j⟩,h⟩,aV DC,_,_,rfl,KY ZR (by rw[KZ];decide),λx hx=>R1 x ((bx _).mem_iff.mp hx),p,o⟩
 ·rw[ZA c];obtain⟨h,p,o⟩:=t _ p0;exact⟨⟨⟨c1,l⟩,e,⟨q,by omega⟩,⟨e,λz=>absurd z c⟩,⟨c2,d2⟩,⟨c3,j⟩,h⟩,_,_,_,rfl,p0,λx hx=>ZJ xs many () x ((bx _).mem_iff.mp hx),p,o⟩
def Do(l:AZ):Prop:=l.length<=31/\∀x∈l,Nm x
structure Co (d:Dt):Prop where
 dl:j4 d
 ds:uH d
 eq:cF d=cD d
 gd:cD d=true->∃l,d=eT eS l/\l.length<=31/\l≠[]/\l.Pairwise λa b=>Vn a b=true
theorem V7(d:Dt)(a:AJ)(n:Int)(h:n<=1000):j6 d a n:=by
 unfold j6;intro c;obtain⟨x,rfl⟩:=VF c;refine⟨⟨rfl,λ_=>S⟩,λb=>⟨⟨rfl,?_⟩,λs h=>RA h⟩⟩;rw[RC];have h2:(x.length:Int)<=n:=yn ((ZZ _ _).mp b).2;omega
theorem ZS(d:Dt):vJ d:=V7 d _ 8 ()
theorem T5(h:eN d=false):fQ d=false:=by
 unfold fQ j5;rw[h];rfl
theorem ER(l:AZ):ux (eT eS l)=l:=by
 show(l.map eS).map Z7=l;rw[qa];exact ka l
theorem ZV(xs:AZ)(h:xs.length<=100):nG xs:=by
 refine⟨⟨⟨by omega,by omega⟩,by rw[lF];omega⟩,λz a=>?_⟩;obtain⟨k,hk,rfl⟩:=u5 a;exact⟨BC () (),BC () ()⟩
theorem dF{l:AZ}(h:Do l):Co (eT eS l):=by
 have g:(l.map eS).length<=100000:=by rw[zk];have:=h.1;omega
 have a1:((FZ (eT eS l)).map λf:Dt=>(eN f)).all id=true:=by
  rw[QI];intro b a;obtain⟨d,c,rfl⟩:=ax.mp a;obtain⟨x,hx,rfl⟩:=ax.mp (show d∈l.map eS from c);rfl
 have a2:((FZ (eT eS l)).map λf:Dt=>(fQ f)).all id=true:=by
  rw[QI];intro b a;obtain⟨d,c,rfl⟩:=ax.mp a;obtain⟨x,hx,rfl⟩:=ax.mp (show d∈l.map eS from c);exact TR (h.2 x hx)
 have r:nF l=mG l:=rfl;have t:cD (eT eS l)=(mG l&&decide (l≠[])):=by
  unfold cD fX;rw[a2,ER,r];show(true&&(true&&mG l)&&decide ((0:Int)<((l.map eS).length:Int)))=_;rw[kb,kb,zk];congr 1;cases l with
  |nil=>rfl
  |cons x i=>exact(qS (by rw[Qr];omega)).trans (qS (mw x i)).symm
 have e:Z6 (eT eS l) (Dt.tup [])=decide (l=[]):=by
  cases l with
  |nil=>rfl
  |cons x r=>rfl
 have t2:cF (eT eS l)=(mG l&&decide (l≠[])):=by
  unfold cF;rw[a1,ER,e,<-VG];show(if(!true||(decide (l=[])||!true))=true then false else mG l)=_;by_cases q:l=[]
  ·subst q;rfl
  ·rw[ZU q,qS q];simp
 refine⟨⟨λ_=>⟨⟨?_,?_⟩,λ_=>⟨rfl,g⟩⟩,λ_=>?_⟩,⟨λ_=>⟨⟨⟨rfl,g⟩,λv _=>ZS v⟩,λ_=>?_⟩,λ_=>S⟩,t2.trans t.symm,λz=>?_⟩
 ·cases l with
  |nil=>rfl
  |cons x r=>rfl
 ·exact ZH (y4 _ _) ()
 ·rw[ER];exact⟨rfl,rfl,by have:=h.1;omega,JY (M6 l) (by have:=h.1;omega)⟩
 ·rw[ER];exact⟨rfl,ZV l (by have:=h.1;omega)⟩
 ·rw[t,ZZ,QA]at z;exact⟨l,rfl,h.1,z.2,(ur l).mp z.1⟩
theorem nH(h:Ap d=false):Co d:=by
 have t1:fX d=false:=by unfold fX;rw[h];rfl
 have t:cD d=false:=by unfold cD;rw[t1];rfl
 have t2:cF d=false:=by unfold cF;rw[h];rfl
 refine⟨⟨λz=>?_,λz=>?_⟩,⟨λz=>?_,λz=>?_⟩,t2.trans t.symm,λz=>?_⟩
 ·rw[h]at z;cases z
 ·rw[h]at z;cases z
 ·rw[h]at z;cases z
 ·rw[t1]at z;cases z
 ·rw[t]at z;cases z
theorem yL{x:Dt}(h:eN x=false):Co (.tup [x]):=by
 have t1:fX (.tup [x])=false:=by
  unfold fX;show(true&&(([fQ x].all id)&&_))=false;rw[T5 h];rfl
 have a1:((FZ (.tup [x])).map λa:Dt=>(eN a)).all id=false:=by
  show[eN x].all id=false;rw[h];rfl
 have a2:((FZ (.tup [x])).map λa:Dt=>(fQ a)).all id=false:=by
  show[fQ x].all id=false;rw[T5 h];rfl
 have t:cD (.tup [x])=false:=by unfold cD;rw[t1];rfl
 have t2:cF (.tup [x])=false:=by unfold cF;rw[a1];rfl
 refine⟨⟨λz=>⟨⟨rfl,ZH (y4 _ _) ()⟩,λ_=>⟨rfl,(by show 1<=100000;omega)⟩⟩,λz=>?_⟩,⟨λz=>⟨⟨⟨rfl,(by show 1<=100000;omega)⟩,λv _=>ZS v⟩,λz=>?_⟩,λz=>?_⟩,t2.trans t.symm,λz=>?_⟩
 ·rw[a1]at z;cases z
 ·rw[a2]at z;cases z
 ·rw[t1]at z;cases z
 ·rw[t]at z;cases z
structure RG (N:AZ) (J:List AZ) (d:Dt):Prop where
 dd:iz J d
 dt:oN J d
 eq:gA J d=bT J d
 nx:∀K,bT J d=some K->PJ N K
theorem uK(a:iz J d)(dn:bT J d=U)(ds:iB d)(tf:dD d=true->d=dW (cW d)/\iW (cW d).2.1 (cW d).2.2/\C5 J d=true):RG N J d:=
 ⟨a,⟨λ_=>⟨ds,tf⟩,λh=>by rw[dn]at h;cases h⟩,by unfold gA;rw[dn];rfl,λK h=>by rw[dn]at h;cases h⟩
theorem P'(h:iU d 3=false)(y:AJ):iV d y 3/\cI d y 3=false:=by
 refine⟨⟨λz=>Tv z,λz=>?_⟩,?_⟩
 ·rw[h]at z;cases z
 ·unfold cI;rw[h];rfl
theorem T6(w:∀y:AJ,y ="join" ∨ y ="split" → iV d y 3/\cI d y 3=false):iB d/\dD d=false:=by
 obtain⟨a,b⟩:=w "join" (.inl S);obtain⟨a2,b2⟩:=w "split" (.inr S);refine⟨⟨⟨a,λ_=>a2⟩,λz=>?_⟩,?_⟩
 ·rw[b,b2]at z;cases z
 ·unfold dD;rw[b,b2];rfl
theorem gg(h:iU d 3=false):RG N J d:=by
 obtain⟨a,b⟩:=T6 λy _=>P' h y;have c:((!(Ap d))||((!decide ((wK d)=3))||(!J5 (qz d 0) ([("join":AJ),("split":AJ)].map eS))))=true:=by
  unfold iU at h;cases e:Ap d with
  |false=>rfl
  |true=>
   rw[e,kb]at h;rw[h];rfl
 refine uK ⟨λz=>⟨Tv (by simpa using z),λy=>?_⟩,λz=>?_⟩ (by unfold bT;rw[zt c]) a λz=>?_
 ·unfold iU at h;have z:Ap d=true:=by simpa using z
  have y:decide (wK d=3)=true:=by simpa using y
  rw[z,y]at h;cases h
 ·rw[c]at z;cases z
 ·rw[b]at z;cases z
structure Wk (w:Dt):Prop where
 n:J5 w ([("join":Str),("split":Str)].map eS)=false
 D:Vq w ([("join":Str),("split":Str)].map eS)
 s:eN w=true->∀y:Str,y ="join" ∨ y ="split" → EU w (eS y)/\Z6 w (eS y)=false
theorem Op{w A B:Dt}(h:Wk w):RG N J (.tup [w,A,B]):=by
 have a:qz (.tup [w,A,B]) 0=w:=Zg w [A,B];obtain⟨f,g⟩:=T6 (d:=.tup [w,A,B]) λy b=>by
  refine⟨⟨λ_=>S,λ_=>⟨by show In 3 0;exact BC () (),λz=>⟨by show In 3 0;exact BC () (),?_⟩⟩⟩,?_⟩
  ·rw[a]at z ⊢;exact(h.s z y b).1
  ·unfold cI;rw[a];cases e:eN w with
   |false=>simp
   |true=>rw[(h.s e y b).2];simp
 have c:((!(Ap (.tup [w,A,B])))||((!decide ((wK (.tup [w,A,B]))=3))||(!J5 (qz (.tup [w,A,B]) 0) ([("join":AJ),("split":AJ)].map eS))))=true:=by
  rw[a,h.n];rfl
 refine uK ⟨λz=>⟨rfl,λy=>⟨by show In 3 0;exact BC () (),by rw[a];exact h.D⟩⟩,λz=>?_⟩ (by unfold bT;rw[zt c]) f λz=>?_
 ·rw[c]at z;cases z
 ·rw[g]at z;cases z
theorem LJ(n:PN N)(d:∀s∈L,s≠[])(c:∀s∈L,s.Pairwise FW)(p:L.flatten.Perm N):PJ N (fO L):=by
 have a:(fO L).flatten.Perm N:=(iZ (gU _)).trans p;exact⟨⟨λs b=>d s ((gU _).mem_iff.mp b),λs b=>c s ((gU _).mem_iff.mp b),a.nodup_iff.mpr n.nd,λx hx=>a.mem_iff.mp hx,pF _⟩,a⟩
theorem My{l:AZ}(h:l.Pairwise λa b=>Vn a b=true):l.Pairwise FW:=h.imp λ{a b} q=>((C7 a b).mp q).1
abbrev T3(w:AJ)(x y:AZ):Dt:=.tup [eS w,eT eS x,eT eS y]
theorem Ph(w:AJ)(x y:AZ):cW (T3 w x y)=(w,x,y):=by
 show(Z7 (qz (T3 w x y) 0),ux (qz (T3 w x y) 1),ux (qz (T3 w x y) 2))=_;rw[Zg,NV,NU,ER,ER];rfl
theorem ZW(n:PN N)(a:PJ N J){x y:AZ}(hx:x.length<=31)(Q:y.length<=31)(nx:x≠[])(M:y≠[])(t:dj J ("join",x,y)->iz J (T3 "join" x y))(o:bT J (T3 "join" x y)=bZ J ("join",x,y))(ds:iB (T3 "join" x y))(ts:dD (T3 "join" x y)=true):RG N J (T3 "join" x y):=by
 have e:iW x y:=⟨dH (),by rw[zC];omega⟩;have k:¬ (decide (("join":AJ) ="split")=true):=by decide
 have es:Wi (T3 "join" x y)=([x,y],[fG x y]):=by
  unfold Wi;rw[Ph];exact ZA k
 have l:C5 J (T3 "join" x y)=!((!decide (x=y))&&((cH x J)&&(cH y J))):=by
  unfold C5;rw[es,Ph];show(decide (x=y)||!(cH x J&&(cH y J&&true)))=_;cases decide (x=y)<;>cases cH x J<;>cases cH y J<;>rfl
 have q0:((decide (("join":AJ)=("join":AJ)))&&((!decide (x=y))&&((cH x J)&&(cH y J))))=((!decide (x=y))&&((cH x J)&&(cH y J))):=by
  rw[qS rfl,kb]
 cases c:((!decide (x=y))&&((cH x J)&&(cH y J)))with
 |false=>
  have tb:bZ J ("join",x,y)=U:=by
   unfold bZ;dsimp only;rw[q0,c,ZA zI];exact ZA (by rw[ZU (by decide:¬ ("join":AJ) ="split"),kK];exact zI)
  refine uK (t ⟨e,λz=>?_,λ_ z=>?_⟩) (o.trans tb) ds λ_=>⟨?_,?_,?_⟩
  ·dsimp only at z;rw[q0,c]at z;cases z
  ·dsimp only at z;rw[ZU (by decide:¬ ("join":AJ) ="split")]at z;cases z
  ·rw[Ph]
  ·rw[Ph];exact e
  ·rw[l,c];rfl
 |true=>
  obtain⟨c1,c2⟩:=gi.mp c;obtain⟨c2,c3⟩:=gi.mp c2;have w:x≠y:=by simpa using c1
  have I:x∈J:=DN.mp c2;have E:y∈J:=DN.mp c3;have p:J.Perm (x::y::(J.erase x).erase y):=(y9 I).trans ((y9 ((lb (Q2 w)).mpr E)).cons x);generalize (J.erase x).erase y=L at p;have h:SL (x::y::L):=(a.sl n).perm p;have B:=λz d=>h.apart z (zi _ d);have H:=h.tl.apart;have F:(J.filter λb:AZ=>(!cH b [x,y])).Perm L:=by
   have:=p.filter λb:AZ=>(!cH b [x,y]);rwa [ZM B H]at this
  have P:=(a.sl n).ll;have fl:=Za (λb:AZ=>(!cH b [x,y])) J;have C:aV (x++y)≠[]:=h.mrg.ne _ zh;have j:∀z∈((J.filter λb:AZ=>(!cH b [x,y]))++[aV (x++y)]),z≠[]:=λz d=>by
   rcases aJ.mp d with q|q
   ·exact a.W.ne z (cw.mp q).1
   ·rw[au.mp q];exact C
  have v:((J.filter λb:AZ=>(!cH b [x,y]))++[aV (x++y)]).length<64:=by rw[zC,qc];omega
  have tb:bZ J ("join",x,y)=Z (fO ((J.filter λb:AZ=>(!cH b [x,y]))++[aV (x++y)])):=by
   unfold bZ;dsimp only;rw[q0,c,zt rfl,ka]
  have D:dj J ("join",x,y):=by
   unfold dj;dsimp only;rw[ka,ka];refine⟨e,λ_=>⟨⟨by omega,dH (by rw[qc];omega)⟩,v,λz d=>KR (j z d)⟩,λz=>?_⟩;rw[q0,c]at z;cases z
  have u:C5 J (T3 "join" x y)=false:=by rw[l,c];rfl
  have tt:gq J (T3 "join" x y)=fO ((J.filter λb:AZ=>(!cH b [x,y]))++[aV (x++y)]):=by
   unfold gq;rw[ts];dsimp only;rw[Ph];dsimp only;rw[ZA k];dsimp only;have i:((decide (x=y))||(!(([x,y].map λf:AZ=>(cH f J)).all id)))=false:=by
    have:=u;unfold C5 at this;rw[es,Ph]at this;exact this
   rw[i,ka];rfl
  have G:lO J (T3 "join" x y):=by
   refine⟨ds,(λz=>by rw[ts]at z;cases z),λ_=>?_⟩;rw[Ph];refine⟨rfl,e,?_⟩;dsimp only;rw[ZA k];dsimp only;have i:((decide (x=y))||(!(([x,y].map λf:AZ=>(cH f J)).all id)))=false:=by
    have:=u;unfold C5 at this;rw[es,Ph]at this;exact this
   rw[i];rw[ka];exact⟨λ_=>(by show 2<=100000;omega),(λz=>by cases z),λ_=>⟨⟨by omega,dH (by rw[qc];omega)⟩,v,λz d=>KR (j z d)⟩⟩
  have g:=o.trans tb;refine⟨t D,⟨(λz=>by rw[g]at z;cases z),λ_=>G⟩,?_,λK m=>?_⟩
  ·unfold gA;rw[g,tt];rfl
  ·rw[g]at m;cases m;refine LJ n j (λs A=>?_) ?_
   ·rcases aJ.mp A with q|q
    ·exact a.W.so s (cw.mp q).1
    ·rw[au.mp q];exact f9 _
   ·refine KS ?_ a.pm;refine(iZ (F.append_right _)).trans (KS ?_ (iZ p).symm);rw[JE,kt,Zp,Zp,<-QN];exact de.trans ((bx _).append_right _)
theorem V8(n:PN N)(a:PJ N J){x y:AZ}(hx:x.length<=31)(Q:y.length<=31)(nx:x≠[])(m:y≠[])(D:x.Pairwise FW)(E:y.Pairwise FW)(t:dj J ("split",x,y)->iz J (T3 "split" x y))(o:bT J (T3 "split" x y)=bZ J ("split",x,y))(ds:iB (T3 "split" x y))(ts:dD (T3 "split" x y)=true):RG N J (T3 "split" x y):=by
 have g:iW x y:=⟨dH (),by rw[zC];omega⟩;have k:decide (("split":AJ) ="split")=true:=qS rfl;have es:Wi (T3 "split" x y)=([aV (x++y)],[x,y]):=by
  unfold Wi;rw[Ph];exact zt k
 have M:C5 J (T3 "split" x y)=(decide (x=y)||!(cH (aV (x++y)) J)):=by
  unfold C5;rw[es,Ph];show(decide (x=y)||!(cH (aV (x++y)) J&&true))=_;rw[kX]
 have q1:((decide (("split":AJ)=("join":AJ)))&&((!decide (x=y))&&((cH x J)&&(cH y J))))=false:=by
  rw[ZU (by decide:¬ ("split":AJ) ="join"),kK]
 have q2:((decide (("split":AJ)=("split":AJ)))&&((cH (aV (x++y)) J)&&((!decide (x=([]:AZ)))&&(!decide (y=([]:AZ))))))=cH (aV (x++y)) J:=by
  rw[qS rfl,ZU nx,ZU m,kb];show(cH (aV (x++y)) J&&true)=_;rw[kX]
 cases c:cH (aV (x++y)) J with
 |false=>
  have tb:bZ J ("split",x,y)=U:=by
   unfold bZ;dsimp only;rw[q1,q2,c,ZA zI,ZA zI]
  refine uK (t ⟨g,λz=>?_,λ_ z=>?_⟩) (o.trans tb) ds λ_=>⟨?_,?_,?_⟩
  ·dsimp only at z;rw[q1]at z;cases z
  ·dsimp only at z;rw[q2,c]at z;cases z
  ·rw[Ph]
  ·rw[Ph];exact g
  ·rw[M,c];exact Bool.or_true _
 |true=>
  have v:aV (x++y)∈J:=DN.mp c;have p:J.Perm (aV (x++y)::J.erase (aV (x++y))):=y9 v;generalize J.erase (aV (x++y))=L at p;have h:SL (aV (x++y)::L):=(a.sl n).perm p;have C:=h.apart;have I:(x++y).Nodup:=(bx _).nodup_iff.mp (Et a.W.nd v);have A:x≠y:=λe=>by
   obtain⟨z,r,rfl⟩:=hQ nx;exact(List.nodup_append.mp I).2.2 z zh z (e▸zh) rfl
  have G:(J.filter λd:AZ=>(!decide (d=aV (x++y)))).Perm L:=by
   have:=p.filter λd:AZ=>(!decide (d=aV (x++y)));rwa [ZL C]at this
  have P:=(a.sl n).ll;have fl:=Za (λd:AZ=>(!decide (d=aV (x++y)))) J;have j:∀z∈((J.filter λd:AZ=>(!decide (d=aV (x++y))))++[x,y]),z≠[]:=λz f=>by
   rcases aJ.mp f with q|q
   ·exact a.W.ne z (cw.mp q).1
   ·rcases List.mem_cons.mp q with q|q
    ·rw[q];exact nx
    ·rw[au.mp q];exact m
  have w:((J.filter λd:AZ=>(!decide (d=aV (x++y))))++[x,y]).length<64:=by
   rw[zC];show _+2<64;omega
  have tb:bZ J ("split",x,y)=Z (fO ((J.filter λd:AZ=>(!decide (d=aV (x++y))))++[x,y])):=by
   unfold bZ;dsimp only;rw[q1,q2,c,ZA zI,zt rfl,ka]
  have F:dj J ("split",x,y):=by
   unfold dj;dsimp only;rw[ka,ka];refine⟨g,λz=>?_,λ_ _=>⟨⟨by omega,dH (by show _+2<=100000;omega)⟩,w,λz f=>KR (j z f)⟩⟩;rw[q1]at z;cases z
  have u:((decide (x=y))||(!(([aV (x++y)].map λb:AZ=>(cH b J)).all id)))=false:=by
   show((decide (x=y))||(!(cH (aV (x++y)) J&&true)))=false;rw[ZU A,c];rfl
  have fe:(λb:AZ=>(!cH b [aV (x++y)]))=λd:AZ=>(!decide (d=aV (x++y))):=by
   funext d;unfold cH;simp only[au]
  have tt:gq J (T3 "split" x y)=fO ((J.filter λd:AZ=>(!decide (d=aV (x++y))))++[x,y]):=by
   unfold gq;rw[ts];dsimp only;rw[Ph];dsimp only;rw[zt k];dsimp only;show(if(false=true)then _ else(if((decide (x=y))||(!(([aV (x++y)].map λb:AZ=>(cH b J)).all id)))=true then _ else fO (((J.filter λb:AZ=>(!cH b [aV (x++y)])).map λb:AZ=>b)++[x,y])))=_;rw[u,fe,ka];rfl
  have H:lO J (T3 "split" x y):=by
   refine⟨ds,(λz=>by rw[ts]at z;cases z),λ_=>?_⟩;rw[Ph];refine⟨rfl,g,?_⟩;dsimp only;rw[zt k];dsimp only;show _/\(((decide (x=y))||(!(([aV (x++y)].map λb:AZ=>(cH b J)).all id)))=true->False)/\(((decide (x=y))||(!(([aV (x++y)].map λb:AZ=>(cH b J)).all id)))=false->((J.length<=100000/\uY (((J.filter λb:AZ=>(!cH b [aV (x++y)])).map λb:AZ=>b).length+2))/\((((J.filter λb:AZ=>(!cH b [aV (x++y)])).map λb:AZ=>b)++[x,y]).length<64/\∀z∈(((J.filter λb:AZ=>(!cH b [aV (x++y)])).map λb:AZ=>b)++[x,y]),z.isEmpty=false)));rw[u,fe];rw[ka];exact⟨λ_=>(by show 1<=100000;omega),(λz=>by cases z),λ_=>⟨⟨by omega,dH ()⟩,w,λz f=>KR (j z f)⟩⟩
  have i:=o.trans tb;refine⟨t F,⟨(λz=>by rw[i]at z;cases z),λ_=>H⟩,?_,λK l=>?_⟩
  ·unfold gA;rw[i,tt];rfl
  ·rw[i]at l;cases l;refine LJ n j (λs B=>?_) ?_
   ·rcases aJ.mp B with q|q
    ·exact a.W.so s (cw.mp q).1
    ·rcases List.mem_cons.mp q with q|q
     ·rw[q];exact D
     ·rw[au.mp q];exact E
   ·refine KS ?_ a.pm;refine(iZ (G.append_right _)).trans (KS ?_ (iZ p).symm);rw[JE,show[x,y].flatten=x++y by rw[Zp,kt],Zp];exact de.trans ((bx _).symm.append_right _)
theorem yM(n:PN N)(a:PJ N J){w:AJ}(g:w ="join" ∨ w ="split"){A B:Dt}(e:Co A)(d:Co B):RG N J (.tup [eS w,A,B]):=by
 have f:qz (.tup [eS w,A,B]) 0=eS w:=Zg _ _;have i1:qz (.tup [eS w,A,B]) 1=A:=NV _ _ _;have i2:qz (.tup [eS w,A,B]) 2=B:=NU _ _ _ _;have i:In 3 0:=BC () ();have l:In 3 1:=BC () ();have m:In 3 2:=BC () ();have p:∀y:AJ,iV (.tup [eS w,A,B]) y 3:=λy=>⟨λ_=>S,λ_=>⟨i,λ_=>⟨i,by rw[f];exact Tz w y⟩⟩⟩;have o:∀y:AJ,cI (.tup [eS w,A,B]) y 3=(w==y):=λy=>by
  unfold cI;rw[f,Tw];rfl
 have t:((!(cI (.tup [eS w,A,B]) ("join":AJ) 3))&&(!(cI (.tup [eS w,A,B]) ("split":AJ) 3)))=false:=by
  rw[o,o];rcases g with rfl|rfl<;>decide
 have ts:dD (.tup [eS w,A,B])=(cD A&&cD B):=by
  unfold dD;rw[t,i1,i2];rfl
 have ds:iB (.tup [eS w,A,B]):=⟨⟨p _,λ_=>p _⟩,λ_=>⟨⟨l,by rw[i1];exact e.ds⟩,λ_=>⟨m,by rw[i2];exact d.ds⟩⟩⟩;have C:J5 (eS w) ([("join":AJ),("split":AJ)].map eS)=true:=by
  rcases g with rfl|rfl<;>decide
 have u:Vq (eS w) ([("join":AJ),("split":AJ)].map eS):=λy v=>by
  obtain⟨s,D,rfl⟩:=ax.mp v;exact⟨rfl,ZH (y4 _ _) (by show 1<=60;omega)⟩
 have c0:((!(Ap (.tup [eS w,A,B])))||((!decide ((wK (.tup [eS w,A,B]))=3))||(!J5 (qz (.tup [eS w,A,B]) 0) ([("join":AJ),("split":AJ)].map eS))))=false:=by
  rw[f,C];rfl
 have td:bT J (.tup [eS w,A,B])=if(cD A&&cD B)=true then bZ J (cW (.tup [eS w,A,B]))else U:=by
  unfold bT;rw[c0,ZA zI,i1,i2,e.eq,d.eq];cases cD A<;>cases cD B<;>rfl
 have c:((cD A&&cD B)=true->.tup [eS w,A,B]=dW (cW (.tup [eS w,A,B]))/\dj J (cW (.tup [eS w,A,B])))->iz J (.tup [eS w,A,B]):=λh=>
  ⟨λ_=>⟨rfl,λ_=>⟨i,by rw[f];exact u⟩⟩,λ_=>⟨⟨⟨l,by rw[i1];exact e.dl⟩,λ_=>⟨m,by rw[i2];exact d.dl⟩⟩,λz=>h (by
   rw[i1,i2,e.eq,d.eq]at z;cases e1:cD A<;>cases e2:cD B<;>rw[e1,e2]at z<;>first|rfl|cases z)⟩⟩
 cases b:(cD A&&cD B)with
 |false=>
  rw[b]at td ts c;exact uK (c (λz=>by cases z)) td ds (λz=>by rw[ts]at z;cases z)
 |true=>
  obtain⟨b1,b2⟩:=gi.mp b;obtain⟨x,rfl,j,nx,px⟩:=e.gd b1;obtain⟨y,rfl,q,k,py⟩:=d.gd b2;have td:bT J (T3 w x y)=bZ J (w,x,y):=by
   rw[b]at td;rw[show cW (.tup [eS w,eT eS x,eT eS y])=(w,x,y) from Ph w x y]at td;exact td
  have c:dj J (w,x,y)->iz J (T3 w x y):=λh=>c λ_=>by
   rw[show cW (.tup [eS w,eT eS x,eT eS y])=(w,x,y) from Ph w x y];exact⟨rfl,h⟩
  have ts:dD (T3 w x y)=true:=ts.trans b;rcases g with rfl|rfl
  ·exact ZW n a j q nx k c td ds ts
  ·exact V8 n a j q nx k (My px) (My py) c td ds ts
theorem Lc:Nm ("zzzzzzz":AJ):=by unfold Nm Lw;decide +kernel
structure St (s:uw):Prop where
 w:s.1 ="join" ∨ s.1 ="split"
 a:s.2.1.length<=30/\∀x∈s.2.1,Nm x
 b:s.2.2.length<=30/\∀x∈s.2.2,Nm x
def V9(l:AZ):Prop:=l.length<=30/\∀x∈l,Nm x
theorem V9.good{l:AZ}(h:V9 l):Do l:=⟨by have:=h.1;omega,h.2⟩
theorem RJ(xs:O α)(k:Nat):(BE xs (Z (k:Int)) U).length=xs.length-k:=by
 unfold BE;rw[HT.Bp,HT.Lf,JU,ko];omega
theorem RK(xs:O α)(k:Nat):(BE xs U (Z (k:Int))).length=min k xs.length:=by
 unfold BE;rw[HT.Bp,HT.Lf,JU,ko];omega
theorem WE(xs:O α)(k:Nat):(BE xs (Z (k:Int)) (Z ((k+1:Nat):Int))).length<=1:=by
 unfold BE;rw[HT.Bp,HT.Bp,JU,ko];omega
theorem PJ.g30(n:PN N)(g:∀x∈N,Nm x)(a:PJ N J){c:AZ}(h:c∈J):V9 c:=
 ⟨ZH (Es (Et a.W.nd h) λx hx=>a.pm.mem_iff.mp (iJ.mpr ⟨c,h,hx⟩)) n.ln,λx hx=>g x (a.pm.mem_iff.mp (iJ.mpr ⟨c,h,hx⟩))⟩
theorem T7{xs:O α}{j:Int}{q:Int×α}(h:q∈rW j xs):q.2∈xs/\j<=q.1:=by
 unfold rW at h;obtain⟨i,hi,e⟩:=kH.mp h;rw[List.getElem_zipWith]at e;subst e;exact⟨kq _,by show j<=j+_;omega⟩
theorem yu(xs:O α)(j:Int):(rW j xs).length=xs.length:=by
 unfold rW;rw[List.length_zipWith,md];omega
theorem ZX(n:PN N)(g:∀x∈N,Nm x)(a:PJ N J){xs:O Int}(i:xs.length=9):gK J xs/\St (dJ J xs):=by
 unfold gK dJ;by_cases e:J=[]
 ·rw[qS e,zt rfl];exact⟨(λz=>by cases z),.inl rfl,⟨by show 1<=30;omega,λx hx=>by rw[au.mp hx];unfold Nm Lw;decide +kernel⟩,⟨by show 1<=30;omega,λx hx=>by rw[au.mp hx];unfold Nm Lw;decide +kernel⟩⟩
 ·rw[ZU e,ZA zI];have d:(0:Int)<(J.length:Int):=by have:=bc.mpr e;omega
  have f:In J.length (An xs 0%(J.length:Int)):=jJ d ();have i1:In J.length (An xs 1%(J.length:Int)):=jJ d ();have b:=a.g30 n g (oA f);have h1:=a.g30 n g (oA i1);dsimp only;generalize An J (An xs 0%(J.length:Int))=vg at b;generalize An J (An xs 1%(J.length:Int))=vi at h1;have h:=b.1;refine⟨λ_=>⟨⟨⟨jH (k:=0) (),d⟩,f⟩,⟨⟨jH (k:=1) (),d⟩,i1⟩,jH (k:=2) (),λ_=>⟨⟨by rw[yu];omega,λq c=>⟨jH (k:=3) (),(T7 c).2⟩⟩,by omega⟩⟩,?_⟩;split
  ·exact⟨.inl rfl,b,h1⟩
  ·refine⟨.inr rfl,⟨?_,λx hx=>?_⟩,⟨?_,λx hx=>?_⟩⟩
   ·show(List.map _ (List.filter _ _)).length<=30;rw[zk];have:=yz (λq1:Q6=>(decide ((Builtin.bitAnd ((An xs 3) / 2 ^ q1.1.toNat) 1)=1))) (rW 0 vg);rw[yu]at this;omega
   ·obtain⟨q,c,rfl⟩:=ax.mp hx;exact b.2 _ (T7 (cw.mp c).1).1
   ·show(List.map _ (List.filter _ _)).length<=30;rw[zk];exact ZH (yz ..) h
   ·obtain⟨q,c,rfl⟩:=ax.mp hx;exact b.2 _ (cw.mp c).1
theorem Mk{z a b c d e f:α}(h:z∈[a,b,c,d,e,f]):z=a\/z=b\/z=c\/z=d\/z=e\/z=f:=by simpa only[ja,jv,or_false]using h
theorem MX{z a b c d e f g:α}(h:z∈[a,b,c,d,e,f,g]):z=a\/z=b\/z=c\/z=d\/z=e\/z=f\/z=g:=by simpa only[ja,jv,or_false]using h
theorem T8{x:Dt}(h:∀s:AJ,(uQ (.str s) x).isSome=true):Vq x ([("join":AJ),("split":AJ)].map eS):=λy a=>by
 obtain⟨s,_,rfl⟩:=ax.mp a;exact⟨h s,ZH (iX _ _) (by show 1<=60;omega)⟩
theorem L0(h1:x ≠ "join")(h2:x ≠ "split"):Wk (.str x):=by
 refine⟨?_,T8 λ_=>S,λ_ y a=>⟨Tz _ _,?_⟩⟩
 ·show((Vm (Z (("join":AJ)==x)))||((Vm (Z (("split":AJ)==x)))||false))=false;rw[beq_false_of_ne (Q2 h1),beq_false_of_ne (Q2 h2)];rfl
 ·show Z6 (.str x) (.str y)=false;rw[Tw];rcases a with rfl|rfl
  ·exact beq_false_of_ne h1
  ·exact beq_false_of_ne h2
theorem GB{x:Dt}(h:eN x=false)(hs:∀s:AJ,uQ (.str s) x=Z false):Wk x:=by
 refine⟨?_,T8 λs=>by rw[hs];rfl,λz=>by rw[h]at z;cases z⟩;show((Vm (uQ (.str "join") x))||((Vm (uQ (.str "split") x))||false))=false;rw[hs,hs];rfl
theorem oU{c:Bool}{A B:Dt}(h1:RG N J A)(h2:RG N J B):RG N J (if c=true then A else B):=by
 cases c
 ·exact h2
 ·exact h1
theorem g9(n:PN N)(a:PJ N J){s:uw}(h:St s){xs:O Int}(j:xs.length=9):oM s J xs/\RG N J (jL s J xs):=by
 obtain⟨w,x,y⟩:=s;obtain⟨b,hx,d⟩:=h;have hx:V9 x:=hx;have d:V9 y:=d;have b:w ="join" ∨ w ="split":=b;have px:=dF hx.good;have py:=dF d.good;have f:In xs.length 4:=jH (k:=4) ();have e:In xs.length 5:=jH (k:=5) ();have g:=hx.1;have o:=d.1;unfold oM jL;dsimp only;refine⟨⟨f,⟨λ_=>⟨e,jJ () ()⟩,λ_ _=>⟨λ_=>dH (by show _+1<=_;omega),λ_ _ _ _=>⟨λ_=>?_,λ_=>⟨λ_=>⟨e,jJ () (by show(6:Int)<=6;omega)⟩,λ_=>⟨λ_=>dH ?_,λ_=>⟨λ_=>⟨e,jJ () ()⟩,λ_ _=>⟨e,jJ () ()⟩⟩⟩⟩⟩⟩⟩⟩,?_⟩
 ·split
  ·exact BC () ()
  ·exact BC () ()
 ·have:=RK x 1;have:(BE x U (Z 1)).length=min 1 x.length:=this;omega
 generalize An xs 4%12=vq;refine oU ?_ ?_
 ·have m:=oA (xs:=([(Z (eS ("splt":AJ))),(Z (eS ("":AJ))),U,(Z (eS ("Join":AJ))),(Z (eI 7)),(Z ((QF eS) ("join":AJ))),(Z ((eL eS) [("join":AJ)]))]:O (Y Dt))) (i:=An xs 5%7) (jJ () ());generalize An ([(Z (eS ("splt":AJ))),(Z (eS ("":AJ))),U,(Z (eS ("Join":AJ))),(Z (eI 7)),(Z ((QF eS) ("join":AJ))),(Z ((eL eS) [("join":AJ)]))]:O (Y Dt)) (An xs 5%7)=z at m;refine Op ?_;have m:=MX m;rcases m with rfl|rfl|rfl|rfl|rfl|rfl|rfl
  ·exact L0 () ()
  ·exact L0 () ()
  ·exact GB S λ_=>S
  ·exact L0 () ()
  ·exact GB S λ_=>S
  ·exact GB S λ_=>S
  ·exact GB S λ_=>S
 refine oU ?_ ?_
 ·exact yM n a b (dF (l:=BE x (Z 1) U) ⟨ZH (iL ..) (),λz c=>hx.2 z (u0 c)⟩) py
 refine oU ?_ ?_
 ·exact yM n a b (dF (l:=x++[("zzzzzzz":AJ)]) ⟨by rw[zC,qc];omega,λz c=>(aJ.mp c).elim (hx.2 z) λq=>au.mp q▸Lc⟩) py
 refine oU ?_ ?_
 ·exact yM n a b px px
 refine oU ?_ ?_
 ·exact yM n a b (dF (l:=x.reverse) ⟨by rw[gJ];omega,λz c=>hx.2 z (List.mem_reverse.mp c)⟩) py
 refine oU ?_ ?_
 ·exact yM n a b (nH S) py
 refine oU ?_ ?_
 ·refine yM n a ?_ px py;split
  ·exact .inl rfl
  ·exact .inr rfl
 refine oU ?_ ?_
 ·have m:=oA (xs:=[(Dt.tup [(eS w),(eT eS x)]),(Dt.tup [(eS w),(eT eS x),(eT eS y),(Dt.tup [])]),((eL eD) [(eS w),(eT eS x),(eT eS y)]),Dt.non,Dt.emp,(Dt.str "join")]) (i:=An xs 5%6) (jJ () (by show(6:Int)<=6;omega));generalize An [(Dt.tup [(eS w),(eT eS x)]),(Dt.tup [(eS w),(eT eS x),(eT eS y),(Dt.tup [])]),((eL eD) [(eS w),(eT eS x),(eT eS y)]),Dt.non,Dt.emp,(Dt.str "join")] (An xs 5%6)=z at m;refine gg ?_;have m:=Mk m;rcases m with rfl|rfl|rfl|rfl|rfl|rfl<;>rfl
 refine oU ?_ ?_
 ·refine yM n a b px (dF (l:=y++BE x U (Z 1)) ⟨?_,λz c=>(aJ.mp c).elim (d.2 z) λq=>hx.2 z (u0 q)⟩);have:(BE x U (Z 1)).length=min 1 x.length:=RK x 1;rw[zC];omega
 refine oU ?_ ?_
 ·have m:=oA (xs:=([U,(Z (Dt.tup [])),(Z (eI 7)),(Z (eS ("a":AJ))),(Z (QF eI 7)),(Z ((QF (eL eI)) []))]:O (Y Dt))) (i:=An xs 5%6) (jJ () ());generalize An ([U,(Z (Dt.tup [])),(Z (eI 7)),(Z (eS ("a":AJ))),(Z (QF eI 7)),(Z ((QF (eL eI)) []))]:O (Y Dt)) (An xs 5%6)=z at m;refine yM n a b px ?_;have m:=Mk m;rcases m with rfl|rfl|rfl|rfl|rfl|rfl
  ·exact nH rfl
  ·exact dF (l:=[]) ⟨by decide,λ_ q=>by cases q⟩
  ·exact nH rfl
  ·exact nH rfl
  ·exact yL (x:=.int 7) rfl
  ·exact yL (x:=.lst []) rfl
 refine oU ?_ ?_
 ·have m:=oA (xs:=Zm) (i:=An xs 5%7) (jJ () ());generalize An Zm (An xs 5%7)=z at m;refine yM n a b ?_ py;unfold Zm at m;have m:=MX m;rcases m with rfl|rfl|rfl|rfl|rfl|rfl|rfl
  ·exact nH rfl
  ·exact dF (l:=[]) ⟨by decide,λ_ q=>by cases q⟩
  ·exact nH rfl
  ·exact nH rfl
  ·exact yL (x:=.int 7) rfl
  ·exact yL (x:=.lst []) rfl
  ·exact nH rfl
 ·exact yM n a b px (nH S)
theorem Ke(n:PN N)(g:∀x∈N,Nm x)(a:PJ N J){s:uw}(h:St s){xs:O Int}(hl:xs.length=3):iw s J xs/\RG N J (dW (d8 s J xs)):=by
 obtain⟨w,x,y⟩:=s;obtain⟨e,hx,f⟩:=h;have hx:V9 x:=hx;have f:V9 y:=f;have e:w ="join" ∨ w ="split":=e;have B:In xs.length 0:=jH (k:=0) ();have i1:In xs.length 1:=jH (k:=1) ();have i2:In xs.length 2:=jH (k:=2) ();unfold iw d8;dsimp only;have p:=jT (An xs 0) (m:=2) ();have o:=jT (An xs 0 / 2) (m:=6) ();generalize An xs 0 / 2%6=j at o;generalize An xs 0%2=i at p;have iv:In [x,y].length i:=BC p.1 p.2;have c:V9 (An [x,y] i):=by
  have:=oA iv;rcases List.mem_cons.mp this with q|q
  ·rw[q];exact hx
  ·rw[au.mp q];exact f
 generalize An [x,y] i=v at c;have lv:=c.1;have H:0<(if(v.length:Int)>1 then(v.length:Int)else 1):=by split<;>omega
 obtain⟨L,X⟩:=jT (An xs 1) H;have r2:An xs 1%(if(v.length:Int)>1 then(v.length:Int)else 1)<=31:=by
  have:(if(v.length:Int)>1 then(v.length:Int)else 1)<=30:=by split<;>omega
  omega
 generalize An xs 1%(if(v.length:Int)>1 then(v.length:Int)else 1)=k at L X r2;obtain⟨k,rfl⟩:=Int.eq_ofNat_of_zero_le L;have ek:((k:Int)+1)=((k+1:Nat):Int):=rfl;rw[ek];have sl:=a.sl n;have jl:=sl.ll;have fl:=sl.ln;have D:(0:Int)<(((J.map λvg:AZ=>vg).flatten++[("zzzzzzz":AJ)]).length:Int):=by
  rw[zC,qc];omega
 have A:=jJ (x:=An xs 2) D (Int.le_refl _);have F:=oA A;rw[ka]at F A D ⊢;have I:Nm (An (J.flatten++[("zzzzzzz":AJ)]) (An xs 2%((J.flatten++[("zzzzzzz":AJ)]).length:Int))):=by
  rcases aJ.mp F with q|q
  ·exact g _ (a.pm.mem_iff.mp q)
  ·rw[au.mp q];exact Lc
 generalize An (J.flatten++[("zzzzzzz":AJ)]) (An xs 2%((J.flatten++[("zzzzzzz":AJ)]).length:Int))=vd at I;have K:In (J++[v]).length (An xs 2%((J.length:Int)+1)):=jJ () (by rw[zC,qc];omega);have M:V9 (An (J++[v]) (An xs 2%((J.length:Int)+1))):=by
  rcases aJ.mp (oA K)with q|q
  ·exact a.g30 n g q
  ·rw[au.mp q];exact c
 generalize An (J++[v]) (An xs 2%((J.length:Int)+1))=zz at M;have cP:=RK v k;have cR:=RJ v k;have cQ:=RJ v (k+1);have cS:=WE v k;have d:∀z∈BE v U (Z (k:Int)),Nm z:=λz b=>c.2 z (u0 b);have C:∀z∈BE v (Z (k:Int)) U,Nm z:=λz b=>c.2 z (u0 b);have u:∀z∈BE v (Z ((k+1:Nat):Int)) U,Nm z:=λz b=>c.2 z (u0 b);have W:∀z∈BE v (Z (k:Int)) (Z ((k+1:Nat):Int)),Nm z:=λz b=>c.2 z (u0 b);generalize BE v U (Z (k:Int))=P at cP d;generalize BE v (Z (k:Int)) U=R at cR C;generalize BE v (Z ((k+1:Nat):Int)) U=Q at cQ u;generalize BE v (Z (k:Int)) (Z ((k+1:Nat):Int))=S at cS W;have t:∀z∈[vd],Nm z:=λz b=>au.mp b▸I;have app:∀{l m:AZ},(∀z∈l,Nm z)->(∀z∈m,Nm z)->∀z∈l++m,Nm z:=λh1 h2 z b=>(aJ.mp b).elim (h1 z) (h2 z);have all:∀z∈([(P++Q),((P++[vd])++Q),((P++[vd])++R)]++[((P++S)++R),(aV (v++[vd]))])++[zz],Do z:=by
  intro z b;simp only[mB,KO,ja,jv,or_false]at b;rcases b with rfl|rfl|rfl|rfl|rfl|rfl
  ·exact⟨by simp only[zC];omega,app d u⟩
  ·exact⟨by simp only[zC,qc];omega,app (app d t) u⟩
  ·exact⟨by simp only[zC,qc];omega,app (app d t) C⟩
  ·exact⟨by simp only[zC];omega,app (app d W) C⟩
  ·exact⟨by rw[(bx _).length_eq];simp only[zC,qc];omega,λz b=>app c.2 t z ((bx _).mem_iff.mp b)⟩
  ·exact M.good
 have G:In (([(P++Q),((P++[vd])++Q),((P++[vd])++R)]++[((P++S)++R),(aV (v++[vd]))])++[zz]).length j:=BC o.1 o.2;have E:=all _ (oA G);refine⟨⟨⟨B,iv⟩,⟨i1,H⟩,⟨⟨by omega,by omega,by omega⟩,dH (by show _+1<=_;omega)⟩,⟨⟨i2,D⟩,A⟩,⟨dH (),⟨dH (by show _+1<=_;omega),dH (by simp only[zC,qc];omega)⟩,dH (by show _+1<=_;omega),dH (by simp only[zC,qc];omega)⟩,⟨⟨⟨⟨dH (),dH (by simp only[zC];omega)⟩,dH (by show _+1<=_;omega),by simp only[zC,qc];omega⟩,dH (by show 3+2<=_;omega)⟩,⟨⟨⟨dH (by show _+1<=_;omega),i2,by omega⟩,K⟩,dH (by show 5<=_;omega)⟩,⟨⟨⟨B,G⟩,B⟩,p.1,p.2⟩,?_,?_⟩⟩,?_⟩
 ·rw[qi];exact jH (n:=2) (k:=0) ()
 ·rw[qi];exact jH (n:=2) (k:=1) ()
 generalize An (([(P++Q),((P++[vd])++Q),((P++[vd])++R)]++[((P++S)++R),(aV (v++[vd]))])++[zz]) j=z at E;rcases(show i=0\/i=1 by omega)with rfl|rfl
 ·exact yM n a e (dF E) (dF f.good)
 ·exact yM n a e (dF hx.good) (dF E)
theorem Na(n:PN N)(t:RG N J d):uI (Z J) J io d/\oO (Z J) J io d=.nx io:=by
 have c:∀o p:Y (O AZ),o=p->((!decide (o=p))||((p.isSome&&(!o.isSome))||(!decide ((Z J:Y (O AZ))=Z J))))=false:=λo p h=>by
  subst h;rw[qS rfl,qS rfl];cases o<;>rfl
 have c2:∀o p:Y (O AZ),o=p->((!decide (o=p))||(!decide ((Z J:Y (O AZ))=Z J)))=false:=λo p h=>by
  rw[qS h,qS rfl];rfl
 have e:=t.eq;constructor
 ·unfold uI;dsimp only[y3];refine⟨⟨rfl,t.dd⟩,⟨rfl,t.dt⟩,λ_ z=>⟨⟨by rw[e];exact z,?_⟩,rfl,t.dt⟩⟩;rw[e];cases q:bT J d with
  |none=>rw[q]at z;cases z
  |some K=>exact dH (by have:=((t.nx K q).sl n).ll;show K.length<=_;omega)
 ·unfold oO;dsimp only[y3];rw[c _ _ e,ZA zI];split
  ·exact ZA (by rw[c2 _ _ e];exact zI)
  ·rfl
theorem Ta(n:PN N)(g:∀x∈N,Nm x)(a:PJ N J)(c:O Int)(k:Int)(o:0<=k)(h1:k<=100):uJ c (Z J) k/\∃K,oR c (Z J) k=.nx (Z K)/\PJ N K:=by
 obtain⟨i,e,_⟩:=KQ (bM c k) 9 () ();have c1:=KN c k o ();unfold uJ oR;dsimp only[y3];generalize bJ (bM c k) 9=xs at i e;have e:xs.length=9:=e;have m:(BE xs (Z 6) U).length=3:=by
  have:(BE xs (Z 6) U).length=xs.length-6:=RJ xs 6;omega
 obtain⟨d2,s⟩:=ZX n g a e;generalize dJ J xs=st at s;obtain⟨j,t1⟩:=g9 n a s e;obtain⟨p,t2⟩:=Ke n g a s m;have h:RG N J (dW st):=yM n a s.w (dF (V9.good s.a)) (dF (V9.good s.b));have f:RG N J (Dt.tup [(eS st.1),((eT eS) st.2.2),((eT eS) st.2.1)]):=yM n a s.w (dF (V9.good s.b)) (dF (V9.good s.a));have F:=Nu (step:=λ(f:Unit) (vs:Dt)=>((oO (Z J) J f vs):yN (Unit) Bool)) (P:=λ(f:Unit) (vs:Dt)=>Z (uI (Z J) J f vs)) ([(dW st),(jL st J xs),(dW (d8 st J (BE xs (Z 6) U)))]++[(Dt.tup [(eS st.1),((eT eS) st.2.2),((eT eS) st.2.1)])]) λd l=>by
  have:RG N J d:=by
   rcases aJ.mp l with q|q
   ·rcases List.mem_cons.mp q with q|q
    ·rw[q];exact h
    ·rcases List.mem_cons.mp q with q|q
     ·rw[q];exact t1
     ·rw[au.mp q];exact t2
   ·rw[au.mp q];exact f
  exact⟨(Na n this).1,.inl (Na n this).2⟩
 rw[F.1];refine⟨⟨⟨c1,i⟩,rfl,⟨rfl,d2⟩,⟨⟨rfl,j⟩,rfl,p⟩,⟨dH (by show 3+1<=_;omega),F.2⟩,rfl,h.dd⟩,?_⟩;show ∃K,yN.nx (if(bT J (dW st)).isSome=true then bT J (dW st)else Z J)=.nx (Z K)/\PJ N K;cases q:bT J (dW st)with
 |none=>exact⟨J,rfl,a⟩
 |some K=>exact⟨K,rfl,h.nx K q⟩
theorem Z0(c:O Int)(t:c.length<=63):Pa c/\O9 c=true:=by
 obtain⟨d0,N,A,B,e0,n,g,a,b⟩:=a0 c 0 () ();unfold Pa O9;dsimp only;rw[e0];dsimp only;have h:∀j:Int,(if(if(12:Int)<j then(12:Int)else j)>8 then(if(12:Int)<j then(12:Int)else j)else 8)<=12/\8<=(if(if(12:Int)<j then(12:Int)else j)>8 then(if(12:Int)<j then(12:Int)else j)else 8):=λj=>by
  split<;>split<;>omega
 have h:=h ((c.length:Int)-3);generalize (if(if(12:Int)<((c.length:Int)-3)then(12:Int)else((c.length:Int)-3))>8 then(if(12:Int)<((c.length:Int)-3)then(12:Int)else((c.length:Int)-3))else 8)=j at h;obtain⟨s',e,d,i⟩:=Nv (step:=λ(f:(Y (O AZ))) (l:Int)=>((oR c f l):yN ((Y (O AZ))) Bool)) (P:=λ(f:(Y (O AZ))) (l:Int)=>Z (uJ c f l)) (λf=>∃J,f=Z J/\PJ N J) (rng 3 ((3+j)-3).toNat) (Z A) ⟨A,rfl,a⟩ λz s m o=>by
  obtain⟨J,rfl,q⟩:=o;unfold rng at m;obtain⟨k,hk,rfl⟩:=ax.mp m;have hk:=dg.mp hk;obtain⟨d,K,e,p⟩:=Ta n g q c (3+(k:Int)) () ();exact⟨d,Z K,.inl e,K,rfl,p⟩
 rw[e];exact⟨⟨d0,⟨⟨HN () (),HN () ()⟩,d⟩,trivial⟩,rfl⟩
theorem H1:∀a:O Int,a.length<=63->F_law [.z (.lst (a.map .int))]=Z (.z (.bl true)):=(MA Z0).1
theorem H2:∀a:O Int,a.length<=63->F_law [.l (a.map .int)]=Z (.z (.bl true)):=(MA Z0).2
end G47
end
open PySem PySem.W PyProof.Rows
namespace PySem.W.Fast
def tw10319071620721077518:=0
def tw1918266372351737342:=0
def tw14049871690997103660:=0
def tw1216915952696186100:=0
def tw2717228134509983699:=0
def tw832526125203362159:=0
def tw951967591244615340:=0
def tw15047963733610644546:=0
def tw15751170867534077449:=0
def tw1839646913175070620:=0
def tw17650792796943714726:=0
def tw2735689280253597411:=0
def tw12281716297787031569:=0
def tw16857141125891595525:=0
def tw4437754240388038248:=0
def tw17959914481270235495:=0
def tw6699001933532645682:=0
def tw7615814773078058870:=0
def tw7838905051923079657:=0
def tw18032960400807711925:=0
def tw7390348596822699173:=0
def tw17609285471008184461:=0
def tw15149173565528415670:=0
def tw7381292927688950552:=0
def tw7135556181014874232:=0
def tw3571152924878134458:=0
def tw7713311596651373945:=0
def tw4145288317719927703:=0
def tw5930892502669739728:=0
def tw10368892265499087773:=0
def tw15770493406718151519:=0
def tw8614765227844711193:=0
def tw16004845511014261132:=0
def tw11702024107118769925:=0
def tw13885214279537147077:=0
def tw16548328443381220727:=0
def tw11563350570580128867:=0
def tw16068153736873197771:=0
def tw7897463775945635826:=0
def tw15515326715080842263:=0
def tw472761050295128138:=0
def tw12934914636594124624:=0
def tw8109147327512605383:=0
def tw17017275897961543261:=0
def tw188266854620285256:=0
def tw8536416090139291875:=0
def tw8520357084664238444:=0
def tw4144314764859242519:=0
def tw837929487140188320:=0
def tw10938853138637938660:=0
def tw12481673850566128705:=0
def tw204553573873133382:=0
def tw4269469244694866917:=0
def tw14543938753358222774:=0
def tw16001548932697037477:=0
def tw10499003548696229883:=0
def tw13448307736637224483:=0
def tw9006477650834202885:=0
def tw10902371013201061985:=0
def tw4404489537361141349:=0
def tw4786069335427966369:=0
def tw2083314655891469203:=0
def tw15114100413296534496:=0
def tw18358134085396967726:=0
def tw18249797734048719732:=0
def tw10070339338524539084:=0
def tw3414705333854357301:=0
def tw9538361773583321946:=0
def tw8128678835351503106:=0
def tw17701170922639643564:=0
def tw8044159415561178729:=0
def tw12740030553006897491:=0
def tw17126426860537944885:=0
def tw5837167550133258475:=0
def tw6508680833786273773:=0
def tw12412230696728841157:=0
def tw4109927030717307535:=0
def tw8763485900557274076:=0
def tw6591096988753338478:=0
def tw12845345143262789724:=0
def tw8212105530393083616:=0
def tw7437857850556277518:=0
def tw9684277021536667975:=0
def tw12322399348543884155:=0
def tw9094270590046680642:=0
def tw15957212784615566886:=0
def tw3494917401628935068:=0
def tw15435447962815095094:=0
def tw10385568120854501964:=0
def tw58780141952983187:=0
def tw12555882026470083923:=0
def tw6851826014774799714:=0
def tw523281318314792087:=0
def tw9894781220009265164:=0
def tw15266108254674164691:=0
def tw844525408696847878:=0
def tw15275573041621158978:=0
def tw5985444047180350526:=0
def tw9258336905942192846:=0
def tw8791455751260057400:=0
def tw5214987660132964172:=0
def tw4813685029853359089:=0
def tw3624826879207997431:=0
def tw9190948393891766025:=0
def tw15702476376341726323:=0
def tw9835522712031581914:=0
def tw1988671696483210784:=0
def tw8574231967666291041:=0
def tw8090312990208221916:=0
def tw5794982242348658331:=0
def tw12766098405398152923:=0
def tw15100136397250324778:=0
def tw5927304555851052720:=0
def tw4709486865373323340:=0
def tw16284056772040798586:=0
def tw17520938799018817748:=0
def tw6102839329554113023:=0
def tw8642184863763895053:=0
def tw18444141937414206939:=0
def tw14259481392413071370:=0
def tw10232416760101829440:=0
def tw12696235382342829127:=0
def tw16363688602842531309:=0
def tw5925108451345820099:=0
def tw15684101515226300606:=0
def tw11952213163206006323:=0
def tw11536926883752019270:=0
def tw11459209522586784344:=0
def tw970893542626351409:=0
def tw2014789428714246535:=0
def tw16795691994193127058:=0
def tw9334102367075763932:=0
def tw695993800707596210:=0
def tw8279769590519685521:=0
def tw17945601697199611548:=0
def tw15915829311460872720:=0
def tw3764510726564635174:=0
def tw9723036716920154994:=0
def tw14334931004757962523:=0
def tw8478265471761966531:=0
def tw4810840625609781737:=0
def tw14324452240741979768:=0
def tw802383436490221809:=0
def tw541232284532534259:=0
def tw4830133858469760166:=0
def tw11383800526870798033:=0
def tw9083360861506202628:=0
def tw15570881048947596839:=0
def tw1328100813590113690:=0
def tw4511657354619810832:=0
def tw11874445967938281307:=0
def tw13602995737000606384:=0
def tw10692670560151892380:=0
def tw5427803359150275909:=0
def tw3879852100287356129:=0
def tw16548951121206867762:=0
def tw1328334303807073685:=0
def tw15468334819602436048:=0
def tw8404211471299711689:=0
def tw17642223704444842629:=0
def tw5046665994861862758:=0
def tw578889423630537535:=0
def tw3820819939952552334:=0
def tw17149768838619324375:=0
def tw13287199249812651375:=0
def tw1746700348643811946:=0
def tw9153624205046402650:=0
def tw6558250236504017228:=0
def tw2361155695377977150:=0
def tw4851630369181840016:=0
def tw3690163682830461162:=0
def tw5211037323247278901:=0
def tw1882406057604707458:=0
def tw12485058970094972410:=0
def tw1461755309232627130:=0
def tw14771292490207971068:=0
def tw14572491537277798417:=0
def tw11541791559855068343:=0
def tw1585023750147086887:=0
def tw2207151457112427842:=0
def tw9571964923081470275:=0
def tw15829905649010867264:=0
def tw3934112648129413508:=0
def tw15677789941970331726:=0
def tw16307590245246938821:=0
def tw11876604064144662284:=0
def tw4257558623033106911:=0
def tw873411956303300578:=0
def tw6743651621099942154:=0
def tw934324528773741802:=0
def tw9224420697461192606:=0
def tw14521489751988343066:=0
def tw9386946876528807390:=0
def tw2494656525143357759:=0
def tw213629589689817328:=0
def tw7586104636969453399:=0
def tw672564183524442603:=0
def tw8622937573562095454:=0
def tw15673613525619875345:=0
def tw13073685008913002214:=0
end PySem.W.Fast
set_option maxRecDepth 100000 in
set_option maxHeartbeats 0 in
theorem PySem.Challenge.cw_onefolk_k47_joinings_behind_steps_holds : PySem.Challenge.rw_onefolk_k47_joinings_behind_steps.Holds := by
 w_on;refine PySem.W.holds_law (by decide +kernel) λsaid=>?_
 k_head;(case hw=>w_witness2)
 k_fill
 refine P1.EX (l:=PySem.Challenge.rw_onefolk_k47_joinings_behind_steps) (T:=G47.T) (k:=9) (x := "_law_script") (st:=G47.s_law) (F_law:=G47.F_law) (λt=>t.x_law) ⟨rfl,by decide,by decide⟩ rfl (λw mg base t=>G47.DU t) rfl rfl G47.H1 G47.H2 (λ_ _ _ _ _ _ _=>rfl) (λw h Y=>PySem.W.kIn_of Y) (λw h _ _ _ _ _ _=>⟨[],L2.CH.free (by kernel_rfl)⟩) ?F
 case F=>
  intro w mg h KX G
  refine' ⟨km KX G _,km KX G _,km KX G _,km KX G _,km KX G _,km KX G _,km KX G _,km KX G _,P1.mC KX G _ _ _ _,_,_,_,_,_,_,_,_,_,_,_,_,_,qf KX G _,P1.mC KX G _ _ _ _,P1.mC KX G _ _ _ _,P1.mC KX G _ _ _ _,P1.mC KX G _ _ _ _,P1.mC KX G _ _ _ _,P1.mC KX G _ _ _ _,P1.mC KX G _ _ _ _,P1.mC KX G _ _ _ _,P1.mC KX G _ _ _ _,P1.mC KX G _ _ _ _,P1.mC KX G _ _ _ _,P1.mC KX G _ _ _ _,P1.mC KX G _ _ _ _,P1.mC KX G _ _ _ _,P1.mC KX G _ _ _ _,P1.mC KX G _ _ _ _,P1.mC KX G _ _ _ _,P1.mC KX G _ _ _ _,P1.mC KX G _ _ _ _,P1.mC KX G _ _ _ _,P1.mC KX G _ _ _ _,P1.mC KX G _ _ _ _,P1.mC KX G _ _ _ _,P1.mC KX G _ _ _ _,qf KX G _,qf KX G _,qf KX G _,qf KX G _,qf KX G _,qf KX G _,qf KX G _,qf KX G _,qf KX G _,qf KX G _,qf KX G _,qf KX G _,qf KX G _,qf KX G _,qf KX G _,P1.NH KX G _,P1.NH KX G _⟩
  all_goals try (show _=_;k_is)
  all_goals try kernel_rfl
