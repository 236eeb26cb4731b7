import PyProof.Rows.All
import Wide.All
import OpenK.AllK
import Wide.FinOn
import Lean
import PySem.Challenge.RW_onefolk_k30_best_joinings
open PySem.Heap renaming get?_push_of_some->ze,lt_size->zv,get?_push_size->zw,size_push->qk,get?_update_ne->kq,get?_update_other->ku,get?_update_self->kA,get?_push_ne->ot,size_update->o9
open List renaming mem_cons_self->zg,mem_cons_of_mem->zi,length_map->zl,map_cons->zo,length_append->zC,size_toArray->zI,mem_append_left->zS,mem_append_right->z5,getElem?_eq_getElem->Zp,getElem?_map->ZE,length_cons->ZI,append_assoc->ZT,getElem?_append_left->ZY,length_filter_le->Z3,all_eq_true->qc,getElem?_cons_succ->qf,map_append->qh,foldl_cons->qr,append_nil->qv,map_congr_left->qA,flatten_cons->qS,getElem?_eq_none->qV,map_id'->Qr,getElem?_append_right->QN,mem_filter->QQ,mem_of_getElem?->Q1,map_map->Q2,getElem?_replicate->Q4,mem_cons->js,length_set->jv,getElem?_set_self->j3,flatMap_cons->JA,nodup_nil->JE,not_mem_nil->JP,getElem?_set_ne->JS,sum_cons->JY,nodup_append->kb,getElem_of_mem->kc,length_take->kg,filter_congr->ko,any_eq_true->kz,rel_of_pairwise_cons->kB,map_nil->kD,pairwise_map->kF,mem_erase_of_ne->kK,any_cons->kL,getElem?_range->kN,flatten_append->kP,length_pos_of_mem->kR,nil_append->k6,find?_cons->k7,all_cons->k8,lookup_cons_self->Kb,reverse_cons->Ki,length_range->Kj,mem_map->KB,length_drop->KF,filterMap_cons->KG,pairwise_mergeSort->KO,take_append_drop->KW,getElem?_zipWith->K0,getElem?_toArray->K2,perm_cons_erase->yf,mem_append->yi,replicate_succ->ym,mergeSort_perm->yo,mem_range->yB,filter_filter->Ya,drop_eq_getElem_cons->Yf,getElem?_set->YI,foldl_append->YN,length_erase_of_mem->YU,nodup_range->Y1,getElem_mem->Y2,filter_cons_of_pos->xf,filter_cons_of_neg->xi,mem_singleton->ba,replicate->bb,getElem?_eq_some_iff->bv,nodup_cons->cd,range->cf,mem_flatten->db,mem_flatMap->dd,filter_eq_self->dg,pairwise_cons->dl,pairwise_iff_getElem->dI,length->dV,find?_eq_none->eh,length_eq_zero_iff->en,take_of_length_le->eu,take_succ_eq_append_getElem->ey,length_replicate->eH,mem_of_mem_erase->fm,mem_iff_getElem?->fq,of_mem_zip->fz,length_nil->fM,mem_of_mem_take->gC,eq_nil_of_length_eq_zero->gG,length_pos_iff->hC,map_id->hI,mem_filterMap->hO,getD->hQ,zip_cons_cons->hY,append_of_mem->h9,set_comm->ic,getD_eq_getElem?_getD->i0,ext_getElem?->i5,exists_mem_of_ne_nil->jJ,mem_of_find?_eq_some->jV,all_map->kE,cons_ne_nil->kJ,find?_range_eq_none->k0,any_map->k4,flatten_nil->k5,set_eq_of_length_le->ld,drop_eq_nil_of_le->lz,filter_eq_nil_iff->mq,length_singleton->mr,countP_mono_left->ms,perm_append_comm->mY,length_eraseIdx->m5,mem_of_mem_drop->m8,le_trans->nl,mapM_toArray->ov,lookup_cons->o4,le_antisymm->o7,countP_cons->pe,take_length->pg,isEmpty_map->ph,filter_cons->pL,map->pS
open Nat renaming le_refl->zk,le_of_ble_eq_true->z4,ne_of_lt->Zl,le_trans->Zs,lt_of_lt_of_le->ZZ,lt_succ_self->qa,lt_succ_of_lt->qB,zero_le->QP,lt_irrefl->Q3,lt_of_le_of_lt->ja,le_of_lt->j0,ne_of_gt->kQ,not_lt_zero->kX,le_succ->Kn,zero_add->yv,succ_le_succ->YY,lt_trans->fO,succ_mul->gd,mod_lt->gi,lt_trichotomy->jd,le_of_eq->kl,le_add_right->kr,succ_pos->kO,not_lt->mZ,mul_le_mul_right->m6,min_self->nS,mul_comm->n0,add_zero->n4,le_of_succ_le->ol,le_of_lt_succ->oC
open Bool renaming false_eq_true->zr,and_eq_true->ZH,false_ne_true->ZO,not_eq_true'->QY,eq_iff_iff->JJ,not_true->k9,not_false->Kx,and_true->ya,or_eq_true->yk,false_and->yT,and_false->yY,false_or->il,true_and->ix,decide_and->lr,or_false->nc,not_eq_true->pO
open Array renaming getElem?_eq_getElem->qi,length_toList->Qb,getElem?_toList->QO,size_append->Kk,getElem?_eq_none->KU,perm_iff_toList_perm->dz,eq_empty_of_size_eq_zero->fZ,mem_toList_iff->gB,toList_append->g6,getD->je,toList_map->kH,toList_filterMap->mo,size_eq_one_iff->mu,mem_of_getElem?->mv,toList->nn,forIn_toList->n7,toList_inj->o8,replicate->qK
open Or renaming inr->QE,inl->jI
open Int renaming le_refl->Kt,toNat_natCast->KS,toNat_of_nonneg->hE,emod_lt_of_pos->h6,emod_nonneg->ll,zero_add->n9,le_trans->oa
open Unit renaming unit->r9
local macro_rules|`(())=>`(by first|omega|decide)
open Option renaming isSome_some->y8,isSome_iff_exists->ef,isSome_map->i4,bind_some->kG,getD_none->o3,map_some->qs,map_map->q4
open PySem.SetTable renaming below->bn,insertAt->bD,turns->ci,bits->cD,runEnd->cH,sizeAbove->da,layClean->dc,grown->dq,leap->dv,probe->dw,fresh->mT,tooFull->pf,fits->q5,slot->q7,fill->ra,has->rc
open Prod renaming ext->hH
open Option renaming some->Z,none->U
abbrev O:=List
abbrev Y:=Option
theorem S{α:Sort u}{a:α}:a=a:=rfl
open PySem renaming Value->A0,Addr->A1,Shared->A2,Program->A3,World->A4,Around->A5,Heap->A6,wpAny->A7,model->A8,starEach->A9,sizeLine->AA,Stmt->AB,Keyword->AC,backTo->AD,Obj->AE,codeAny->AF,compareOp->AG,bootBuiltins->AH,Paired->AI,Str->AJ
abbrev re(x:AJ):=(x==("__debug__":AJ))=false
open PyProof.Rows renaming envOfC->AK,wpS_bind->AL,arrOf->AM
open PySem.W (instObj methodObj keepIn cellsFrom_some fnOf codeIn nsIn mg_of)
set_option maxRecDepth 100000
set_option maxHeartbeats 4000000
set_option linter.all false
set_option Elab.async false
open PySem PySem.Spec PyProof.Rows
variable{w:A4}{i:Nat}{t:SetTable}{x:AJ}{a:A1}{prog:A3}{us:O A0}{u:A0}{κ:Type}{h:A6}{items:Array A0}{P:A3}{α β:Type}{e:Expr}{n:Nat}{mg:AJ->Y A0}{base:A6}{l:A1}{env:Env}{m:O (AJ×AJ)}{AN:O (A1×AE)}{s:A2}{it:A1}{j:Nat}{M:Model}{A:A5}{Q:Y A0->A2->Prop}{hi:Y Int}{D:A1}{es:O Expr}{pos:Pos}{c:Expr}{y:AJ}{hs:O Int}{tg:Expr}{body:O AB}{fp:O A1}{tn:Nat->A6->Prop}{iter:Expr}{lo:Y Int}{pl:O Nat}{C:A1}{op:CmpOp}{AQ:O A0}{name:AJ}{tpos:Pos}{fd:FuncData}{apos:Pos}{qual:AJ}{scope:Scope}{osl:Array (Y A0)}{p2 cpos:Pos}{XP:(AJ->Y A0)->A6->Prop}{YP:A4->A6->Prop}{cl:O (AJ×A1)}{is:O Nat}{ifs:O Expr}{elt tgt:Expr}{el:A1->Env->Sem Unit}{RR:A0->A1->Result->A2->Prop}{ep mask:Nat}{owner:Array (Y Nat)}{elts:O Expr}{x1:Nat}{γ δ:Type}{os:OsState}{bmB:O A0}{newId initId:String}{a_:A1}
abbrev AZ:=O PySem.Str
abbrev B7:=PySem.Value->PySem.Shared->Prop
abbrev B1:=PySem.W.Frag
abbrev B9:=O Int
abbrev zd:=@wpAny_bind
abbrev zh:=@wpAny_pure
abbrev zt:=@if_pos
abbrev zz:=@decide_eq_true_eq
abbrev zD:=@if_neg
abbrev ZA:=@decide_eq_true
abbrev ZN:=@decide_eq_false
abbrev ZU:=@if_false
abbrev qo:=@wpAny_newObj_type
abbrev qq:=@PySem.W.mg_none_of
abbrev QA:=@of_decide_eq_true
abbrev QI:=@wpAny_mono
abbrev QR:=@wpAny_holding
abbrev QU:=@if_true
abbrev jS:=@wpAny_typeOf
abbrev Jn:=@wpAny_setState_of
abbrev JI:=@List.Pairwise.imp_of_mem
abbrev JO:=@wpAny_isInstance
abbrev JU:=@decide_eq_false_iff_not
abbrev ka:=@Ne.symm
abbrev ke:=@codeAny_builtin
abbrev kf:=@Option.some.inj
abbrev ki:=@wpAny_comprehension_free
abbrev km:=@wpAny_truthy_bool
abbrev ky:=@wpAny_call_entry
abbrev kC:=@List.cons.injEq
abbrev kM:=@PySem.mem_of_lookup
abbrev kU:=@wpAny_passesOwn
abbrev KA:=@decide_false
abbrev KI:=@wpAny_standAt
abbrev KL:=@wpAny_rule
abbrev KM:=@wpAny_getItem_str_slice
abbrev KP:=@wpAny_pyIter_list
abbrev yb:=@decide_true
abbrev yz:=@wpAny_load
abbrev yA:=@wpAny_seqItems
abbrev y9:=@Obj.data_mapFields
abbrev YA:=@Calls.call_function_entry
abbrev YE:=@wpAny_of_eq
abbrev YO:=@wpAny_newList
abbrev YR:=@PySem.F.args_tuple_add_2
abbrev YV:=@wpAny_askSetting
abbrev Y3:=@F.plain_sum_loop
abbrev xa:=@wpAny_callSpecial?_slot
abbrev xb:=@PySem.F.plainAttrs_list
abbrev xc:=@PySem.F.entry_tuple_add
abbrev xk:=@F.plain_set_update_loop
variable{K:B1}{N:AZ}{E:B7}{ys ts ps n_:AZ}
namespace L2
abbrev AY:=Sum Int AJ
def m7:AY->A0->Bool
 |.inl k,v=>Value.isInt k v
 |.inr x,v=>Value.isStrOf x v
def lx(w:A4):AY->Int
 |.inl k=>hashInt k
 |.inr x=>hashStr w x
theorem bZ:∀{k:AY} {v:A0},m7 k v=true->(∃i t,k=Sum.inl i/\v=Value.int i t)\/(∃x t,k=Sum.inr x/\v=Value.str x t)
 |.inl i,v,h=>by
  obtain⟨t,e⟩:=Value.isInt_shape (k:=i) (v:=v) h;exact .inl ⟨i,t,rfl,e⟩
 |.inr x,v,h=>by
  obtain⟨t,e⟩:=Value.isStrOf_shape (x:=x) (v:=v) h;exact .inr ⟨x,t,rfl,e⟩
theorem Z8(i:Int)(t:Tok):m7 (.inl i) (.int i t)=true:=by simp[m7,Value.isInt]
theorem Z9(x:AJ)(t:Tok):m7 (.inr x) (.str x t)=true:=by simp[m7,Value.isStrOf]
theorem t6(a b:Int):decide ((Sum.inl a:AY)=Sum.inl b)=(a==b):=by
 by_cases e:a=b
 ·subst e;simp
 ·have h:¬ (Sum.inl a:AY)=Sum.inl b:=λq=>e (Sum.inl.inj q);rw[ZN h];exact(beq_eq_false_iff_ne.mpr e).symm
theorem XA(a b:AJ):decide ((Sum.inr a:AY)=Sum.inr b)=decide (a=b):=by
 by_cases e:a=b
 ·subst e;simp
 ·have h:¬ (Sum.inr a:AY)=Sum.inr b:=λq=>e (Sum.inr.inj q);rw[ZN h,ZN e]
theorem uA(a:Int)(b:AJ):decide ((Sum.inl a:AY)=Sum.inr b)=false:=ZN (λq=>nomatch q)
theorem ae(a:AJ)(b:Int):decide ((Sum.inr a:AY)=Sum.inl b)=false:=ZN (λq=>nomatch q)
def bw(prog:A3)(w:A4):PySem.KeyKind prog w AY where
 is:=m7
 hash:=lx w
 inj:=λv a b f hb=>by
  rcases bZ f with⟨i,t,rfl,rfl⟩|⟨x,t,rfl,rfl⟩
  ·rcases bZ hb with⟨j,u,rfl,e⟩|⟨y,u,rfl,e⟩
   ·injection e with e1 _;rw[e1]
   ·exact nomatch e
  ·rcases bZ hb with⟨j,u,rfl,e⟩|⟨y,u,rfl,e⟩
   ·exact nomatch e
   ·injection e with e1 _;rw[e1]
 byValue:=λk v h=>by
  rcases bZ h with⟨i,t,rfl,rfl⟩|⟨x,t,rfl,rfl⟩<;>rfl
 pyHash:=λc h=>by
  rcases bZ c with⟨i,t,rfl,rfl⟩|⟨x,t,rfl,rfl⟩
  ·exact wpAny_pyHash_int h
  ·exact wpAny_pyHash_str h
 eqBool:=λd c h=>by
  rcases bZ d with⟨i,t,rfl,rfl⟩|⟨x,t,rfl,rfl⟩
  ·rcases bZ c with⟨j,u,rfl,rfl⟩|⟨y,u,rfl,rfl⟩
   ·rw[t6]at h;exact wpAny_eqBool_int h
   ·rw[uA]at h;exact SeqAt.EqAt.int_str i t y u _ _ _ _ h
  ·rcases bZ c with⟨j,u,rfl,rfl⟩|⟨y,u,rfl,rfl⟩
   ·rw[ae]at h;exact SeqAt.EqAt.str_int x t j u _ _ _ _ h
   ·rw[XA]at h;exact wpAny_eqBool_str h
 «strs»:=λk x t v h=>by
  rcases bZ h with⟨i,u,rfl,e⟩|⟨y,u,rfl,e⟩
  ·exact nomatch e
  ·injection e with e1 _;subst e1;cases v<;>rfl
theorem R5(prog:A3)(w:A4)(i:Int)(t:Tok):(bw prog w).is (.inl i) (.int i t)=true:=Z8 i t
theorem R6(prog:A3)(w:A4)(x:AJ)(t:Tok):(bw prog w).is (.inr x) (.str x t)=true:=Z9 x t
end L2
namespace L2
inductive V where
 |non|bl (b:Bool)|int (i:Int)|str (x:Str)|byt (b:Array UInt8)|flt (b:UInt64)|ref (a:Addr)|ty (n:String)
 deriving DecidableEq
def As:V->A0->Prop
 |.non,u=>u=Value.none
 |.bl b,u=>u=Value.bool b
 |.int i,u=>∃t,u=Value.int i t
 |.str x,u=>∃t,u=Value.str x t
 |.byt b,u=>∃t,u=Value.bytes b t
 |.flt b,u=>∃t,u=Value.float b t
 |.ref a,u=>u=Value.ref a
 |.ty n,u=>u=Value.type n
abbrev AX:O V->O A0->Prop:=AI As
theorem AX.length{xs:O V}{us:O A0}(r:AX xs us):xs.length=us.length:=Paired.length r
theorem AX.get:∀{xs:O V} {us:O A0} {i:Nat} {x:V},AX xs us->xs[i]?=Z x->∃u,us[i]?=Z u/\As x u
 |_,_,_,_,.nil,e=>by simp at e
 |_,_,0,_,.cons r _,e=>by simp at e;subst e;exact⟨_,rfl,r⟩
 |_,_,i+1,x,.cons _ t,e=>by
  obtain⟨u,h1,h2⟩:=AX.get (i:=i) (x:=x) t (by simpa using e);exact⟨u,by simpa using h1,h2⟩
theorem AX.set{x:V}{u:A0}(r:As x u):∀{xs:O V} {us:O A0} (i:Nat),AX xs us->AX (xs.set i x) (us.set i u)
 |_,_,_,.nil=>.nil
 |_,_,0,.cons _ t=>.cons r t
 |_,_,i+1,.cons q t=>.cons q (AX.set r i t)
theorem AX.append:∀{xs ys:O V} {us a:O A0},AX xs us->AX ys a->AX (xs++ys) (us++a)
 |_,_,_,_,.nil,s=>s
 |_,_,_,_,.cons r t,s=>.cons r (AX.append t s)
theorem AX.take:∀{xs:O V} {us:O A0} (n:Nat),AX xs us->AX (xs.take n) (us.take n)
 |_,_,0,_=>.nil
 |_,_,_+1,.nil=>.nil
 |_,_,n+1,.cons r t=>.cons r (AX.take n t)
theorem AX.drop:∀{xs:O V} {us:O A0} (n:Nat),AX xs us->AX (xs.drop n) (us.drop n)
 |_,_,0,r=>r
 |_,_,_+1,.nil=>.nil
 |_,_,n+1,.cons _ t=>AX.drop n t
def Iu:Y V->Y A0->Prop
 |some v,Z u=>As v u
 |none,U=>True
 |_,_=>False
def KV:O (κ×V)->O (κ×A0)->Prop:=AI λ(p:κ×V) (q:κ×A0)=>p.1=q.1/\As p.2 q.2
def kV:AY->V
 |.inl i=>.int i
 |.inr x=>.str x
inductive HO where
 |lst (xs:List V)
 |tup (xs:List V)
 |dK (AO:List (AY×V))|dT (AO:List (List AY×V))
 |set (S:Int->Bool) (n:Nat)
 |ins (C dx:Addr) (fs:List (Str×V))
 |own (x:Addr)
 |xd (fs:List (Str×V))
 |met (f x:Addr)
 |rng (lo hi:Int)
 |n6 (o:Obj) (u:HO)
 |tbl (ps:Array Value)
 |ext (φ:Heap->Prop)
abbrev Hp:=A1->Y HO
def B4(H:Hp)(a:A1)(o:HO):Hp:=λb=>if b=a then Z o else H b
theorem aV{H:Hp}{o:HO}:B4 H a o a=Z o:=by unfold B4;rw[zt rfl]
theorem aQ{H:Hp}{b:A1}{o:HO}(h:b≠a):B4 H a o b=H b:=by unfold B4;rw[zD h]
def w5(h:A6)(a:A1)(items:Array A0):Prop:=∃o,h.get? a=Z o/\o.cls=.type "tuple" ∧ (∃n,o.data=.seq items n)/\o.dict=U
theorem w5.weak(x:w5 h a items):IsTup h a items:=let ⟨o,e,c,d,_⟩:=x;⟨o,e,c,d⟩
theorem w5.new(h:A6)(items:Array A0):w5 (h.push { cls:=.type "tuple",data:=.seq items }) h.objs.size items:=⟨_,zw _ rfl,rfl,⟨_,rfl⟩,rfl⟩
theorem qH{H:Hp}{b:A1}{o u:HO}(h:H a=Z o)(h':H b=Z u)(d:o≠u):a≠b:=by
 intro e;subst e;rw[h]at h';exact d (kf h')
theorem dO{H:Hp}{b:A1}{o:HO}(h:H a=Z o)(h':H b=U):a≠b:=by
 intro e;subst e;rw[h]at h';cases h'
section
variable(P:A3)(w:A4)
def iw(H:Hp)(h:A6)(a:A1):HO->Prop
 |.lst xs=>xs.length<=AA/\∃(AQ:O A0) (n:Nat),AX xs AQ/\h.get? a=Z { cls:=.type "list",data:=.seq AQ.toArray n }
 |.tup xs=>xs.length<=AA/\∃AQ:O A0,AX xs AQ/\w5 h a AQ.toArray
 |.dK AO=>AO.length<=AA/\(a==sysModules)=false/\∃vs,KV AO vs/\h.DictOf (bw P w) a vs
 |.dT AO=>AO.length<=AA/\(a==sysModules)=false/\∃xs:O (O AY×A1×A0),
   AI (λ(p:O AY×V) (q:O AY×A1×A0)=>p.1=q.1/\H q.2.1=Z (.tup (p.1.map kV))/\As p.2 q.2.2) AO xs ∧
   ∃o es ep,h.get? a=Z o/\o.ExactDict/\o.data=.dict es ep/\es.toList=xs.map (entryOfKey (tupleKind (bw P w)))/\(xs.map (·.1)).Nodup
 |.set S n=>h.SetOf (intKind P w) a S n
 |.ins C dx fs=>H dx=Z (.own a)/\fs.length<=1000/\dx≠a/\h.get? a=Z (instObj C dx) ∧
   ∃mA,h.Ns1 dx mA/\(∀f,Iu (fs.lookup f) (mA f))/\PySem.Within mA (fs.map (·.1))
 |.own _=>∃o,h.get? a=Z o
 |.xd fs=>∃mA,h.Ns1 a mA/\∀f,Iu (fs.lookup f) (mA f)
 |.rng lo hi=>∃t u v,h.get? a=Z { cls:=.type "range",data:=.fields #[.int lo t,.int hi u,.int 1 v] }
 |.n6 o u=>h.get? a=Z o/\iw H h a u
 |.tbl ps=>h.get? a=Z { cls:=.none,data:=.fields ps }
 |.met f x=>h.get? a=Z (methodObj (.ref f) (.ref x))
 |.ext b=>b h/\(∃o,h.get? a=Z o)/\∀h1 h2:A6,b h1->(∀o,h1.get? a=Z o->h2.get? a=Z o)->b h2
def Aq(H:Hp)(h:A6):Prop:=∀a o,H a=Z o->iw P w H h a o
end
section
variable{H H':Hp}{h':A6}{o:HO}
theorem iw.lt(x:iw P w H h a o):a<h.objs.size:=by
 cases o with
 |lst xs=>obtain⟨_,_,_,_,e⟩:=x;exact zv e
 |tup xs=>obtain⟨_,_,_,p⟩:=x;exact p.weak.lt
 |dK AO=>obtain⟨_,_,_,_,o,_,_,e,_⟩:=x;exact zv e
 |dT AO=>obtain⟨_,_,_,_,o,_,_,e,_⟩:=x;exact zv e
 |set S n=>obtain⟨o,_,_,_,e,_⟩:=x;exact zv e
 |ins C dx fs=>obtain⟨_,_,_,e,_⟩:=x;exact zv e
 |own y=>obtain⟨_,e⟩:=x;exact zv e
 |xd fs=>obtain⟨_,⟨_,_,_,e,_⟩,_⟩:=x;exact zv e
 |rng lo hi=>obtain⟨_,_,_,e⟩:=x;exact zv e
 |n6 b u=>obtain⟨e,_⟩:=x;exact zv e
 |tbl ps=>exact zv (show h.get? a=Z _ from x)
 |met f y=>exact zv (show h.get? a=Z _ from x)
 |ext c=>obtain⟨_,⟨_,e⟩,_⟩:=x;exact zv e
theorem Paired.aeC{α β:Type}{F G:α->β->Prop}:∀{c:O α} {d:O β},AI F c d->(∀a b,F a b->G a b)->AI G c d
 |_,_,.nil,_=>.nil
 |_,_,.cons r t,f=>.cons (f _ _ r) (Paired.aeC t f)
theorem Paired.imp'{F G:α->β->Prop}(f:∀a b,F a b->G a b){c:O α}{d:O β}(r:AI F c d):AI G c d:=Paired.aeC r f
theorem iw.stay(x:iw P w H h a o)(k:∀b u,(b=a\/H b=Z (.own a))->h.get? b=Z u->h'.get? b=Z u)
  (ho:∀b,H b=Z (.own a)->H' b=Z (.own a)) (j:∀b xs,H b=Z (.tup xs)->H' b=Z (.tup xs)):iw P w H' h' a o:=by
 induction o with
 |lst xs=>obtain⟨z,AQ,n,r,e⟩:=x;exact⟨z,AQ,n,r,k _ _ (.inl rfl) e⟩
 |tup xs=>obtain⟨z,AQ,r,g,e,c⟩:=x;exact⟨z,AQ,r,g,k _ _ (.inl rfl) e,c⟩
 |dK AO=>obtain⟨z,y,vs,r,g,es,ep,e,c⟩:=x;exact⟨z,y,vs,r,g,es,ep,k _ _ (.inl rfl) e,c⟩
 |dT AO=>
  obtain⟨z,y,xs,r,g,es,ep,e,c⟩:=x;exact⟨z,y,xs,Paired.aeC r λp q z=>⟨z.1,j _ _ z.2.1,z.2.2⟩,g,es,ep,k _ _ (.inl rfl) e,c⟩
 |set S n=>obtain⟨g,es,ep,t,e,c⟩:=x;exact⟨g,es,ep,t,k _ _ (.inl rfl) e,c⟩
 |ins C dx fs=>
  obtain⟨d,z,l,e,mA,⟨i,es,ep,e2,c⟩,r⟩:=x;exact⟨ho _ d,z,l,k _ _ (.inl rfl) e,mA,⟨i,es,ep,k _ _ (.inr d) e2,c⟩,r⟩
 |own y=>obtain⟨g,e⟩:=x;exact⟨g,k _ _ (.inl rfl) e⟩
 |xd fs=>obtain⟨mA,⟨i,es,ep,e,c⟩,r⟩:=x;exact⟨mA,⟨i,es,ep,k _ _ (.inl rfl) e,c⟩,r⟩
 |rng lo hi=>obtain⟨t,u,v,e⟩:=x;exact⟨t,u,v,k _ _ (.inl rfl) e⟩
 |n6 g u m=>obtain⟨e,q⟩:=x;exact⟨k _ _ (.inl rfl) e,m q⟩
 |tbl ps=>
  have e:h.get? a=Z { cls:=.none,data:=.fields ps }:=x;show h'.get? a=Z { cls:=.none,data:=.fields ps };exact k a _ (.inl rfl) e
 |met f y=>
  have e:h.get? a=Z (methodObj (.ref f) (.ref y)):=x;show h'.get? a=Z (methodObj (.ref f) (.ref y));exact k a _ (.inl rfl) e
 |ext s=>obtain⟨p,⟨o,e⟩,st⟩:=x;exact⟨st _ _ p λo q=>k _ _ (.inl rfl) q,⟨o,k _ _ (.inl rfl) e⟩,st⟩
theorem Aq.lt(x:Aq P w H h)(e:H a=Z o):a<h.objs.size:=(x a o e).lt
theorem Aq.fresh(x:Aq P w H h)(e:h.objs.size<=a):H a=U:=by
 cases q:H a with
 |none=>rfl
 |some u=>exact absurd (ZZ (x.lt q) e) (Q3 _)
theorem Aq.kept(x:Aq P w H h)(k:∀b u,h.get? b=Z u->h'.get? b=Z u):Aq P w H h':=λa o e=>
 (x a o e).stay (λb u _ q=>k b u q) (λ_ q=>q) λ_ _ q=>q
theorem Aq.laid(x:Aq P w H h)(k:∀b u,h.get? b=Z u->h'.get? b=Z u)(hp:h.objs.size<=a)(new:iw P w (B4 H a o) h' a o):Aq P w (B4 H a o) h':=λb u e=>by
 have d:=x.fresh hp;by_cases hb:b=a
 ·subst hb;rw[aV]at e;cases e;exact new
 ·rw[aQ hb]at e;exact(x b u e).stay (λc v _ q=>k c v q) (λc q=>by rw[aQ (dO q d)];exact q) λc xs q=>by rw[aQ (dO q d)];exact q
end
def Rd(H:Hp)(a:A1)(u:HO):Prop:=H a=Z u\/∃o,H a=Z (.n6 o u)
theorem Rd.ok{H:Hp}{u:HO}(r:Rd H a u)(x:Aq P w H h):iw P w H h a u:=by
 rcases r with r|⟨o,r⟩
 ·exact x a u r
 ·obtain⟨_,q⟩:=x a _ r;exact q
def FY:Y HO->Prop
 |some (.lst _)=>True
 |some (.dK _)=>True
 |some (.dT _)=>True
 |some (.set _ _)=>True
 |some (.ins _ _ _)=>True
 |some (.ext _)=>True
 |_=>False
section
variable{H:Hp}{h':A6}{x e:A1}{o':HO}
theorem Aq.write(ok:Aq P w H h)(d:FY (H x))(he:e=x\/H e=Z (.own x))(k:∀b u,b≠e->h.get? b=Z u->h'.get? b=Z u)(m:∃u,h'.get? e=Z u)
  (new:iw P w (B4 H x o') h' x o'):Aq P w (B4 H x o') h':=λb u q=>by
 have g:∀c y,H c=Z (.own y)->c≠x:=λc y r z=>by subst z;rw[r]at d;exact d
 have j:∀c xs,H c=Z (.tup xs)->c≠x:=λc xs r z=>by subst z;rw[r]at d;exact d
 by_cases hb:b=x
 ·subst hb;rw[aV]at q;cases q;exact new
 ·rw[aQ hb]at q;by_cases a:b=e
  ·have i:H b=Z (.own x):=by
    rcases he with z|z
    ·exact absurd (a.trans z) hb
    ·rw[a];exact z
   rw[q]at i;cases i;obtain⟨v,l⟩:=m;exact⟨v,by rw[a];exact l⟩
  ·refine(ok b u q).stay (λc v f r=>k c v ?_ r) (λc r=>by rw[aQ (g c b r)];exact r) λc xs r=>by rw[aQ (j c xs r)];exact r
   rcases f with rfl|f
   ·exact a
   ·rintro rfl;rcases he with z|z
    ·exact g c b f z
    ·rw[f]at z;cases z;exact hb rfl
end
structure Un (fs ex:List Addr) (H H':Hp) (h h':Heap):Prop where
 keep:∀b o,h.get? b=some o->H b=none->b∉fs->b∉ex->h'.get? b=some o
 slot:∀b o,h.get? b=some o->H b=none->b∈fs->b∉ex->∃sl,h'.get? b=some { o with slots:=sl }
 free:∀b o,h.get? b=some o->H b=none->b∉ex->H' b=none
 there:∀b o,h.get? b=some o->b∉ex->∃o',h'.get? b=some o'
 tups:∀b xs,H b=some (.tup xs)->H' b=some (.tup xs)
 Aw:∀b o u,H b=some (.n6 o u)->H' b=some (.n6 o u)
 Iv:∀b ps,H b=some (.tbl ps)->∃more,H' b=some (.tbl (ps++more))
section
variable{fs fs' ex ex':O A1}{H H1 H2:Hp}{h1 h2 h':A6}{x e:A1}{o:HO}
theorem Un.any(u:Un fs ex H H1 h h1){b:A1}{a:AE}(q:h.get? b=Z a)(n:H b=U)(hx:b∉ex):∃sl,h1.get? b=Z { a with slots:=sl }:=by
 by_cases hb:b∈fs
 ·exact u.slot b a q n hb hx
 ·exact⟨a.slots,u.keep b a q n hb hx⟩
theorem Un.kept(k:∀b u,h.get? b=Z u->h'.get? b=Z u):Un fs ex H H h h':=
 ⟨λb a q _ _ _=>k b a q,λb a q _ _ _=>⟨a.slots,k b a q⟩,λ_ _ _ n _=>n,λb a q _=>⟨a,k b a q⟩,λ_ _ q=>q,λ_ _ _ q=>q,λ_ ps q=>⟨#[],by rw[q];simp⟩⟩
theorem Un.refl:Un fs ex H H h h:=Un.kept λ_ _ q=>q
theorem Un.laid(k:∀b u,h.get? b=Z u->h'.get? b=Z u)(hp:h.objs.size<=a)(c:H a=U):Un fs ex H (B4 H a o) h h' where
 keep:=λb u q _ _ _=>k b u q
 slot:=λb u q _ _ _=>⟨u.slots,k b u q⟩
 free:=λb u q n _=>by rw[aQ (Zl (ZZ (zv q) hp))];exact n
 there:=λb u q _=>⟨u,k b u q⟩
 tups:=λb xs q=>by rw[aQ (dO q c)];exact q
 Aw:=λb u xs q=>by rw[aQ (dO q c)];exact q
 Iv:=λb ps q=>⟨#[],by rw[aQ (dO q c),q];simp⟩
theorem Un.write(a:FY (H x))(he:e=x\/H e=Z (.own x))(k:∀b u,b≠e->h.get? b=Z u->h'.get? b=Z u)(f:∃u,h'.get? e=Z u):Un fs ex H (B4 H x o) h h':=by
 have hx:∀b,H b=U->b≠x:=λb n z=>by subst z;rw[n]at a;exact a
 have hb:∀b,H b=U->b≠e:=λb n z=>by
  subst z;rcases he with r|r
  ·exact hx b n r
  ·rw[n]at r;cases r
 have c:∀b u,H b=Z u->¬ FY (Z u)->b≠x:=λb u q nm z=>by subst z;rw[q]at a;exact nm a
 refine⟨λb u q n _ _=>k b u (hb b n) q,λb u q n _ _=>⟨u.slots,k b u (hb b n) q⟩,λb u q n _=>by rw[aQ (hx b n)];exact n,λb u q _=>?_,
  λb xs q=>by rw[aQ (c b _ q λz=>z)];exact q,λb u xs q=>by rw[aQ (c b _ q λz=>z)];exact q,λb ps q=>⟨#[],by rw[aQ (c b _ q λz=>z),q];simp⟩⟩
 by_cases d:b=e
 ·subst d;exact f
 ·exact⟨u,k b u d q⟩
end
def HE(h:A6)(H:Hp):O A1:=(cf h.objs.size).filter λa=>(H a).isSome
def Pn(h:A6)(H:Hp):A6:=PySem.W.hideAll h (HE h H)
theorem WB(h:A6)(H:Hp):(Pn h H).objs.size=h.objs.size:=PySem.W.hideAll_size _ _
theorem sD{H:Hp}{b:A1}{o:AE}(e:h.get? b=Z o)(n:H b=U):(Pn h H).get? b=Z o:=
 PySem.W.hideAll_get _ e λa=>by
  have q:(H b).isSome=true:=(List.mem_filter.mp a).2;rw[n]at q;simp at q
theorem lh{H:Hp}{b:A1}{o:AE}(e:(Pn h H).get? b=Z o):h.get? b=Z o/\H b=U:=by
 have e':h.get? b=Z o:=PySem.W.of_hideAll (HE h H) e;refine⟨e',?_⟩;cases q:H b with
 |none=>rfl
 |some x=>
  have a:b∈HE h H:=List.mem_filter.mpr ⟨List.mem_range.mpr (zv e'),by simp[q]⟩;have z:(Pn h H).get? b=U:=PySem.W.hideAll_none (HE h H) a;rw[z]at e;cases e
def XG(g h:A6)(L:A1):O (A1×AE):=(cf h.objs.size).filterMap λa=>if a=L\/(g.get? a).isSome=true then U else(h.get? a).map λo=>(a,o)
def AS(g h:A6)(L d:A1):O (A1×AE):=(XG g h L).filter λp=>decide (p.1≠d)
end L2
namespace L2
structure Mod (K:B1) (mg:Str->Option Value) (base:Heap):Prop where
 kin:K.In base
 glob:base.Ns mainGlobals mg
 blt:∃mb,base.Ns builtinsNs mb/\∀x:Str,x ≠ "__name__" → mb x=bootBuiltins x
 nolimit:base.NoLimit
structure Cx where
 prog:Program
 w:World
 K:B1
 mg:Str->Option Value
 base:Heap
 A:Around
 N:AZ
 s₀:Shared
 H₀:Hp
 env:Env
 outer:List Env
 stack:List Env
 ex:List Addr
 fn:Str->Bool
 calm:Bool
 pn:List (Addr×Obj)
 xe:B7
abbrev ri(X:Cx):=A8 X.prog X.w
def D8(l:O Env):O A1:=l.filterMap (·.frame)
abbrev Cx.fs(X:Cx):O A1:=D8 X.outer
def V4(a:Scope)(x:AJ):Prop:=a.names.lookup x=Z .local\/a.names.lookup x=Z .cell\/a.names.lookup x=Z .free
def CD(a:Scope)(x:AJ):Prop:=a.names.lookup x=Z .local\/a.names.lookup x=Z .cell
def L9(env:Env)(h:A6)(m:AJ->Y A0)(x:AJ)(u:A0):Prop:=
 (env.kindOf x=Z .local/\m x=Z u)\/((env.kindOf x=Z .cell\/env.kindOf x=Z .free)/\∃c,env.cells.lookup x=Z c/\h.IsCell c (Z u))
structure Cx.Ok (X:Cx):Prop where
 mod:Mod X.K X.mg X.base
 kind:X.env.scope.kind=.function
 glob:X.env.globals=mainGlobals
 blt:X.env.builtins=builtinsNs
 above:X.s₀.heap.objs.size<=X.env.locals
 inj:∀x y c,X.env.cells.lookup x=some c->X.env.cells.lookup y=some c->x=y
 has:∀x,(X.env.kindOf x=some .cell\/X.env.kindOf x=some .free)->∃c,X.env.cells.lookup x=some c
 cab:∀x c,X.fn x=true->X.env.cells.lookup x=some c->X.s₀.heap.objs.size<=c
 hd:X.calm=true->X.A.handled=none
 frames:X.A.frames=some X.stack
 stk:X.stack=X.outer\/(X.stack=X.env::X.outer/\X.env.frame=some X.env.locals)
 exf:∀b∈X.ex,b≠X.env.locals/\∀x c,X.env.cells.lookup x=some c->c≠b
 bs:∀b o,X.base.get? b=some o->X.s₀.heap.get? b=some o/\X.H₀ b=none
 bsz:X.base.objs.size<=X.s₀.heap.objs.size
 abD:∀b o,X.base.get? b=some o->b∉X.ex
 aeF:∀b∈X.ex,b∉X.fs
 Iw:X.s₀.heap.FunFrames X.base X.outer
 frf:∀b∈X.fs,X.H₀ b=none
structure AU (X:Cx) (AN:List (Addr×Obj)) (σ:List (Option V)) (H:Hp) (s:Shared):Prop where
 ok:X.Ok
 os:s.os=X.s₀.os
 bare:AllBare s.gens
 base:Un X.fs X.ex X.H₀ H X.s₀.heap s.heap
 loc:∃m,s.heap.Ns X.env.locals m/\∀(i:Nat) (x:Str) (v:V),X.N[i]?=some x->σ[i]?=some (some v)->V4 X.env.scope x->∃u,As v u/\L9 X.env s.heap m x u
 cell:∀x c,X.env.cells.lookup x=some c->∃v,s.heap.IsCell c v
 free:H X.env.locals=none
 rO:∀x c,X.env.cells.lookup x=some c->H c=none
 pin:∀p∈X.pn++AN,s.heap.get? p.1=some p.2/\H p.1=none/\p.1≠X.env.locals/\p.1∉X.fs/\∀v,p.2.data≠.cell v
 hok:Aq X.prog X.w H s.heap
 len:σ.length=X.N.length
section
variable{X:Cx}{σ:O (Y V)}{H H':Hp}{h':A6}
theorem Cx.Ok.amK(ok:X.Ok){b:A1}{o:AE}(e:X.base.get? b=Z o):b∉X.fs:=λhb=>by
 have:=(ok.Iw.mem hb).1;rw[e]at this;cases this
theorem AU.bs(I:AU X AN σ H s):∀b o,X.base.get? b=Z o->s.heap.get? b=Z o/\H b=U:=λb o e=>
 ⟨I.base.keep b o (I.ok.bs b o e).1 (I.ok.bs b o e).2 (I.ok.amK e) (I.ok.abD b o e),I.base.free b o (I.ok.bs b o e).1 (I.ok.bs b o e).2 (I.ok.abD b o e)⟩
theorem AU.bk(I:AU X AN σ H s):∀b o,X.base.get? b=Z o->s.heap.get? b=Z o:=λb o e=>(I.bs b o e).1
theorem AU.mod(I:AU X AN σ H s):Mod X.K X.mg X.base:=I.ok.mod
theorem AU.kIn(I:AU X AN σ H s):X.K.In s.heap:=I.ok.mod.kin.keeps I.bk
theorem AU.lt(I:AU X AN σ H s):X.env.locals<s.heap.objs.size:=let ⟨_,hn,_⟩:=I.loc;hn.lt
theorem AU.sz(I:AU X AN σ H s):X.s₀.heap.objs.size<=s.heap.objs.size:=Zs I.ok.above (j0 I.lt)
theorem AU.amL(I:AU X AN σ H s)(h:s.heap.objs.size<=a):a∉X.fs:=λhb=>by
 obtain⟨_,o,ho,_⟩:=I.ok.Iw.mem hb;exact absurd (ZZ (zv ho) (Zs I.sz h)) (Q3 _)
theorem AU.cne(I:AU X AN σ H s):∀x c,X.env.cells.lookup x=Z c->c≠X.env.locals:=λx c e z=>by
 obtain⟨v,o,ho,hd⟩:=I.cell x c e;obtain⟨m,⟨o',es,ep,a,b,_⟩,_⟩:=I.loc;rw[z,a]at ho;cases ho;rw[b]at hd;cases hd
theorem AU.Iw(I:AU X AN σ H s):s.heap.FunFrames X.base X.outer:=by
 have all:∀(l:O Env),(∀b∈D8 l,b∈X.fs)->X.s₀.heap.FunFrames X.base l->s.heap.FunFrames X.base l:=by
  intro l
  induction l with
  |nil=>intro _ _;trivial
  |cons env r i=>
   intro hs h;obtain⟨d,⟨L,o,a,g,ho,hd⟩,f⟩:=h;have c:L∈X.fs:=hs L (by unfold D8;rw[KG,a];exact zg);obtain⟨sl,e⟩:=I.base.slot L o ho (I.ok.frf L c) c λz=>I.ok.aeF L z c;exact⟨d,⟨L,_,a,g,e,hd⟩,i (λb hb=>hs b (by unfold D8;rw[KG,a];exact zi _ hb)) f⟩
 exact all X.outer (λ_ hb=>hb) I.ok.Iw
theorem AU.stack(I:AU X AN σ H s):s.heap.FunFrames X.base X.stack:=by
 rcases I.ok.stk with e|⟨e,b⟩
 ·rw[e];exact I.Iw
 ·rw[e];obtain⟨m,a,_⟩:=I.loc;refine .cons (by rw[I.ok.kind];decide) b a ?_ I.Iw;exact Heap.get?_none_of_le (Zs I.ok.bsz I.ok.above)
theorem AU.Pq(I:AU X AN σ H s):∀b∈D8 X.stack,b∈X.env.locals::X.fs:=λb hb=>by
 rcases I.ok.stk with e|⟨e,a⟩
 ·rw[e]at hb;exact zi _ hb
 ·rw[e]at hb;unfold D8 at hb;rw[KG,a]at hb;exact hb
theorem AU.Yr(I:AU X AN σ H s):∀b∈D8 X.stack,H b=U:=λb hb=>by
 rcases List.mem_cons.mp (I.Pq b hb)with e|hb
 ·rw[e];exact I.free
 ·obtain⟨_,o,ho,_⟩:=I.ok.Iw.mem hb;exact I.base.free b o ho (I.ok.frf b hb) λz=>I.ok.aeF b z hb
theorem AU.step{g':Array GenState}{t':Nat}{d':Drawn}{ch:O A1}(I:AU X AN σ H s)
  (f:∀b∈ch,(b∈X.ex\/X.s₀.heap.objs.size<=b)/\b≠X.env.locals/\(∀x c,X.env.cells.lookup x=Z c->c≠b)/\∀p∈X.pn++AN,p.1≠b)
  (keep:∀b o,b≠X.env.locals->b∉X.fs->b∉ch->s.heap.get? b=Z o->H b=U->h'.get? b=Z o)
  (slot:∀b o,b≠X.env.locals->b∈X.fs->b∉ch->s.heap.get? b=Z o->H b=U->∃sl,h'.get? b=Z { o with slots:=sl }) (free:∀b o,b∉ch->s.heap.get? b=Z o->H b=U->H' b=U)
  (B:∀b o,b∉ch->s.heap.get? b=Z o->∃o',h'.get? b=Z o')
  (L:∀b xs,H b=Z (.tup xs)->H' b=Z (.tup xs)) (N:∀b o u,H b=Z (.n6 o u)->H' b=Z (.n6 o u)) (D:∀b ps,H b=Z (.tbl ps)->∃more,H' b=Z (.tbl (ps++more)))
  (G:∀m,s.heap.Ns X.env.locals m->h'.Ns X.env.locals m) (E:Aq X.prog X.w H' h') (M:AllBare g'):
  AU X AN σ H' { s with heap:=h',gens:=g',drawn:=d',toks:=t' }:=by
 have j:∀b o,X.s₀.heap.get? b=Z o->b≠X.env.locals:=λb o e=>Zl (ZZ (zv e) I.ok.above);have g:∀b o,X.s₀.heap.get? b=Z o->b∉X.ex->b∉ch:=λb o e hx hb=>by
  rcases(f b hb).1 with z|z
  ·exact hx z
  ·exact absurd (ZZ (zv e) z) (Q3 _)
 have t:∀x c,X.env.cells.lookup x=Z c->∀v,s.heap.IsCell c v->h'.IsCell c v:=λx c e v ⟨o,ho,hd⟩=>by
  have a:c∉ch:=λz=>(f c z).2.2.1 x c e rfl;by_cases h:c∈X.fs
  ·obtain⟨sl,q⟩:=slot c o (I.cne x c e) h a ho (I.rO x c e);exact⟨_,q,hd⟩
  ·exact⟨o,keep c o (I.cne x c e) h a ho (I.rO x c e),hd⟩
 refine⟨I.ok,I.os,M,⟨λb o e n hb hx=>?_,λb o e n hb hx=>?_,λb o e n hx=>?_,λb o e hx=>?_,λb xs e=>L b xs (I.base.tups b xs e),λb o xs e=>N b o xs (I.base.Aw b o xs e),λb ps e=>?_⟩,?_,λx c e=>?_,?_,λx c e=>?_,λp hp=>?_,E,I.len⟩
 ·exact keep b o (j b o e) hb (g b o e hx) (I.base.keep b o e n hb hx) (I.base.free b o e n hx)
 ·obtain⟨sl,e1⟩:=I.base.slot b o e n hb hx;obtain⟨J,e2⟩:=slot b _ (j b o e) hb (g b o e hx) e1 (I.base.free b o e n hx);exact⟨J,e2⟩
 ·obtain⟨o',e1⟩:=I.base.there b o e hx;exact free b o' (g b o e hx) e1 (I.base.free b o e n hx)
 ·obtain⟨o',e1⟩:=I.base.there b o e hx;exact B b o' (g b o e hx) e1
 ·obtain⟨C,e1⟩:=I.base.Iv b ps e;obtain⟨P,e2⟩:=D b _ e1;exact⟨C++P,by rw[e2,Array.append_assoc]⟩
 ·obtain⟨m,K,F⟩:=I.loc;refine⟨m,G m K,λi x v e1 e2 e3=>?_⟩;obtain⟨u,r,l⟩:=F i x v e1 e2 e3;refine⟨u,r,?_⟩;rcases l with l|⟨k,c,e,z⟩
  ·exact .inl l
  ·exact .inr ⟨k,c,e,t x c e _ z⟩
 ·obtain⟨v,z⟩:=I.cell x c e;exact⟨v,t x c e v z⟩
 ·obtain⟨m,⟨o,_,_,ho,_⟩,_⟩:=I.loc;exact free _ o (λz=>(f _ z).2.1 S) ho I.free
 ·obtain⟨v,o,ho,hd⟩:=I.cell x c e;exact free c o (λz=>(f c z).2.2.1 x c e S) ho (I.rO x c e)
 ·obtain⟨e,n,y,A,d⟩:=I.pin p hp;have a:p.1∉ch:=λz=>(f p.1 z).2.2.2 p hp rfl;exact⟨keep p.1 p.2 y A a e n,free p.1 p.2 a e n,y,A,d⟩
theorem AU.un{t':Nat}(I:AU X AN σ H s)(u:Un X.fs [] H H' s.heap h')(f:Aq X.prog X.w H' h'):AU X AN σ H' { s with heap:=h',toks:=t' }:=by
 obtain⟨m,⟨o,es,ep,ho,r⟩,_⟩:=id I.loc;obtain⟨sl,g⟩:=u.any ho I.free (by simp);exact I.step (g':=s.gens) (d':=s.drawn) (ch:=[]) (λ_ z=>nomatch z) (λb o _ hb _ e n=>u.keep b o e n hb (by simp)) (λb o _ hb _ e n=>u.slot b o e n hb (by simp)) (λb o _ e n=>u.free b o e n (by simp)) (λb o _ e=>u.there b o e (by simp)) u.tups u.Aw u.Iv (λj h=>by
  obtain⟨o',c,d,a,i⟩:=h;rw[ho]at a;cases a;exact⟨_,c,d,g,i⟩) f I.bare
theorem AU.call{g':Array GenState}{t':Nat}{d':Drawn}{ch:O A1}(I:AU X AN σ H s)(u:Un (D8 X.stack) ch H H' s.heap h')(l:Aq X.prog X.w H' h')(h:AllBare g')
  (f:∀b∈ch,(b∈X.ex\/X.s₀.heap.objs.size<=b)/\b≠X.env.locals/\(∀x c,X.env.cells.lookup x=Z c->c≠b)/\∀p∈X.pn++AN,p.1≠b):
  AU X AN σ H' { s with heap:=h',gens:=g',drawn:=d',toks:=t' }:=by
 obtain⟨m,⟨o,es,ep,ho,r⟩,_⟩:=id I.loc;obtain⟨sl,d⟩:=u.any ho I.free λz=>(f _ z).2.1 rfl;exact I.step (ch:=ch) f (λb o d hb a e n=>u.keep b o e n (λz=>(List.mem_cons.mp (I.Pq b z)).elim d hb) a) (λb o _ _ a e n=>u.any e n a) (λb o a e n=>u.free b o e n a) (λb o a e=>u.there b o e a) u.tups u.Aw u.Iv (λv q=>by
  obtain⟨o',i,j,g,t⟩:=q;rw[ho]at g;cases g;exact⟨_,i,j,d,t⟩) l h
theorem AU.turned{t':Nat}(I:AU X AN σ H s)(k:∀b o,b≠it->s.heap.get? b=Z o->h'.get? b=Z o)(h:H it=U)(f:it≠X.env.locals)(h1:it∈X.ex\/X.s₀.heap.objs.size<=it)(h2:∀x c,X.env.cells.lookup x=Z c->c≠it)(g:∀p∈X.pn++AN,p.1≠it):AU X AN σ H { s with heap:=h',toks:=t' }:=by
 have d:∀b u,H b=Z u->b≠it:=λb u e z=>by rw[z,h]at e;cases e
 refine I.step (g':=s.gens) (d':=s.drawn) (ch:=[it]) (λb hb=>?_) (λb o _ _ a e _=>k b o (λz=>a (by simp[z])) e) (λb o _ _ a e _=>⟨o.slots,k b o (λz=>a (by simp[z])) e⟩) (λ_ _ _ _ n=>n)
  (λb o a e=>⟨o,k b o (λz=>a (by simp[z])) e⟩) (λ_ _ e=>e) (λ_ _ _ e=>e) (λb ps e=>⟨#[],by rw[e];simp⟩) (λm i=>?_) (λb u e=>?_) I.bare
 ·have e:b=it:=by simpa using hb
  subst e;exact⟨h1,f,h2,g⟩
 ·obtain⟨o,es,ep,ho,r⟩:=i;exact⟨o,es,ep,k _ o (ka f) ho,r⟩
 ·refine(I.hok b u e).stay (λc v a q=>k c v ?_ q) (λ_ q=>q) λ_ _ q=>q;rcases a with z|z
  ·rw[z];exact d b u e
  ·exact d c _ z
theorem AU.tok(I:AU X AN σ H s)(t:Nat):AU X AN σ H { s with toks:=t }:=I.un (h':=s.heap) (t':=t) Un.refl I.hok
theorem AU.kept{t':Nat}(I:AU X AN σ H s)(k:∀b u,s.heap.get? b=Z u->h'.get? b=Z u):AU X AN σ H { s with heap:=h',toks:=t' }:=I.un (Un.kept k) (I.hok.kept k)
theorem AU.laid{a:A1}{o:HO}{t':Nat}(I:AU X AN σ H s)(k:∀b u,s.heap.get? b=Z u->h'.get? b=Z u)(hp:s.heap.objs.size<=a)(new:iw X.prog X.w (B4 H a o) h' a o):
  AU X AN σ (B4 H a o) { s with heap:=h',toks:=t' }:=I.un (Un.laid k hp (I.hok.fresh hp)) (I.hok.laid k hp new)
theorem AU.write{x e:A1}{o:HO}{t':Nat}(I:AU X AN σ H s)(c:FY (H x))(he:e=x\/H e=Z (.own x))(k:∀b u,b≠e->s.heap.get? b=Z u->h'.get? b=Z u)(a:∃u,h'.get? e=Z u)
  (new:iw X.prog X.w (B4 H x o) h' x o):AU X AN σ (B4 H x o) { s with heap:=h',toks:=t' }:=I.un (Un.write c he k a) (I.hok.write c he k a new)
theorem AU.Pr{a:O (A1×AE)}(I:AU X AN σ H s)(h:∀p∈a,s.heap.get? p.1=Z p.2/\H p.1=U/\p.1≠X.env.locals/\p.1∉X.fs/\∀v,p.2.data≠.cell v):AU X a σ H s:=
 ⟨I.ok,I.os,I.bare,I.base,I.loc,I.cell,I.free,I.rO,λp hp=>(List.mem_append.mp hp).elim (λz=>I.pin p (zS _ z)) (h p),I.hok,I.len⟩
theorem R7(c:N.Nodup)(a:N[i]?=Z x)(b:N[j]?=Z x):i=j:=by
 obtain⟨h1,e1⟩:=bv.mp a;obtain⟨h2,e2⟩:=bv.mp b;exact(List.getElem_inj c).mp (e1.trans e2.symm)
theorem md{v:V}{Q:Unit->A2->Prop}(I:AU X AN σ H s)(hN:X.N.Nodup)(hi:X.N[i]?=Z x)(hx:CD X.env.scope x)(r:As v u)(h:∀s',AU X AN (σ.set i (Z v)) H s'->(∃a,Heap.SameBut a s.heap s'.heap/\(a=X.env.locals\/X.env.cells.lookup x=Z a))->Q r9 s')(hf:X.fn x=true\/X.env.scope.names.lookup x=Z .local:=by first|exact .inl rfl|exact .inr rfl|assumption):A7 M A (storeName X.env x u) Q E s:=by
 obtain⟨m,G,W⟩:=id I.loc;have a7:(X.env.scope.kind==.class||(X.env.scope.kind==.module&&X.env.locals !=X.env.globals))=false:=by rw[I.ok.kind];rfl
 have P:i<σ.length:=by rw[I.len];exact(bv.mp hi).1
 have cne:=I.cne;have a4:∀{a:A1} {h':A6},(∃o,s.heap.get? a=Z o/\H a=U)->Heap.SameBut a s.heap h'->Aq X.prog X.w H h':=λ{a h'} ha hs b ob e=>by
  obtain⟨_,_,a3⟩:=ha;refine(I.hok b ob e).stay (λc t f q=>(hs.2 c ?_).trans q) (λ_ q=>q) λ_ _ q=>q;rintro rfl;rcases f with rfl|f
  ·rw[a3]at e;cases e
  ·rw[a3]at f;cases f
 rcases hx with g|g
 ·refine wpAny_storeName_local g G (λh' a6 hs=>?_) a7;obtain⟨oL,_,_,a5,_⟩:=id G;refine h _ ⟨I.ok,I.os,I.bare,⟨λb o e n hb hx=>?_,λb o e n hb hx=>?_,I.base.free,λb o e hx=>?_,I.base.tups,I.base.Aw,I.base.Iv⟩,⟨_,a6,λj y L e1 e2 e3=>?_⟩,λy c e=>?_,I.free,I.rO,λp hp=>?_,a4 ⟨oL,a5,I.free⟩ hs,by simpa using I.len⟩ ⟨_,hs,.inl rfl⟩
  ·exact(hs.2 b (Zl (ZZ (zv e) I.ok.above))).trans (I.base.keep b o e n hb hx)
  ·obtain⟨sl,e1⟩:=I.base.slot b o e n hb hx;exact⟨sl,(hs.2 b (Zl (ZZ (zv e) I.ok.above))).trans e1⟩
  ·obtain⟨o',e1⟩:=I.base.there b o e hx;exact⟨o',(hs.2 b (Zl (ZZ (zv e) I.ok.above))).trans e1⟩
  ·by_cases l:j=i
   ·subst l;rw[hi]at e1;cases e1;rw[j3 P]at e2;cases e2;exact⟨u,r,.inl ⟨g,by simp⟩⟩
   ·rw[JS (ka l)]at e2;obtain⟨F,K,q⟩:=W j y L e1 e2 e3;refine⟨F,K,?_⟩;rcases q with⟨k,e⟩|⟨k,c,e,z⟩
    ·refine .inl ⟨k,?_⟩;have:y≠x:=λe=>l (R7 hN e1 (e▸hi));simp[this,e]
    ·exact .inr ⟨k,c,e,z.sameBut hs (cne y c e)⟩
  ·obtain⟨t,z⟩:=I.cell y c e;exact⟨t,z.sameBut hs (cne y c e)⟩
  ·obtain⟨e,n,C,J,d⟩:=I.pin p hp;exact⟨(hs.2 p.1 C).trans e,n,C,J,d⟩
 ·have D:X.fn x=true:=by
   rcases hf with z|z
   ·exact z
   ·rw[z]at g;cases g
  obtain⟨c,f⟩:=I.ok.has x (.inl g);obtain⟨t,z⟩:=I.cell x c f;refine wpAny_storeName_cell I.ok.kind g f z (λh' a0 hs=>?_);obtain⟨oc,a1,a8⟩:=id z;refine h { s with heap:=h' } ⟨I.ok,I.os,I.bare,⟨λb o e n hb hx=>?_,λb o e n hb hx=>?_,I.base.free,λb o e hx=>?_,I.base.tups,I.base.Aw,I.base.Iv⟩,⟨m,G.sameBut hs (ka (cne x c f)),λj y L e1 e2 e3=>?_⟩,λy B e=>?_,I.free,I.rO,λp hp=>?_,a4 ⟨oc,a1,I.rO x c f⟩ hs,by simpa using I.len⟩ ⟨c,hs,.inr f⟩
  ·exact(hs.2 b (Zl (ZZ (zv e) (I.ok.cab x c D f)))).trans (I.base.keep b o e n hb hx)
  ·obtain⟨sl,e1⟩:=I.base.slot b o e n hb hx;exact⟨sl,(hs.2 b (Zl (ZZ (zv e) (I.ok.cab x c D f)))).trans e1⟩
  ·obtain⟨o',e1⟩:=I.base.there b o e hx;exact⟨o',(hs.2 b (Zl (ZZ (zv e) (I.ok.cab x c D f)))).trans e1⟩
  ·by_cases l:j=i
   ·subst l;rw[hi]at e1;cases e1;rw[j3 P]at e2;cases e2;exact⟨u,r,.inr ⟨.inl g,c,f,a0⟩⟩
   ·rw[JS (ka l)]at e2;obtain⟨F,K,q⟩:=W j y L e1 e2 e3;refine⟨F,K,?_⟩;rcases q with q|⟨k,B,e,z'⟩
    ·exact .inl q
    ·refine .inr ⟨k,B,e,z'.sameBut hs ?_⟩;rintro rfl;exact l (R7 hN e1 (I.ok.inj _ _ _ e f▸hi))
  ·by_cases a2:B=c
   ·subst a2;exact⟨_,a0⟩
   ·obtain⟨w2,z2⟩:=I.cell y B e;exact⟨w2,z2.sameBut hs a2⟩
  ·obtain⟨e,n,C,J,d⟩:=I.pin p hp;refine⟨(hs.2 p.1 ?_).trans e,n,C,J,d⟩;intro q;rw[q,a1]at e;have q':oc=p.2:=kf e;exact d t (by rw[<-q'];exact a8)
theorem Ax{v:V}{Q:Unit->A2->Prop}(I:AU X AN σ H s)(c:X.N.Nodup)(hi:X.N[i]?=Z x)(hx:CD X.env.scope x)(r:As v u)(h:∀s',AU X AN (σ.set i (Z v)) H s'->Q r9 s')(b:X.fn x=true\/X.env.scope.names.lookup x=Z .local:=by first|exact .inl rfl|exact .inr rfl|assumption):A7 M A (storeName X.env x u) Q E s:=
 md I c hi hx r (λs' a _=>h s' a) b
theorem AU.call'{s':A2}{ch:O A1}(I:AU X AN σ H s)(ho:s'.os=s.os)(u:Un (D8 X.stack) ch H H' s.heap s'.heap)(f:Aq X.prog X.w H' s'.heap)(d:AllBare s'.gens)
  (a:∀b∈ch,(b∈X.ex\/X.s₀.heap.objs.size<=b)/\b≠X.env.locals/\(∀x c,X.env.cells.lookup x=Z c->c≠b)/\∀p∈X.pn++AN,p.1≠b):AU X AN σ H' s':=by
 obtain⟨h',g',d',t',o'⟩:=s';have e:o'=s.os:=ho;subst e;exact I.call (g':=g') (t':=t') (d':=d') u f d a
end
abbrev XK:=A0->Y A1->Hp->Prop
abbrev St:=O (Y V)
abbrev VK:=V->Hp->Prop
abbrev TE:=St->Hp->VK->Prop
abbrev TT:=St->Hp->(Bool->Hp->Prop)->Prop
abbrev TA:=St->Hp->(O V->Hp->Prop)->Prop
structure C3 where
 nx:St->Hp->Prop
 rt:VK
 bk:St->Hp->Prop:=λ_ _=>False
 ct:St->Hp->Prop:=λ_ _=>False
abbrev TS:=C3->St->Hp->Prop
def EP(X:Cx)(AN:O (A1×AE))(σ:St)(Q:VK)(u:A0)(s':A2):Prop:=∃v H',AU X AN σ H' s'/\As v u/\Q v H'
def TP(X:Cx)(AN:O (A1×AE))(σ:St)(Q:Bool->Hp->Prop)(b:Bool)(s':A2):Prop:=∃H',AU X AN σ H' s'/\Q b H'
def AP(X:Cx)(AN:O (A1×AE))(σ:St)(Q:O V->Hp->Prop)(us:O A0)(s':A2):Prop:=∃vs H',AU X AN σ H' s'/\AX vs us/\Q vs H'
def SP(X:Cx)(AN:O (A1×AE))(D:C3)(f:Flow)(s':A2):Prop:=
 match f with
 |.next=>∃ σ' H',AU X AN σ' H' s'/\D.nx σ' H'
 |.brk=>∃ σ' H',AU X AN σ' H' s'/\D.bk σ' H'
 |.cont=>∃ σ' H',AU X AN σ' H' s'/\D.ct σ' H'
 |.ret u=>∃v σ' H',AU X AN σ' H' s'/\As v u/\D.rt v H'
def PE(X:Cx)(e:Expr)(t:TE):Prop:=
 ∀(AN:O (A1×AE)) (s:A2) (σ:St) (H:Hp) (Q:VK),AU X AN σ H s->t σ H Q->A7 (ri X) X.A (eval e X.env) (EP X AN σ Q) X.xe s
def PT(X:Cx)(e:Expr)(t:TT):Prop:=
 ∀(AN:O (A1×AE)) (s:A2) (σ:St) (H:Hp) (Q:Bool->Hp->Prop),AU X AN σ H s->t σ H Q->A7 (ri X) X.A (isTrue e X.env (eval e X.env)) (TP X AN σ Q) X.xe s
def PW(X:Cx)(e:Expr)(t:TT):Prop:=
 ∀(a:Sem A0) (AN:O (A1×AE)) (s:A2) (σ:St) (H:Hp) (Q:Bool->Hp->Prop),AU X AN σ H s->t σ H Q->A7 (ri X) X.A (isTrue e X.env a) (TP X AN σ Q) X.xe s
theorem PW.pt{X:Cx}{t:TT}(h:PW X e t):PT X e t:=h _
def PA(X:Cx)(es:O Expr)(t:TA):Prop:=
 ∀(pos:Pos) (AN:O (A1×AE)) (s:A2) (σ:St) (H:Hp) (Q:O V->Hp->Prop),AU X AN σ H s->t σ H Q->A7 (ri X) X.A (spliced (AD pos (A9 es X.env))) (AP X AN σ Q) X.xe s
def PS(X:Cx)(st:AB)(t:TS):Prop:=
 ∀(AN:O (A1×AE)) (s:A2) (σ:St) (H:Hp) (D:C3),AU X AN σ H s->t D σ H->A7 (ri X) X.A (exec st X.env) (SP X AN D) X.xe s
def R8(X:Cx)(st:O AB)(t:TS):Prop:=
 ∀(AN:O (A1×AE)) (s:A2) (σ:St) (H:Hp) (D:C3),AU X AN σ H s->t D σ H->A7 (ri X) X.A (execs st X.env) (SP X AN D) X.xe s
theorem jE{t:Sem α}{Q b:α->A2->Prop}(h:A7 M A t Q E s)(c:∀a s,Q a s->b a s):A7 M A t b E s:=QI h c λ_ _ x=>x
end L2
namespace L2
section
variable{X:Cx}
def LV(i:Nat):TE:=λσ H Q=>∃v,σ[i]?=Z (Z v)/\Q v H
def tC(v:V):TE:=λ_ H Q=>Q v H
theorem ou(j:X.N[i]?=Z x)(g:V4 X.env.scope x)(hd:re x:=by decide)(q:(x==("__classdict__":AJ))=false:=by decide):PE X (.Name x pos) (LV i):=by
 intro AN s σ H Q I h;obtain⟨v,e,h⟩:=h;obtain⟨m,n,o⟩:=I.loc;obtain⟨u,r,l⟩:=o i x v j e g;have b:EP X AN σ Q u s:=⟨v,H,I,r,h⟩;rcases l with⟨a,p⟩|⟨a,c,d,f⟩
 ·exact wpAny_Name (wpAny_loadName_local I.ok.kind a n p b) hd
 ·rcases a with a|a
  ·exact wpAny_Name (wpAny_loadName_cell I.ok.kind a d f b) hd
  ·exact wpAny_Name (wpAny_loadName_free I.ok.kind a d f b q) hd
theorem ay{i j pos}:PE X (.Constant (.int i) j pos) (tC (.int i)):=λ_ _ _ H _ I h=>wpAny_Constant_int ⟨.int i,H,I.tok _,⟨_,rfl⟩,h⟩
theorem ag{b j pos}:PE X (.Constant (.bool b) j pos) (tC (.bl b)):=λ_ _ _ H _ I h=>Constant_bool ⟨.bl b,H,I,rfl,h⟩
theorem VS{j pos}:PE X (.Constant .none j pos) (tC .non):=λ_ _ _ H _ I h=>Constant_none ⟨.non,H,I,rfl,h⟩
theorem SC{x j pos}:PE X (.Constant (.str x) j pos) (tC (.str x)):=λ_ _ _ H _ I h=>Calls.Constant_str ⟨.str x,H,I.tok _,⟨_,rfl⟩,h⟩
def Gl(X:Cx)(x:AJ):Prop:=X.env.kindOf x=Z .globalImplicit
theorem Ys{σ:St}{H:Hp}{Q:B7}(I:AU X AN σ H s)(b:Gl X x)(a:X.mg x=Z u)(h:Q u s)(hd:re x:=by decide):A7 (ri X) X.A (eval (.Name x pos) X.env) Q E s:=
 Calls.Name_function_global I.ok.kind b (Calls.loadGlobal_global (by rw[I.ok.glob];exact I.mod.glob.keeps I.bk) a h) hd
theorem Iz{σ:St}{H:Hp}{Q:B7}(I:AU X AN σ H s)(a:Gl X x)(d:X.mg x=U)(b:AH x=Z u)(h:Q u s)(c:x ≠ "__name__":=by decide)(hd:re x:=by decide):A7 (ri X) X.A (eval (.Name x pos) X.env) Q E s:=by
 obtain⟨e,h1,h2⟩:=I.mod.blt;exact Calls.Name_function_global I.ok.kind a (Calls.loadGlobal_builtin (by rw[I.ok.glob];exact I.mod.glob.keeps I.bk) d (by rw[I.ok.blt];exact h1.keeps I.bk) ((h2 x c).trans b) h) hd
theorem c9{v:V}(b:Gl X x)(a:X.mg x=Z u)(r:As v u)(hd:re x:=by decide):PE X (.Name x pos) (tC v):=
 λ_ _ _ H _ I h=>Ys I b a ⟨v,H,I,r,h⟩ hd
theorem Hv{v:V}(b:Gl X x)(a:X.mg x=U)(d:AH x=Z u)(r:As v u)(c:x ≠ "__name__":=by decide)(hd:re x:=by decide):PE X (.Name x pos) (tC v):=
 λ_ _ _ H _ I h=>Iz I b a d ⟨v,H,I,r,h⟩ c hd
variable{a b:Expr}{ta tb:TE}
variable{tA tB':TT}{AS:O Expr}
def MC(t u:TT):TT:=λσ H Q=>t σ H λc H1=>if c=true then u σ H1 Q else Q false H1
def NI(t u:TT):TT:=λσ H Q=>t σ H λc H1=>if c=true then Q true H1 else u σ H1 Q
def f8(t:TT):TT:=λσ H Q=>t σ H λc H1=>Q (!c) H1
theorem fR(b:PT X a tA):PW X (.BoolOp .And [a] pos) tA:=by
 intro d AN s σ H Q I h;refine isTrue_and (jE (b AN s σ H Q I h) λc f e=>?_);cases c with
 |true=>exact isTrue_and_nil e
 |false=>exact e
theorem fT(b:PT X a tA):PW X (.BoolOp .Or [a] pos) tA:=by
 intro d AN s σ H Q I h;refine isTrue_or (jE (b AN s σ H Q I h) λc f e=>?_);cases c with
 |false=>exact isTrue_or_nil e
 |true=>exact e
theorem na(e:PT X a tA)(hb:PW X (.BoolOp .And (b::AS) pos) tB'):PW X (.BoolOp .And (a::b::AS) pos) (MC tA tB'):=by
 intro d AN s σ H Q I h;refine isTrue_and (jE (e AN s σ H _ I h) λc s1 ⟨H1,I1,q1⟩=>?_);cases c with
 |true=>exact hb d AN s1 σ H1 Q I1 q1
 |false=>exact⟨H1,I1,q1⟩
theorem c4(e:PT X a tA)(hb:PW X (.BoolOp .Or (b::AS) pos) tB'):PW X (.BoolOp .Or (a::b::AS) pos) (NI tA tB'):=by
 intro d AN s σ H Q I h;refine isTrue_or (jE (e AN s σ H _ I h) λc s1 ⟨H1,I1,q1⟩=>?_);cases c with
 |true=>exact⟨H1,I1,q1⟩
 |false=>exact hb d AN s1 σ H1 Q I1 q1
theorem TZ(b:PT X a tA):PT X (.UnaryOp .Not a pos) (f8 tA):=by
 intro AN s σ H Q I h;exact isTrue_not (b AN s σ H (λc H1=>Q (!c) H1) I h)
def VX(ta tb:TE):TE:=λσ H Q=>ta σ H λx H1=>∃c,x=.bl c/\if c=true then tb σ H1 Q else Q (.bl false) H1
def p6(ta:TE):TE:=λσ H Q=>ta σ H λx H1=>∃c,x=.bl c/\Q (.bl (!c)) H1
theorem So{op}{t:TE}(h:PE X a t):PE X (.BoolOp op [a] pos) t:=λAN s σ H Q I b=>BoolOp_one (h AN s σ H Q I b)
theorem SG(d:PE X a ta)(hb:PE X (.BoolOp .And (b::AS) pos) tb):PE X (.BoolOp .And (a::b::AS) pos) (VX ta tb):=by
 intro AN s σ H Q I h;refine BoolOp_and (jE (d AN s σ H _ I h) λv s1 ⟨x,H1,I1,r1,q1⟩=>?_);obtain⟨c,rfl,q1⟩:=q1;cases r1;refine km ?_;cases c with
 |true=>exact hb AN s1 σ H1 Q I1 q1
 |false=>exact⟨.bl false,H1,I1,rfl,q1⟩
theorem VW(b:PE X a ta):PE X (.UnaryOp .Not a pos) (p6 ta):=by
 intro AN s σ H Q I h;refine UnaryOp_ (jE (b AN s σ H _ I h) λv s1 ⟨x,H1,I1,r1,q1⟩=>?_);obtain⟨c,rfl,q1⟩:=q1;cases r1;exact not_of (km ⟨.bl (!c),H1,I1,rfl,q1⟩)
def pM(t:TT)(ta tb:TE):TE:=λσ H Q=>t σ H λc H1=>if c=true then ta σ H1 Q else tb σ H1 Q
theorem tJ(e:PT X c tA)(f:PE X a ta)(hb:PE X b tb):PE X (.IfExp c a b pos) (pM tA ta tb):=by
 intro AN s σ H Q I h;refine wpAny_IfExp (jE (e AN s σ H _ I h) λd s1 ⟨H1,I1,q1⟩=>?_);cases d with
 |true=>exact f AN s1 σ H1 Q I1 q1
 |false=>exact hb AN s1 σ H1 Q I1 q1
end
end L2
namespace L2
def uG(K:B1)(H:Hp)(a:A1)(xs:O V):Prop:=
 Rd H a (.lst xs) ∨
  ∃(o:AE) (AQ:Array A0) (n:Nat),K.lookup a=Z o/\o.cls=.type "list" ∧ o.dict=U/\o.data=.seq AQ n/\AQ.size<=AA/\AX xs AQ.toList
def Ay(K:B1)(H:Hp)(a:A1)(xs:O V):Prop:=
 Rd H a (.tup xs) ∨
  ∃(o:AE) (AQ:Array A0) (n:Nat),K.lookup a=Z o/\(o.cls=.type "tuple" ∧ o.dict=U)/\o.data=.seq AQ n/\AQ.size<=AA/\AX xs AQ.toList
def IX:A0->Y V
 |.none=>Z .non
 |.bool b=>Z (.bl b)
 |.int i _=>Z (.int i)
 |.str x _=>Z (.str x)
 |.bytes b _=>Z (.byt b)
 |.float b _=>Z (.flt b)
 |.ref a=>Z (.ref a)
 |.type n=>Z (.ty n)
 |_=>U
theorem As.abs{x:V}(r:As x u):IX u=Z x:=by
 cases x with
 |non=>cases r;rfl
 |bl _=>cases r;rfl
 |int _=>obtain⟨t,rfl⟩:=r;rfl
 |str _=>obtain⟨t,rfl⟩:=r;rfl
 |byt _=>obtain⟨t,rfl⟩:=r;rfl
 |flt _=>obtain⟨t,rfl⟩:=r;rfl
 |ref _=>cases r;rfl
 |ty _=>cases r;rfl
theorem As.inj{x y:V}{u:A0}(r:As x u)(q:As y u):x=y:=kf (r.abs.symm.trans q.abs)
theorem AX.inj:∀{xs ys:O V} {us:O A0},AX xs us->AX ys us->xs=ys
 |_,_,_,.nil,.nil=>rfl
 |_,_,_,.cons r t,.cons r' t'=>by rw[r.inj r',AX.inj t t']
section
variable{X:Cx}{σ:St}{H:Hp}{xs ys:O V}
theorem AU.list(I:AU X AN σ H s)(h:uG X.K H a xs):∃AQ:O A0,AX xs AQ/\PlainL s.heap a AQ.toArray/\xs.length<=AA:=by
 rcases h with h|⟨o,AQ,n,c,b,hd,hs,d,r⟩
 ·obtain⟨z,AQ,n,r,e⟩:=h.ok I.hok;exact⟨AQ,r,⟨_,n,e,rfl,rfl,rfl⟩,z⟩
 ·refine⟨AQ.toList,r,⟨o,n,I.kIn a o c,b,hd,by simpa using hs⟩,?_⟩;have e:=r.length;simp only[Qb]at e;omega
theorem AU.tuple(I:AU X AN σ H s)(h:Ay X.K H a xs):∃AQ:O A0,AX xs AQ/\IsTup s.heap a AQ.toArray/\xs.length<=AA:=by
 rcases h with h|⟨o,AQ,n,c,b,hs,d,r⟩
 ·obtain⟨z,AQ,r,p⟩:=h.ok I.hok;exact⟨AQ,r,p.weak,z⟩
 ·refine⟨AQ.toList,r,⟨o,I.kIn a o c,b.1,n,by simpa using hs⟩,?_⟩;have e:=r.length;simp only[Qb]at e;omega
theorem AU.IK(I:AU X AN σ H s)(h:uG X.K H a xs)(h':uG X.K H a ys):xs=ys:=by
 obtain⟨AQ,r,⟨o,n,e,_,_,d⟩,_⟩:=I.list h;obtain⟨c,g,⟨o',i,e',_,_,b⟩,_⟩:=I.list h';rw[e]at e';cases e';rw[d]at b;injection b with f _;have:AQ=c:=by simpa using congrArg nn f
 subst this;exact r.inj g
theorem AU.Nt(I:AU X AN σ H s)(h:Ay X.K H a xs)(h':Ay X.K H a ys):xs=ys:=by
 obtain⟨AQ,r,⟨o,e,_,n,d⟩,_⟩:=I.tuple h;obtain⟨c,g,⟨o',e',_,i,b⟩,_⟩:=I.tuple h';rw[e]at e';cases e';rw[d]at b;injection b with f _;have:AQ=c:=by simpa using congrArg nn f
 subst this;exact r.inj g
end
abbrev Cx.wish(X:Cx)(E:B7):Cx:={ X with xe:=E }
abbrev Cx.nox(X:Cx):Cx:=X.wish λ_ _=>False
theorem Cx.Ok.wish{X:Cx}(ok:X.Ok)(E:B7):(X.wish E).Ok:=
 ⟨ok.mod,ok.kind,ok.glob,ok.blt,ok.above,ok.inj,ok.has,ok.cab,ok.hd,ok.frames,ok.stk,ok.exf,ok.bs,ok.bsz,ok.abD,ok.aeF,ok.Iw,ok.frf⟩
theorem Cx.Ok.w6{X:Cx}(ok:(X.wish E).Ok):X.Ok:=
 ⟨ok.mod,ok.kind,ok.glob,ok.blt,ok.above,ok.inj,ok.has,ok.cab,ok.hd,ok.frames,ok.stk,ok.exf,ok.bs,ok.bsz,ok.abD,ok.aeF,ok.Iw,ok.frf⟩
section
variable{X:Cx}{σ:St}{H:Hp}
theorem AU.wish(I:AU X AN σ H s)(E:B7):AU (X.wish E) AN σ H s:=⟨I.ok.wish E,I.os,I.bare,I.base,I.loc,I.cell,I.free,I.rO,I.pin,I.hok,I.len⟩
theorem AU.w6(I:AU (X.wish E) AN σ H s):AU X AN σ H s:=⟨I.ok.w6,I.os,I.bare,I.base,I.loc,I.cell,I.free,I.rO,I.pin,I.hok,I.len⟩
theorem SP.w6{D:C3}{f:Flow}{s':A2}(h:SP (X.wish E) AN D f s'):SP X AN D f s':=by
 cases f with
 |next=>obtain⟨σ',H',I,q⟩:=h;exact⟨σ',H',I.w6,q⟩
 |brk=>obtain⟨σ',H',I,q⟩:=h;exact⟨σ',H',I.w6,q⟩
 |cont=>obtain⟨σ',H',I,q⟩:=h;exact⟨σ',H',I.w6,q⟩
 |ret u=>obtain⟨v,σ',H',I,r,q⟩:=h;exact⟨v,σ',H',I.w6,r,q⟩
theorem R8.nox{st:O AB}{t:TS}(h:R8 X.nox st t):R8 X st t:=λAN s σ H D I a=>
 QI (h AN s σ H D (I.wish _) a) (λ_ _ q=>q.w6) λ_ _ z=>False.elim z
end
section
variable{X:Cx}{st:AB}{AS:O AB}{t u:TS}{te:TE}
def TK:TS:=λD σ H=>D.nx σ H
def VT(t u:TS):TS:=λD σ H=>t { D with nx:=u D } σ H
theorem yK:R8 X [] TK:=λ_ _ σ H _ I h=>wpAny_execs_nil ⟨σ,H,I,h⟩
theorem lG(h1:PS X st t)(h2:R8 X AS u):R8 X (st::AS) (VT t u):=by
 intro AN s σ H D I h;refine wpAny_execs_cons (jE (h1 AN s σ H { D with nx:=u D } I h) λf b q=>?_);cases f with
 |next=>
  obtain⟨σ',H',a,q⟩:=q;exact h2 AN b σ' H' D a q
 |ret v=>exact q
 |brk=>exact q
 |cont=>exact q
theorem AU.quiet{σ:St}{H:Hp}(I:AU X AN σ H s):interactive X.env=false:=by simp[interactive,I.ok.kind]
def UZ(te:TE):TS:=λD σ H=>te σ H λ_ H1=>D.nx σ H1
theorem Hw(he:PE X e te)(hs:swapsWith e U pos.line X.env=pure false:=by rfl):PS X (.Expr e pos) (UZ te):=by
 intro AN s σ H D I h;exact wpAny_Expr_any (jE (he AN s σ H _ I h) λv s1 ⟨x,H1,I1,r1,q1⟩=>⟨σ,H1,I1,q1⟩) I.quiet hs
def pi(te:TE):TS:=λD σ H=>te σ H D.rt
theorem IV(he:PE X e te):PS X (.Return (Z e) pos) (pi te):=by
 intro AN s σ H D I h;exact wpAny_Return_some (jE (he AN s σ H _ I h) λv s1 ⟨x,H1,I1,r1,q1⟩=>⟨x,σ,H1,I1,r1,q1⟩)
def d6(c:TT)(t u:TS):TS:=λD σ H=>c σ H λb H1=>if b=true then t D σ H1 else u D σ H1
theorem OB{a b:O AB}{tc:TT}(e:PT X c tc)(f:R8 X a t)(hb:R8 X b u):PS X (.If c a b pos) (d6 tc t u):=by
 intro AN s σ H D I h;refine wpAny_If (jE (e AN s σ H _ I h) λd s1 ⟨H1,I1,q1⟩=>?_);cases d with
 |true=>exact f AN s1 σ H1 D I1 q1
 |false=>exact hb AN s1 σ H1 D I1 q1
end
abbrev TG:=V->St->Hp->(St->Hp->Prop)->Prop
abbrev EA:=O V->St->Hp->(St->Hp->Prop)->Prop
def PG(X:Cx)(a:Expr)(t:TG):Prop:=
 ∀(AN:O (A1×AE)) (s:A2) (σ:St) (H:Hp) (v:V) (u:A0) (Q:St->Hp->Prop),AU X AN σ H s->As v u->t v σ H Q →
  A7 (ri X) X.A (assign a X.env u) (λ_ s'=>∃ σ' H',AU X AN σ' H' s'/\Q σ' H') X.xe s
def V9(X:Cx)(ts:O Expr)(t:EA):Prop:=
 ∀(AN:O (A1×AE)) (s:A2) (σ:St) (H:Hp) (vs:O V) (us:O A0) (Q:St->Hp->Prop),AU X AN σ H s->AX vs us->t vs σ H Q →
  A7 (ri X) X.A (assignInOrder ((assignEach ts X.env).map (·.2)) us) (λ_ s'=>∃ σ' H',AU X AN σ' H' s'/\Q σ' H') X.xe s
section
variable{X:Cx}
def OE(i:Nat):TG:=λv σ H Q=>Q (σ.set i (Z v)) H
theorem Az(c:X.N.Nodup)(hi:X.N[i]?=Z x)(hx:CD X.env.scope x)(b:X.fn x=true\/X.env.scope.names.lookup x=Z .local:=by first|exact .inl rfl|exact .inr rfl|assumption):PG X (.Name x pos) (OE i):=by
 intro AN s σ H v u Q I r h;exact wpAny_assign_Name (Ax I c hi hx r (λs' a=>⟨_,H,a,h⟩) b)
def i6:EA:=λvs σ H Q=>vs=[]/\Q σ H
def SU(t:TG)(u:EA):EA:=λvs σ H Q=>∃v r,vs=v::r/\t v σ H λσ' H'=>u r σ' H' Q
theorem Yt:V9 X [] i6:=by
 intro AN s σ H vs us Q I r h;obtain⟨e,h⟩:=h;subst e;cases r;exact assignInOrder_nil ⟨σ,H,I,h⟩
theorem Ba{t:TG}{u:EA}(h1:PG X e t)(h2:V9 X es u)(hs:(assignEach (e::es) X.env).map (·.2)=assign e X.env::(assignEach es X.env).map (·.2):=by rfl):V9 X (e::es) (SU t u):=by
 intro AN s σ H vs us Q I r h;obtain⟨v,b,e1,h⟩:=h;subst e1;cases r with
 |cons r a=>
  rw[hs];refine assignInOrder_cons (jE (h1 AN s σ H _ _ _ I r h) λ_ s1 ⟨σ1,H1,I1,q1⟩=>?_);exact h2 AN s1 σ1 H1 _ _ Q I1 a q1
def UR(K:B1)(n:Nat)(t:EA):TG:=λv σ H Q=>∃a xs,v=.ref a/\Ay K H a xs/\xs.length=n/\t xs σ H Q
theorem NH{k:Nat}{t:EA}(g:X.calm=true)(h:V9 X es t)(l:(assignEach es X.env).length=n:=by rfl)(i:(assignEach es X.env).findIdx? (·.1)=U:=by rfl):PG X (.Tuple es k pos) (UR X.K n t):=by
 intro AN s σ H v u Q I r c;obtain⟨a,xs,e1,p,m,c⟩:=c;subst e1;cases r;obtain⟨AQ,d,j,q⟩:=I.tuple p;refine assign_Tuple_tuple (I.ok.hd g) j (by simp[l,<-m,d.length]) i λh' hx=>?_;have f:AU X AN σ H { s with heap:=h' }:=I.kept (t':=s.toks) λb o e=>hx b o (Zl (zv e)) e;exact h AN _ σ H xs _ Q f (by simpa using d) c
def PU(te:TE)(g:TG):TS:=λD σ H=>te σ H λx H1=>g x σ H1 D.nx
theorem Pp{te:TE}{g:TG}(he:PE X e te)(a:PG X tg g)(hs:swapsWithSole [tg] e pos.line X.env=pure false:=by rfl)(b:swappedStores [tg] e X.env=pure U:=by rfl)(h1:(assignEach [tg] X.env).map (·.2)=[assign tg X.env]:=by rfl):PS X (.Assign [tg] e pos) (PU te g):=by
 intro AN s σ H D I h;refine wpAny_Assign_stores (jE (he AN s σ H _ I h) λv s1 ⟨x,H1,I1,r1,q1⟩=>?_) hs b;rw[h1];exact jE (a AN s1 σ H1 x v _ I1 r1 q1) λ_ c q=>q
theorem Pu{te:TE}{pos':Pos}(c:X.N.Nodup)(hi:X.N[i]?=Z x)(hx:CD X.env.scope x)(he:PE X e te)(hs:swapsWith e (Z (.Name x pos')) pos.line X.env=pure false:=by rfl)(b:X.fn x=true\/X.env.scope.names.lookup x=Z .local:=by first|exact .inl rfl|exact .inr rfl|assumption):
  PS X (.Assign [.Name x pos'] e pos) (PU te (OE i)):=by
 intro AN s σ H D I h;refine wpAny_Assign_Name (jE (he AN s σ H _ I h) λv s1 ⟨y,H1,I1,r1,q1⟩=>?_) hs;exact Ax I1 c hi hx r1 (λd a=>⟨_,H1,a,q1⟩) b
def l9(i j:Nat)(ta:TA):TS:=λD σ H=>ta σ H λvs H1=>∃v w,vs=[v,w]/\D.nx ((σ.set i (Z v)).set j (Z w)) H1
theorem UK{a b:Expr}{ta:TA}{px py pt:Pos}{kt k2 pt2}(m:X.calm=true)(f:X.N.Nodup)(hi:X.N[i]?=Z x)(K:X.N[j]?=Z y)(z:i≠j)(hx:X.env.scope.names.lookup x=Z .local)(l:X.env.scope.names.lookup y=Z .local)(G:PA X [a,b] ta)(n:swappedStores [.Tuple [.Name x px,.Name y py] kt pt] (.Tuple [a,b] k2 pt2) X.env=pure (Z [x,y]))(hs:swapsWithSole [.Tuple [.Name x px,.Name y py] kt pt] (.Tuple [a,b] k2 pt2) pos.line X.env=pure false:=by rfl):
  PS X (.Assign [.Tuple [.Name x px,.Name y py] kt pt] (.Tuple [a,b] k2 pt2) pos) (l9 i j ta):=by
 intro AN s σ H D I h;rw[exec_Assign_arm];refine zd (KI ?_);rw[hs];refine zd (zh ?_);rw[zD ()];refine zd (Tuple_ (jE (G _ AN s σ H _ I h) λus s1 ⟨vs,H1,I1,r1,q1⟩=>?_));obtain⟨v,w,e1,q1⟩:=q1;subst e1;obtain⟨d,c,rfl,C,u⟩:∃d c,us=[d,c]/\As v d/\As w c:=by
  cases r1 with
  |cons p q=>
   cases q with
   |cons p' F=>
    cases F;exact⟨_,_,rfl,p,p'⟩
 refine qo ?_ (by show 2<=AA;decide);have B:AU X AN σ H1 { s1 with heap:=s1.heap.push { cls:=.type "tuple",data:=.seq [d,c].toArray } }:=I1.kept (t':=s1.toks) λb o e=>ze _ e;rw[n];refine zd (zh ?_);show A7 (ri X) X.A (do rule "assign.swapped-stores"; let items <-unpackItems (.ref s1.heap.objs.size) 2 U;assignInOrder [λv=>bindName X.env y v,λv=>bindName X.env x v] items.reverse;pure Flow.next) _ _ _;refine zd (KL (zd (unpackItems_tuple (items:=#[d,c]) (I.ok.hd m) (IsTup.new s1.heap _) λh' J=>?_)));have E:=B.kept (h':=h') (t':=s1.toks) λb o e=>J b o (Zl (zv e)) e;show A7 _ _ (assignInOrder [λv=>bindName X.env y v,λv=>bindName X.env x v] [c,d] >>= λ_=>pure Flow.next) _ _ _;refine zd (assignInOrder_cons (wpAny_bindName (Ax E f K (.inl l) u (λM t=>?_) (.inr l))));refine assignInOrder_cons (wpAny_bindName (Ax t f hi (.inl hx) C (λL g=>assignInOrder_nil (zh ?_)) (.inr hx)));rw[ic _ _ (ka z)]at g;exact⟨_,H1,g,q1⟩
def Y'(c:TT)(tb:TS):TS:=λD σ H=>∃W:Nat->St->Hp->Prop,(∃m,W m σ H)/\∀m σ H,W m σ H →
 c σ H λb H1=>if b=true then ∃N:St->Hp->Prop,(∀ σ' H',N σ' H'->∃a,a<m/\W a σ' H')/\tb { D with nx:=N,ct:=N,bk:=D.nx } σ H1 else D.nx σ H1
theorem sA{tc:TT}{tb:TS}(hp:PassesOwn (ri X) X.A X.env X.xe)(t:PT X c tc)(hb:R8 X body tb):PS X (.While c body [] pos) (Y' tc tb):=by
 intro AN s σ H D I h;obtain⟨W,⟨z,x⟩,turn⟩:=h;refine wpAny_While (codeAny_whileLoop (λn s'=>∃ σ' H',AU X AN σ' H' s'/\W n σ' H') ?_ z ⟨σ,H,I,x⟩);rintro n y ⟨g,H1,q,u⟩;refine kU hp (jE (t AN y g H1 _ q (turn n g H1 u)) λb s2 ⟨H2,I2,q2⟩=>?_);cases b with
 |true=>
  obtain⟨N,p,q2⟩:=q2;rw[zt rfl];refine kU hp (jE (hb AN s2 g H2 _ I2 q2) λf B e=>?_);cases f with
  |next=>
   obtain⟨d,a,l,m⟩:=e;obtain⟨j,o,i⟩:=p d a m;exact⟨j,o,d,a,l,i⟩
  |cont=>
   obtain⟨d,a,l,m⟩:=e;obtain⟨j,o,i⟩:=p d a m;exact⟨j,o,d,a,l,i⟩
  |brk=>exact e
  |ret v=>exact e
 |false=>
  rw[zD ZO];exact wpAny_execs_nil ⟨g,H2,I2,q2⟩
end
structure It where
 go:Nat->Hp->Prop
 yld:Nat->Hp->V->Hp->Prop
 stop:Nat->Hp->Prop
def uq(X:Cx)(AN:O (A1×AE))(H:Hp)(b:A1):Prop:=
 H b=U/\b≠X.env.locals/\b∉X.fs/\(b∈X.ex\/X.s₀.heap.objs.size<=b)/\(∀x c,X.env.cells.lookup x=Z c->c≠b)/\∀p∈X.pn++AN,p.1≠b
theorem AU.R9{X:Cx}{σ:St}{H H':Hp}{b:A1}(I:AU X AN σ H s)(hb:s.heap.objs.size<=b)(a:H' b=U):uq X AN H' b:=by
 refine⟨a,kQ (ZZ I.lt hb),I.amL hb,.inr (Zs I.sz hb),λx c e z=>?_,λp hp z=>?_⟩
 ·obtain⟨v,q⟩:=I.cell x c e;exact absurd (ZZ q.lt (by rw[z];exact hb)) (Q3 _)
 ·exact absurd (ZZ (zv (I.pin p hp).1) (by rw[z];exact hb)) (Q3 _)
structure C5 (P:Program) (w:World) (K:B1) (tg:Expr) (J:It) (fp:List Addr) (it:Addr) (tn:Nat->Heap->Prop):Prop where
 mem:it∈fp
 obj:∀i h,tn i h->∀b∈fp,∃o,h.get? b=some o/\∀v,o.data≠.cell v
 keep:∀i h h',tn i h->(∀b∈fp,∀o,h.get? b=some o->h'.get? b=some o)->tn i h'
 item:∀(X:Cx),X.prog=P->X.w=w->X.K=K->X.calm=true->∀(i:Nat) (AN:List (Addr×Obj)) (s:Shared) (σ:St) (H:Hp) (E:B7),AU X AN σ H s->(∀b∈fp,uq X AN H b)->tn i s.heap->J.go i H →
  wpAny (model P w) X.A (pyNext (.ref it)) (λr s1=>∃u,r=some u ∧
   wpAny (model P w) X.A (letOwnedTupleGo tg (.ref it) u) (λ_ s2=>∃x H',AU X AN σ H' s2/\As x u/\J.yld i H x H'/\tn (i+1) s2.heap/\∀b∈fp,H' b=none) E s1) E s
 done:∀(X:Cx),X.prog=P->X.w=w->X.K=K->X.calm=true->∀(i:Nat) (AN:List (Addr×Obj)) (s:Shared) (σ:St) (H:Hp) (E:B7),AU X AN σ H s->(∀b∈fp,uq X AN H b)->tn i s.heap->J.stop i H →
  wpAny (model P w) X.A (pyNext (.ref it)) (λr s1=>r=none/\AU X AN σ H s1) E s
 self:∀(A:Around) (i:Nat) (s:Shared) (Q:B7) (E:B7),tn i s.heap->Q (.ref it) s->wpAny (model P w) A (pyIter (.ref it)) Q E s
abbrev TI:=St->Hp->(It->Hp->Prop)->Prop
def NY(X:Cx)(AN:O (A1×AE))(σ:St)(tg:Expr)(R:It->Hp->Prop)(c:A0)(a:A2):Prop:=
 ∃(it:A1) (fp:O A1) (tn:Nat->A6->Prop) (J:It) (H':Hp),c=.ref it/\AU X AN σ H' a/\C5 X.prog X.w X.K tg J fp it tn/\tn 0 a.heap/\(∀b∈fp,uq X AN H' b)/\R J H'
def PI(X:Cx)(tg iter:Expr)(a:TI):Prop:=
 ∀(AN:O (A1×AE)) (s:A2) (σ:St) (H:Hp) (R:It->Hp->Prop),AU X AN σ H s->a σ H R →
  A7 (ri X) X.A (eval iter X.env) (λv b=>A7 (ri X) X.A (pyIter v) (NY X AN σ tg R) X.xe b) X.xe s
theorem Nu{o:AE}{n:String}{vs:Array A0}{Q:Unit->A2->Prop}(ho:s.heap.get? it=Z o)(c:o.cls=.type n)(hd:o.data=.fields vs)(b:["enumerate","zip","dict_itemiterator","dict_reverseitemiterator","odict_iterator","itertools.zip_longest","itertools.pairwise"].contains n=false)(a:Q r9 s):A7 M A (letOwnedTupleGo tg (.ref it) u) Q E s:=by
 unfold letOwnedTupleGo;cases tg<;>first
  |exact zh a
  |(cases u<;>first
    |exact zh a
    |(refine zd (yz ho ?_)
      rw[c,hd];show A7 M A (if(["enumerate","zip","dict_itemiterator","dict_reverseitemiterator","odict_iterator","itertools.zip_longest","itertools.pairwise"].contains n&&vs[0]?==Z (rawInt _))=true then _ else _) Q E s;rw[zD (by intro h;rw[b,yT]at h;cases h)];exact zh a))
def GU(K:B1)(a:A1):It:=
 ⟨λi H=>∃xs x,uG K H a xs/\xs[i]?=Z x,λi H x H'=>H'=H/\∀xs,uG K H a xs->xs[i]?=Z x,λi H=>∃xs,uG K H a xs/\xs.length<=i⟩
def IZ(K:B1)(a:A1):It:=
 ⟨λi H=>∃xs x,Ay K H a xs/\xs[i]?=Z x,λi H x H'=>H'=H/\∀xs,Ay K H a xs->xs[i]?=Z x,λi H=>∃xs,Ay K H a xs/\xs.length<=i⟩
def HV(lo:Int)(n:Nat):It:=⟨λi _=>i<n,λi H x H'=>H'=H/\x=.int (lo+i),λi _=>n<=i⟩
theorem aE(a it:A1):C5 P w K tg (GU K a) [it] it (λi h=>h.IsListIter it a i) where
 mem:=by simp
 obj:=λi h st b hb=>by
  have e:b=it:=by simpa using hb
  subst e;obtain⟨o,e,c,d⟩:=st;exact⟨o,e,λv z=>by rw[d]at z;cases z⟩
 keep:=λi h h' st k=>st.at λo e=>k it (by simp) o e
 item:=by
  intro X A j n B i AN s σ H E I f st q;subst A j n;obtain⟨xs,x,g,hx⟩:=q;obtain⟨AQ,m,p,G⟩:=I.list g;obtain⟨u,D,F⟩:=m.get hx;obtain⟨f0,f1,f2,y,t,l⟩:=f it (by simp);refine wpAny_pyNext_list_item st p.isList (x:=u) (by simpa using D) λh' C M=>?_;have L:AU X AN σ H { s with heap:=h' }:=I.turned (t':=s.toks) (λb o hb e=>(M.2 b hb).trans e) f0 f1 y t l;obtain⟨o,e,c,d⟩:=id C;exact⟨u,rfl,Nu (s:={ s with heap:=h' }) e c d () ⟨x,H,L,F,⟨rfl,λys J=>by rw[I.IK J g];exact hx⟩,C,λb hb=>(f b hb).1⟩⟩
 done:=by
  intro X A j n B i AN s σ H E I f st q;subst A j n;obtain⟨xs,g,hx⟩:=q;obtain⟨AQ,m,p,G⟩:=I.list g;obtain⟨f0,f1,f2,y,t,l⟩:=f it (by simp);have N:=m.length;exact wpAny_pyNext_list_end (I.ok.hd B) st p.isList (by simp;omega) λh' eb=>⟨rfl,I.turned (t':=s.toks) (λb o hb e=>eb b o hb e) f0 f1 y t l⟩
 self:=λ_ _ _ _ _ st h=>wpAny_pyIter_listiter st h
theorem Wa(a it:A1):C5 P w K tg (IZ K a) [it] it (λi h=>h.IsTupleIter it a i) where
 mem:=by simp
 obj:=λi h st b hb=>by
  have e:b=it:=by simpa using hb
  subst e;obtain⟨o,e,c,d⟩:=st;exact⟨o,e,λv z=>by rw[d]at z;cases z⟩
 keep:=λi h h' st k=>st.at λo e=>k it (by simp) o e
 item:=by
  intro X A j n B i AN s σ H E I f st q;subst A j n;obtain⟨xs,x,g,hx⟩:=q;obtain⟨AQ,m,p,G⟩:=I.tuple g;obtain⟨u,D,F⟩:=m.get hx;obtain⟨f0,f1,f2,y,t,l⟩:=f it (by simp);refine wpAny_pyNext_tuple_item st (show s.heap.IsTuple a AQ.toArray from p) (x:=u) (by simpa using D) λh' C M=>?_;have L:AU X AN σ H { s with heap:=h' }:=I.turned (t':=s.toks) (λb o hb e=>(M.2 b hb).trans e) f0 f1 y t l;obtain⟨o,e,c,d⟩:=id C;exact⟨u,rfl,Nu (s:={ s with heap:=h' }) e c d () ⟨x,H,L,F,⟨rfl,λys J=>by rw[I.Nt J g];exact hx⟩,C,λb hb=>(f b hb).1⟩⟩
 done:=by
  intro X A j n B i AN s σ H E I f st q;subst A j n;obtain⟨xs,g,hx⟩:=q;obtain⟨AQ,m,p,G⟩:=I.tuple g;obtain⟨f0,f1,f2,y,t,l⟩:=f it (by simp);have N:=m.length;exact wpAny_pyNext_tuple_end (I.ok.hd B) st (show s.heap.IsTuple a AQ.toArray from p) (by simp;omega) λh' eb=>⟨rfl,I.turned (t':=s.toks) (λb o hb e=>eb b o hb e) f0 f1 y t l⟩
 self:=λ_ _ _ _ _ st h=>wpAny_pyIter_tupleiter st h
theorem Wb(it:A1)(lo:Int)(n:Nat):C5 P w K tg (HV lo n) [it] it (λi h=>IsRangeIter h it (lo+(i:Nat)*1) ((n:Int)-(i:Nat)) 1) where
 mem:=by simp
 obj:=λi h st b hb=>by
  have e:b=it:=by simpa using hb
  subst e;exact⟨_,st,λv z=>by
   have u:Data.fields _=Data.cell v:=z;cases u⟩
 keep:=λi h h' st k=>k it (by simp) _ st
 item:=by
  intro X m f j d i AN s σ H E I a st c;subst m f j;obtain⟨f0,f1,f2,l,g,p⟩:=a it (by simp);have W:=Walks.range (prog:=X.prog) (w:=X.w) (I.ok.hd d) it lo 1 n;refine W.item i s _ _ c st λv h' tk y q kk=>?_;obtain⟨t,rfl⟩:=y;have x:AU X AN σ H { s with heap:=h',toks:=tk }:=I.turned (λb o hb e=>kk b o (by simpa using hb) e) f0 f1 l g p;refine⟨_,rfl,Nu (s:={ s with heap:=h',toks:=tk }) (n :="range_iterator") q S S () ⟨.int (lo+i),H,x,⟨t,?_⟩,⟨rfl,rfl⟩,q,λb hb=>(a b hb).1⟩⟩;rw[Int.mul_one]
 done:=by
  intro X m f j d i AN s σ H E I a st c;subst m f j;obtain⟨f0,f1,f2,l,g,p⟩:=a it (by simp);exact wpAny_pyNext_range_end (I.ok.hd d) st (by have:n<=i:=c;omega) λh' eb=>⟨rfl,I.turned (t':=s.toks) (λb o hb e=>eb b o hb e) f0 f1 l g p⟩
 self:=λ_ _ _ _ _ st h=>wpAny_pyIter_rangeiter st h
end L2
namespace L2
section
variable{X:Cx}
theorem gc{σ:St}{H:Hp}{R:It->Hp->Prop}{lo hi:Int}{t u v:Tok}{tk:Nat}(I:AU X AN σ H s)(h1 : -(2 ^ 62)<=lo)(h2:lo<2 ^ 62)(d : -(2 ^ 62)<=hi)(c:hi<2 ^ 62)(q:R (HV lo (hi-lo).toNat) H):A7 (ri X) X.A (pyIter (.ref s.heap.objs.size)) (NY X AN σ tg R) E { s with heap:=s.heap.push { cls:=.type "range",data:=.fields #[.int lo t,.int hi u,.int 1 v] },toks:=tk }:=by
 refine wpAny_pyIter_range (IsRange.new ..) (small_one h1 h2 d c) ?_;have a:AU X AN σ H { s with heap:=s.heap.push { cls:=.type "range",data:=.fields #[.int lo t,.int hi u,.int 1 v] },toks:=tk }:=I.kept λb o e=>ze _ e;refine⟨(s.heap.push { cls:=.type "range",data:=.fields #[.int lo t,.int hi u,.int 1 v] }).objs.size,[(s.heap.push { cls:=.type "range",data:=.fields #[.int lo t,.int hi u,.int 1 v] }).objs.size],_,_,H,rfl,
  a.kept (t':=tk) λb o e=>ze _ e,Wb _ lo (hi-lo).toNat,?_,λb hb=>?_,q⟩
 ·have e1:lo+((0:Nat):Int)*1=lo:=by simp
  have e2:(((hi-lo).toNat:Nat):Int)-((0:Nat):Int)=Builtin.Range.rangeSize lo hi 1:=by rw[rangeSize_one];split<;>omega
  show IsRangeIter _ _ (lo+((0:Nat):Int)*1) ((((hi-lo).toNat:Nat):Int)-((0:Nat):Int)) 1;rw[e1,e2];exact zw _ rfl
 ·have e:b=(s.heap.push { cls:=.type "range",data:=.fields #[.int lo t,.int hi u,.int 1 v] }).objs.size:=by simpa using hb
  subst e;exact a.R9 (zk _) (a.hok.fresh (zk _))
def X9(ta:TA):TI:=λσ H R=>ta σ H λvs H1=>∃j:Int,vs=[.int j] ∧ -(2 ^ 62)<=j/\j<2 ^ 62/\R (HV 0 j.toNat) H1
theorem lv{a:Expr}{ta:TA}{p:Pos}(d:Gl X "range")(b:X.mg "range"=U)(f:PA X [a] ta)(hs:A9 [a] X.env=[(false,eval a X.env)]:=by rfl):PI X tg (.Call (.Name "range" p) [a] [] pos) (X9 ta):=by
 intro AN s σ H R I h;refine Call_ (Iz I d b boot_range (PyProof.Rows.callWith_type1 (jE (f pos AN s σ H _ I h) λus s1 ⟨vs,H1,I1,r1,q1⟩=>?_) hs S));obtain⟨j,e,q1,q2,q⟩:=q1;subst e;cases r1 with
 |cons r c=>
  cases c;obtain⟨t,rfl⟩:=r;exact call_range_1 (gc I1 () () q1 q2 (by simpa using q))
def si(c:TI)(g:TG)(tb:TS):TS:=λD σ H=>c σ H λJ H1=>∃W:Nat->Nat->St->Hp->Prop,(∃m,W 0 m σ H1)/\∀i m σ H,W i m σ H →
 (J.stop i H/\D.nx σ H)\/(J.go i H/\∃N:St->Hp->Prop,(∀ σ' H',N σ' H'->∃a,a<m/\W (i+1) a σ' H')/\∀x H',J.yld i H x H'->g x σ H' λb H2=>tb { D with nx:=N,ct:=N,bk:=D.nx } b H2)
def DN(fp:O A1)(h:A6):O (A1×AE):=fp.filterMap λb=>(h.get? b).map λo=>(b,o)
theorem uZ{b:A1}{o:AE}(hb:b∈fp)(e:h.get? b=Z o):(b,o)∈DN fp h:=hO.mpr ⟨b,hb,by rw[e];rfl⟩
theorem gu{p:A1×AE}(hp:p∈DN fp h):p.1∈fp/\h.get? p.1=Z p.2:=by
 obtain⟨b,hb,e⟩:=hO.mp hp;cases q:h.get? b with
 |none=>rw[q]at e;cases e
 |some o=>
  rw[q]at e;have e':(b,o)=p:=kf e;subst e';exact⟨hb,q⟩
theorem AU.pinned{σ:St}{H:Hp}(I:AU X AN σ H s)(a:∀b∈fp,uq X AN H b)(ho:∀b∈fp,∃o,s.heap.get? b=Z o/\∀v,o.data≠.cell v):AU X (AN++DN fp s.heap) σ H s:=
 I.Pr λp hp=>(List.mem_append.mp hp).elim (λz=>I.pin p (z5 _ z)) λz=>by
  obtain⟨hb,e⟩:=gu z;obtain⟨f0,f1,f2,_⟩:=a p.1 hb;obtain⟨o,e',d⟩:=ho p.1 hb;rw[e]at e';cases e';exact⟨e,f0,f1,f2,d⟩
theorem AU.xg{pl:O (A1×AE)}{σ:St}{H:Hp}(I:AU X (AN++pl) σ H s):AU X AN σ H s:=I.Pr λp hp=>I.pin p (z5 _ (zS _ hp))
theorem Re{F:TI}{g:TG}{tb:TS}(hp:PassesOwn (ri X) X.A X.env X.xe)(B:X.calm=true)(hi:PI X tg iter F)(hg:PG X tg g)(hb:R8 X body tb)(hs:∀x,foldedSetIterable iter X.env x=pure x:=by intro _;rfl):PS X (.For tg iter body [] pos) (si F g tb):=by
 intro AN s σ H D I h;refine wpAny_For (jE (hi AN s σ H _ I h) λv s1 h1=>jE h1 λa2 s2 h2=>?_) hs;obtain⟨it,fp,tn,J,H2,e,I2,T,a1,f2,W,⟨Q,w0⟩,turn⟩:=h2;subst e;have y:∀{H':Hp},(∀b∈fp,H' b=U)->∀b∈fp,uq X AN H' b:=λhn b hb=>⟨hn b hb,(f2 b hb).2⟩;refine codeAny_forLoop_any (λn s'=>∃i σ' H',AU X AN σ' H' s'/\tn i s'.heap/\(∀b∈fp,H' b=U)/\W i n σ' H') ?_ Q ⟨0,σ,H2,I2,a1,λb hb=>(f2 b hb).1,w0⟩;rintro n C ⟨i,p,t,K,E,G,L⟩;rcases turn i n p t L with⟨M,qn⟩|⟨go,N,hN,step⟩
 ·refine kU hp (jE (T.done X S S S B i AN C p t X.xe K (y G) E M) λr s4 ⟨hr,I4⟩=>?_);subst hr;exact wpAny_execs_nil ⟨p,t,I4,qn⟩
 ·refine kU hp (jE (T.item X S S S B i AN C p t X.xe K (y G) E go) λr s4 ⟨u,hr,h4⟩=>?_);subst hr;refine kU hp (jE h4 λ_ s5 ⟨x,H5,I5,r5,y5,st5,fr5⟩=>?_);have a0:=I5.pinned (y fr5) (T.obj _ _ st5);refine kU hp (jE (hg _ s5 p H5 x u _ a0 r5 (step x H5 y5)) λ_ s6 ⟨σ6,H6,I6,q6⟩=>?_);refine kU hp (jE (hb _ s6 σ6 H6 _ I6 q6) λf z l=>?_);have again:∀{a:St} {j:Hp},AU X (AN++DN fp s5.heap) a j z->N a j->∃m,m<n/\∃i σ' H',AU X AN σ' H' z/\tn i z.heap/\(∀b∈fp,H' b=U)/\W i m σ' H':=λ{a j} c q=>by
   obtain⟨m',hm,P⟩:=hN a j q;refine⟨m',hm,i+1,a,j,c.xg,T.keep _ _ _ st5 λb hb o e=>(c.pin (b,o) (z5 _ (z5 _ (uZ hb e)))).1,λb hb=>?_,P⟩;obtain⟨o,e,d⟩:=T.obj _ _ st5 b hb;exact(c.pin (b,o) (z5 _ (z5 _ (uZ hb e)))).2.1
  cases f with
  |next=>obtain⟨a,j,c,q⟩:=l;exact again c q
  |cont=>obtain⟨a,j,c,q⟩:=l;exact again c q
  |brk=>obtain⟨a,j,c,l⟩:=l;exact⟨a,j,c.xg,l⟩
  |ret v=>obtain⟨x7,a,j,c,r7,l⟩:=l;exact⟨x7,a,j,c.xg,r7,l⟩
end
end L2
namespace L2
abbrev R2:=V->V->Hp->VK->Prop
def Bb(X:Cx)(f:A0->A0->Sem A0)(r:R2):Prop:=
 ∀(AN:O (A1×AE)) (s:A2) (σ:St) (H:Hp) (x y:V) (v u:A0) (Q:VK),AU X AN σ H s->As x v->As y u->r x y H Q →
  A7 (ri X) X.A (f v u) (EP X AN σ Q) X.xe s
def EB(X:Cx)(f:A0->Sem A0)(r:V->Hp->VK->Prop):Prop:=
 ∀(AN:O (A1×AE)) (s:A2) (σ:St) (H:Hp) (x:V) (v:A0) (Q:VK),AU X AN σ H s->As x v->r x H Q →
  A7 (ri X) X.A (f v) (EP X AN σ Q) X.xe s
def iz(X:Cx)(f:A0)(r:O V->Hp->VK->Prop):Prop:=
 ∀(AN:O (A1×AE)) (s:A2) (σ:St) (H:Hp) (xs:O V) (us:O A0) (Q:VK),AU X AN σ H s->AX xs us->r xs H Q →
  A7 (ri X) X.A (call f us) (EP X AN σ Q) X.xe s
def sr(X:Cx)(r:V->Hp->(Bool->Hp->Prop)->Prop):Prop:=
 ∀(AN:O (A1×AE)) (s:A2) (σ:St) (H:Hp) (x:V) (v:A0) (Q:Bool->Hp->Prop),AU X AN σ H s->As x v->r x H Q →
  A7 (ri X) X.A (truthy v) (TP X AN σ Q) X.xe s
def Fn(r:R2)(ta tb:TE):TE:=λσ H Q=>ta σ H λx H1=>tb σ H1 λy H2=>r x y H2 Q
def P6(r:V->Hp->VK->Prop)(ta:TE):TE:=λσ H Q=>ta σ H λx H1=>r x H1 Q
def rI(C:Int->Int->Prop)(g:Int->Int->V):R2:=λx y H Q=>∃i j,x=.int i/\y=.int j/\C i j/\Q (g i j) H
def EO(g:Int->Int->V):R2:=λx y H Q=>∃i j,x=.int i/\y=.int j/\Q (g i j) H
def rU(g:Int->V):V->Hp->VK->Prop:=λx H Q=>∃i,x=.int i/\Q (g i) H
section
variable{X:Cx}{a b:Expr}{ta tb tc:TE}
theorem ID(e:PE X a ta)(hb:PE X b tb){σ:St}{H:Hp}{R:V->V->Hp->Prop}(I:AU X AN σ H s)(h:ta σ H λx H1=>tb σ H1 λy H2=>R x y H2){Q:B7}{f:A0->A0->Sem A0}(i:∀v u c x y H2,AU X AN σ H2 c->As x v->As y u->R x y H2->A7 (ri X) X.A (f v u) Q X.xe c):
  A7 (ri X) X.A (eval a X.env) (λv d=>A7 (ri X) X.A (eval b X.env) (λu g=>A7 (ri X) X.A (f v u) Q X.xe g) X.xe d) X.xe s:=by
 refine jE (e AN s σ H _ I h) λv s1 ⟨x,H1,I1,r1,q1⟩=>?_;refine jE (hb AN s1 σ H1 _ I1 q1) λu c ⟨y,H2,I2,r2,q2⟩=>?_;exact i v u c x y H2 I2 r1 r2 q2
theorem sg{op:Operator}{r:R2}(ho:Bb X (binaryOp op) r)(d:PE X a ta)(hb:PE X b tb):PE X (.BinOp a op b pos) (Fn r ta tb):=by
 intro AN s σ H Q I h;exact wpAny_BinOp (ID d hb I h λv u e x y H2 c f g q=>ho AN e σ H2 x y v u Q c f g q)
theorem am{op:UnaryOp}{r:V->Hp->VK->Prop}(ho:EB X (unaryOp op) r)(b:PE X a ta):PE X (.UnaryOp op a pos) (P6 r ta):=by
 intro AN s σ H Q I h;exact UnaryOp_ (jE (b AN s σ H _ I h) λv s1 ⟨x,H1,I1,r1,q1⟩=>ho AN s1 σ H1 x v Q I1 r1 q1)
theorem GT{f:A0->A0->Sem A0}{C:Int->Int->Prop}{g:Int->Int->Int}
  (d:∀(i j:Int) (t u:Tok) (s:A2) (Q:B7) (E:B7),C i j->Q (.int (g i j) s.toks) { s with toks:=s.toks+1 }->A7 (ri X) X.A (f (.int i t) (.int j u)) Q E s):
  Bb X f (rI C λi j=>.int (g i j)):=by
 intro AN s σ H x y v u Q I b c h;obtain⟨i,j,rfl,rfl,a,q⟩:=h;obtain⟨t,rfl⟩:=b;obtain⟨e,rfl⟩:=c;exact d i j t e s _ _ a ⟨.int (g i j),H,I.tok _,⟨_,rfl⟩,q⟩
theorem MZ{f:A0->A0->Sem A0}{g:Int->Int->Int}
  (a:∀(i j:Int) (t u:Tok) (s:A2) (Q:B7) (E:B7),Q (.int (g i j) s.toks) { s with toks:=s.toks+1 }->A7 (ri X) X.A (f (.int i t) (.int j u)) Q E s):
  Bb X f (EO λi j=>.int (g i j)):=by
 intro AN s σ H x y v u Q I b d h;obtain⟨i,j,rfl,rfl,q⟩:=h;obtain⟨t,rfl⟩:=b;obtain⟨c,rfl⟩:=d;exact a i j t c s _ _ ⟨.int (g i j),H,I.tok _,⟨_,rfl⟩,q⟩
theorem Iy{f:A0->A0->Sem A0}{g:Int->Int->Bool}
  (a:∀(i j:Int) (t u:Tok) (s:A2) (Q:B7) (E:B7),Q (.bool (g i j)) s->A7 (ri X) X.A (f (.int i t) (.int j u)) Q E s):
  Bb X f (EO λi j=>.bl (g i j)):=by
 intro AN s σ H x y v u Q I b d h;obtain⟨i,j,rfl,rfl,q⟩:=h;obtain⟨t,rfl⟩:=b;obtain⟨c,rfl⟩:=d;exact a i j t c s _ _ ⟨.bl (g i j),H,I,rfl,q⟩
def ly(i j:Int):Prop:=0<j/\j<1073741824
def iS(i j:Int):Prop:=0<=j/\j<=1000000/\i.natAbs<2 ^ 64
def LL(i j:Int):Prop:=(-(2 ^ 64)<i/\i<2 ^ 64)\/(-(2 ^ 64)<j/\j<2 ^ 64)
theorem LL.ok{i j:Int}(h:LL i j):IntMulOk i j:=by
 rcases h with⟨h1,h2⟩|⟨h1,h2⟩
 ·exact .of_left (intBits_le_64 h1 h2)
 ·exact .of_right (intBits_le_64 h1 h2)
theorem du:Bb X (binaryOp .Add) (EO λi j=>.int (i+j)):=MZ λ_ _ _ _ _ _ _ q=>add_int q
theorem t9:Bb X (binaryOp .Sub) (EO λi j=>.int (i-j)):=MZ λ_ _ _ _ _ _ _ q=>sub_int q
theorem ox:Bb X (binaryOp .Mult) (rI LL λi j=>.int (i*j)):=GT λ_ _ _ _ _ _ _ a q=>mul_int q a.ok
theorem tP:Bb X (binaryOp .FloorDiv) (rI ly λi j=>.int (i / j)):=GT λi j _ _ _ _ _ a q=>by
 have h1:(0:Int)<j:=a.1;have h2:j<1073741824:=a.2;exact floordiv_int () (by rw[Int.fdiv_eq_ediv_of_nonneg i ()];exact q) (.inl (PyProof.noPylong_small ()))
theorem rf:Bb X (binaryOp .Mod) (rI (λ_ j=>0<j) λi j=>.int (i%j)):=GT λi j _ _ _ _ _ a q=>by
 have h1:(0:Int)<j:=a;exact mod_int' () (by rw[Int.fmod_eq_emod_of_nonneg i ()];exact q)
theorem S4:Bb X (binaryOp .Pow) (rI iS λi j=>.int (i ^ j.toNat)):=GT λ_ _ _ _ _ _ _ a q=>pow_int_small a.1 a.2.1 a.2.2 q
theorem f6{f:A0->Sem A0}{g:Int->Int}
  (a:∀(i:Int) (t:Tok) (s:A2) (Q:B7) (E:B7),Q (.int (g i) s.toks) { s with toks:=s.toks+1 }->A7 (ri X) X.A (f (.int i t)) Q E s):
  EB X f (rU λi=>.int (g i)):=by
 intro AN s σ H x v Q I b h;obtain⟨i,rfl,q⟩:=h;obtain⟨t,rfl⟩:=b;exact a i t s _ _ ⟨.int (g i),H,I.tok _,⟨_,rfl⟩,q⟩
theorem aw:EB X (unaryOp .USub) (rU λi=>.int (-i)):=f6 λ_ _ _ _ _ q=>neg_int q
theorem Wc{σ:St}{H:Hp}{Q:VK}{k a:Bool}(I:AU X AN σ H s)(q:Q (.bl k) H)(e:k=a):EP X AN σ Q (.bool a) s:=by
 subst e;exact⟨.bl k,H,I,rfl,q⟩
theorem fF:Bb X (AG .Lt) (EO λi j=>.bl (decide (i<j))):=Iy λ_ _ _ _ _ _ _ q=>lt_int q
theorem Sn:Bb X (AG .Gt) (EO λi j=>.bl (decide (j<i))):=Iy λ_ _ _ _ _ _ _ q=>gt_int q
theorem dy:Bb X (AG .GtE) (EO λi j=>.bl (decide (j<=i))):=Iy λ_ _ _ _ _ _ _ q=>ge_int q
theorem oB:Bb X (AG .In) (λx y H Q=>∃i j,x=.str i/\y=.str j/\Q (.bl (!(Builtin.Str.occurrences j i 0 j.length 1).isEmpty)) H):=by
 intro AN s σ H x y v u Q I a b h;obtain⟨i,j,rfl,rfl,q⟩:=h;obtain⟨t,rfl⟩:=a;obtain⟨c,rfl⟩:=b;exact in_str (Wc I q S)
theorem ip:Bb X (AG .Is) (λx y H Q=>y=.non/\Q (.bl (decide (x=.non))) H):=by
 intro AN s σ H x y v u Q I a b h;obtain⟨rfl,q⟩:=h;cases b;refine is_none_gen (Wc I q ?_);cases x<;>first
  |(cases a;rfl)
  |(obtain⟨t,rfl⟩:=a;rfl)
theorem UX:Bb X (AG .IsNot) (λx y H Q=>y=.non/\Q (.bl (!decide (x=.non))) H):=by
 intro AN s σ H x y v u Q I a b h;obtain⟨rfl,q⟩:=h;cases b;refine isnot_none_gen (Wc I q ?_);cases x<;>first
  |(cases a;rfl)
  |(obtain⟨t,rfl⟩:=a;rfl)
theorem cP(b:Expr)(h:op≠.In:=by decide)(h2:op≠.NotIn:=by decide):behindInMarks op b=false:=by
 have e1:(op==CmpOp.In)=false:=by cases op<;>first|rfl|exact absurd S h
 have e2:(op==CmpOp.NotIn)=false:=by cases op<;>first|rfl|exact absurd S h2
 cases b<;>simp[behindInMarks,e1,e2]
theorem mh{r:R2}(ho:Bb X (AG op) r)(d:PE X a ta)(hb:PE X b tb)(i:behindInMarks op b=false):PE X (.Compare a [op] [b] pos) (Fn r ta tb):=by
 intro AN s σ H Q I h;exact wpAny_Compare1 (ID d hb I h λv u e x y H2 c f g q=>ho AN e σ H2 x y v u Q c f g q) i
def hZ(t:TE):TT:=λσ H Q=>t σ H λx H'=>∃k,x=.bl k/\Q k H'
theorem sQ{r:R2}(ho:Bb X (AG op) r)(f:PE X a ta)(hb:PE X b tb)(d:behindInMarks op b=false):PT X (.Compare a [op] [b] pos) (hZ (Fn r ta tb)):=by
 intro AN s σ H Q I h;refine wpAny_isTrue_Compare1 (jE (f AN s σ H _ I h) λv s1 ⟨x,H1,I1,r1,q1⟩=>jE (hb AN s1 σ H1 _ I1 q1) λu s2 ⟨y,H2,I2,r2,q2⟩=>
  jE (ho AN s2 σ H2 x y v u _ I2 r1 r2 q2) λc s3 ⟨z,H3,I3,r3,k,e,q3⟩=>?_) d
 subst e;cases r3;exact km ⟨H3,I3,q3⟩
def LM(K:B1)(x:V)(H:Hp)(k:Bool):Prop:=
 match x with
 |.non=>k=false
 |.bl b=>k=b
 |.int i=>k=(i != 0)
 |.str y=>y.length<=AA/\k=((y.length:Int) != 0)
 |.byt y=>y.size<=AA/\k=((y.size:Int) != 0)
 |.ref p=>(∃xs,uG K H p xs/\k=!xs.isEmpty)\/(∃xs,Ay K H p xs/\k=!xs.isEmpty)\/∃AO,H p=Z (.dK AO)/\k=!AO.isEmpty
 |_=>False
theorem Wf{AO:O (κ×V)}{vs:O (κ×A0)}(r:KV AO vs):(!vs.isEmpty)=!AO.isEmpty:=by
 cases r<;>rfl
theorem IW{xs:O V}(r:AX xs AQ):(!AQ.toArray.isEmpty)=!xs.isEmpty:=by
 cases r<;>simp
theorem DP:(AA:Nat)<2 ^ 63:=by rw[sizeLine_eq];decide
theorem oP:sr X (λx H Q=>∃k,LM X.K x H k/\Q k H):=by
 intro AN s σ H x v Q I a h;obtain⟨k,e,q⟩:=h;have j:=DP;have hs:AA=16777216:=sizeLine_eq;cases x with
 |non=>
  cases a;have e':k=false:=e;subst e';exact truthy_none ⟨H,I,q⟩
 |bl b=>
  cases a;have e':k=b:=e;subst e';exact km ⟨H,I,q⟩
 |int i=>
  obtain⟨t,rfl⟩:=a;have e':k=(i != 0):=e;subst e';exact PySem.P.truthy_int ⟨H,I,q⟩
 |str y=>
  obtain⟨t,rfl⟩:=a;obtain⟨f,e'⟩:y.length<=AA/\k=((y.length:Int) != 0):=e;subst e';exact PySem.P.truthy_str () ⟨H,I.tok _,q⟩
 |byt y=>
  obtain⟨t,rfl⟩:=a;obtain⟨f,e'⟩:y.size<=AA/\k=((y.size:Int) != 0):=e;subst e';exact PySem.W.truthy_bytes () ⟨H,I.tok _,q⟩
 |ref p=>
  cases a;have e':(∃xs,uG X.K H p xs/\k=!xs.isEmpty)\/(∃xs,Ay X.K H p xs/\k=!xs.isEmpty)\/∃AO,H p=Z (.dK AO)/\k=!AO.isEmpty:=e;rcases e' with⟨xs,hx,e'⟩|⟨xs,hx,e'⟩|⟨AO,hx,e'⟩
  ·subst e';obtain⟨AQ,r,pl,c⟩:=I.list hx;have d:=r.length;exact wpAny_truthy_list pl.isList (by simp only[zI];omega) ⟨H,I.tok _,by rw[IW r];exact q⟩
  ·subst e';obtain⟨AQ,r,pl,c⟩:=I.tuple hx;have d:=r.length;exact truthy_tuple pl (by simp only[zI];omega) ⟨H,I.tok _,by rw[IW r];exact q⟩
  ·subst e';obtain⟨c,g,vs,r,m⟩:AO.length<=AA/\(p==sysModules)=false/\∃vs,KV AO vs/\s.heap.DictOf (bw X.prog X.w) p vs:=I.hok p _ hx;have d:AO.length=vs.length:=Paired.length r;exact wpAny_truthy_dict g m () ⟨H,I.tok _,by rw[Wf r];exact q⟩
 |_=>exact(show False from e).elim
theorem iq(c:PE X a ta)(he:∀b,isTrue a X.env b=(do let v <-b;standAt a.pos;holding [v] (truthy v))):
  PT X a (λσ H Q=>ta σ H λx H'=>∃k,LM X.K x H' k/\Q k H'):=by
 intro AN s σ H Q I h;exact isTrue_plain (jE (c AN s σ H _ I h) λv s1 ⟨x,H1,I1,r1,q1⟩=>oP AN s1 σ H1 x v Q I1 r1 q1) (he _)
theorem Wg:Bb X (binaryOp .Add) (λx y H Q=>∃i j,x=.str i/\y=.str j/\i.length+j.length<=AA/\Q (.str (i++j)) H):=by
 intro AN s σ H x y v u Q I a c h;obtain⟨i,j,rfl,rfl,b,q⟩:=h;obtain⟨t,rfl⟩:=a;obtain⟨d,rfl⟩:=c;exact add_str (λd tk=>⟨.str (i++j),H,I.tok _,⟨_,rfl⟩,q⟩) b
theorem BA{x:V}(r:AX [x] us):∃u,us=[u]/\As x u:=by
 cases r with
 |cons b a=>cases a;exact⟨_,rfl,b⟩
theorem C2{x y:V}(r:AX [x,y] us):∃u a,us=[u,a]/\As x u/\As y a:=by
 cases r with
 |cons e b=>
  cases b with
  |cons c d=>cases d;exact⟨_,_,rfl,e,c⟩
theorem bz:iz X (.builtin "abs") (λxs H Q=>∃i,xs=[.int i]/\Q (.int (if i<0 then -i else i)) H):=by
 intro AN s σ H xs us Q I r h;obtain⟨i,rfl,q⟩:=h;obtain⟨u,rfl,t,rfl⟩:=BA r;exact call_abs_int λu tk=>⟨.int (if i<0 then -i else i),H,I.tok _,⟨_,rfl⟩,q⟩
theorem oQ:iz X (.type "int") (λxs H Q=>(∃i,xs=[.int i]/\Q (.int i) H)\/∃k,xs=[.bl k]/\Q (.int (if k then 1 else 0)) H):=by
 intro AN s σ H xs us Q I r h;rcases h with⟨i,rfl,q⟩|⟨k,rfl,q⟩
 ·obtain⟨u,rfl,t,rfl⟩:=BA r;exact call_int_int ⟨.int i,H,I,⟨_,rfl⟩,q⟩
 ·obtain⟨u,rfl,a⟩:=BA r;cases a;exact call_int_bool ⟨.int (if k then 1 else 0),H,I.tok _,⟨_,rfl⟩,q⟩
end
end L2
namespace L2
structure UV (h:Heap) (x dx C:Addr) (mA:Str->Option Value):Prop where
 obj:h.get? x=some (instObj C dx)
 ns:h.Ns1 dx mA
 ne:dx≠x
section
variable{x dx f:A1}{mA:AJ->Y A0}{v:A0}
end
theorem Iu.some_of{v:V}{o:Y A0}(r:Iu (Z v) o):∃u,o=Z u/\As v u:=by
 cases o with
 |none=>exact(show False from r).elim
 |some u=>exact⟨u,rfl,r⟩
section
variable{H H':Hp}{h':A6}{dx:A1}{fs fs':O (AJ×V)}
theorem Hx(c:Aq P w H h)(e:H a=Z (.ins C dx fs)):∃mA,UV h a dx C mA/\(∀f,Iu (fs.lookup f) (mA f))/\PySem.Within mA (fs.map (·.1))/\fs.length<=1000/\H dx=Z (.own a):=by
 obtain⟨d,z,g,b,mA,n,r,q⟩:=(show iw P w H h a (.ins C dx fs) from c a _ e);exact⟨mA,⟨b,n,g⟩,r,q,z,d⟩
end
structure Fy (K:B1) (C:Addr) (f:Str) (v:V) (u:Value):Prop where
 at_:PySem.W.findIn K (.ref C) f=some (some u)
 rel:As v u
 get:PySem.W.specialIn K u "__get__"=some none
 cp:PySem.W.copiedNames.contains f=false
section
variable{X:Cx}{σ:St}{H:Hp}{dx:A1}{fs:O (AJ×V)}{f:AJ}{v:V}
end
section
variable{X:Cx}{o value:Expr}{f:AJ}{pos':Pos}{ta tv:TE}
end
section
variable{X:Cx}{σ:St}{H:Hp}{Q:B7}{c:A0}{b:Bool}
end
end L2
namespace L2
structure nZ (k:Nat) (A:Around):Prop where
 hd:A.handled=none
 dp:A.depth+3*k+5<recursionLimit
 un:A.units+16*k+200<cLine
theorem nZ.mono{k:Nat}(r:nZ k A)(h:j<=k):nZ j A:=⟨r.hd,by have:=r.dp;omega,by have:=r.un;omega⟩
theorem nZ.deeper{k:Nat}(r:nZ (k+1) A)(env:Env):nZ k (A.deeper env):=
 ⟨r.hd,by have:=r.dp;show A.depth+1+3*k+5<_;omega,by have:=r.un;show A.units+3+16*k+200<_;omega⟩
theorem nZ.depth{k:Nat}(r:nZ k A):A.depth<recursionLimit:=by have:=r.dp;omega
def EU:TA:=λ_ H Q=>Q [] H
def zB(ta:TE)(a:TA):TA:=λσ H Q=>ta σ H λx H1=>a σ H1 λxs H2=>Q (x::xs) H2
section
variable{X:Cx}{te:TE}{t:TA}
theorem rP:PA X [] EU:=λ_ _ _ _ H Q I h=>Calls.spliced_nil ⟨[],H,I,.nil,h⟩
theorem gR(b:PE X e te)(a:PA X es t)(hs:A9 (e::es) X.env=(false,eval e X.env)::A9 es X.env:=by rfl):PA X (e::es) (zB te t):=by
 intro pos AN s σ H Q I h;rw[hs];show A7 _ _ (spliced ((false,eval e X.env)::AD pos (A9 es X.env))) _ _ s;refine Calls.spliced_cons (jE (b AN s σ H _ I h) λu s1 ⟨x,H1,I1,r1,q1⟩=>?_);exact jE (a pos AN s1 σ H1 _ I1 q1) λus s2 ⟨xs,H2,I2,r2,q2⟩=>⟨x::xs,H2,I2,.cons r1 r2,q2⟩
def SI(t:TA):TE:=λσ H Q=>t σ H λxs H1=>xs.length<=AA/\∀p,H1 p=U->Q (.ref p) (B4 H1 p (.tup xs))
def oq(t:TA):TE:=λσ H Q=>t σ H λxs H1=>xs.length<=AA/\∀p,H1 p=U->Q (.ref p) (B4 H1 p (.lst xs))
theorem OZ{x1}(h:PA X es t):PE X (.Tuple es x1 pos) (SI t):=by
 intro AN s σ H Q I c;refine wpAny_Tuple_spliced (jE (h pos AN s σ H _ I c) λus s1 ⟨xs,H1,I1,r,z,q⟩=>⟨by rw[<-r.length];exact z,?_⟩);have a:H1 s1.heap.objs.size=U:=I1.hok.fresh (zk _);refine⟨.ref s1.heap.objs.size,B4 H1 s1.heap.objs.size (.tup xs),I1.laid (t':=s1.toks) (λb u e=>ze _ e) (zk _) ?_,rfl,q _ a⟩;exact⟨z,us,r,⟨_,zw _ rfl,rfl,⟨_,rfl⟩,rfl⟩⟩
theorem la(h:PA X es t):PE X (.List es pos) (oq t):=by
 intro AN s σ H Q I c;refine wpAny_List_spliced (jE (h pos AN s σ H _ I c) λus s1 ⟨xs,H1,I1,r,z,q⟩=>⟨by rw[<-r.length];exact z,?_⟩);have a:H1 s1.heap.objs.size=U:=I1.hok.fresh (zk _);refine⟨.ref s1.heap.objs.size,B4 H1 s1.heap.objs.size (.lst xs),I1.laid (t':=s1.toks) (λb u e=>ze _ e) (zk _) ?_,rfl,q _ a⟩;exact⟨z,us,0,r,zw _ rfl⟩
end
abbrev Sp:=O V->Hp->VK->XK->Prop
abbrev Ct:=O Env->Hp->A2->XK->A0->A2->Prop
structure Hk (P:Program) (w:World) (K:B1) (mg:Str->Option Value) (base:Heap) (A:Around) (outer:List Env) (s:Shared) (H:Hp):Prop where
 frames:A.frames=some outer
 mod:Mod K mg base
 bs:∀b o,base.get? b=some o->s.heap.get? b=some o/\H b=none
 bsz:base.objs.size<=s.heap.objs.size
 Iw:s.heap.FunFrames base outer
 frf:∀b∈D8 outer,H b=none
 hok:Aq P w H s.heap
 bare:AllBare s.gens
def CE(outer:O Env)(P:A3)(w:A4)(H:Hp)(s:A2)(Q:VK)(u:A0)(s':A2):Prop:=
 ∃v H',s'.os=s.os/\AllBare s'.gens/\Un (D8 outer) [] H H' s.heap s'.heap/\Aq P w H' s'.heap/\As v u/\Q v H'
def CR(CX:Ct)(outer:O Env)(P:A3)(w:A4)(H:Hp)(s:A2)(Q:VK)(E:XK)(r:Result)(s':A2):Prop:=
 match r with
 |.ok (.ret u)=>CE outer P w H s Q u s'
 |.ok _=>False
 |.error e=>CX outer H s E e s'
structure rQ (P:Program) (w:World) (K:B1) (mg:Str->Option Value) (base:Heap) (CX:Ct) (k:Nat) (f:Addr) (fd:FuncData) (ps:AZ) (sp:Sp):Prop where
 len:∀vs H Q E,sp vs H Q E->vs.length=ps.length
 run:∀(A:Around) (outer:List Env) (s:Shared) (H:Hp) (args:Args) (us:List Value) (vs:List V) (Q:VK) (E:XK),nZ k A->Hk P w K mg base A outer s H->BindsTo s fd args (ps.zip us)->AX vs us->sp vs H Q E →
  codeAny (model P w) A (.call (.ref f) args) (CR CX outer P w H s Q E) s
section
variable{X:Cx}{σ:St}{H:Hp}{s':A2}
theorem AU.env0(I:AU X AN σ H s):Hk X.prog X.w X.K X.mg X.base X.A X.stack s H:=
 ⟨I.ok.frames,I.ok.mod,I.bs,Zs I.ok.bsz I.sz,I.stack,I.Yr,I.hok,I.bare⟩
theorem AU.after{Q:VK}(I:AU X AN σ H s)(h:CE X.stack X.prog X.w H s Q u s'):EP X AN σ Q u s':=by
 obtain⟨v,H',os,f,un,e,r,q⟩:=h;obtain⟨c,g,d,t,a⟩:=s';obtain rfl:a=s.os:=os;exact⟨v,H',I.call (h':=c) (g':=g) (d':=d) (t':=t) (ch:=[]) un e f (λb z=>absurd z (by simp)),r,q⟩
end
def lj(sp:Sp)(dvs:O V)(E:XK)(t:TA):TE:=λσ H Q=>t σ H λvs H1=>sp (vs++dvs) H1 Q E
def BQ(K:B1)(fd:FuncData)(ps:AZ)(ds:O A0):Prop:=
 ∀(s:A2) (us:O A0),K.In s.heap->(us++ds).length=ps.length->BindsTo s fd ⟨us,[]⟩ (ps.zip (us++ds))
theorem BQ.all(h:∀us:O A0,us.length=ps.length->bindArgs fd ⟨us,[]⟩=pure (ps.zip us)):BQ K fd ps []:=λs us _ a=>by
 rw[qv]at a ⊢;exact .of_eq (h us a)
def C9(CX:Ct)(X:Cx)(E:XK):Prop:=∀(AN:O (A1×AE)) (σ:St) (H:Hp) (s:A2) (e:A0) (s':A2),AU X AN σ H s->CX X.stack H s E e s'->X.xe e s'
section
variable{X:Cx}{CX:Ct}{k:Nat}{f:A1}{sp:Sp}{dvs:O V}{ds:O A0}{E:XK}{m:AJ}{p:Pos}{o:Expr}{ta:TE}{t:TA}
theorem ce{σ:St}{H:Hp}{Q:VK}{vs:O V}(F:rQ X.prog X.w X.K X.mg X.base CX k f fd ps sp)(c:nZ k X.A)(hb:BQ X.K fd ps ds)(hd:AX dvs ds)(hx:C9 CX X E)(I:AU X AN σ H s)(r:AX vs us)(h:sp (vs++dvs) H Q E):A7 (ri X) X.A (call (.ref f) us) (EP X AN σ Q) X.xe s:=by
 have b:AX (vs++dvs) (us++ds):=r.append hd;have d:(us++ds).length=ps.length:=by rw[<-b.length];exact F.len _ _ _ _ h
 refine wpAny_call (codeAny_mono (F.run X.A X.stack s H ⟨us,[]⟩ (us++ds) (vs++dvs) Q E c I.env0 (hb s us I.kIn d) b h) λr s' a=>?_);cases r with
 |error e=>exact hx AN σ H s e s' I a
 |ok fl=>
  cases fl with
  |ret u=>exact I.after a
  |next=>exact False.elim a
  |brk=>exact False.elim a
  |cont=>exact False.elim a
theorem Px(F:rQ X.prog X.w X.K X.mg X.base CX k f fd ps sp)(i:nZ k X.A)(a:Gl X x)(j:X.mg x=Z (.ref f))(d:keepIn X.K (.ref f)=true)(hb:BQ X.K fd ps ds)(hd:AX dvs ds)(hx:C9 CX X E)
  (c:PA X (e::es) t) (g:re x:=by decide) (he:A9 (e::es) X.env=(false,eval e X.env)::A9 es X.env:=by rfl) (b:(AD pos (A9 es X.env)).any (·.1)=false:=by rfl):
  PE X (.Call (.Name x p) (e::es) [] pos) (lj sp dvs E t):=by
 intro AN s σ H Q I h;refine wpAny_Call_Name_kw (Ys I a j ?_ g);refine PySem.W.callWith_K (h₀:=X.base) I.ok.mod.kin d (jE (c pos AN s σ H _ I h) λus s1 ⟨vs,H1,I1,r,q⟩=>⟨I1.kIn,?_⟩) he b;exact ce F i hb hd hx I1 r q
end
section
variable{X:Cx}{CX:Ct}{k:Nat}{f:A1}{ks:AZ}{sp:Sp}{E:XK}{m:AJ}{p kpos:Pos}{o:Expr}{kws:O AC}{te ta:TE}{t tk:TA}{nm:Y AJ}
variable{g:O A0->O A0->O A0}{gV:O V->O V->O V}
end
structure bG (N P:AZ) (sc:Scope):Prop where
 kind:sc.kind=.function
 co:sc.isCoroutine=false
 gen:sc.isGenerator=false
 nd:N.Nodup
 pre:N.take P.length=P
 par:∀x∈P,sc.names.lookup x=some .local\/sc.names.lookup x=some .cell
 aiu:∀y∈sc.names,y.2≠.free
theorem Nv{b:AJ->Y NameKind}{x:AJ}:∀{binds:O (AJ×A0)} {m:AJ->Y A0},(∀v,(x,v)∉binds)->bindL b binds m x=m x
 |[],_,_=>rfl
 |(n,v)::r,m,h=>by
  unfold bindL;rw[Nv λw a=>h w (zi _ a)];split
  ·have:x≠n:=by rintro rfl;exact h v zg
   simp[this]
  ·rfl
theorem Nx{b:AJ->Y NameKind}{x:AJ}:∀{binds:O (AJ×A0)} {m:AJ->Y A0},(∀v,(x,v)∉binds)->bindC b binds m x=m x
 |[],_,_=>rfl
 |(n,v)::r,m,h=>by
  unfold bindC;rw[Nx λw a=>h w (zi _ a)];split
  ·rfl
  ·have:x≠n:=by rintro rfl;exact h v zg
   simp[this]
theorem Ny{a:AJ->Y NameKind}{x:AJ}{v:A0}:∀{P:AZ} {vs:O A0} {i:Nat} {m:AJ->Y A0},P.Nodup->P[i]?=Z x->vs[i]?=Z v->a x=Z .local →
  bindL a (P.zip vs) m x=Z v
 |[],_,_,_,_,h,_,_=>by simp at h
 |_::_,[],_,_,_,_,h,_=>by simp at h
 |p::P,w::vs,0,m,nd,h1,h2,hk=>by
  simp at h1 h2;subst h1;subst h2;show bindL a ((p,w)::P.zip vs) m p=_;unfold bindL;rw[Nv λv b=>(cd.mp nd).1 (fz b).1,zt hk];simp
 |p::P,w::vs,i+1,m,nd,h1,h2,hk=>by
  show bindL a ((p,w)::P.zip vs) m x=_;unfold bindL;exact Ny (i:=i) (cd.mp nd).2 (by simpa using h1) (by simpa using h2) hk
theorem Nz{a:AJ->Y NameKind}{x:AJ}{v:A0}:∀{P:AZ} {vs:O A0} {i:Nat} {m:AJ->Y A0},P.Nodup->P[i]?=Z x->vs[i]?=Z v->a x≠Z .local →
  bindC a (P.zip vs) m x=Z v
 |[],_,_,_,_,h,_,_=>by simp at h
 |_::_,[],_,_,_,_,h,_=>by simp at h
 |p::P,w::vs,0,m,nd,h1,h2,hk=>by
  simp at h1 h2;subst h1;subst h2;show bindC a ((p,w)::P.zip vs) m p=_;unfold bindC;rw[Nx λv b=>(cd.mp nd).1 (fz b).1,zD hk];simp
 |p::P,w::vs,i+1,m,nd,h1,h2,hk=>by
  show bindC a ((p,w)::P.zip vs) m x=_;unfold bindC;exact Nz (i:=i) (cd.mp nd).2 (by simpa using h1) (by simpa using h2) hk
def start(N:AZ)(vs:O V):St:=vs.map Z++bb (N.length-vs.length) U
def GP(CX:Ct)(P:A3)(w:A4)(K:B1)(mg:AJ->Y A0)(base:A6)(N:AZ)(qual:AJ)(scope:Scope)(f:A1)(a:A0)(A:A5)(outer:O Env)(s:A2)(H:Hp)(E:XK):Cx where
 prog:=P
 w:=w
 K:=K
 mg:=mg
 base:=base
 A:=A.deeper (AK qual scope s.heap.objs.size f a)
 N:=N
 s₀:=s
 H₀:=H
 env:=AK qual scope s.heap.objs.size f a
 outer:=outer
 stack:=AK qual scope s.heap.objs.size f a::outer
 ex:=[]
 calm:=true
 fn:=λ_=>true
 pn:=[]
 xe:=λe s'=>A7 (A8 P w) (A.deeper (AK qual scope s.heap.objs.size f a)) (leaving (AK qual scope s.heap.objs.size f a) e) (λ_ b=>CX outer H s E e b) (λe' b=>CX outer H s E e' b) s'
theorem Sg{a:Scope}(h:a.names.lookup x=Z .cell):∃c,(cellsFrom n a.names []).lookup x=Z c:=by
 have q:=cellsFrom_some a.names n [] (.inl h);exact ef.mp q
theorem t8{CX:Ct}{f:A1}{g:A0}{outer:O Env}{t:A2}{H:Hp}{E:XK}{vs:O V}(S:bG N ps scope)(hd:A.handled=U)(e0:Hk P w K mg base A outer s H)(G:vs.length=ps.length)(r:AX vs us)(x:InCallC s s.heap.objs.size (bindL (AK qual scope s.heap.objs.size f g).kindOf (ps.zip us) λ_=>U) (cellsFrom (s.heap.objs.size+1) scope.names []) (bindC (AK qual scope s.heap.objs.size f g).kindOf (ps.zip us) λ_=>U) t):
  AU (GP CX P w K mg base N qual scope f g A outer s H E) [] (start N vs) H t:=by
 have F:ps.length<=N.length:=by have:=congrArg dV S.pre;rw[kg]at this;omega
 obtain⟨h1,tk,rfl,m⟩:=x.done;have j:∀b:A1,b∉(GP CX P w K mg base N qual scope f g A outer s H E).ex:=λb z=>absurd (show b∈([]:O A1) from z) (by simp);refine⟨⟨e0.mod,S.kind,rfl,rfl,zk _,λy z c h1 h2=>?_,λy d=>?_,λy c _ h=>?_,λ_=>hd,Around.frames_deeper e0.frames,.inr ⟨rfl,rfl⟩,λb z=>absurd z (j b),e0.bs,e0.bsz,λb _ _=>j b,λb z=>absurd z (j b),e0.Iw,e0.frf⟩,
  rfl,e0.bare,Un.kept m,⟨_,x.toInCall.ns,λi y v h1 h2 D=>?_⟩,λy c h=>⟨_,x.cell y c h⟩,e0.hok.fresh (zk _),λy c h=>?_,λp hp=>absurd (show p∈([]:O (A1×AE)) from hp) (by simp),e0.hok.kept m,?_⟩
 ·exact name_of_addr x.apart (kM h1) (kM h2)
 ·have d:scope.names.lookup y=Z .cell\/scope.names.lookup y=Z .free:=d;rcases d with d|d
  ·exact Sg d
  ·exact absurd rfl (S.aiu _ (kM d))
 ·exact j0 (x.above y c (kM h))
 ·have hi:i<vs.length:=by
   unfold start at h2;by_cases hi:i<vs.length
   ·exact hi
   ·rw[QN (by simpa using hi)]at h2;rw[Q4]at h2;split at h2<;>cases h2
  have C:vs[i]?=Z v:=by
   unfold start at h2;rw[ZY (by simpa using hi),ZE]at h2;cases e:vs[i]? with
   |none=>rw[e]at h2;cases h2
   |some a=>rw[e]at h2;cases h2;rfl
  obtain⟨u,l,B⟩:=r.get C;have hp:ps[i]?=Z y:=by
   rw[<-S.pre,List.getElem?_take_of_lt ()];exact h1
  have o:ps.Nodup:=by rw[<-S.pre];exact S.nd.sublist (List.take_sublist _ _)
  refine⟨u,B,?_⟩;rcases S.par y (Q1 hp)with k|k
  ·exact .inl ⟨k,Ny o hp l k⟩
  ·obtain⟨c,e⟩:=Sg (n:=s.heap.objs.size+1) k;refine .inr ⟨.inl k,c,e,?_⟩;have q:=x.cell y c e;rw[Nz o hp l (by show scope.names.lookup y≠_;rw[k];decide)]at q;exact q
 ·exact e0.hok.fresh (j0 (x.above y c (kM h)))
 ·unfold start;show _=N.length;rw[zC,zl,eH];omega
theorem ma{CX:Ct}{k:Nat}{f:A1}{g:Arguments}{h kV l m a ct M:A0}{p D:Y A1}{sp:Sp}(lk:K.lookup f=Z ⟨M,D,.func (fnOf name qual g body scope h kV l m p a ct),osl⟩)(a2:codeIn K a qual=true)(S:bG N ps scope)(len:∀vs H Q E,sp vs H Q E->vs.length=ps.length)(X:∀(A:A5) (outer:O Env) (s:A2) (H:Hp) (vs:O V) (Q:VK) (E:XK),nZ k (A.deeper (AK qual scope s.heap.objs.size f a))->sp vs H Q E →
   ∃t,R8 (GP CX P w K mg base N qual scope f a A outer s H E) body t/\t { nx:=λ_ H'=>Q .non H',rt:=Q } (start N vs) H):
  rQ P w K mg base CX (k+1) f (fnOf name qual g body scope h kV l m p a ct) ps sp:=by
 refine⟨len,λA outer s H a3 us vs Q E c e0 hb r j=>?_⟩;have F:=len _ _ _ _ j;have i:K.In s.heap:=e0.mod.kin.keeps λb o e=>(e0.bs b o e).1;have a0:s.heap.NoLimit:=e0.mod.nolimit.keeps λb o e=>(e0.bs b o e).1;have a1:∀y∈ps.zip us,scope.names.lookup y.1=Z .local\/(scope.names.lookup y.1=Z .cell/\((cellsFrom (s.heap.objs.size+1) scope.names []).lookup y.1).isSome=true):=λ⟨n,v⟩ hy=>by
  rcases S.par n (fz hy).1 with q|q
  ·exact .inl q
  ·exact .inr ⟨q,cellsFrom_some _ _ _ (.inl q)⟩
 refine codeAny_call_function c.depth (i _ _ lk) rfl S.co S.gen rfl (PySem.W.codeRec_of i a2) (hb _ _ _ _ ?_);refine wpAny_newFunctionEnv_cells S.kind a1 λenv C z x=>?_;subst C;refine⟨a0.keeps x.toInCall.keep,codeAny_func ?_⟩;obtain⟨t,L,G⟩:=X A outer s H vs Q E (c.deeper _) j;have I:AU (GP CX P w K mg base N qual scope f a A outer s H E) [] (start N vs) H z:=t8 S c.hd e0 F r x;refine QI (L [] z (start N vs) H _ I G) (λfl s' hs=>?_) λe s' hs=>hs;have B:∀{σ':St} {H':Hp} {v:V} {u:A0},AU (GP CX P w K mg base N qual scope f a A outer s H E) [] σ' H' s'->As v u->Q v H'->CE outer P w H s Q u s':=
  λ{σ' H' v u} J d q=>⟨v,H',J.os,J.bare,J.base,J.hok,d,q⟩
 cases fl with
 |ret u=>
  obtain⟨v,σ',H',J,d,q⟩:=hs;exact B J d q
 |next=>
  obtain⟨σ',H',J,q⟩:=hs;exact B (v:=V.non) (u:=Value.none) J rfl q
 |brk=>
  obtain⟨_,_,_,q⟩:=hs;exact False.elim q
 |cont=>
  obtain⟨_,_,_,q⟩:=hs;exact False.elim q
end L2
namespace L2
section
variable{X:Cx}{p:Pos}{t:TA}{id T:String}{r:O V->Hp->VK->Prop}
def IA(r:O V->Hp->VK->Prop)(t:TA):TE:=λσ H Q=>t σ H λvs H1=>r vs H1 Q
theorem uH(c:iz X (.builtin id) r)(a:Gl X x)(j:X.mg x=U)(d:AH x=Z (.builtin id))(f:PA X (e::es) t)(i:x ≠ "__name__":=by decide)(g:re x:=by decide)
  (he:A9 (e::es) X.env=(false,eval e X.env)::A9 es X.env:=by rfl) (b:(AD pos (A9 es X.env)).any (·.1)=false:=by rfl):PE X (.Call (.Name x p) (e::es) [] pos) (IA r t):=by
 intro AN s σ H Q I h;refine wpAny_Call_Name_kw (Iz I a j d ?_ i g);exact PyProof.Rows.callWith_builtin1 (jE (f pos AN s σ H _ I h) λus s1 ⟨vs,H1,I1,r1,q1⟩=>c AN s1 σ H1 vs us Q I1 r1 q1) he b
theorem NK(c:iz X (.type T) r)(a:Gl X x)(j:X.mg x=U)(d:AH x=Z (.type T))(f:PA X (e::es) t)(i:x ≠ "__name__":=by decide)(g:re x:=by decide)
  (he:A9 (e::es) X.env=(false,eval e X.env)::A9 es X.env:=by rfl) (b:(AD pos (A9 es X.env)).any (·.1)=false:=by rfl):PE X (.Call (.Name x p) (e::es) [] pos) (IA r t):=by
 intro AN s σ H Q I h;refine wpAny_Call_Name_kw (Iz I a j d ?_ i g);exact PyProof.Rows.callWith_type1 (jE (f pos AN s σ H _ I h) λus s1 ⟨vs,H1,I1,r1,q1⟩=>c AN s1 σ H1 vs us Q I1 r1 q1) he b
end
end L2
namespace HT
open PySem PyProof.Rows
section
open PySem.SeqAt
open PySem.AutoSeq1 (wpAny_loadPart')
open PySem.MeetsSeq PySem.MeetsSeq2 PySem.MeetsSeq3
end
theorem aeN{t b:A1}{vs a:O A0}{Q:B7}(p:IsTup s.heap t vs.toArray)(hb:IsTup s.heap b a.toArray)(i:vs≠[])
  (h1:a=[]->Q (.ref t) s) (h2:a≠[]->Q (.ref s.heap.objs.size) { s with heap:=s.heap.push { cls:=.type "tuple",data:=.seq (vs++a).toArray } })
  (hsz:vs.length+a.length<=AA):A7 (A8 prog w) A (binaryOp .Add (.ref t) (.ref b)) Q E s:=by
 obtain⟨⟨cls,f,data,sl⟩,ho,h,n,hd⟩:=id p;obtain⟨⟨cls2,j,q,l⟩,c,g,m,o⟩:=id hb;simp only at h hd g o;subst h hd g o;have e:vs.toArray++a.toArray=(vs++a).toArray:=by simp
 by_cases d:a=[]
 ·exact concat_meets ⟨_,ho,rfl⟩ ⟨_,c,rfl⟩ noFill_tuple_add seq_tuple_add PySem.F.slot_tuple_add xc (YR _ _)
   (tuple_addW1 t b vs.toArray a.toArray n m f j sl l (by simpa using i) (by simp[d])) ⟨ho,c,h1 d⟩
 ·refine concat_meets ⟨_,ho,rfl⟩ ⟨_,c,rfl⟩ noFill_tuple_add seq_tuple_add PySem.F.slot_tuple_add xc (YR _ _)
   (tuple_addW2 t b vs.toArray a.toArray n m f j sl l (by simpa using i) (by simpa using d) (by rw[zI,zI];exact hsz)) ⟨ho,c,?_⟩
  rw[e];exact h2 d
def jK(n d:Nat):Y Int->Nat
 |none=>d
 |some v=>if v<0 then(v+(n:Int)).toNat else min v.toNat n
theorem Sh(n d:Nat):jK n d U=d:=rfl
theorem Yu(n d k:Nat):jK n d (Z (k:Int))=min k n:=by
 show(if(k:Int)<0 then((k:Int)+(n:Int)).toNat else min (k:Int).toNat n)=min k n;rw[zD (),KS]
theorem rV(n d:Nat)(hd:d<=n)(o:Y Int):jK n d o<=n:=by
 cases o with
 |none=>exact hd
 |some v=>
  show(if v<0 then(v+(n:Int)).toNat else min v.toNat n)<=n;by_cases a:v<0
  ·rw[zt a];omega
  ·rw[zD a];exact Nat.min_le_right _ _
theorem Yv(v:Int)(n d:Nat):(if v<0 then max (v+(n:Int)) 0 else min v (n:Int))=((jK n d (Z v):Nat):Int):=by
 show(if v<0 then max (v+(n:Int)) 0 else min v (n:Int))=(((if v<0 then(v+(n:Int)).toNat else min v.toNat n):Nat):Int);by_cases a:v<0
 ·simp only[zt a];omega
 ·simp only[zD a];omega
theorem Wh(lo hi:Y Int)(n:Nat):Builtin.Slice.sliceAdjust lo hi 1 (n:Int)=(((jK n 0 lo:Nat):Int),((jK n n hi:Nat):Int)):=by
 have h1:¬ ((1:Int)<0):=by omega
 unfold Builtin.Slice.sliceAdjust;simp only[h1,ZU];refine hH ?_ ?_
 ·cases lo with
  |none=>rfl
  |some v=>exact Yv v n 0
 ·cases hi with
  |none=>rfl
  |some v=>exact Yv v n n
theorem Wi(i j:Nat):Builtin.Slice.slicePlaces (i:Int) (j:Int) 1=j-i:=by
 unfold Builtin.Slice.slicePlaces;have h1:(1:Int)>0:=by omega
 simp only[h1,QU,Int.ediv_one];split<;>omega
theorem Ja{v:A0}{o:Y Int}{Q:Y Int->A2->Prop}(p:IsPart v o)(h:Q o s):A7 (A8 prog w) A (Builtin.Slice.slicePartIndex v) Q E s:=by
 cases p with
 |none=>exact slicePart_none h
 |int i t=>exact slicePart_int h
theorem uI{sl:A1}{c a:A0}{Q:Int×Int×Nat->A2->Prop}(hs:s.heap.IsSliceOf sl c a .none)(pl:IsPart c lo)(e:IsPart a hi)(h:Q (((jK n 0 lo:Nat):Int),1,jK n n hi-jK n 0 lo) s):A7 (A8 prog w) A (Builtin.Slice.sliceApplied (.ref sl) (pure (n:Int))) Q E s:=by
 obtain⟨os,b,f,d⟩:=id hs;unfold Builtin.Slice.sliceApplied Builtin.Slice.sliceFields;refine zd (zd (wpAny_field b d (x:=c) S (zd (wpAny_field b d (x:=a) S (zd (wpAny_field b d (x:=.none) S (zh ?_)))))));refine zd (slicePart_none ?_);show A7 _ _ (if((1:Int)==0)=true then _ else _) _ _ s;rw[zD ()];refine zd (Ja pl (zd (Ja e (zd (zh ?_)))));show A7 _ _ (match Builtin.Slice.sliceAdjust lo hi 1 (n:Int)with|(lo,hi)=>pure (lo,(1:Int),Builtin.Slice.slicePlaces lo hi 1)) _ _ s;rw[Wh lo hi n];show A7 _ _ (pure (((jK n 0 lo:Nat):Int),(1:Int),Builtin.Slice.slicePlaces ((jK n 0 lo:Nat):Int) ((jK n n hi:Nat):Int) 1)) _ _ s;rw[Wi];exact zh h
theorem u4(xs:Array A0)(i k:Nat):((cf k).filterMap λ(m:Nat)=>xs[((i:Int)+(m:Int)*1).toNat]?).toArray=((xs.toList.drop i).take k).toArray:=by
 have e:(λ(m:Nat)=>xs[((i:Int)+(m:Int)*1).toNat]?)=λm=>xs[i+m]?:=by
  funext m;have:((i:Int)+(m:Int)*1).toNat=i+m:=by omega
  rw[this]
 rw[e];have:=pick_run xs i k;rw[List.filterMap_map]at this;have e2:((λx=>xs[x]?) ∘ λx=>i+x)=λm=>xs[i+m]?:=rfl;rw[e2]at this;rw[this]
theorem Bc{t sl:A1}{d c:A0}{Q:B7}(b:IsTup s.heap t items)(hs:s.heap.IsSliceOf sl d c .none)(pl:IsPart d lo)(j:IsPart c hi)(i:¬ (jK items.size 0 lo=0/\jK items.size items.size hi=items.size))(h:Q (.ref s.heap.objs.size) { s with heap:=s.heap.push { cls:=.type "tuple",data:=.seq ((items.toList.drop (jK items.size 0 lo)).take (jK items.size items.size hi-jK items.size 0 lo)).toArray } })(hsz:items.size<=AA):A7 (A8 prog w) A (getItem (.ref t) (.ref sl)) Q E s:=by
 have a:sizeOk (.seq ((items.toList.drop (jK items.size 0 lo)).take (jK items.size items.size hi-jK items.size 0 lo)).toArray):=by
  show((items.toList.drop (jK items.size 0 lo)).take (jK items.size items.size hi-jK items.size 0 lo)).toArray.size<=AA;rw[zI,kg,KF,Qb];omega
 have n:jK items.size items.size hi<=items.size:=rV _ _ (zk _) hi;obtain⟨os,g,l,o⟩:=id hs;have f:s.TypeIs (.ref sl) "slice":=⟨os,g,l⟩;unfold getItem
 try with_reducible refine QR ?_
 first|refine zd (zh ?_)|skip
 refine zd (wpAny_sequenceKey b.typeIs () ?_);refine zd (xa (name:=Str.ofString "__getitem__") b.typeIs PyProof.Rows.slot_tuple_getitem
  (ky PyProof.Rows.slot_tuple_getitem b.typeIs entry_tuple_getitem ?_ (args_tuple_getitem _ _)))
 show A7 _ _ (Builtin.Tuple.tupleItemsOf (.ref t) >>= _) _ _ s;refine zd (tupleItemsOf_ b ?_);refine zd (jS f ?_);rw[zt ()];refine zd (uI hs pl j ?_);have e:¬ ((((jK items.size 0 lo:Nat):Int)==0&&(1:Int)==1&&(jK items.size items.size hi-jK items.size 0 lo)==items.size)=true):=by
  intro q;rw[ZH,ZH]at q;have q1:((jK items.size 0 lo:Nat):Int)=0:=eq_of_beq q.1.1;have q2:jK items.size items.size hi-jK items.size 0 lo=items.size:=eq_of_beq q.2;exact i ⟨by omega,by omega⟩
 show A7 _ _ (if(((jK items.size 0 lo:Nat):Int)==0&&(1:Int)==1&&(jK items.size items.size hi-jK items.size 0 lo)==items.size)=true then _ else _) _ _ s;rw[zD e,u4]
 first
  |exact zd (m:=Builtin.Tuple.tupleExact _) (qo (zh ⟨_,rfl,zh h⟩) a)
  |exact zd (m:=Builtin.Tuple.tupleExact _) (qo (zd (zh (zh ⟨_,rfl,zh h⟩))) a)
  |exact zd (zd (m:=Builtin.Tuple.tupleExact _) (qo (zh (zh ⟨_,rfl,zh h⟩)) a))
  |exact zd (zd (m:=Builtin.Tuple.tupleExact _) (qo (zh ⟨_,rfl,zh h⟩) a))
end HT
namespace L2
abbrev TO:=St->Hp->(Y Int->Hp->Prop)->Prop
def PO(X:Cx)(e:Y Expr)(t:TO):Prop:=
 ∀(AN:O (A1×AE)) (s:A2) (σ:St) (H:Hp) (Q:Y Int->Hp->Prop),AU X AN σ H s->t σ H Q →
  A7 (ri X) X.A (evalPart e X.env) (λu s'=>∃o H',AU X AN σ H' s'/\IsPart u o/\Q o H') X.xe s
def cb:TO:=λ_ H Q=>Q U H
def gp(t:TE):TO:=λσ H Q=>t σ H λx H1=>∃i,x=.int i/\Q (Z i) H1
section
variable{X:Cx}{te:TE}{lo hi:Y Expr}{tl th:TO}
theorem Tl:PO X U cb:=by
 intro AN s σ H Q I h;rw[evalPart_none];exact zh ⟨U,H,I,.none,h⟩
theorem n5(h:PE X e te):PO X (Z e) (gp te):=by
 intro AN s σ H Q I a;rw[evalPart_some];refine jE (h AN s σ H _ I a) λu s1 ⟨x,H1,I1,r1,q1⟩=>?_;obtain⟨i,rfl,q⟩:=q1;obtain⟨t,rfl⟩:=r1;exact⟨Z i,H1,I1,.int i t,q⟩
def GI(X:Cx)(r:V->Y Int->Y Int->Hp->VK->Prop):Prop:=
 ∀(AN:O (A1×AE)) (s:A2) (σ:St) (H:Hp) (x:V) (v b a:A0) (lo hi:Y Int) (sl:A1) (Q:VK),AU X AN σ H s->As x v->s.heap.IsSliceOf sl b a .none->IsPart b lo->IsPart a hi->r x lo hi H Q →
  ∃T id,typeLookup (.type T) "__getitem__"=pure (Z (.builtin id))/\s.TypeIs v T/\A7 (ri X) X.A (getItem v (.ref sl)) (EP X AN σ Q) X.xe s
def SS(r:V->Y Int->Y Int->Hp->VK->Prop)(te:TE)(tl th:TO):TE:=λσ H Q=>te σ H λx H1=>tl σ H1 λl H2=>th σ H2 λu a=>r x l u a Q
theorem rX{r:V->Y Int->Y Int->Hp->VK->Prop}(g:GI X r)(he:PE X e te)(i:PO X lo tl)(c:PO X hi th):PE X (.Subscript e (.Slice lo hi U p2) pos) (SS r te tl th):=by
 intro AN s σ H Q I h;refine Subscript_ (jE (he AN s σ H _ I h) λv s1 ⟨x,H1,I1,r1,q1⟩=>?_);refine wpAny_Slice (jE (i AN s1 σ H1 _ I1 q1) λvl s2 ⟨l,H2,I2,pl,q2⟩=>jE (c AN s2 σ H2 _ I2 q2) λvu s3 ⟨u,H3,I3,pu,q3⟩=>?_);rw[evalPart_none];refine zh ?_;have d:AU X AN σ H3 { s3 with heap:=s3.heap.push { cls:=.type "slice",data:=.fields #[vl,vu,.none] } }:=I3.kept (t':=s3.toks) λb m q=>ze _ q;obtain⟨T,id,j,f,a⟩:=g AN { s3 with heap:=s3.heap.push { cls:=.type "slice",data:=.fields #[vl,vu,.none] } } σ H3 x v vl vu l u s3.heap.objs.size Q d r1 (Heap.IsSliceOf.new ..) pl pu q3;show A7 (ri X) X.A (subscriptTail e (.Slice lo hi U p2) v (.ref s3.heap.objs.size)) (EP X AN σ Q) X.xe { s3 with heap:=s3.heap.push { cls:=.type "slice",data:=.fields #[vl,vu,.none] } };exact tail_any (ops:=[.ref s3.heap.objs.size,v]) f j a (by with_unfolding_all rfl)
def Sq(xs:O V)(lo hi:Y Int):O V:=(xs.drop (HT.jK xs.length 0 lo)).take (HT.jK xs.length xs.length hi-HT.jK xs.length 0 lo)
theorem Fz(xs:O V)(lo hi:Y Int):(Sq xs lo hi).length<=xs.length:=by
 unfold Sq;rw[kg,KF];omega
def SA(K:B1):V->Y Int->Y Int->Hp->VK->Prop:=λx lo hi H Q=>∃a xs,x=.ref a/\Ay K H a xs ∧
 ¬ (HT.jK xs.length 0 lo=0/\HT.jK xs.length xs.length hi=xs.length)/\∀p,H p=U->Q (.ref p) (B4 H p (.tup (Sq xs lo hi)))
theorem cr:GI X (SA X.K):=by
 intro AN s σ H x v m j lo hi sl Q I g hs pl i h;obtain⟨a,xs,rfl,hx,f,q⟩:=h;cases g;obtain⟨AQ,r,e,d⟩:=I.tuple hx;have c:AQ.toArray.size=xs.length:=by rw[zI];exact r.length.symm
 refine⟨"tuple", _,PyProof.Rows.slot_tuple_getitem.lookup,e.typeIs,?_⟩;refine HT.Bc e hs pl i (by rw[c];exact f) ?_ (by rw[c];exact d);rw[c];refine⟨.ref s.heap.objs.size,_,I.laid (t':=s.toks) (o:=.tup (Sq xs lo hi)) (λb l q=>ze _ q) (zk _) ?_,rfl,q _ (I.hok.fresh (zk _))⟩;exact⟨Zs (Fz xs lo hi) d,_,(r.drop (HT.jK xs.length 0 lo)).take (HT.jK xs.length xs.length hi-HT.jK xs.length 0 lo),w5.new _ _⟩
def WV(K:B1):R2:=λx y H Q=>∃a b xs ys,x=.ref a/\y=.ref b/\Ay K H a xs/\Ay K H b ys/\xs≠[]/\xs.length+ys.length<=AA ∧
 (ys=[]->Q (.ref a) H)/\(ys≠[]->∀p,H p=U->Q (.ref p) (B4 H p (.tup (xs++ys))))
theorem AX.Hy{xs:O V}(r:AX xs us):us=[]↔xs=[]:=by
 cases r with
 |nil=>simp
 |cons _ _=>simp
theorem c5:Bb X (binaryOp .Add) (WV X.K):=by
 intro AN s σ H x y v u Q I g i h;obtain⟨a,b,xs,ys,rfl,rfl,f,hb,hx,e,q1,q2⟩:=h;cases g;cases i;obtain⟨AQ,d,p1,_⟩:=I.tuple f;obtain⟨l,c,p2,_⟩:=I.tuple hb;refine HT.aeN p1 p2 (λz=>hx (d.Hy.mp z)) (λz=>⟨.ref a,H,I,rfl,q1 (c.Hy.mp z)⟩) (λz=>?_) (by rw[<-d.length,<-c.length];exact e);refine⟨.ref s.heap.objs.size,_,I.laid (t':=s.toks) (o:=.tup (xs++ys)) (λb j q=>ze _ q) (zk _) ?_,rfl,q2 (λw=>z (c.Hy.mpr w)) _ (I.hok.fresh (zk _))⟩;exact⟨by rw[zC];exact e,_,d.append c,w5.new _ _⟩
end
end L2
namespace L2
def ES(n:Nat)(i:Int):Y Nat:=if 0<=i then(if i<n then Z i.toNat else U)else if -(n:Int)<=i then Z (i+n).toNat else U
def Ma(xs:O α)(i:Int):Y α:=(ES xs.length i).bind λj=>xs[j]?
theorem sC{i:Int}(h:ES n i=Z j):seqIndex? i n=Z j/\j<n ∧ -(n:Int)<=i/\i<n:=by
 unfold ES at h;by_cases h0:0<=i
 ·rw[zt h0]at h;by_cases h1:i<n
  ·rw[zt h1]at h;have e:i.toNat=j:=kf h;exact⟨by rw[seqIndex_of h0 h1,e],by omega,by omega,h1⟩
  ·rw[zD h1]at h;cases h
 ·rw[zD h0]at h;by_cases h1 : -(n:Int)<=i
  ·rw[zt h1]at h;have e:(i+n).toNat=j:=kf h;exact⟨by rw[seqIndex_neg () h1,e],by omega,h1,by omega⟩
  ·rw[zD h1]at h;cases h
theorem Py{xs:O α}{i:Int}{v:α}(h:Ma xs i=Z v):∃j,seqIndex? i xs.length=Z j/\xs[j]?=Z v/\j<xs.length ∧ -(xs.length:Int)<=i/\i<xs.length:=by
 unfold Ma at h;cases e:ES xs.length i with
 |none=>rw[e]at h;cases h
 |some j=>
  rw[e]at h;obtain⟨h1,h2,a,b⟩:=sC e;exact⟨j,h1,h,h2,a,b⟩
def Yx(b:Expr):Prop:=∀o i,subscripted b false o i=operate [o,i] (getItem o i)
def DS(X:Cx)(r:R2):Prop:=
 ∀(value a:Expr) (AN:O (A1×AE)) (s:A2) (σ:St) (H:Hp) (x y:V) (v u:A0) (Q:VK),AU X AN σ H s->As x v->As y u->r x y H Q →
  subscripted a false v u=operate [v,u] (getItem v u)->A7 (ri X) X.A (subscriptTail value a v u) (EP X AN σ Q) X.xe s
def ML(X:Cx)(id:String)(r:V->O V->Hp->VK->Prop):Prop:=
 ∀(AN:O (A1×AE)) (s:A2) (σ:St) (H:Hp) (x:V) (xs:O V) (v:A0) (us:O A0) (Q:VK),AU X AN σ H s->As x v->AX xs us->r x xs H Q →
  A7 (ri X) X.A (call (.builtin id) (v::us)) (EP X AN σ Q) X.xe s
section
variable{X:Cx}{a b:Expr}{ta tb:TE}
theorem DS.or{r d:R2}(h:DS X r)(h':DS X d):DS X (λx y H Q=>r x y H Q\/d x y H Q):=by
 intro value c AN s σ H x y v u Q I a b q hs;rcases q with q|q
 ·exact h value c AN s σ H x y v u Q I a b q hs
 ·exact h' value c AN s σ H x y v u Q I a b q hs
theorem m4{r:R2}(g:DS X r)(d:PE X a ta)(hb:PE X b tb)(hs:Yx b):PE X (.Subscript a b pos) (Fn r ta tb):=by
 intro AN s σ H Q I h;exact Subscript_ (ID d hb I h λv u e x y H2 c f i q=>g a b AN e σ H2 x y v u Q c f i q (hs _ _))
def LW(K:B1):R2:=λx y H Q=>∃p xs i v,x=.ref p/\y=.int i/\uG K H p xs/\Ma xs i=Z v/\Q v H
def Lu(K:B1):R2:=λx y H Q=>∃p xs i v,x=.ref p/\y=.int i/\Ay K H p xs/\Ma xs i=Z v/\Q v H
def Nl:R2:=λx y H Q=>∃z i c,x=.str z/\y=.int i/\z.length<=AA/\Ma z.cps.toList i=Z c/\Q (.str ⟨#[c]⟩) H
theorem uv:DS X (LW X.K):=by
 intro value C AN s σ H x y v u Q I l n h hs;obtain⟨p,xs,i,z,rfl,rfl,d,e,q⟩:=h;cases l;obtain⟨t,rfl⟩:=n;obtain⟨AQ,r,pl,A⟩:=I.list d;obtain⟨j,h1,h2,B,o,f⟩:=Py e;obtain⟨w,b,g⟩:=r.get h2;have m:=r.length;have D:=DP;have c:EP X AN σ Q w s:=⟨z,H,I,g,q⟩;by_cases h0:0<=i
 ·have a:i.toNat=j:=by
   rw[seqIndex_of h0 f]at h1;exact kf h1
  exact item_listR pl.isList h0 () (by rw[a];simpa using b) c hs
 ·have a:(i+(AQ.toArray.size:Int)).toNat=j:=by
   rw[seqIndex_neg () o]at h1;rw[zI,<-m];exact kf h1
  exact subscriptTail_builtinR (x:=w) pl.isList.typeIs slot_list_getitem.lookup
   (wpAny_getItem_list_neg (Q:=λr s'=>r=w/\EP X AN σ Q r s') pl.isList () (by rw[zI]<;>omega) () (by rw[a];simpa using b) ⟨rfl,c⟩) hs
theorem eW:DS X (Lu X.K):=by
 intro value A AN s σ H x y v u Q I e g h hs;obtain⟨p,xs,i,z,rfl,rfl,b,c,q⟩:=h;cases e;obtain⟨t,rfl⟩:=g;obtain⟨AQ,r,pl,m⟩:=I.tuple b;obtain⟨j,h1,h2,n,C,o⟩:=Py c;obtain⟨w,a,d⟩:=r.get h2;have f:=r.length;have B:=DP;have l:EP X AN σ Q w s:=⟨z,H,I,d,q⟩;exact subscriptTail_builtinR (x:=w) pl.typeIs slot_tuple_getitem.lookup
  (getItem_tuple (j:=j) (Q:=λr s'=>r=w/\EP X AN σ Q r s') pl () () (by rw[zI,<-f];exact h1) (by simpa using a) ⟨rfl,l⟩) hs
theorem Sa:DS X Nl:=by
 intro value n AN s σ H x y v u Q I d e h hs;obtain⟨z,i,c,rfl,rfl,l,a,q⟩:=h;obtain⟨t,rfl⟩:=d;obtain⟨p,rfl⟩:=e;obtain⟨j,h1,h2,m,g,b⟩:=Py a;have f:z.cps.toList.length=z.length:=by simp[Str.length]
 rw[f]at h1 g b;have o:=DP;exact tail_any (typeIs_str s z t) slot_str_getitem.lookup (getItem_str (c:=c) (by
  have e1:decide (i < -(2 ^ 63:Int))=false:=ZN ();have e2:decide (i>=2 ^ 63)=false:=ZN ();rw[e1,e2,nc]) (by rw[h1];simpa using h2) ⟨.str ⟨#[c]⟩,H,I.tok _,⟨_,rfl⟩,q⟩) hs
def ia(K:B1):R2:=λx y H Q=>LW K x y H Q\/Lu K x y H Q\/Nl x y H Q
theorem l5:DS X (ia X.K):=uv.or (eW.or Sa)
theorem AU.lst{σ:St}{H:Hp}{p:A1}{xs:O V}(I:AU X AN σ H s)(h:H p=Z (.lst xs)):
  ∃(AQ:O A0) (n:Nat),AX xs AQ/\s.heap.get? p=Z { cls:=.type "list",data:=.seq AQ.toArray n }/\xs.length<=AA:=by
 obtain⟨z,AQ,n,r,e⟩:=I.hok p _ h;exact⟨AQ,n,r,e,z⟩
theorem Pz(lo hi:Y Int)(n:Nat):(sliceBounds lo hi U n).1=((HT.jK n 0 lo:Nat):Int)/\(sliceBounds lo hi U n).2.1=((HT.jK n n hi:Nat):Int)/\(sliceBounds lo hi U n).2.2=1:=by
 refine⟨?_,?_,rfl⟩
 ·cases lo with
  |none=>simp[sliceBounds,HT.jK]
  |some i=>
   simp only[sliceBounds,HT.jK,o3,show(1:Int)>0 by decide,QU];by_cases h:i<0
   ·simp only[h,QU]<;>omega
   ·simp only[h,ZU]<;>omega
 ·cases hi with
  |none=>simp[sliceBounds,HT.jK]
  |some i=>
   simp only[sliceBounds,HT.jK,o3,show(1:Int)>0 by decide,QU];by_cases h:i<0
   ·simp only[h,QU]<;>omega
   ·simp only[h,ZU]<;>omega
theorem Mf(AQ:O A0)(lo hi:Y Int):slicePick AQ.toArray lo hi U=((AQ.drop (HT.jK AQ.length 0 lo)).take (HT.jK AQ.length AQ.length hi-HT.jK AQ.length 0 lo)).toArray:=by
 obtain⟨h1,h2,a⟩:=Pz lo hi AQ.toArray.size;unfold slicePick;rw[h1,h2,a];simp only[sliceRange_one,pick_run,zI]<;>rfl
def rh(K:B1):V->Y Int->Y Int->Hp->VK->Prop:=λx lo hi H Q=>∃a xs,x=.ref a/\uG K H a xs/\∀p,H p=U->Q (.ref p) (B4 H p (.lst (Sq xs lo hi)))
theorem o6:GI X (rh X.K):=by
 intro AN s σ H x v l i lo hi sl Q I f hs pl g h;obtain⟨a,xs,rfl,hx,q⟩:=h;cases f;obtain⟨AQ,r,c,d⟩:=I.list hx;have e:=r.length;refine⟨"list", _,slot_list_getitem.lookup,c.isList.typeIs,?_⟩;refine wpAny_getItem_list_slice c.isList hs pl g .none (by simp) ?_ (by rw[zI]<;>omega);rw[Mf,<-e];refine⟨.ref s.heap.objs.size,_,I.laid (t':=s.toks) (o:=.lst (Sq xs lo hi)) (λb j q=>ze _ q) (zk _) ?_,rfl,q _ (I.hok.fresh (zk _))⟩;exact⟨Zs (Fz xs lo hi) d,_,0,(r.drop (HT.jK xs.length 0 lo)).take (HT.jK xs.length xs.length hi-HT.jK xs.length 0 lo),zw _ rfl⟩
def wO:V->Bool
 |.non=>true
 |.bl _=>true
 |.int _=>true
 |.str _=>true
 |_=>false
def DE:V->V->Bool
 |.non,.non=>true
 |.bl a,.bl b=>a==b
 |.bl a,.int b=>(if a then 1 else 0)==b
 |.int a,.bl b=>a==(if b then 1 else 0)
 |.int a,.int b=>a==b
 |.str a,.str b=>a==b
 |_,_=>false
theorem oS{y x:V}{v:A0}(e:As y u)(c:As x v)(fy:wO y=true)(fx:wO x=true):SeqAt.EqAt A s u v (DE y x):=by
 cases y with
 |non=>
  cases e;cases x with
  |non=>cases c;exact SeqAt.EqAt.same _
  |bl b=>cases c;exact SeqAt.EqAt.none_bool b
  |int b=>obtain⟨t,rfl⟩:=c;exact SeqAt.EqAt.none_int b t
  |str b=>obtain⟨t,rfl⟩:=c;exact SeqAt.EqAt.none_str b t
  |_=>exact absurd (show false=true from fx) ZO
 |bl a=>
  cases e;cases x with
  |non=>cases c;exact SeqAt.EqAt.bool_none a
  |bl b=>cases c;exact SeqAt.EqAt.bool_bool a b
  |int b=>obtain⟨t,rfl⟩:=c;exact SeqAt.EqAt.bool_int a b t
  |str b=>obtain⟨t,rfl⟩:=c;exact SeqAt.EqAt.bool_str a b t
  |_=>exact absurd (show false=true from fx) ZO
 |int a=>
  obtain⟨d,rfl⟩:=e;cases x with
  |non=>cases c;exact SeqAt.EqAt.int_none a d
  |bl b=>cases c;exact SeqAt.EqAt.int_bool a d b
  |int b=>obtain⟨t,rfl⟩:=c;exact SeqAt.EqAt.int_int a d b t
  |str b=>obtain⟨t,rfl⟩:=c;exact SeqAt.EqAt.int_str a d b t
  |_=>exact absurd (show false=true from fx) ZO
 |str a=>
  obtain⟨d,rfl⟩:=e;cases x with
  |non=>cases c;exact SeqAt.EqAt.str_none a d
  |bl b=>cases c;exact SeqAt.EqAt.str_bool a d b
  |int b=>obtain⟨t,rfl⟩:=c;exact SeqAt.EqAt.str_int a d b t
  |str b=>obtain⟨t,rfl⟩:=c;exact SeqAt.EqAt.str_str a d b t
  |_=>exact absurd (show false=true from fx) ZO
 |_=>exact absurd (show false=true from fy) ZO
def DO(x:V)(u:A0):Bool:=match u with
 |.none=>DE .non x
 |.bool b=>DE (.bl b) x
 |.int i _=>DE (.int i) x
 |.str z _=>DE (.str z) x
 |_=>false
theorem Mn{x y:V}(r:As y u)(f:wO y=true):DO x u=DE y x:=by
 cases y with
 |non=>cases r;rfl
 |bl b=>cases r;rfl
 |int i=>obtain⟨t,rfl⟩:=r;rfl
 |str z=>obtain⟨t,rfl⟩:=r;rfl
 |_=>exact absurd (show false=true from f) ZO
theorem PJ{x:V}:∀{xs:O V} {us:O A0},AX xs us->xs.all wO=true->us.any (DO x)=xs.any λy=>DE y x
 |_,_,.nil,_=>rfl
 |y::xs,u::us,.cons r t,f=>by
  rw[k8,ZH]at f;rw[kL,kL,Mn r f.1,PJ t f.2]
theorem Jb{A:A5}{s:A2}{x:V}{v:A0}(b:As x v)(fx:wO x=true):∀{xs:O V} {us:O A0},AX xs us->xs.all wO=true->∀u∈us,SeqAt.EqAt A s u v (DO x u)
 |_,_,.nil,_=>λu a=>by cases a
 |y::xs,u::us,.cons r t,f=>λc a=>by
  rw[k8,ZH]at f;rcases List.mem_cons.mp a with rfl|a
  ·rw[Mn r f.1];exact oS r b f.1 fx
  ·exact Jb b fx t f.2 c a
def GO(x:V)(xs:O V):Bool:=xs.any λy=>DE y x
def T2(K:B1)(a:Bool):R2:=λx y H Q=>∃p xs,y=.ref p/\(uG K H p xs\/Ay K H p xs)/\wO x=true/\xs.all wO=true/\Q (.bl (if a then !GO x xs else GO x xs)) H
theorem sv:Bb X (AG .In) (T2 X.K false):=by
 intro AN s σ H x y v u Q I c e h;obtain⟨p,xs,rfl,a,fx,fs,q⟩:=h;cases e;rcases a with a|a
 ·obtain⟨AQ,r,pl,d⟩:=I.list a;refine SeqAt.in_listAt (DO x) pl.isList (λw b=>Jb c fx r fs w (by simpa using b)) ⟨.bl _,H,I,rfl,?_⟩;rw[show AQ.toArray.any (DO x)=AQ.any (DO x) by simp,PJ r fs];exact q
 ·obtain⟨AQ,r,pl,d⟩:=I.tuple a;refine SeqAt.in_tupleAt (DO x) pl (λw b=>Jb c fx r fs w (by simpa using b)) ⟨.bl _,H,I,rfl,?_⟩;rw[show AQ.toArray.any (DO x)=AQ.any (DO x) by simp,PJ r fs];exact q
theorem PK:iz X (.builtin "len") (λxs H Q=>∃p ys,xs=[.ref p]/\(uG X.K H p ys\/Ay X.K H p ys)/\Q (.int ys.length) H):=by
 intro AN s σ H xs us Q I r h;obtain⟨p,ys,rfl,a,q⟩:=h;obtain⟨u,rfl,e⟩:=BA r;cases e;have f:=DP;rcases a with a|a
 ·obtain⟨AQ,c,pl,d⟩:=I.list a;have b:=c.length;exact Calls.call_len_list pl.isList (by simp only[zI]<;>omega) ⟨.int ys.length,H,I.tok _,⟨s.toks+1,by rw[zI,b]⟩,q⟩
 ·obtain⟨AQ,c,pl,d⟩:=I.tuple a;have b:=c.length;exact len_tuple pl (by simp only[zI]<;>omega) ⟨.int ys.length,H,I.tok _,⟨s.toks+1,by rw[zI,b]⟩,q⟩
theorem PL:iz X (.builtin "len") (λxs H Q=>∃z,xs=[.str z]/\z.length<=AA/\Q (.int z.length) H):=by
 intro AN s σ H xs us Q I r h;obtain⟨z,rfl,b,q⟩:=h;obtain⟨u,rfl,t,rfl⟩:=BA r;have a:=DP;exact len_str () ⟨.int z.length,H,I.tok _,⟨_,rfl⟩,q⟩
theorem iz.or{f:A0}{r b:O V->Hp->VK->Prop}(h:iz X f r)(h':iz X f b):iz X f (λxs H Q=>r xs H Q\/b xs H Q):=by
 intro AN s σ H xs us Q I a q;rcases q with q|q
 ·exact h AN s σ H xs us Q I a q
 ·exact h' AN s σ H xs us Q I a q
theorem PN:iz X (.type "list") (λxs H Q=>∃p ys,xs=[.ref p]/\(uG X.K H p ys\/Ay X.K H p ys)/\∀l,H l=U->Q (.ref l) (B4 H l (.lst ys))):=by
 intro AN s σ H xs us Q I r h;obtain⟨p,ys,rfl,f,q⟩:=h;obtain⟨u,rfl,m⟩:=BA r;cases m;have i:∀(AQ:O A0),AX ys AQ->ys.length<=AA->∀(h':A6) (a:Nat),(∀b o',s.heap.get? b=Z o'->h'.get? b=Z o') →
   h'.get? s.heap.objs.size=Z { cls:=.type "list",dict:=U,data:=.seq AQ.toArray a,slots:=#[] }->EP X AN σ Q (.ref s.heap.objs.size) { s with heap:=h' }:=λAQ c d h' a kp e=>
  ⟨.ref s.heap.objs.size,_,I.laid (t':=s.toks) kp (zk _) (show iw X.prog X.w _ h' _ (.lst ys) from⟨d,AQ,a,c,e⟩),rfl,q _ (I.hok.fresh (zk _))⟩
 rcases f with f|f
 ·obtain⟨AQ,c,pl,d⟩:=I.list f;have j:=c.length;obtain⟨o,ho,g,n,hd⟩:=pl.isList;exact call_list_seq p (.inl S) ho g hd (λh' a kp e=>i AQ c d h' a kp e) (by simp only[zI]<;>omega)
 ·obtain⟨AQ,c,pl,d⟩:=I.tuple f;have j:=c.length;obtain⟨o,ho,g,n,hd⟩:=pl;exact call_list_seq p (.inr S) ho g hd (λh' a kp e=>i AQ c d h' a kp e) (by simp only[zI]<;>omega)
theorem Mg:iz X (.type "tuple") (λxs H Q=>∃p ys,xs=[.ref p]/\((uG X.K H p ys/\∀l,H l=U->Q (.ref l) (B4 H l (.tup ys)))\/(Ay X.K H p ys/\Q (.ref p) H))):=by
 intro AN s σ H xs us Q I r h;obtain⟨p,ys,rfl,h⟩:=h;obtain⟨u,rfl,i⟩:=BA r;cases i;rcases h with⟨a,q⟩|⟨a,q⟩
 ·obtain⟨AQ,c,pl,d⟩:=I.list a;have j:=c.length;refine call_tuple_list pl.isList (λh' kp=>?_) (by simp only[zI]<;>omega);have f:AU X AN σ H { s with heap:=h' }:=I.kept (t':=s.toks) kp;have g:AU X AN σ (B4 H h'.objs.size (.tup ys)) { s with heap:=h'.push { cls:=.type "tuple",data:=.seq AQ.toArray } }:=
   f.laid (t':=s.toks) (λb o e=>ze _ e) (zk _) (show iw X.prog X.w _ _ _ (.tup ys) from⟨d,AQ,c,w5.new _ _⟩)
  exact⟨.ref h'.objs.size,_,g,rfl,q _ (f.hok.fresh (zk _))⟩
 ·obtain⟨AQ,c,pl,d⟩:=I.tuple a;exact call_tuple_same pl ⟨.ref p,H,I,rfl,q⟩
def RH(K:B1)(T:String)(x:V)(H:Hp):Prop:=match x with
 |.str _=>T ="str"
 |.int _=>T ="int"
 |.ref p=>(T ="list" ∧ ∃xs,uG K H p xs)\/(T ="tuple" ∧ ∃o,K.lookup p=Z o/\o.cls=.type "tuple" ∧ o.dict=U) ∨
   (T ="dict" ∧ ((∃AO,H p=Z (.dK AO))\/∃AO,H p=Z (.dT AO)))\/(T ="set" ∧ ∃S n,H p=Z (.set S n))
 |_=>False
theorem WZ{σ:St}{H:Hp}{T:String}{x:V}{v:A0}(I:AU X AN σ H s)(r:As x v)(ty:RH X.K T x H):
  s.TypeIs v T/\∀a,v=.ref a->∃d,s.heap.get? a=Z d/\d.dict=U:=by
 cases x with
 |str z=>
  obtain⟨t,rfl⟩:=r;cases(show T ="str" from ty);exact⟨typeIs_str s z t,λ_ e=>nomatch e⟩
 |int i=>
  obtain⟨t,rfl⟩:=r;cases(show T ="int" from ty);exact⟨typeIs_int s i t,λ_ e=>nomatch e⟩
 |ref p=>
  cases r;rcases ty with⟨rfl,xs,g⟩|⟨rfl,o,b,f,hd⟩|⟨rfl,b⟩|⟨rfl,S,n,b⟩
  ·obtain⟨AQ,_,pl,_⟩:=I.list g;refine⟨pl.isList.typeIs,λa e=>?_⟩;cases e;obtain⟨o,n,e,c,hd,_⟩:=pl;exact⟨o,e,hd⟩
  ·refine⟨⟨o,I.kIn p o b,f⟩,λa e=>?_⟩;cases e;exact⟨o,I.kIn _ o b,hd⟩
  ·have z:∃o,s.heap.get? p=Z o/\o.ExactDict:=by
    rcases b with⟨AO,b⟩|⟨AO,b⟩
    ·obtain⟨_,_,_,_,o,_,_,e,ex,_⟩:=I.hok p _ b;exact⟨o,e,ex⟩
    ·obtain⟨_,_,_,_,o,_,_,e,ex,_⟩:=I.hok p _ b;exact⟨o,e,ex⟩
   obtain⟨o,e,ex⟩:=z;refine⟨⟨o,e,ex.1⟩,λa e2=>?_⟩;cases e2;exact⟨o,e,ex.2.1⟩
  ·obtain⟨o,_,_,_,e,ex,_⟩:=I.hok p _ b;refine⟨⟨o,e,ex.1⟩,λa e2=>?_⟩;cases e2;exact⟨o,e,ex.2.1⟩
 |_=>exact False.elim ty
def LX(K:B1)(T:String)(r:V->O V->Hp->VK->Prop)(to:TE)(t:TA):TE:=λσ H Q=>to σ H λx H1=>RH K T x H1/\t σ H1 λxs H2=>r x xs H2 Q
variable{o:Expr}{to:TE}{t:TA}{T id:String}{r:V->O V->Hp->VK->Prop}
theorem Yy(pa:PlainAttrs T)(slot:Slot T name id)(j:typeOf (.builtin id)=pure (.type "method_descriptor"))(f:ML X id r)(ho:PE X o to)(d:PA X (e::es) t)
  (c:attributeBase o name X.env (eval o X.env)=eval o X.env:=by rfl)
  (i:((AD cpos (A9 (e::es) X.env)).all (λx=>!x.1)&&(backToKw cpos (keywordEach [] X.env)).all (λx=>x.1.isSome)
   && decide ((e::es).length+([]:O AC).length+(if([]:O AC).isEmpty then 0 else 1)<30))=true:=by rfl)
  (g:(apos.endLine==cpos.line)=true:=by rfl) (hs:A9 (e::es) X.env=(false,eval e X.env)::A9 es X.env:=by rfl) (b:(AD cpos (A9 es X.env)).any (·.1)=false:=by rfl):
  PE X (.Call (.Attribute o name apos) (e::es) [] cpos) (LX X.K T r to t):=by
 intro AN s σ H Q I h;refine wpAny_Call_method_late c i g S (jE (ho AN s σ H _ I h) λv s1 ⟨x,H1,I1,r1,ty,q1⟩=>?_);obtain⟨h1,h2⟩:=WZ I1 r1 ty;refine⟨T,id,pa,slot,j,h1,h2,?_⟩;have a:=d cpos AN s1 σ H1 _ I1 q1;rw[hs]at a ⊢;refine Calls.callWith_builtin (by show(false||(AD cpos (A9 es X.env)).any (·.1))=false;rw[b]<;>rfl) (Calls.evalArgs_plain ?_);exact jE a λus s2 ⟨vs,H2,I2,r2,q2⟩=>f AN s2 σ H2 x vs v us Q I2 r1 r2 q2
end
end L2
namespace L2
def PC(X:Cx)(id:String)(r:V->O V->Hp->VK->Prop):Prop:=
 ∀(AN:O (A1×AE)) (s:A2) (σ:St) (H:Hp) (x:V) (xs:O V) (v:A0) (us:O A0) (Q:VK),AU X AN σ H s->As x v->AX xs us->r x xs H Q →
  A7 (ri X) X.A (call (.builtin id) (v::us)) (EP X AN σ Q) X.xe s
theorem AX.one:∀{x:V} {us:O A0},AX [x] us->∃u,us=[u]/\As x u:=λh=>by
 cases h with
 |cons r t=>cases t;exact⟨_,rfl,r⟩
theorem AX.two:∀{x y:V} {us:O A0},AX [x,y] us->∃u v,us=[u,v]/\As x u/\As y v:=λh=>by
 cases h with
 |cons r t=>
  cases t with
  |cons q t=>cases t;exact⟨_,_,rfl,r,q⟩
theorem AX.eraseIdx:∀{xs:O V} {us:O A0} (i:Nat),AX xs us->AX (xs.eraseIdx i) (us.eraseIdx i)
 |_,_,_,.nil=>.nil
 |_,_,0,.cons _ t=>t
 |_,_,i+1,.cons r t=>.cons r (AX.eraseIdx i t)
theorem AX.reverse{xs:O V}(h:AX xs us):AX xs.reverse us.reverse:=by
 induction h with
 |nil=>exact .nil
 |cons r t a=>rw[Ki,Ki];exact AX.append a (.cons r .nil)
theorem NP{α:Type}:∀(l:O α) (i:Nat),(l.eraseIdx i).length<=l.length
 |[],_=>zk _
 |_::_,0=>Kn _
 |_::r,i+1=>YY (NP r i)
section
variable{X:Cx}{σ:St}{H:Hp}{b:A1}{xs ys zs:O V}
theorem AU.abQ{its':O A0}{f:Array A0->Array A0}{t':Nat}(I:AU X AN σ H s)(d:H l=Z (.lst xs))(e:s.heap.get? l=Z { cls:=.type "list",data:=.seq AQ.toArray n })(g:f AQ.toArray=its'.toArray)(c:AX ys its')(a:ys.length<=AA):
  AU X AN σ (B4 H l (.lst ys)) { s with heap:=s.heap.update l (Obj.mapSeq f),toks:=t' }:=by
 have q:=PySem.IsL.update e f;rw[g]at q;refine I.write (x:=l) (e:=l) (by rw[d];exact trivial) (.inl S) (λh u hb b=>(ku s.heap (Obj.mapSeq f) (ka hb)).trans b) ⟨_,q⟩ ?_;exact⟨a,its',_,c,q⟩
theorem AU.aiC(I:AU X AN σ H s)(a:H l=Z (.lst xs)):xs.length<=AA/\∃(AQ:O A0) (n:Nat),AX xs AQ/\xs.length=AQ.length/\s.heap.get? l=Z { cls:=.type "list",data:=.seq AQ.toArray n }:=by
 obtain⟨z,AQ,n,r,e⟩:=I.hok l _ a;exact⟨z,AQ,n,r,r.length,e⟩
end
section
variable{X:Cx}
def Yz:V->O V->Hp->VK->Prop:=λx vs H Q=>∃l xs y,x=.ref l/\vs=[y]/\H l=Z (.lst xs)/\xs.length<AA/\Q .non (B4 H l (.lst (xs++[y])))
theorem DR:PC X "list.append" Yz:=by
 intro AN s σ H x vs v us Q I d c h;obtain⟨l,xs,y,rfl,rfl,a,f,q⟩:=h;cases d;obtain⟨u,rfl,b⟩:=c.one;obtain⟨z,AQ,n,r,g,e⟩:=I.aiC a;refine call_meets F.slot_list_append ⟨_,e,rfl⟩ F.entry_list_append (F.args_list_append_2 _ _) (PySem.list_append l AQ.toArray n u (by rw[zI];omega)) ⟨e,?_⟩;refine⟨.non,_,I.abQ (its':=AQ++[u]) a e (by simp) (r.append (.cons b .nil)) ?_,rfl,q⟩;rw[zC,mr];omega
def oD:V->O V->Hp->VK->Prop:=λx vs H Q=>∃l xs i k y,x=.ref l/\vs=[.int i]/\H l=Z (.lst xs) ∧ -(2 ^ 63)<=i/\i<2 ^ 63/\seqIndex? i xs.length=Z k/\xs[k]?=Z y/\Q y (B4 H l (.lst (xs.eraseIdx k)))
theorem TL:PC X "list.pop" oD:=by
 intro AN s σ H x vs v us Q I j d h;obtain⟨l,xs,i,k,y,rfl,rfl,a,h1,h2,g,c,q⟩:=h;cases j;obtain⟨u,rfl,b⟩:=d.one;obtain⟨t,rfl⟩:=b;obtain⟨z,AQ,n,r,o,e⟩:=I.aiC a;obtain⟨w,f,m⟩:=r.get c;refine call_meets F.slot_list_pop ⟨_,e,rfl⟩ F.entry_list_pop (F.args_list_pop_2 _ _)
  (MeetsSeq.list_pop_at l AQ.toArray n i t k w (fitsIndex_both h1 h2) (by rw[zI,<-o];exact g) (by rw[<-QO];exact f) (by rw[zI];omega)) ⟨e,?_⟩
 refine⟨y,_,I.abQ (its':=AQ.eraseIdx k) a e ?_ (r.eraseIdx k) ?_,m,q⟩
 ·show AQ.toArray.eraseIdxIfInBounds k=(AQ.eraseIdx k).toArray;rw[List.eraseIdxIfInBounds_toArray]
 ·have:=NP xs k;omega
end
section
variable{X:Cx}
end
end L2
namespace L2
section
variable [DecidableEq κ]
def DW(AO:O (κ×V))(k:κ):Y V:=(AO.find? λa=>decide (a.1=k)).map (·.2)
def BB(AO:O (κ×V))(k:κ)(v:V):O (κ×V):=
 if(AO.any λa=>decide (a.1=k))=true then AO.map (λa=>if a.1=k then(a.1,v)else a)else AO++[(k,v)]
theorem Bd{p:κ×V}{r:O (κ×V)}{k:κ}(e:p.1=k):DW (p::r) k=Z p.2:=by simp[DW,k7,e]
theorem Bf{p:κ×V}{r:O (κ×V)}{k:κ}(e:¬ p.1=k):DW (p::r) k=DW r k:=by simp[DW,k7,e]
theorem Ss(k:κ):∀AO:O (κ×V),(AO.any λa=>decide (a.1=k))=(DW AO k).isSome
 |[]=>rfl
 |p::r=>by
  rw[kL];by_cases e:p.1=k
  ·simp only[Bd e,ZA e,Bool.true_or,y8]
  ·rw[Bf e,ZN e,il];exact Ss k r
theorem pR(AO:O (κ×V))(k:κ)(v:V):(BB AO k v).length<=AO.length+1:=by
 unfold BB;split
 ·rw[zl];omega
 ·rw[zC,ZI,fM];omega
theorem Iu.DX{o:Y V}{u:Y A0}(r:Iu o u):o.isSome=u.isSome:=by
 cases o with
 |none=>cases u with
  |none=>rfl
  |some _=>exact(show False from r).elim
 |some _=>cases u with
  |none=>exact(show False from r).elim
  |some _=>rfl
theorem KV.val{AO:O (κ×V)}{vs:O (κ×A0)}(r:KV AO vs)(k:κ):Iu (DW AO k) (valueAt vs k):=by
 unfold KV at r
 induction r with
 |nil=>exact True.intro
 |@cons p q ps a h t c=>
  obtain⟨h1,h2⟩:=h;by_cases e:p.1=k
  ·have e':q.1=k:=h1.symm.trans e;have b:valueAt (q::a) k=Z q.2:=by simp[valueAt,k7,e']
   rw[Bd e,b];exact h2
  ·have e':¬ q.1=k:=λz=>e (h1.trans z);have b:valueAt (q::a) k=valueAt a k:=by simp[valueAt,k7,e']
   rw[Bf e,b];exact c
theorem KV.any{AO:O (κ×V)}{vs:O (κ×A0)}(r:KV AO vs)(k:κ):(AO.any λa=>decide (a.1=k))=vs.any λa=>decide (a.1=k):=by
 unfold KV at r
 induction r with
 |nil=>rfl
 |cons h t b=>rw[kL,kL,b,h.1]
theorem KV.repl{AO:O (κ×V)}{vs:O (κ×A0)}(r:KV AO vs)(k:κ){y:V}(b:As y u):
  KV (AO.map λa=>if a.1=k then(a.1,y)else a) (vs.map λa=>if a.1=k then(a.1,u)else a):=by
 unfold KV at r ⊢
 induction r with
 |nil=>exact .nil
 |@cons p q ps d h t c=>
  rw[zo,zo];refine .cons ?_ c;obtain⟨h1,h2⟩:=h;by_cases e:p.1=k
  ·rw[zt e,zt (h1.symm.trans e)];exact⟨h1,b⟩
  ·rw[zD e,zD (λz=>e (h1.trans z))];exact⟨h1,h2⟩
theorem KV.put{AO:O (κ×V)}{vs:O (κ×A0)}(r:KV AO vs)(k:κ){y:V}(a:As y u):KV (BB AO k y) (stored vs k u):=by
 unfold BB stored;rw[r.any k];by_cases e:(vs.any λb=>decide (b.1=k))=true
 ·rw[zt e,zt e];exact r.repl k a
 ·rw[zD e,zD e];exact Paired.snoc r ⟨rfl,a⟩
theorem KV.length{AO:O (κ×V)}{vs:O (κ×A0)}(r:KV AO vs):AO.length=vs.length:=Paired.length r
end
theorem Jc{k:AY}(r:As (kV k) u):(bw P w).is k u=true:=by
 cases k with
 |inl i=>obtain⟨t,e⟩:=(show ∃t,u=Value.int i t from r);subst e;exact R5 P w i t
 |inr x=>obtain⟨t,e⟩:=(show ∃t,u=Value.str x t from r);subst e;exact R6 P w x t
theorem NQ{P:A3}{w:A4}:∀{ks:O AY} {us:O A0},AX (ks.map kV) us->ItemsAre (bw P w) ks us
 |[],_,r=>by rw[kD]at r;cases r;exact .nil
 |k::ks,_,r=>by
  rw[zo]at r;cases r with
  |cons h t=>exact .cons (Jc h) (NQ t)
abbrev KT(H:Hp):O (O AY×V)->O (O AY×A1×A0)->Prop:=AI λp q=>p.1=q.1/\H q.2.1=Z (.tup (p.1.map kV))/\As p.2 q.2.2
theorem KT.val{H:Hp}{AO:O (O AY×V)}{xs:O (O AY×A1×A0)}(r:KT H AO xs)(k:O AY):Iu (DW AO k) ((atKey xs k).map (·.2)):=by
 induction r with
 |nil=>exact True.intro
 |@cons p q ps a h t c=>
  obtain⟨h1,_,h2⟩:=h;by_cases e:p.1=k
  ·have e':q.1=k:=h1.symm.trans e;have b:atKey (q::a) k=Z q.2:=by simp[atKey,k7,e']
   rw[Bd e,b];exact h2
  ·have e':¬ q.1=k:=λz=>e (h1.trans z);have b:atKey (q::a) k=atKey a k:=by simp[atKey,k7,e']
   rw[Bf e,b];exact c
theorem KT.repl{H:Hp}{AO:O (O AY×V)}{xs:O (O AY×A1×A0)}(r:KT H AO xs)(k:O AY){y:V}(c:As y u):
  KT H (AO.map λa=>if a.1=k then(a.1,y)else a) (xs.map (putAt k u)):=by
 induction r with
 |nil=>exact .nil
 |@cons p q ps f h t d=>
  rw[zo,zo];refine .cons ?_ d;obtain⟨h1,h2,b⟩:=h;unfold putAt;by_cases e:p.1=k
  ·rw[zt e,zt (h1.symm.trans e)];exact⟨h1,h2,c⟩
  ·rw[zD e,zD (λz=>e (h1.trans z))];exact⟨h1,h2,b⟩
theorem KT.put{H:Hp}{AO:O (O AY×V)}{xs:O (O AY×A1×A0)}(r:KT H AO xs)(k:O AY){b:A1}{y:V}(hb:H b=Z (.tup (k.map kV)))(a:As y u):
  KT H (BB AO k y) (storedH xs k b u):=by
 have e:(AO.any λc=>decide (c.1=k))=(atKey xs k).isSome:=by
  rw[Ss,(r.val k).DX,i4]
 unfold BB storedH;rw[e];by_cases q:(atKey xs k).isSome=true
 ·rw[zt q,zt q];exact r.repl k a
 ·rw[zD q,zD q];exact Paired.snoc r ⟨rfl,hb,a⟩
theorem KT.keeps{H H':Hp}{AO:O (O AY×V)}{xs:O (O AY×A1×A0)}(r:KT H AO xs)(a:∀b ys,H b=Z (.tup ys)->H' b=Z (.tup ys)):KT H' AO xs:=
 Paired.aeC r λ_ _ z=>⟨z.1,a _ _ z.2.1,z.2.2⟩
section
variable{H:Hp}
theorem N4{u:HO}(ok:Aq P w H h)(e:Rd H a u):iw P w H h a u:=e.ok ok
theorem wQ{AO:O (AY×V)}(ok:Aq P w H h)(e:Rd H a (.dK AO)):AO.length<=AA/\(a==sysModules)=false/\∃vs,KV AO vs/\h.DictOf (bw P w) a vs:=
 show iw P w H h a (.dK AO) from N4 ok e
theorem K'{AO:O (AY×V)}(ok:Aq P w H h)(e:H a=Z (.dK AO)):AO.length<=AA/\(a==sysModules)=false/\∃vs,KV AO vs/\h.DictOf (bw P w) a vs:=wQ ok (.inl e)
theorem PX{ks:O AY}(ok:Aq P w H h)(e:H a=Z (.tup (ks.map kV))):(tupleKind (bw P w)).is h ks a:=by
 obtain⟨_,AQ,r,o,h1,h2,⟨n,b⟩,_⟩:=(show iw P w H h a (.tup (ks.map kV)) from ok a _ e);exact⟨o,AQ.toArray,n,h1,h2,b,by simpa using NQ r⟩
theorem YB{AO:O (O AY×V)}(ok:Aq P w H h)(e:Rd H a (.dT AO)):AO.length<=AA/\(a==sysModules)=false ∧
  ∃xs,KT H AO xs/\h.DictOfH (tupleKind (bw P w)) a xs:=by
 obtain⟨z,y,xs,r,o,es,ep,h1,h2,c,g,d⟩:=(show iw P w H h a (.dT AO) from N4 ok e);refine⟨z,y,xs,r,o,es,ep,h1,h2,c,g,λx hx=>?_,d⟩;have all:∀{l:O (O AY×V)} {m:O (O AY×A1×A0)},KT H l m->∀x∈m,(tupleKind (bw P w)).is h x.1 x.2.1:=by
  intro l m q
  induction q with
  |nil=>intro x hx;exact nomatch hx
  |@cons p q ps i b t f=>
   intro x hx;rcases List.mem_cons.mp hx with e|hx
   ·subst e;exact PX ok (by rw[<-b.1];exact b.2.1)
   ·exact f x hx
 exact all r x hx
theorem TM{AO:O (O AY×V)}(ok:Aq P w H h)(e:H a=Z (.dT AO)):AO.length<=AA/\(a==sysModules)=false ∧
  ∃xs,KT H AO xs/\h.DictOfH (tupleKind (bw P w)) a xs:=YB ok (.inl e)
end
def FH(H:Hp)(a:A1)(y:V)(r:Y V):Prop:=
 (∃AO k,Rd H a (.dK AO)/\y=kV k/\r=DW AO k)\/∃AO k b,Rd H a (.dT AO)/\y=.ref b/\H b=Z (.tup (k.map kV))/\r=DW AO k
def FI(H:Hp)(a:A1)(y v:V)(H':Hp):Prop:=
 (∃AO k,H a=Z (.dK AO)/\y=kV k/\AO.length<AA/\H'=B4 H a (.dK (BB AO k v))) ∨
 ∃AO k b,H a=Z (.dT AO)/\y=.ref b/\H b=Z (.tup (k.map kV))/\AO.length<AA/\H'=B4 H a (.dT (BB AO k v))
theorem FI.k{H:Hp}{a:A1}{AO:O (AY×V)}{k:AY}{v:V}(e:H a=Z (.dK AO))(b:AO.length<AA):FI H a (kV k) v (B4 H a (.dK (BB AO k v))):=.inl ⟨AO,k,e,rfl,b,rfl⟩
section
variable{X:Cx}{σ:St}{H:Hp}{y v:V}{r:A0}{o:Y V}
theorem AU.big(I:AU X AN σ H s):sysModules<s.heap.objs.size:=by
 have h:mainGlobals<s.heap.objs.size:=(I.mod.glob.keeps I.bk).lt;exact fO () h
theorem cS{Q:B7}(q:A.units+1<cLine)(I:AU X AN σ H s)(g:FH H a y (Z v))(n:As y u)(h:∀c s',AU X AN σ H s'->As v c->Q c s'):
  A7 (ri X) A (getItem (.ref a) u) Q E s:=by
 rcases g with⟨AO,k,e,m,l⟩|⟨AO,k,b,e,m,eb,l⟩
 ·subst m;obtain⟨z,hd,vs,f,d⟩:=wQ I.hok e;obtain⟨c,i,j⟩:=Iu.some_of (v:=v) (o:=valueAt vs k) (by rw[l];exact f.val k);exact wpAny_getItem_of (Jc n) d.mapOf i (h c _ (I.tok _) j)
 ·subst m;cases(show u=Value.ref b from n);obtain⟨z,hd,xs,f,d⟩:=YB I.hok e;obtain⟨c,i,j⟩:=Iu.some_of (v:=v) (o:=(atKey xs k).map (·.2)) (by rw[l];exact f.val k);obtain⟨p,hp,t⟩:=Option.map_eq_some_iff.mp i;refine wpAny_getItem_heap (tupleKind_room_in1 q) (PX I.hok eb) d hp ?_;rw[t];exact h c _ (I.tok _) j
theorem vF{Q:B7}(j:A.units+1<cLine)(I:AU X AN σ H s)(g:FH H a y o)(i:As y u)(h:∀s',AU X AN σ H s'->Q (.bool (!o.isSome)) s'):
  A7 (ri X) A (AG .NotIn u (.ref a)) Q E s:=by
 rcases g with⟨AO,k,e,f,l⟩|⟨AO,k,b,e,f,eb,l⟩
 ·subst f;obtain⟨z,hd,vs,d,c⟩:=wQ I.hok e;refine wpAny_notIn_of (Jc i) hd c.mapOf ?_;rw[<-(d.val k).DX,<-l];exact h _ (I.tok _)
 ·subst f;cases(show u=Value.ref b from i);obtain⟨z,hd,xs,d,c⟩:=YB I.hok e;refine wpAny_notIn_heap (tupleKind_room_in1 j) (PX I.hok eb) hd c ?_;have q:=(d.val k).DX;rw[i4]at q;rw[<-q,<-l];exact h _ (I.tok _)
theorem Hz{h':A6}{t':Nat}{c:HO}(I:AU X AN σ H s)(d:FY (H a))(hs:Heap.SameBut a s.heap h')(he:∃q,h'.get? a=Z q)(new:iw X.prog X.w (B4 H a c) h' a c):
  AU X AN σ (B4 H a c) { s with heap:=h',toks:=t' }:=
 I.write (x:=a) (e:=a) d (.inl S) (λb q hb z=>(hs.2 b hb).trans z) he new
theorem Wj{H':Hp}{h':A6}{AO:O (AY×V)}{vs:O (AY×A0)}(z:AO.length<=AA)(hd:(a==sysModules)=false)(c:KV AO vs)(b:h'.DictOf (bw P w) a vs):
  iw P w H' h' a (.dK AO):=⟨z,hd,vs,c,b⟩
theorem bm{H':Hp}{Q:Unit->A2->Prop}(D:A.units+1<cLine)(I:AU X AN σ H s)(g:FI H a y v H')(x:As y u)(t:As v r)(h:∀s',AU X AN σ H' s'->Q r9 s'):
  A7 (ri X) A (setItem (.ref a) u r) Q E s:=by
 rcases g with⟨AO,k,e,n,l,p⟩|⟨AO,k,b,e,n,eb,l,p⟩
 ·subst n p;obtain⟨z,hd,vs,d,j⟩:=K' I.hok e;have m:vs.length<=AA:=by rw[<-d.length];exact z
  have o:(BB AO k v).length<=AA:=by have:=pR AO k v;omega
  refine wpAny_setItem_pairs (hsz:=m) (Jc x) j λh' i hs=>h _ ?_;have F:∃q,h'.get? a=Z q:=let ⟨q,_,_,f,_⟩:=i;⟨q,f⟩;exact Hz I (by rw[e];exact True.intro) hs F (Wj o hd (d.put k t) i)
 ·subst n p;cases(show u=Value.ref b from x);obtain⟨z,hd,xs,d,j⟩:=TM I.hok e;have m:xs.length<=AA:=by rw[<-Paired.length d];exact z
  have o:(BB AO k v).length<=AA:=by have:=pR AO k v;omega
  refine wpAny_setItem_heap (hsz:=m) (tupleKind_room_in1 D) (PX I.hok eb) j λh' i hs=>h _ ?_;obtain⟨q,es,ep,f,h2,C,J,_,G⟩:=i;refine Hz I (by rw[e];exact True.intro) hs ⟨q,f⟩ ⟨o,hd,_,(d.put k eb t).keeps λc ys B=>?_,q,es,ep,f,h2,C,J,G⟩;rw[aQ (qH B e (λz=>nomatch z))];exact B
end
section
variable{X:Cx}{σ:St}{H:Hp}{AO:O (AY×V)}{k:AY}
end
def L8(i:Expr):Prop:=∀a iv,subscripted i false a iv=operate [a,iv] (getItem a iv)
theorem Tx{value a:Expr}{T id:String}{Q:B7}(l:typeLookup (.type T) "__getitem__"=pure (Z (.builtin id)))(hs:L8 a)(h:A7 (A8 prog w) A (eval value env) (λo f=>A7 (A8 prog w) A (eval a env) (λi b=>b.TypeIs o T/\A7 (A8 prog w) A (getItem o i) Q E b) E f) E s):
  A7 (A8 prog w) A (eval (.Subscript value a pos) env) Q E s:=by
 refine Subscript_ (QI h (λo f j=>QI j (λi b c=>?_) λ_ _ x=>x) λ_ _ x=>x);obtain⟨g,c⟩:=c;unfold subscriptTail;refine zd ?_;rw[getitemInPython_of_ne g.not_modules];refine zd (wpAny_specialOf g l ?_);have d:A7 (A8 prog w) A (subscripted a false o i) (λr e=>A7 (A8 prog w) A (letTemporaryGo value o r >>= λ_=>pure r) Q E e) E b:=by
  rw[hs o i];exact wpAny_operating (QI c (λr e m=>zd (wpAny_letTemporaryGo (zh m))) λ_ _ x=>x)
 first
  |exact zh (zd d)
  |exact zd (zh (zd d))
  |exact zd d
theorem Sv{X:Cx}{σ:St}{H:Hp}{y:V}{o:Y V}(I:AU X AN σ H s)(g:FH H a y o):s.TypeIs (.ref a) "dict":=by
 rcases g with⟨AO,k,e,_,_⟩|⟨AO,k,b,e,_,_,_⟩
 ·obtain⟨_,_,vs,_,c⟩:=wQ I.hok e;exact c.typeIs
 ·obtain⟨_,_,xs,_,c⟩:=YB I.hok e;exact c.typeIs
def mB(td ty:TE):TE:=λσ H Q=>td σ H λx H1=>ty σ H1 λy H2=>∃a v,x=.ref a/\FH H2 a y (Z v)/\Q v H2
def We(td ty tv:TE):TS:=λD σ H=>tv σ H λv H1=>td σ H1 λx H2=>ty σ H2 λy c=>∃a b,x=.ref a/\FI c a y v b/\D.nx σ b
section
variable{X:Cx}{o i value:Expr}{pos':Pos}{td ty tv:TE}
theorem dr(b:X.A.units+1<cLine)(ho:PE X o td)(hi:PE X i ty)(hs:L8 i):PE X (.Subscript o i pos) (mB td ty):=by
 intro AN s σ H Q I h;refine Tx PySem.F.slot_dict_getitem.lookup hs (jE (ho AN s σ H _ I h) λu s1 ⟨x,H1,I1,rx,q1⟩=>jE (hi AN s1 σ H1 _ I1 q1) λiv s2 ⟨y,H2,I2,ry,a,v,ex,g,q2⟩=>?_);subst ex;obtain rfl:u=Value.ref a:=rx;exact⟨Sv I2 g,cS b I2 g ry λe f d c=>⟨v,H2,d,c,q2⟩⟩
theorem gL(c:X.A.units+1<cLine)(ho:PE X o td)(hi:PE X i ty)(b:PE X value tv)(hs:swapsWith value (Z (.Subscript o i pos')) pos.line X.env=pure false):
  PS X (.Assign [.Subscript o i pos'] value pos) (We td ty tv):=by
 intro AN s σ H D I h;refine wpAny_Assign_Subscript (jE (b AN s σ H _ I h) λr s1 ⟨v,H1,I1,rv,q1⟩=>jE (ho AN s1 σ H1 _ I1 q1) λu s2 ⟨x,H2,I2,rx,q2⟩=>jE (hi AN s2 σ H2 _ I2 q2) λiv s3 ⟨y,H3,I3,ry,a,H4,ex,g,q3⟩=>?_) hs;subst ex;obtain rfl:u=Value.ref a:=rx;exact bm c I3 g ry rv λe d=>⟨σ,H4,d,q3⟩
end
theorem Jd{H:Hp}(h:A6)(hb:sysModules<h.objs.size):iw P w H (h.push { cls:=.type "dict",data:=.dict #[] }) h.objs.size (.dK []):=
 ⟨QP _,beq_eq_false_iff_ne.mpr (ka (Zl hb)),[],.nil,Heap.DictOf.new h⟩
section
variable{X:Cx}
end
def Wm:O (TE×TE)->St->Hp->(O (V×V)->Hp->Prop)->Prop
 |[],_,H,Q=>Q [] H
 |(tk,tv)::r,σ,H,Q=>tk σ H λx H1=>tv σ H1 λy H2=>Wm r σ H2 λps a=>Q ((x,y)::ps) a
abbrev VV:O (V×V)->O (A0×A0)->Prop:=AI λp q=>As p.1 q.1/\As p.2 q.2
def GM(X:Cx)(pos:Pos)(c:O (Y Expr))(b:O Expr)(a:O (TE×TE)):Prop:=
 ∀(AN:O (A1×AE)) (s:A2) (σ:St) (H:Hp) (Q:O (V×V)->Hp->Prop),AU X AN σ H s->Wm a σ H Q →
  A7 (ri X) X.A (evalPairs (pairTrees c b X.env pos)) (λvs s'=>∃ps H',AU X AN σ H' s'/\VV ps vs/\Q ps H') X.xe s
theorem ff{X:Cx}:GM X pos [] [] []:=λAN s σ H Q I h=>pairTrees_nil_walk ⟨[],H,I,.nil,h⟩
theorem ar{X:Cx}{k v:Expr}{ks:O (Y Expr)}{vs:O Expr}{tk tv:TE}{a:O (TE×TE)}(d:PE X k tk)(b:PE X v tv)(c:GM X pos ks vs a):
  GM X pos (Z k::ks) (v::vs) ((tk,tv)::a):=λAN s σ H Q I h=>
 pairTrees_cons_walk (jE (d AN s σ H _ I h) λu s1 ⟨x,H1,I1,rx,q1⟩=>jE (b AN s1 σ H1 _ I1 q1) λw2 s2 ⟨y,H2,I2,ry,q2⟩=>
  jE (c AN s2 σ H2 _ I2 q2) λws s3 ⟨ps,H3,I3,rel,q3⟩=>⟨(x,y)::ps,H3,I3,.cons ⟨rx,ry⟩ rel,q3⟩)
def DY(AO more:O (AY×V)):O (AY×V):=more.foldl (λb a=>BB b a.1 a.2) AO
theorem KV.merge:∀{more:O (AY×V)} {rs:O (AY×A0)} {AO:O (AY×V)} {vs:O (AY×A0)},KV more rs->KV AO vs->KV (DY AO more) (merged vs rs):=by
 intro more rs AO vs r;unfold KV at r
 induction r generalizing AO vs with
 |nil=>intro q;exact q
 |@cons p q ps c h t a=>
  intro b;have e:KV (BB AO p.1 p.2) (stored vs q.1 q.2):=by
   have:=b.put p.1 h.2;rw[<-h.1];exact this
  exact a e
theorem zF:∀(more AO:O (AY×V)),(DY AO more).length<=AO.length+more.length
 |[],AO=>by show AO.length<=AO.length+0;omega
 |p::r,AO=>by
  have h1:=zF r (BB AO p.1 p.2);have h2:=pR AO p.1 p.2;show(DY (BB AO p.1 p.2) r).length<=_;rw[ZI];omega
theorem Je{P:A3}{w:A4}:∀{AO:O (AY×V)} {d:O (A0×A0)},VV (AO.map λe=>(kV e.1,e.2)) d->∃rs,Carries (bw P w) d rs/\KV AO rs
 |[],_,r=>by rw[kD]at r;cases r;exact⟨[],True.intro,.nil⟩
 |p::AO,_,r=>by
  rw[zo]at r;cases r with
  |@cons a b as bs h t=>
   obtain⟨rs,c,q⟩:=Je (P:=P) (w:=w) t;obtain⟨b1,b2⟩:=b;exact⟨(p.1,b2)::rs,⟨Jc h.1,rfl,c⟩,.cons ⟨rfl,h.2⟩ q⟩
def TN(b:O (TE×TE)):TE:=λσ H Q=>∀p,H p=U->Wm b σ (B4 H p (.dK [])) λps H2=>H2 p=Z (.dK [])/\∃AO:O (AY×V),ps=AO.map (λa=>(kV a.1,a.2))/\AO.length<=15/\Q (.ref p) (B4 H2 p (.dK (DY [] AO)))
theorem ca{X:Cx}{b:O (Y Expr)}{d:O Expr}{g:O (TE×TE)}(h:GM X pos b d g)(x:b.all (·.isSome)=true)(u:b.length=d.length)(h0:b≠[])(i:b.length<=15):PE X (.Dict b d pos) (TN g):=by
 intro AN s σ H Q I q;have t:=I.hok.fresh (zk s.heap.objs.size);have m:=I.laid (a:=s.heap.objs.size) (o:=.dK []) (h':=s.heap.push { cls:=.type "dict",data:=.dict #[] }) (t':=s.toks) (λ_ _ q=>ze _ q) (zk _) (Jd s.heap I.big);refine wpAny_Dict_walk (knd:=bw X.prog X.w) x u h0 i (jE (h AN _ σ _ _ m (q _ t)) λws s2 ⟨ps,H2,I2,rel,e,AO,ep,lk,q2⟩=>?_);subst ep;obtain⟨p,c,rk⟩:=Je (P:=X.prog) (w:=X.w) rel;obtain⟨z,hd,y,v,j⟩:=K' I2.hok e;cases v;refine⟨p,c,j,λh' f hs=>⟨.ref s.heap.objs.size,_,?_,rfl,q2⟩⟩;have l:(DY [] AO).length<=AA:=by
  have h1:=zF AO [];rw[fM]at h1;rw[sizeLine_eq];omega
 have n:∃q,h'.get? s.heap.objs.size=Z q:=let ⟨q,_,_,hq,_⟩:=f;⟨q,hq⟩;exact Hz I2 (by rw[e];exact True.intro) hs n (Wj l hd (rk.merge .nil) f)
structure M1 (X:Cx) (o:Expr) (m:Str) (apos:Pos) (e:Expr) (cpos:Pos):Prop where
 base:attributeBase o m X.env (eval o X.env)=eval o X.env
 few:((backTo cpos (starEach [e] X.env)).all (λx=>!x.1)&&(backToKw cpos (keywordEach [] X.env)).all (λx=>x.1.isSome)
  && decide (([e]:List Expr).length+([]:List Keyword).length+(if([]:List Keyword).isEmpty then 0 else 1)<30))=true
 line:(apos.endLine==cpos.line)=true
 trees:backTo cpos (starEach [e] X.env)=[(false,eval e X.env)]
structure M2 (X:Cx) (o:Expr) (m:Str) (apos:Pos) (e f:Expr) (cpos:Pos):Prop where
 base:attributeBase o m X.env (eval o X.env)=eval o X.env
 few:((backTo cpos (starEach [e,f] X.env)).all (λx=>!x.1)&&(backToKw cpos (keywordEach [] X.env)).all (λx=>x.1.isSome)
  && decide (([e,f]:List Expr).length+([]:List Keyword).length+(if([]:List Keyword).isEmpty then 0 else 1)<30))=true
 line:(apos.endLine==cpos.line)=true
 trees:backTo cpos (starEach [e,f] X.env)=[(false,eval e X.env),(false,eval f X.env)]
section
variable{X:Cx}{σ:St}{H:Hp}{y d:V}{r:A0}{o:Y V}
end
section
variable{X:Cx}{o f:Expr}{td ty tx:TE}
end
section
variable{X:Cx}{σ:St}{H:Hp}{AO:O (AY×V)}
end
section
variable{X:Cx}{σ:St}{H:Hp}{y:V}
end
end L2
namespace Att
open PySem PySem.W PySem.Calls PyProof.Rows
theorem GQ{P:Params}:∀(c:O Int) (vs:O A0),WellAll P h vs (c.map WData.int)->IntsAre vs c:=by
 intro c
 induction c with
 |nil=>
  intro vs w;rw[kD]at w;cases w;exact .nil
 |cons n c d=>
  intro vs w;rw[zo]at w;cases w with
  |cons a b=>
   cases a;exact .cons _ _ (d _ b)
theorem dL{l:OpenLaw}(s:l.most=Z n){P:Params}{args:O WData}{f:O A0}(i:l.row.toRowW.claim.pre args=true)(j:WellAll P h f args):
  ∃a vs b,f=[Value.ref a]/\args=[WData.list (b.map WData.int)]/\h.get? a=Z { cls:=.type "list",data:=.seq vs.toArray }/\IntsAre vs b/\b.length<=n:=by
 have w:WShape.hasAll [] args [.list .int]=true:=(pre_splitW i).1;have g:l.pre.holds [] { args:=args }=true:=(pre_splitW i).2;obtain⟨d,r,rfl,h1,h2⟩:=hasAllW_cons w;obtain rfl:=hasAllW_nil h2;obtain⟨xs,rfl,m⟩:=hasW_list h1;obtain⟨b,rfl⟩:=items_int m;have o:b.length<=n:=by
  unfold OpenLaw.pre at g;have e:(WTm.not (.lt (.lit (.int (n:Int))) (.len (.arg 0)))).holds [] { args:=[.list (b.map .int)] }=true:=by
   have e:=(holds_andW g).1;rw[s]at e;exact e
  have c:=condW_of e (w_not (w_lt w_lit (w_len_list (w_arg S))));rw[zl]at c;refine Nat.le_of_not_lt λq=>?_;have u:(n:Int)<((b.length:Nat):Int):=by omega
  first
   |(rw[ZA u]at c;exact absurd c ())
   |(simp at c;omega)
 cases j with
 |cons p v=>
  cases v;cases p with
  |list ho t=>exact⟨_,_,b,rfl,rfl,ho,GQ b _ t,o⟩
theorem VM(l:OpenLaw)(args:O WData):l.row.toRowW.claim.post args (.bool true) args=true:=
 postW_of (r:=l.row.toRowW) (X:=(true==true))
  (show WShape.has [] (.bool true) .bool=true by first|rfl|decide|simp[WShape.has,WShape.arms,WShape.armsAll])
  (show(WTm.eq .res (.lit (.bool true))).value [] { args:=args,res:=Z (.bool true),after:=args }=Z (.bool (true==true)) from w_eq_bool (w_res S) w_lit) rfl
theorem Sw{l:OpenLaw}{q:A3}{loose:AZ}{d:DefRec}(x:l.most=Z n)(y:d.params.defaults=[])(call:∀(w:A4) (i b:A2) (mg j:AJ->Option A0) (fa:A1) (o:AE) (h e g:A0) (a:A1) (vs:O A0) (c:O Int),
   Ground q loose [] XP w i mg j b.heap->YP w b.heap →
   b.heap.get? fa=Z o->o.data=.func (docDef d.name d.params d.body d.scope h e g)->b.heap.CodeRec e d.name->mg d.name=Z (.ref fa) →
   b.heap.get? a=Z { cls:=.type "list",data:=.seq vs.toArray }->IntsAre vs c->c.length<=n->b.gens=#[] →
   AF (A8 l.prog w) callerA (.call (.ref fa) ⟨[.ref a],[]⟩) (λr s'=>r=.ok (.ret (.bool true))/\OldK b.heap s'.heap/\s'.os=b.os/\AllBare s'.gens) b):
  WalkO q loose XP YP l.row.toRowW d [] (λf vs=>PySem.call f vs):=by
 intro w i b mg j G Y fa o h e g p kV ho hd B m A D J I as u L K t M;obtain rfl:p=.none:=Dflts.none m y;obtain rfl:kV=.none:=Dflts.noKw m;obtain⟨a,vs,c,rfl,rfl,v,z,F⟩:=dL x u t;refine enter_call (codeAny_mono (call w i b mg j fa o h e g a vs c G Y ho (fd_plain hd) B A v z F D) λr s' H=>?_);obtain⟨rfl,h2,E,C⟩:=H;exact⟨.inl ⟨.bool true,.bool true,[],rfl,λ_=>S,.bool true,VM l _,λ_=>⟨List.Pairwise.nil,λ_ s=>(nomatch s)⟩⟩,h2,E,C⟩
section
variable{K:Frag}
end
end Att
namespace L2
theorem yL:∀{vs:O A0} {a:O Int},IntsAre vs a->AX (a.map V.int) vs
 |_,_,.nil=>.nil
 |_,_,.cons n t h=>.cons ⟨t,rfl⟩ (yL h)
def D7(H:Hp):Prop:=∀b,H b=U\/∃o xs,H b=Z (.n6 o (.lst xs))
theorem gh{p:AJ->Y A0}{CX:Ct}{k:Nat}{fa:A1}{sp:Sp}{c:A2}{vs:O A0}{g:O Int}(A:K.In c.heap)(D:c.heap.Ns mainGlobals mg)(hb:c.heap.Ns builtinsNs p)(W:∀x:AJ,x ≠ "__name__" → p x=AH x)(a2:c.heap.NoLimit)(hg:c.gens=#[])(j:c.heap.get? a=Z { cls:=.type "list",data:=.seq vs.toArray })(hi:IntsAre vs g)(y:g.length<=AA)(hr:nZ k callerA)(F:∀base:A6,K.In base->base.Ns mainGlobals mg->rQ P w K mg base CX k fa fd [x] sp)(X:∀(s:A2) (u:A0),BindsTo s fd ⟨[u],[]⟩ [(x,u)])(a0:∀H:Hp,D7 H->uG K H a (g.map V.int)->sp [.ref a] H (λv _=>v=.bl true) λ_ _ _=>False)(a1:∀H e s',CX [] H c (λ_ _ _=>False) e s'->False):
  AF (A8 P w) callerA (.call (.ref fa) ⟨[.ref a],[]⟩) (λr s'=>r=.ok (.ret (.bool true))/\OldK c.heap s'.heap/\s'.os=c.os/\AllBare s'.gens) c:=by
 have E:=yL hi;have a3:=hi.length;have B:∀H:Hp,D7 H->uG K H a (g.map V.int)->Aq P w H c.heap->(∀b,H b≠U->b=a)->(H a≠U->K.lookup a=U) →
   AF (A8 P w) callerA (.call (.ref fa) ⟨[.ref a],[]⟩) (λr s'=>r=.ok (.ret (.bool true))/\OldK c.heap s'.heap/\s'.os=c.os/\AllBare s'.gens) c:=by
  intro H I hS t J hK;have C:∀{b:A1} {o:AE},c.heap.get? b=Z o->H b=U->(Pn c.heap H).get? b=Z o:=λe n=>sD e n;have a4:∀{b:A1} {o:AE} {es:Array DictEntry} {ep:Nat},c.heap.get? b=Z o->o.data=.dict es ep->H b=U:=λ{b o es ep} e d=>by
   cases q:H b with
   |none=>rfl
   |some u=>
    have e':b=a:=J b (by rw[q];simp);subst e';rw[j]at e;cases e;have Q:Data.seq vs.toArray _=Data.dict es ep:=d;cases Q
  have i:∀{b:A1} {m:AJ->Y A0},c.heap.Ns b m->(Pn c.heap H).Ns b m:=λ{b m} ⟨o,es,ep,e,d,r⟩=>⟨o,es,ep,C e (a4 e d),d,r⟩;have G:K.In (Pn c.heap H):=λb o e=>C (A b o e) (by
   cases q:H b with
   |none=>rfl
   |some u=>
    have e':b=a:=J b (by rw[q];simp);subst e';rw[hK (by rw[q];simp)]at e;cases e)
  have hM:Mod K mg (Pn c.heap H):=⟨G,i D,⟨p,i hb,W⟩,let ⟨mc,h1,h2⟩:=a2;⟨mc,i h1,h2⟩⟩;have e0:Hk P w K mg (Pn c.heap H) callerA [] c H:=⟨rfl,hM,λb o e=>lh e,kl (WB _ _),trivial,λb hb=>absurd (show b∈([]:O A1) from hb) (by simp),t,.of_eq hg⟩;refine codeAny_mono ((F _ G (i D)).run callerA [] c H ⟨[.ref a],[]⟩ [.ref a] [.ref a] _ _ hr e0 (X c (.ref a)) (.cons S .nil) (a0 H I hS)) λr s' h=>?_;cases r with
  |error e=>exact(a1 H e s' h).elim
  |ok fl=>
   cases fl with
   |next=>exact False.elim h
   |brk=>exact False.elim h
   |cont=>exact False.elim h
   |ret u=>
    obtain⟨v,H',os,L,un,N,r',q⟩:=h;have q':v=.bl true:=q;subst q';obtain rfl:u=Value.bool true:=r';refine⟨rfl,OldK.of_keep λb o e=>?_,os,L⟩;cases q:H b with
    |none=>exact un.keep b o e q (by intro z;exact absurd (show b∈([]:O A1) from z) (by simp)) (by simp)
    |some u=>
     rcases I b with z|⟨M,xs,z⟩
     ·rw[q]at z;cases z
     ·have z2:=un.Aw b M _ z;obtain⟨e1,_⟩:=t b _ z;obtain⟨e2,_⟩:=N b _ z2;rw[e]at e1;cases e1;exact e2
 cases l:K.lookup a with
 |some o=>
  have e:=A a o l;rw[j]at e;cases e;refine B (λ_=>U) (λ_=>.inl S) (.inr ⟨_,vs.toArray,_,l,rfl,rfl,rfl,by rw[zI,a3];exact y,by simpa using E⟩) (λb u z=>by have f:(U:Y HO)=Z u:=z;cases f) (λb z=>absurd S z) λz=>absurd S z
 |none=>
  refine B (λb=>if b=a then Z (.n6 { cls:=.type "list",data:=.seq vs.toArray } (.lst (g.map V.int)))else U) (λb=>?_) (.inl (.inr ⟨{ cls:=.type "list",data:=.seq vs.toArray },zt rfl⟩)) (λb u z=>?_) (λb z=>?_) λ_=>l
  ·by_cases hb:b=a
   ·exact .inr ⟨_,_,zt hb⟩
   ·exact .inl (zD hb)
  ·by_cases hb:b=a
   ·have f:=(zt hb).symm.trans z;cases f;subst hb;exact⟨j,by rw[zl];exact y,vs,_,E,j⟩
   ·have f:=(zD hb).symm.trans z;cases f
  ·by_cases hb:b=a
   ·exact hb
   ·exact absurd (zD hb) z
end L2
namespace L2
theorem nX{l:PySem.W.OpenLaw}{k:Nat}{q:A3}{loose:AZ}{d:DefRec}{K:Params->B1}{CX:A4->Ct}{sp:A4->Sp}(z:l.most=Z n)(J:n<=AA)(A:d.params.defaults=[])(y:nZ k callerA)(C:∀(w:A4) (h:A6),YP w h->(K w.params).In h)(F:∀(w:A4) (mg:AJ->Option A0) (fa:A1) (h:A6),(K w.params).In h->h.Ns mainGlobals mg->mg d.name=Z (.ref fa) →
   ∃fd:FuncData,(∀(s:A2) (u:A0),BindsTo s fd ⟨[u],[]⟩ [(x,u)]) ∧
    ∀base:A6,(K w.params).In base->base.Ns mainGlobals mg->rQ l.prog w (K w.params) mg base (CX w) k fa fd [x] (sp w))(m:∀(w:A4) (H:Hp) (a:A1) (c:O Int),c.length<=n->D7 H->uG (K w.params) H a (c.map V.int)->sp w [.ref a] H (λv _=>v=.bl true) λ_ _ _=>False)(D:∀(w:A4) (H:Hp) (s:A2) (e:A0) (s':A2),CX w [] H s (λ_ _ _=>False) e s'->False):
  PySem.W.WalkO q loose XP YP l.row.toRowW d [] (λf vs=>PySem.call f vs):=by
 refine Att.Sw z A λw a0 p mg mb fa o Q X P a vs c G Y ho hd a1 L t B j M=>?_;have i:=C w _ Y;obtain⟨fd,hb,I⟩:=F w mg fa _ i G.T.g L;exact gh i G.T.g G.T.b G.T.builtins G.T.nolimit M t B (Zs j J) y I hb (λH N E=>m w H a c j N E) λH e s'=>D w H p e s'
theorem li{l:PySem.W.OpenLaw}{k:Nat}{q:A3}{loose:AZ}{d:DefRec}{K:Params->B1}{CX:Ct}{sp:B1->Sp}(j:l.most=Z n)(g:n<=AA)(m:d.params.defaults=[])(i:nZ k callerA)(p:∀(w:A4) (h:A6),YP w h->(K w.params).In h)(F:∀(w:A4) (mg:AJ->Y A0) (fa:A1) (h:A6),(K w.params).In h->h.Ns mainGlobals mg->mg d.name=Z (.ref fa) →
   ∃fd:FuncData,(∀(s:A2) (u:A0),BindsTo s fd ⟨[u],[]⟩ [(x,u)]) ∧
    ∀base:A6,(K w.params).In base->base.Ns mainGlobals mg->rQ l.prog w (K w.params) mg base CX k fa fd [x] (sp (K w.params)))(o:∀(K:B1) (H:Hp) (a:A1) (b:O Int),b.length<=n->D7 H->uG K H a (b.map V.int)->sp K [.ref a] H (λv _=>v=.bl true) λ_ _ _=>False)(t:∀(H:Hp) (s:A2) (e:A0) (s':A2),CX [] H s (λ_ _ _=>False) e s'->False):
  PySem.W.WalkO q loose XP YP l.row.toRowW d [] (λf vs=>PySem.call f vs):=
 nX (K:=K) (CX:=λ_=>CX) (sp:=λw=>sp (K w.params)) j g m i p F (λw H a b h1 h2 c=>o (K w.params) H a b h1 h2 c) λ_ H s e s'=>t H s e s'
end L2
namespace L2
def u0(s:AB):Arguments:=match s with
 |.FunctionDef _ a _ _ _ _ _ _ _ _=>a
 |_=>{ posonlyargs:=[],args:=[],vararg:=U,kwonlyargs:=[],kw_defaults:=[],kwarg:=U,defaults:=[] }
def jG(s:AB):O AB:=match s with
 |.FunctionDef _ _ b _ _ _ _ _ _ _=>b
 |_=>[]
def aR(s:AB):Scope:=match s with
 |.FunctionDef _ _ _ _ _ _ a _ _ _=>a
 |_=>{ kind:=.function,names:=[],isGenerator:=false,isCoroutine:=false }
abbrev FJ:Ct:=λ_ _ _ _ _ _=>False
abbrev E0:XK:=λ_ _ _=>False
theorem Ic{X:Cx}:C9 FJ X E0:=λ_ _ _ _ _ _ _ h=>h.elim
structure D6 (K:B1) (x qual:Str) (st:Stmt) (f:Addr) (fd:FuncData):Prop where
 ex:∃(oc:Value) (od:Option Addr) (kV doc pm:Value) (an:Option Addr) (cdv ct:Value) (osl:Array (Option Value)),
  fd=fnOf x qual (u0 st) (jG st) (aR st) .none kV doc pm an cdv ct/\K.lookup f=some ⟨oc,od,.func fd,osl⟩/\codeIn K cdv qual=true
 kp:keepIn K (.ref f)=true
theorem D6.ok{st:AB}{f:A1}{k:Nat}{sp:Sp}(F:D6 K x qual st f fd)(S:bG N ps (aR st))(len:∀vs H Q E,sp vs H Q E->vs.length=ps.length)(b:∀(a:A0) (A:A5) (outer:O Env) (s:A2) (H:Hp) (vs:O V) (Q:VK) (E:XK),nZ k (A.deeper (AK qual (aR st) s.heap.objs.size f a))->sp vs H Q E →
   ∃t,R8 (GP FJ P w K mg base N qual (aR st) f a A outer s H E).nox (jG st) t/\t { nx:=λ_ H'=>Q .non H',rt:=Q } (start N vs) H):rQ P w K mg base FJ (k+1) f fd ps sp:=by
 obtain⟨l,i,kV,n,j,m,a,ct,osl,rfl,c,e⟩:=F.ex;refine ma c e S len λA outer s H vs Q E d g=>?_;obtain⟨t,h,q⟩:=b a A outer s H vs Q E d g;exact⟨t,h.nox,q⟩
theorem D6.binds{st:AB}{f:A1}(F:D6 K x qual st f fd)(h:∀(kV c a:A0) (b:Y A1) (d ct:A0) (us:O A0),us.length=ps.length->bindArgs (fnOf x qual (u0 st) (jG st) (aR st) .none kV c a b d ct) ⟨us,[]⟩=pure (ps.zip us)):BQ K fd ps []:=by
 obtain⟨i,e,kV,c,a,b,d,ct,osl,rfl,g,j⟩:=F.ex;exact .all (h kV c a b d ct)
theorem NV{st:AB}{f:A1}{h:A0}{g d:Y A1}{kV e b a ct:A0}(l:K.lookup f=Z ⟨h,g,.func (fnOf x qual (u0 st) (jG st) (aR st) .none kV e b d a ct),osl⟩)(c:codeIn K a qual=true)(k:keepIn K (.ref f)=true):D6 K x qual st f (fnOf x qual (u0 st) (jG st) (aR st) .none kV e b d a ct):=⟨⟨h,g,kV,e,b,d,a,ct,osl,rfl,l,c⟩,k⟩
section
variable{X:Cx}
theorem pv(i:Nat)(c:X.N[i]?=Z x:=by rfl)(b:V4 X.env.scope x:=by first|exact jI rfl|exact QE (jI S)|exact QE (QE S))(hd:re x:=by decide)(a:(x==("__classdict__":AJ))=false:=by decide):PE X (.Name x pos) (LV i):=ou c b hd a
end
def AV(H H':Hp):Prop:=∀b o,H b=Z o->H' b=Z o
theorem AV.refl(H:Hp):AV H H:=λ_ _ h=>h
theorem AV.trans{H H1 H2:Hp}(a:AV H H1)(b:AV H1 H2):AV H H2:=λc o h=>b c o (a c o h)
theorem AV.free{H H':Hp}(e:AV H H')(h:H' l=Option.none):H l=Option.none:=by
 cases q:H l with
 |none=>rfl
 |some o=>
  rw[e l o q]at h;cases h
theorem AV.seq{H H':Hp}{xs:O V}(e:AV H H')(h:uG K H a xs):uG K H' a xs:=by
 rcases h with (h|⟨o,h⟩)|h
 ·exact .inl (.inl (e _ _ h))
 ·exact .inl (.inr ⟨o,e _ _ h⟩)
 ·exact .inr h
end L2
variable{xs:O L2.V}{H:L2.Hp}{o:L2.HO}{X:L2.Cx}{σ:L2.St}{v:L2.V}{ta te:L2.TE}{J:L2.It}{vs:O L2.V}{sp:L2.Sp}{ks:O L2.AY}{zs:O (O L2.AY×A1)}{H0 Hs Hb:L2.Hp}{cY:O (O L2.AY)}
namespace P1
open L2
inductive Dt where
 |non|bl (b:Bool)|int (i:Int)|str (x:Str)|tup (xs:List Dt)|lst (xs:List Dt)|emp
inductive Bx where
 |z (d:Dt)|l (ds:List Dt)|o (ds:List Dt)|n (AO:List (AY×Dt))|m (AO:List (AY×Dt)) (w:Option Addr)
abbrev Ev:=O (Y Bx)
def FM(K:B1)(H:Hp)(a:A1)(xs:O V):Prop:=
 (∃o,H a=Z (.n6 o (.lst xs))) ∨
  ∃(o:AE) (AQ:Array A0) (n:Nat),K.lookup a=Z o/\o.cls=.type "list" ∧ o.dict=U/\o.data=.seq AQ n/\AQ.size<=AA/\AX xs AQ.toList
theorem FM.sq(h:FM K H a xs):uG K H a xs:=by
 rcases h with h|h
 ·exact .inl (.inr h)
 ·exact .inr h
mutual
def AW(K:B1)(H:Hp):Dt->V->Prop
 |.non,v=>v=.non
 |.bl b,v=>v=.bl b
 |.int i,v=>v=.int i
 |.str x,v=>v=.str x/\x.length<=AA
 |.tup ds,v=>∃a vs,v=.ref a/\Ay K H a vs/\aK K H ds vs
 |.lst ds,v=>∃a vs,v=.ref a/\FM K H a vs/\aK K H ds vs
 |.emp,v=>∃a o,v=.ref a/\H a=Z (.n6 o (.dK []))
def aK(K:B1)(H:Hp):O Dt->O V->Prop
 |[],vs=>vs=[]
 |d::ds,vs=>∃v r,vs=v::r/\AW K H d v/\aK K H ds r
end
structure Kp (H H':Hp):Prop where
 t:∀a xs,H a=some (.tup xs)->H' a=some (.tup xs)
 f:∀a o u,H a=some (.n6 o u)->H' a=some (.n6 o u)
theorem Kp.of{H':Hp}(s:AV H H'):Kp H H':=⟨λa _ h=>s a _ h,λa _ _ h=>s a _ h⟩
theorem Kp.sqT{H':Hp}(k:Kp H H')(h:Ay K H a xs):Ay K H' a xs:=by
 rcases h with (h|⟨o,h⟩)|h
 ·exact .inl (.inl (k.t _ _ h))
 ·exact .inl (.inr ⟨o,k.f _ _ _ h⟩)
 ·exact .inr h
theorem Kp.fzL{H':Hp}(k:Kp H H')(h:FM K H a xs):FM K H' a xs:=by
 rcases h with⟨o,h⟩|h
 ·exact .inl ⟨o,k.f _ _ _ h⟩
 ·exact .inr h
theorem Kp.lst(h:H a=Z (.lst xs)):Kp H (B4 H a o):=by
 refine⟨λb ys e=>?_,λb c u e=>?_⟩
 ·rw[aQ (qH e h (by intro z;cases z))];exact e
 ·rw[aQ (qH e h (by intro z;cases z))];exact e
theorem Kp.dk{xs:O (AY×V)}(h:H a=Z (.dK xs)):Kp H (B4 H a o):=by
 refine⟨λb ys e=>?_,λb c u e=>?_⟩
 ·rw[aQ (qH e h (by intro z;cases z))];exact e
 ·rw[aQ (qH e h (by intro z;cases z))];exact e
mutual
theorem AW.kp{K:B1}{H H':Hp}(k:Kp H H'):∀{d:Dt} {v:V},AW K H d v->AW K H' d v
 |.non,_,h=>by simpa only[AW]using h
 |.bl _,_,h=>by simpa only[AW]using h
 |.int _,_,h=>by simpa only[AW]using h
 |.str _,_,h=>by simpa only[AW]using h
 |.tup ds,_,h=>by
  simp only[AW]at h ⊢;obtain⟨a,vs,e,q,r⟩:=h;exact⟨a,vs,e,k.sqT q,aK.kp k r⟩
 |.lst ds,_,h=>by
  simp only[AW]at h ⊢;obtain⟨a,vs,e,q,r⟩:=h;exact⟨a,vs,e,k.fzL q,aK.kp k r⟩
 |.emp,_,h=>by
  simp only[AW]at h ⊢;obtain⟨a,o,e,q⟩:=h;exact⟨a,o,e,k.f _ _ _ q⟩
theorem aK.kp{K:B1}{H H':Hp}(k:Kp H H'):∀{ds:O Dt} {vs:O V},aK K H ds vs->aK K H' ds vs
 |[],_,h=>by simpa only[aK]using h
 |d::ds,_,h=>by
  simp only[aK]at h ⊢;obtain⟨v,r,e,q,t⟩:=h;exact⟨v,r,e,AW.kp k q,aK.kp k t⟩
end
theorem aK.length{K:B1}{H:Hp}:∀{ds:O Dt} {vs:O V},aK K H ds vs->vs.length=ds.length
 |[],_,h=>by simp only[aK]at h;subst h;rfl
 |d::ds,_,h=>by
  simp only[aK]at h;obtain⟨v,r,rfl,_,t⟩:=h;simp[aK.length t]
theorem aK.nil:aK K H [] []:=by simp only[aK]
theorem aK.cons{K:B1}{H:Hp}{d:Dt}{v:V}{ds:O Dt}{vs:O V}(h:AW K H d v)(t:aK K H ds vs):aK K H (d::ds) (v::vs):=by
 simp only[aK];exact⟨v,vs,rfl,h,t⟩
theorem aK.append{K:B1}{H:Hp}:∀{ds es:O Dt} {vs us:O V},aK K H ds vs->aK K H es us->aK K H (ds++es) (vs++us)
 |[],_,_,_,h,t=>by simp only[aK]at h;subst h;exact t
 |d::ds,_,_,_,h,t=>by
  simp only[aK]at h;obtain⟨v,r,rfl,q,h⟩:=h;exact aK.cons q (aK.append h t)
theorem aK.drop{K:B1}{H:Hp}:∀(n:Nat) {ds:O Dt} {vs:O V},aK K H ds vs->aK K H (ds.drop n) (vs.drop n)
 |0,_,_,h=>h
 |n+1,[],_,h=>by simp only[aK]at h;subst h;exact aK.nil
 |n+1,d::ds,_,h=>by
  simp only[aK]at h;obtain⟨v,r,rfl,q,h⟩:=h;exact aK.drop n h
theorem aK.take{K:B1}{H:Hp}:∀(n:Nat) {ds:O Dt} {vs:O V},aK K H ds vs->aK K H (ds.take n) (vs.take n)
 |0,_,_,_=>aK.nil
 |n+1,[],_,h=>by simp only[aK]at h;subst h;exact aK.nil
 |n+1,d::ds,_,h=>by
  simp only[aK]at h;obtain⟨v,r,rfl,q,h⟩:=h;exact aK.cons q (aK.take n h)
theorem aK.get{K:B1}{H:Hp}:∀{ds:O Dt} {vs:O V} {i:Nat} {d:Dt},aK K H ds vs->ds[i]?=Z d->∃v,vs[i]?=Z v/\AW K H d v
 |[],_,_,_,_,e=>by simp at e
 |d::ds,_,0,_,h,e=>by
  simp only[aK]at h;obtain⟨v,r,rfl,q,h⟩:=h;simp at e;subst e;exact⟨v,rfl,q⟩
 |d::ds,_,i+1,_,h,e=>by
  simp only[aK]at h;obtain⟨v,r,rfl,q,h⟩:=h;obtain⟨u,e1,e2⟩:=aK.get h (i:=i) (by simpa using e);exact⟨u,by simpa using e1,e2⟩
def E6:AY->Prop
 |.inl _=>True
 |.inr x=>x.length<=AA
def gK(K:B1)(H:Hp)(AO:O (AY×Dt))(ks:O (AY×V)):Prop:=ks.map (·.1)=AO.map (·.1)/\aK K H (AO.map (·.2)) (ks.map (·.2))/\∀p∈AO,E6 p.1
theorem gK.kp{K:B1}{H H':Hp}{AO:O (AY×Dt)}{ks:O (AY×V)}(h:gK K H AO ks)(k:Kp H H'):gK K H' AO ks:=⟨h.1,h.2.1.kp k,h.2.2⟩
def aX(K:B1)(H:Hp):Bx->V->Prop
 |.z d,v=>AW K H d v
 |.l ds,v=>∃a vs,v=.ref a/\Rd H a (.lst vs)/\aK K H ds vs
 |.o ds,v=>∃a vs,v=.ref a/\H a=Z (.lst vs)/\aK K H ds vs
 |.n AO,v=>∃a ks,v=.ref a/\Rd H a (.dK ks)/\gK K H AO ks
 |.m AO w,v=>∃a ks,v=.ref a/\H a=Z (.dK ks)/\gK K H AO ks/\∀b,w=Z b->b=a
theorem aX.same{H':Hp}(s:AV H H'){b:Bx}(h:aX K H b v):aX K H' b v:=by
 cases b with
 |z d=>exact AW.kp (.of s) h
 |l ds=>
  obtain⟨a,vs,e,q,r⟩:=h;refine⟨a,vs,e,?_,r.kp (.of s)⟩;rcases q with q|⟨o,q⟩
  ·exact .inl (s _ _ q)
  ·exact .inr ⟨o,s _ _ q⟩
 |o ds=>
  obtain⟨a,vs,e,q,r⟩:=h;exact⟨a,vs,e,s _ _ q,r.kp (.of s)⟩
 |n AO=>
  obtain⟨a,vs,e,q,r⟩:=h;refine⟨a,vs,e,?_,r.kp (.of s)⟩;rcases q with q|⟨o,q⟩
  ·exact .inl (s _ _ q)
  ·exact .inr ⟨o,s _ _ q⟩
 |m AO _=>
  obtain⟨a,vs,e,q,r⟩:=h;exact⟨a,vs,e,s _ _ q,r.1.kp (.of s),r.2⟩
def qj:Bx->Y (O Dt)
 |.z (.lst ds)=>Z ds
 |.l ds=>Z ds
 |.o ds=>Z ds
 |_=>U
theorem aX.HB{b:Bx}{ds:O Dt}(h:aX K H b v)(e:qj b=Z ds):∃a vs,v=.ref a/\uG K H a vs/\aK K H ds vs:=by
 cases b with
 |z d=>
  cases d<;>first|(cases e;done)|skip;cases e;simp only[aX,AW]at h;obtain⟨a,vs,e,q,r⟩:=h;exact⟨a,vs,e,q.sq,r⟩
 |l c=>
  cases e;obtain⟨a,vs,e,q,r⟩:=h;exact⟨a,vs,e,.inl q,r⟩
 |o c=>
  cases e;obtain⟨a,vs,e,q,r⟩:=h;exact⟨a,vs,e,.inl (.inl q),r⟩
 |n _=>cases e
 |m _ _=>cases e
abbrev tu(K:B1)(H:Hp):O Bx->O V->Prop:=AI (aX K H)
def Nw(H:Hp):Bx->V->Prop
 |.o _,v=>∀a,v=.ref a->H a=U
 |.m _ _,v=>∀a,v=.ref a->H a=U
 |_,_=>True
theorem Nw.old{H1:Hp}(s:AV H H1){b:Bx}(h:Nw H1 b v):Nw H b v:=by
 cases b with
 |o ds=>exact λa e=>s.free (h a e)
 |m ds _=>exact λa e=>s.free (h a e)
 |_=>trivial
def loose:Bx->Bool
 |.z _=>false
 |_=>true
def u5:Bx->Bool
 |.o _=>true
 |.m _ _=>true
 |_=>false
structure bI (K:B1) (H0 H:Hp) (σ:L2.St) (ρ:Ev):Prop where
 len:σ.length=ρ.length
 val:∀(i:Nat) b,ρ[i]?=some (some b)->∃v,σ[i]?=some (some v)/\aX K H b v
 own:∀(i j:Nat) c a b,ρ[i]?=some (some c)->u5 c=true->σ[i]?=some (some (.ref a))->ρ[j]?=some (some b)->loose b=true->σ[j]?=some (some (.ref a))->i=j
 base:AV H0 H
 new:∀(i:Nat) c a,ρ[i]?=some (some c)->u5 c=true->σ[i]?=some (some (.ref a))->H0 a=none
theorem bI.grow{H':Hp}{ρ:Ev}(r:bI K H0 H σ ρ)(s:AV H H'):bI K H0 H' σ ρ:=
 ⟨r.len,λi b e=>let ⟨v,e1,h⟩:=r.val i b e;⟨v,e1,h.same s⟩,r.own,r.base.trans s,r.new⟩
def tF(K:B1)(f:Ev->Y Bx):TE:=λσ H Q=>∃H0 ρ b,bI K H0 H σ ρ/\f ρ=Z b/\∀v H',AV H H'->Nw H b v->aX K H' b v->Q v H'
def MV(K:B1)(f:Ev->Y (O Bx)):TA:=λσ H Q=>∃H0 ρ bs,bI K H0 H σ ρ/\f ρ=Z bs/\∀vs H',AV H H'->tu K H' bs vs->Q vs H'
def DT(K:B1)(f:Ev->Y Bool):TT:=λσ H Q=>∃H0 ρ b,bI K H0 H σ ρ/\f ρ=Z b/\∀H',AV H H'->Q b H'
def PV(X:Cx)(e:Expr)(f:Ev->Y Bx):Prop:=PE X e (tF X.K f)
structure QV (X:Cx) (e:Expr) (f:Ev->Option Bx):Prop where
 run:PV X e f
def FX(X:Cx)(es:O Expr)(f:Ev->Y (O Bx)):Prop:=PA X es (MV X.K f)
structure YD (X:Cx) (es:List Expr) (f:Ev->Option (List Bx)):Prop where
 run:FX X es f
def PB(X:Cx)(e:Expr)(f:Ev->Y Bool):Prop:=PT X e (DT X.K f)
structure QB (X:Cx) (e:Expr) (f:Ev->Option Bool):Prop where
 run:PB X e f
theorem HD{t t':TE}(h:PE X e t)(m:∀ σ H Q,t' σ H Q->t σ H Q):PE X e t':=λAN s σ H Q I q=>h AN s σ H Q I (m σ H Q q)
theorem ON{e:O Expr}{t t':TA}(h:PA X e t)(m:∀ σ H Q,t' σ H Q->t σ H Q):PA X e t':=λpos AN s σ H Q I q=>h pos AN s σ H Q I (m σ H Q q)
theorem Ix{t t':TT}(h:PT X e t)(m:∀ σ H Q,t' σ H Q->t σ H Q):PT X e t':=λAN s σ H Q I q=>h AN s σ H Q I (m σ H Q q)
theorem OH{t t':TT}(h:PW X e t)(m:∀ σ H Q,t' σ H Q->t σ H Q):PW X e t':=λa AN s σ H Q I q=>h a AN s σ H Q I (m σ H Q q)
theorem YF{e:AB}{t t':TS}(h:PS X e t)(m:∀D σ H,t' D σ H->t D σ H):PS X e t':=λAN s σ H D I q=>h AN s σ H D I (m D σ H q)
theorem Wn{e:O AB}{t t':TS}(h:R8 X e t)(m:∀D σ H,t' D σ H->t D σ H):R8 X e t':=λAN s σ H D I q=>h AN s σ H D I (m D σ H q)
def rF(K:B1)(g:Bx->Bx->Y Bx):R2:=λx y H Q=>∃a b c,aX K H a x/\aX K H b y/\g a b=Z c/\∀w H',AV H H'->Nw H c w->aX K H' c w->Q w H'
def Ps(K:B1)(g:Bx->Y Bx):V->Hp->VK->Prop:=λx H Q=>∃a c,aX K H a x/\g a=Z c/\∀w H',AV H H'->Nw H c w->aX K H' c w->Q w H'
def MB(K:B1)(g:O Bx->Y Bx):O V->Hp->VK->Prop:=λxs H Q=>∃bs c,tu K H bs xs/\g bs=Z c/\∀w H',AV H H'->Nw H c w->aX K H' c w->Q w H'
abbrev NT(X:Cx)(f:A0->A0->Sem A0)(g:Bx->Bx->Y Bx):Prop:=Bb X f (rF X.K g)
abbrev R1(X:Cx)(f:A0->Sem A0)(g:Bx->Y Bx):Prop:=EB X f (Ps X.K g)
abbrev pU(X:Cx)(f:A0)(g:O Bx->Y Bx):Prop:=iz X f (MB X.K g)
theorem Bb.imp{f:A0->A0->Sem A0}{r a:R2}(h:Bb X f r)(m:∀x y H Q,a x y H Q->r x y H Q):Bb X f a:=λAN s σ H x y v u Q I b c q=>h AN s σ H x y v u Q I b c (m x y H Q q)
theorem EB.imp{f:A0->Sem A0}{r a:V->Hp->VK->Prop}(h:EB X f r)(m:∀x H Q,a x H Q->r x H Q):EB X f a:=λAN s σ H x v Q I b q=>h AN s σ H x v Q I b (m x H Q q)
theorem iz.imp{f:A0}{r a:O V->Hp->VK->Prop}(h:iz X f r)(m:∀x H Q,a x H Q->r x H Q):iz X f a:=λAN s σ H xs us Q I b q=>h AN s σ H xs us Q I b (m xs H Q q)
def b2(g:Bx->Bx->Y Bx)(fa fb:Ev->Y Bx):Ev->Y Bx:=λρ=>(fa ρ).bind λx=>(fb ρ).bind λy=>g x y
def b1(g:Bx->Y Bx)(fa:Ev->Y Bx):Ev->Y Bx:=λρ=>(fa ρ).bind g
def cN(g:O Bx->Y Bx)(fs:Ev->Y (O Bx)):Ev->Y Bx:=λρ=>(fs ρ).bind g
theorem AT{o:Y α}{f:α->Y β}{b:β}(h:o.bind f=Z b):∃a,o=Z a/\f a=Z b:=by
 cases o with
 |none=>cases h
 |some a=>exact⟨a,rfl,h⟩
theorem LD{g:Bx->Bx->Y Bx}{fa fb:Ev->Y Bx}(σ:L2.St)(H:Hp)(Q:VK)(h:tF K (b2 g fa fb) σ H Q):Fn (rF K g) (tF K fa) (tF K fb) σ H Q:=by
 obtain⟨H0,ρ,c,E,e,q⟩:=h;obtain⟨a,ea,e⟩:=AT e;obtain⟨b,eb,e⟩:=AT e;refine⟨H0,ρ,a,E,ea,λv H1 d p o=>⟨H0,ρ,b,E.grow d,eb,λu H2 f s j=>?_⟩⟩;exact⟨a,b,c,o.same f,j,e,λw i m n l=>q w i ((d.trans f).trans m) (n.old (d.trans f)) l⟩
theorem X0{g:Bx->Y Bx}{fa:Ev->Y Bx}(σ:L2.St)(H:Hp)(Q:VK)(h:tF K (b1 g fa) σ H Q):P6 (Ps K g) (tF K fa) σ H Q:=by
 obtain⟨H0,ρ,c,E,e,q⟩:=h;obtain⟨a,ea,e⟩:=AT e;exact⟨H0,ρ,a,E,ea,λv H1 b m l=>⟨a,c,l,e,λw d i j f=>q w d (b.trans i) (j.old b) f⟩⟩
theorem E8{g:O Bx->Y Bx}{fs:Ev->Y (O Bx)}(σ:L2.St)(H:Hp)(Q:VK)(h:tF K (cN g fs) σ H Q):IA (MB K g) (MV K fs) σ H Q:=by
 obtain⟨H0,ρ,c,E,e,q⟩:=h;obtain⟨a,ea,e⟩:=AT e;exact⟨H0,ρ,a,E,ea,λv H1 b l=>⟨a,c,l,e,λw d i j f=>q w d (b.trans i) (j.old b) f⟩⟩
section
variable{a b:Expr}{fa fb fc f:Ev->Y Bx}{fs:Ev->Y (O Bx)}
theorem bf{op:Operator}{g:Bx->Bx->Y Bx}(ho:NT X (binaryOp op) g)(c:QV X a fa)(hb:QV X b fb):QV X (.BinOp a op b pos) (b2 g fa fb):=⟨have c:=c.run;have hb:=hb.run;HD (sg ho c hb) LD⟩
theorem L6{op:UnaryOp}{g:Bx->Y Bx}(ho:R1 X (unaryOp op) g)(b:QV X a fa):QV X (.UnaryOp op a pos) (b1 g fa):=⟨have b:=b.run;HD (am ho b) X0⟩
theorem Jf{g:Bx->Bx->Y Bx}(ho:NT X (AG op) g)(c:QV X a fa)(hb:QV X b fb)(d:behindInMarks op b=false):QV X (.Compare a [op] [b] pos) (b2 g fa fb):=⟨have c:=c.run;have hb:=hb.run;HD (mh ho c hb d) LD⟩
def Qa:Bx->Y Bool
 |.z (.bl b)=>Z b
 |_=>U
theorem Jg{b:Bx}{k:Bool}(h:aX K H b v)(e:Qa b=Z k):v=.bl k:=by
 cases b with
 |z d=>
  cases d<;>first|(cases e;done)|skip;cases e;simpa only[aX,AW]using h
 |_=>cases e
theorem UO(σ:L2.St)(H:Hp)(Q:Bool->Hp->Prop)(h:DT K (λρ=>(f ρ).bind Qa) σ H Q):tF K f σ H (λx H'=>∃k,x=.bl k/\Q k H'):=by
 obtain⟨H0,ρ,k,E,e,q⟩:=h;obtain⟨b,eb,e⟩:=AT e;exact⟨H0,ρ,b,E,eb,λv H1 c d a=>⟨k,Jg a e,q H1 c⟩⟩
theorem bV{g:Bx->Bx->Y Bx}(ho:NT X (AG op) g)(c:QV X a fa)(hb:QV X b fb)(d:behindInMarks op b=false):QB X (.Compare a [op] [b] pos) (λρ=>(b2 g fa fb ρ).bind Qa):=⟨have c:=c.run;have hb:=hb.run;Ix (sQ ho c hb d) λσ H Q h=>LD σ H _ (UO σ H Q h)⟩
def pW(ρ:Ev)(i:Nat):Y Bx:=match ρ[i]? with
 |some (Z (.o ds))=>Z (.l ds)
 |some (Z (.m AO _))=>Z (.n AO)
 |some (Z b)=>Z b
 |_=>U
theorem Jh{ρ:Ev}{b:Bx}(E:bI K H0 H σ ρ)(e:pW ρ i=Z b):∃v,σ[i]?=Z (Z v)/\aX K H b v:=by
 unfold pW at e;split at e
 ·rename_i ds h;cases e;obtain⟨v,e1,a,vs,e2,q,r⟩:=E.val i _ h;exact⟨v,e1,a,vs,e2,.inl q,r⟩
 ·rename_i ds h;cases e;obtain⟨v,e1,a,vs,e2,q,r⟩:=E.val i _ h;exact⟨v,e1,a,vs,e2,.inl q,r.1⟩
 ·rename_i c h;cases e;exact E.val i _ h
 ·cases e
theorem Bg{ρ:Ev}{b:Bx}(e:pW ρ i=Z b):u5 b=false:=by
 unfold pW at e;split at e
 ·cases e;rfl
 ·cases e;rfl
 ·rename_i a h1 h2 c;cases e;cases b with
  |o ds=>exact absurd S (h1 ds)
  |m ds _=>exact absurd S (h2 ds _)
  |_=>rfl
 ·cases e
theorem aj(i:Nat)(d:X.N[i]?=Z x:=by rfl)(c:V4 X.env.scope x:=by first|exact jI rfl|exact QE (jI S)|exact QE (QE S))(hd:re x:=by decide)(a:(x==("__classdict__":AJ))=false:=by decide):QV X (.Name x pos) (λρ=>pW ρ i):=⟨HD (ou d c hd a) λσ H Q h=>by
 obtain⟨H0,ρ,b,E,e,q⟩:=h;obtain⟨v,e1,r⟩:=Jh E e;refine⟨v,e1,q v H (AV.refl H) ?_ r⟩;cases b with
 |o ds=>have:=Bg e;cases this
 |m ds _=>have:=Bg e;cases this
 |_=>trivial⟩
def cB(d:Dt):Ev->Y Bx:=λ_=>Z (.z d)
theorem FF{d:Dt}(h:PE X e (tC v))(r:∀H,AW X.K H d v):PV X e (cB d):=HD h λσ H Q q=>by
 obtain⟨H0,ρ,b,E,e,q⟩:=q;cases e;exact q v H (AV.refl H) trivial (r H)
theorem aF{i j}:QV X (.Constant (.int i) j pos) (cB (.int i)):=⟨FF ay λH=>by simp only[AW]⟩
theorem Ji{i j}:QV X (.Constant (.bool i) j pos) (cB (.bl i)):=⟨FF ag λH=>by simp only[AW]⟩
theorem rR{j}:QV X (.Constant .none j pos) (cB .non):=⟨FF VS λH=>by simp only[AW]⟩
theorem MR{j}(hx:x.length<=AA:=by decide):PV X (.Constant (.str x) j pos) (cB (.str x)):=FF SC λH=>by unfold AW;exact⟨rfl,hx⟩
theorem Sx{i:Int}{t:Tok}(b:Gl X x)(a:X.mg x=Z (.int i t))(hd:re x:=by decide):QV X (.Name x pos) (cB (.int i)):=⟨FF (c9 b a (v:=.int i) ⟨t,rfl⟩ hd) λH=>by simp only[AW]⟩
def F0:Bx->Y Bool
 |.z .non=>Z false
 |.z (.bl b)=>Z b
 |.z (.int i)=>Z (i != 0)
 |.z (.str x)=>Z ((x.length:Int) != 0)
 |.z (.tup ds)=>Z (!ds.isEmpty)
 |.z (.lst ds)=>Z (!ds.isEmpty)
 |.l ds=>Z (!ds.isEmpty)
 |.o ds=>Z (!ds.isEmpty)
 |.z .emp=>U
 |.n _=>U
 |.m _ _=>U
theorem aK.isEmpty{ds:O Dt}(h:aK K H ds vs):(!ds.isEmpty)=!vs.isEmpty:=by
 have:=h.length;cases ds<;>cases vs<;>simp_all
theorem Sc{b:Bx}{k:Bool}(r:aX K H b v)(e:F0 b=Z k):LM K v H k:=by
 cases b with
 |z d=>
  cases d with
  |non=>cases e;simp only[aX,AW]at r;subst r;rfl
  |bl b=>cases e;simp only[aX,AW]at r;subst r;rfl
  |int b=>cases e;simp only[aX,AW]at r;subst r;rfl
  |str x=>cases e;simp only[aX,AW]at r;obtain⟨rfl,h⟩:=r;exact⟨h,rfl⟩
  |tup ds=>
   cases e;simp only[aX,AW]at r;obtain⟨a,vs,rfl,q,r⟩:=r;exact .inr (.inl ⟨vs,q,r.isEmpty⟩)
  |lst ds=>
   cases e;obtain⟨a,vs,rfl,q,r⟩:=r.HB rfl;exact .inl ⟨vs,q,r.isEmpty⟩
  |emp=>cases e
 |l ds=>
  cases e;obtain⟨a,vs,rfl,q,r⟩:=r.HB rfl;exact .inl ⟨vs,q,r.isEmpty⟩
 |o ds=>
  cases e;obtain⟨a,vs,rfl,q,r⟩:=r.HB rfl;exact .inl ⟨vs,q,r.isEmpty⟩
 |n _=>cases e
 |m _ _=>cases e
theorem rT(h:QV X e f)(he:∀a,isTrue e X.env a=(do let v <-a;standAt e.pos;holding [v] (truthy v)):=by intro _;rfl):QB X e (λρ=>(f ρ).bind F0):=⟨have h:=h.run;Ix (iq h he) λσ H Q q=>by
 obtain⟨H0,ρ,k,E,e,q⟩:=q;obtain⟨b,eb,e⟩:=AT e;exact⟨H0,ρ,b,E,eb,λv H1 d g c=>⟨k,Sc c e,q H1 d⟩⟩⟩
def Sy(p q:Ev->Y Bool):Ev->Y Bool:=λρ=>(p ρ).bind λc=>if c=true then q ρ else Z false
def Wo(p q:Ev->Y Bool):Ev->Y Bool:=λρ=>(p ρ).bind λc=>if c=true then Z true else q ρ
def Jj(p:Ev->Y Bool):Ev->Y Bool:=λρ=>(p ρ).bind λc=>Z (!c)
def SH(X:Cx)(e:Expr)(f:Ev->Y Bool):Prop:=PW X e (DT X.K f)
structure EN (X:Cx) (e:Expr) (f:Ev->Option Bool):Prop where
 run:SH X e f
variable{p q:Ev->Y Bool}{AS:O Expr}
theorem Bh(b:QB X a p):EN X (.BoolOp .And [a] pos) p:=⟨have b:=b.run;fR b⟩
theorem tB(b:QB X a p):EN X (.BoolOp .Or [a] pos) p:=⟨have b:=b.run;fT b⟩
theorem Sk(σ:L2.St)(H:Hp)(Q:Bool->Hp->Prop)(h:DT K (Sy p q) σ H Q):MC (DT K p) (DT K q) σ H Q:=by
 obtain⟨H0,ρ,k,E,e,w⟩:=h;obtain⟨c,d,e⟩:=AT e;refine⟨H0,ρ,c,E,d,λH1 a=>?_⟩;cases c with
 |true=>rw[zt rfl]at e ⊢;exact⟨H0,ρ,k,E.grow a,e,λH2 b=>w H2 (a.trans b)⟩
 |false=>rw[zD ZO]at e ⊢;cases e;exact w H1 a
theorem bg(σ:L2.St)(H:Hp)(Q:Bool->Hp->Prop)(h:DT K (Wo p q) σ H Q):NI (DT K p) (DT K q) σ H Q:=by
 obtain⟨H0,ρ,k,E,e,w⟩:=h;obtain⟨c,d,e⟩:=AT e;refine⟨H0,ρ,c,E,d,λH1 a=>?_⟩;cases c with
 |true=>rw[zt rfl]at e ⊢;cases e;exact w H1 a
 |false=>rw[zD ZO]at e ⊢;exact⟨H0,ρ,k,E.grow a,e,λH2 b=>w H2 (a.trans b)⟩
theorem HF(c:QB X a p)(hb:EN X (.BoolOp .And (b::AS) pos) q):EN X (.BoolOp .And (a::b::AS) pos) (Sy p q):=⟨have c:=c.run;have hb:=hb.run;OH (na c hb) Sk⟩
theorem rW(c:QB X a p)(hb:EN X (.BoolOp .Or (b::AS) pos) q):EN X (.BoolOp .Or (a::b::AS) pos) (Wo p q):=⟨have c:=c.run;have hb:=hb.run;OH (c4 c hb) bg⟩
theorem GR(h:EN X e p):QB X e p:=⟨have h:=h.run;h.pt⟩
theorem xG(b:QB X a p):QB X (.UnaryOp .Not a pos) (Jj p):=⟨have b:=b.run;Ix (TZ b) λσ H Q h=>by
 obtain⟨H0,ρ,k,E,e,w⟩:=h;obtain⟨c,d,e⟩:=AT e;cases e;exact⟨H0,ρ,c,E,d,λH1 f=>w H1 f⟩⟩
def Qc(fa fb:Ev->Y Bx):Ev->Y Bx:=λρ=>((fa ρ).bind Qa).bind λc=>if c=true then fb ρ else Z (.z (.bl false))
def GG(fa:Ev->Y Bx):Ev->Y Bx:=λρ=>((fa ρ).bind Qa).bind λc=>Z (.z (.bl (!c)))
theorem Wq{op}(h:QV X a fa):QV X (.BoolOp op [a] pos) fa:=⟨have h:=h.run;So h⟩
theorem Wr(f:QV X a fa)(hb:QV X (.BoolOp .And (b::AS) pos) fb):QV X (.BoolOp .And (a::b::AS) pos) (Qc fa fb):=⟨have f:=f.run;have hb:=hb.run;HD (SG f hb) λσ H Q h=>by
 obtain⟨H0,ρ,k,E,e,w⟩:=h;obtain⟨c,g,e⟩:=AT e;obtain⟨x,ex,g⟩:=AT g;refine⟨H0,ρ,x,E,ex,λv H1 d n m=>⟨c,Jg m g,?_⟩⟩;cases c with
 |true=>rw[zt rfl]at e ⊢;exact⟨H0,ρ,k,E.grow d,e,λv H2 j l i=>w v H2 (d.trans j) (l.old d) i⟩
 |false=>rw[zD ZO]at e ⊢;cases e;exact w _ H1 d trivial (by simp only[aX,AW])⟩
theorem Wl(b:QV X a fa):QV X (.UnaryOp .Not a pos) (GG fa):=⟨have b:=b.run;HD (VW b) λσ H Q h=>by
 obtain⟨H0,ρ,k,E,e,w⟩:=h;obtain⟨c,d,e⟩:=AT e;obtain⟨x,ex,d⟩:=AT d;cases e;exact⟨H0,ρ,x,E,ex,λv H1 f i g=>⟨c,Jg g d,w _ H1 f trivial (by simp only[aX,AW])⟩⟩⟩
def HC(p:Ev->Y Bool)(fa fb:Ev->Y Bx):Ev->Y Bx:=λρ=>(p ρ).bind λc=>if c=true then fa ρ else fb ρ
theorem ut(g:QB X c p)(i:QV X a fa)(hb:QV X b fb):QV X (.IfExp c a b pos) (HC p fa fb):=⟨have g:=g.run;have i:=i.run;have hb:=hb.run;HD (tJ g i hb) λσ H Q h=>by
 obtain⟨H0,ρ,k,E,e,w⟩:=h;obtain⟨c,m,e⟩:=AT e;refine⟨H0,ρ,c,E,m,λH1 d=>?_⟩;cases c with
 |true=>rw[zt rfl]at e ⊢;exact⟨H0,ρ,k,E.grow d,e,λv H2 j l f=>w v H2 (d.trans j) (l.old d) f⟩
 |false=>rw[zD ZO]at e ⊢;exact⟨H0,ρ,k,E.grow d,e,λv H2 j l f=>w v H2 (d.trans j) (l.old d) f⟩⟩
theorem YG:FX X [] (λ_=>Z []):=ON rP λσ H Q h=>by
 obtain⟨H0,ρ,bs,E,e,q⟩:=h;cases e;exact q [] H (AV.refl H) .nil
def aq(f:Ev->Y Bx)(fs:Ev->Y (O Bx)):Ev->Y (O Bx):=λρ=>(f ρ).bind λb=>(fs ρ).bind λbs=>Z (b::bs)
theorem SJ(h1:PV X e f)(h2:FX X es fs)(hs:A9 (e::es) X.env=(false,eval e X.env)::A9 es X.env:=by rfl):FX X (e::es) (aq f fs):=ON (gR h1 h2 hs) λσ H Q h=>by
 obtain⟨H0,ρ,bs,E,e,q⟩:=h;obtain⟨b,eb,e⟩:=AT e;obtain⟨g,j,e⟩:=AT e;cases e;refine⟨H0,ρ,b,E,eb,λv H1 a l i=>⟨H0,ρ,g,E.grow a,j,λvs H2 c d=>?_⟩⟩;exact q (v::vs) H2 (a.trans c) (.cons (i.same c) d)
def uY:Bx->Y Bx
 |.z d=>Z (.z d)
 |.o ds=>Z (.z (.lst ds))
 |.l _=>U
 |.n _=>U
 |.m _ _=>U
theorem zV{a:A1}(I:L2.AU X AN σ H s)(h:H a=Z (.lst vs)):∃o,L2.AU X AN σ (B4 H a (.n6 o (.lst vs))) s:=by
 obtain⟨z,AQ,n,r,e⟩:=I.hok a _ h;refine⟨{ cls:=.type "list",data:=.seq AQ.toArray n },⟨I.ok,I.os,I.bare,⟨I.base.keep,I.base.slot,λb d q1 q2 f=>?_,I.base.there,λb xs q=>?_,λb d u q=>?_,λb ps q=>?_⟩,I.loc,I.cell,?_,λx c q=>?_,λp hp=>?_,?_,I.len⟩⟩
 ·have:=I.base.free b d q1 q2 f;rw[aQ (dO h this).symm];exact this
 ·have:=I.base.tups b xs q;rw[aQ (qH this h (by intro z;cases z))];exact this
 ·have:=I.base.Aw b d u q;rw[aQ (qH this h (by intro z;cases z))];exact this
 ·obtain⟨m,this⟩:=I.base.Iv b ps q;rw[aQ (qH this h (by intro z;cases z))];exact⟨m,this⟩
 ·rw[aQ (dO h I.free).symm];exact I.free
 ·rw[aQ (dO h (I.rO x c q)).symm];exact I.rO x c q
 ·obtain⟨q1,q2,f⟩:=I.pin p hp;refine⟨q1,?_,f⟩;rw[aQ (dO h q2).symm];exact q2
 ·intro b u q;by_cases hb:b=a
  ·subst hb;rw[aV]at q;cases q;exact⟨e,z,AQ,n,r,e⟩
  ·rw[aQ hb]at q;refine(I.hok b u q).stay (λc v _ w=>w) (λc w=>?_) λc xs w=>?_
   ·rw[aQ (qH w h (by intro z;cases z))];exact w
   ·rw[aQ (qH w h (by intro z;cases z))];exact w
theorem fW(h:QV X e f):QV X e (b1 uY f):=⟨by
 have h:=h.run;intro AN s σ H Q I q;obtain⟨H0,ρ,b,E,e,q⟩:=q;obtain⟨x,ex,e⟩:=AT e;cases x with
 |z d=>
  cases e;exact h AN s σ H Q I ⟨H0,ρ,_,E,ex,λv H' s' i g=>q v H' s' trivial g⟩
 |l ds=>cases e
 |n ds=>cases e
 |m ds _=>cases e
 |o ds=>
  cases e;refine jE (h AN s σ H (λv H'=>AV H H'/\Nw H (.o ds) v/\aX X.K H' (.o ds) v) I ⟨H0,ρ,_,E,ex,λv H' s' i g=>⟨s',i,g⟩⟩) λu D C=>?_;obtain⟨v,H1,w,A,s',i,g⟩:=C;obtain⟨a,vs,rfl,p,B⟩:=g;obtain⟨o,t⟩:=zV w p;refine⟨.ref a,_,t,A,q _ _ (λc y j=>?_) trivial ?_⟩
  ·rw[aQ (dO j (i a S))];exact s' c y j
  ·simp only[aX,AW];exact⟨a,vs,rfl,.inl ⟨o,aV⟩,B.kp (.lst p)⟩⟩
def Qd:O Bx->Y (O Dt)
 |[]=>Z []
 |.z d::r=>(Qd r).bind λds=>Z (d::ds)
 |_=>U
theorem Jk{K:B1}{H:Hp}:∀{bs:O Bx} {vs:O V} {ds:O Dt},tu K H bs vs->Qd bs=Z ds->aK K H ds vs
 |_,_,_,.nil,e=>by cases e;exact aK.nil
 |b::bs,_,_,.cons h t,e=>by
  cases b with
  |z d=>
   simp only[Qd]at e;obtain⟨a,e1,e2⟩:=AT e;cases e2;exact aK.cons h (Jk t e1)
  |_=>cases e
theorem Jl:∀{bs:O Bx} {ds:O Dt},Qd bs=Z ds->ds.length=bs.length
 |[],_,e=>by cases e;rfl
 |.z d::r,_,e=>by
  simp only[Qd]at e;obtain⟨a,e1,e2⟩:=AT e;cases e2;simp[Jl e1]
 |.l _::_,_,e=>by cases e
 |.o _::_,_,e=>by cases e
 |.n _::_,_,e=>by cases e
 |.m _ _::_,_,e=>by cases e
def qL(bs:O Bx):Y Bx:=if bs.length<=1000 then(Qd bs).bind λds=>Z (.z (.tup ds))else U
def jZ(bs:O Bx):Y Bx:=if bs.length<=1000 then(Qd bs).bind λds=>Z (.o ds)else U
theorem bO{p:A1}(h:H p=U):AV H (B4 H p o):=λb u e=>by rw[aQ (dO e h)];exact e
theorem Mo(h:n<=1000):n<=AA:=Zs h ()
theorem oA{x1}(h:YD X es fs):QV X (.Tuple es x1 pos) (cN qL fs):=⟨have h:=h.run;HD (OZ h) λσ H Q q=>by
 obtain⟨H0,ρ,c,E,e,q⟩:=q;obtain⟨bs,g,e⟩:=AT e;refine⟨H0,ρ,bs,E,g,λvs H1 b f=>?_⟩;unfold qL at e;split at e
 ·rename_i d;obtain⟨ds,e1,e⟩:=AT e;cases e;have a:=Jk f e1;refine⟨Mo (by rw[a.length,Jl e1];exact d),λp hp=>q _ _ (b.trans (bO hp)) trivial ?_⟩;simp only[aX,AW];exact⟨p,vs,rfl,.inl (.inl aV),a.kp (.of (bO hp))⟩
 ·cases e⟩
theorem fU(h:YD X es fs):QV X (.List es pos) (cN jZ fs):=⟨have h:=h.run;HD (la h) λσ H Q q=>by
 obtain⟨H0,ρ,c,E,e,q⟩:=q;obtain⟨bs,i,e⟩:=AT e;refine⟨H0,ρ,bs,E,i,λvs H1 d g=>?_⟩;unfold jZ at e;split at e
 ·rename_i f;obtain⟨ds,e1,e⟩:=AT e;cases e;have b:=Jk g e1;refine⟨Mo (by rw[b.length,Jl e1];exact f),λp hp=>q _ _ (d.trans (bO hp)) (λa ea=>by cases ea;exact d.free hp) ?_⟩;exact⟨p,vs,rfl,aV,b.kp (.of (bO hp))⟩
 ·cases e⟩
theorem bh{id:String}{g:O Bx->Y Bx}{p:Pos}(d:pU X (.builtin id) g)(b:Gl X x)(j:X.mg x=U)(f:AH x=Z (.builtin id))(a:YD X (e::es) fs)(i:x ≠ "__name__":=by decide)(h:re x:=by decide)(he:A9 (e::es) X.env=(false,eval e X.env)::A9 es X.env:=by rfl)(c:(AD pos (A9 es X.env)).any (·.1)=false:=by rfl):QV X (.Call (.Name x p) (e::es) [] pos) (cN g fs):=⟨have a:=a.run;HD (uH d b j f a i h he c) E8⟩
theorem iQ{T:String}{g:O Bx->Y Bx}{p:Pos}(d:pU X (.type T) g)(b:Gl X x)(j:X.mg x=U)(f:AH x=Z (.type T))(a:YD X (e::es) fs)(i:x ≠ "__name__":=by decide)(h:re x:=by decide)(he:A9 (e::es) X.env=(false,eval e X.env)::A9 es X.env:=by rfl)(c:(AD pos (A9 es X.env)).any (·.1)=false:=by rfl):QV X (.Call (.Name x p) (e::es) [] pos) (cN g fs):=⟨have a:=a.run;HD (NK d b j f a i h he c) E8⟩
end
inductive Ap where
 |nx (ρ:Ev)|rt (b:Bx)|bk (ρ:Ev)|ct (ρ:Ev)
def SM(K:B1)(H0:Hp)(D:C3):Ap->Prop
 |.nx ρ=>∀ σ H,bI K H0 H σ ρ->D.nx σ H
 |.rt b=>∀v H,AV H0 H->Nw H0 b v->aX K H b v->D.rt v H
 |.bk ρ=>∀ σ H,bI K H0 H σ ρ->D.bk σ H
 |.ct ρ=>∀ σ H,bI K H0 H σ ρ->D.ct σ H
def tG(K:B1)(g:Ev->Y Ap):TS:=λD σ H=>∃H0 ρ r,bI K H0 H σ ρ/\g ρ=Z r/\SM K H0 D r
def IJ(X:Cx)(st:AB)(g:Ev->Y Ap):Prop:=PS X st (tG X.K g)
structure Mh (X:Cx) (st:Stmt) (g:Ev->Option Ap):Prop where
 run:IJ X st g
def V9(X:Cx)(st:O AB)(g:Ev->Y Ap):Prop:=R8 X st (tG X.K g)
structure Qe (X:Cx) (st:List Stmt) (g:Ev->Option Ap):Prop where
 run:V9 X st g
def aD(g1 g2:Ev->Y Ap):Ev->Y Ap:=λρ=>(g1 ρ).bind λr=>match r with
 |.nx a=>g2 a
 |r=>Z r
section
variable{a b:Expr}{fa fb fc f:Ev->Y Bx}{fs:Ev->Y (O Bx)}{st:AB}{AS:O AB}{g g1 g2:Ev->Y Ap}
theorem aP  :Qe X [] (λρ=>Z (.nx ρ)):=⟨Wn yK λD σ H h=>by
 obtain⟨H0,ρ,r,E,e,q⟩:=h;cases e;exact q σ H E⟩
theorem au(h1:Mh X st g1)(h2:Qe X AS g2):Qe X (st::AS) (aD g1 g2):=⟨have h1:=h1.run;have h2:=h2.run;Wn (lG h1 h2) λD σ H h=>by
 obtain⟨H0,ρ,r,E,e,q⟩:=h;obtain⟨c,e1,e⟩:=AT e;refine⟨H0,ρ,c,E,e1,?_⟩;cases c with
 |nx a=>exact λσ' H' d=>⟨H0,a,r,d,e,q⟩
 |rt b=>cases e;exact q
 |bk a=>cases e;exact q
 |ct a=>cases e;exact q⟩
def FS:Bx->Y Ap
 |.l _=>U
 |.n _=>U
 |b=>Z (.rt b)
theorem cU(h:QV X e f):Mh X (.Return (Z e) pos) (λρ=>(f ρ).bind FS):=⟨have h:=h.run;YF (IV h) λD σ H h=>by
 obtain⟨H0,ρ,r,E,e,q⟩:=h;obtain⟨b,eb,e⟩:=AT e;refine⟨H0,ρ,b,E,eb,λv H1 c g a=>?_⟩;cases b with
 |l ds=>cases e
 |z d=>cases e;exact q v H1 (E.base.trans c) trivial a
 |o ds=>cases e;exact q v H1 (E.base.trans c) (g.old E.base) a
 |n ds=>cases e
 |m ds _=>cases e;exact q v H1 (E.base.trans c) (g.old E.base) a⟩
def GX(i:Nat)(ρ:Ev):Y Ap:=match ρ[i]? with
 |some (Z b)=>FS b
 |_=>U
theorem Bj(i:Nat){p:Pos}(j:X.N[i]?=Z x:=by rfl)(g:V4 X.env.scope x:=by first|exact jI rfl|exact QE (jI S)|exact QE (QE S))(hd:re x:=by decide)(f:(x==("__classdict__":AJ))=false:=by decide):Mh X (.Return (Z (.Name x p)) pos) (GX i):=⟨YF (IV (ou j g hd f)) λD σ H h=>by
 obtain⟨H0,ρ,r,E,e,q⟩:=h;unfold GX at e;split at e
 ·rename_i b hb;obtain⟨v,e1,c⟩:=E.val i b hb;refine⟨v,e1,?_⟩;cases b with
  |l ds=>cases e
  |z d=>cases e;exact q v H E.base trivial c
  |o ds=>cases e;exact q v H E.base (λa ea=>E.new i _ a hb S (by rw[e1,ea])) c
  |n ds=>cases e
  |m ds _=>cases e;exact q v H E.base (λa ea=>E.new i _ a hb S (by rw[e1,ea])) c
 ·cases e⟩
def zx(p:Ev->Y Bool)(g1 g2:Ev->Y Ap):Ev->Y Ap:=λρ=>(p ρ).bind λk=>if k=true then g1 ρ else g2 ρ
theorem jL{p:Ev->Y Bool}{u v:O AB}(a:QB X c p)(b:Qe X u g1)(hb:Qe X v g2):Mh X (.If c u v pos) (zx p g1 g2):=⟨have a:=a.run;have b:=b.run;have hb:=hb.run;YF (OB a b hb) λD σ H h=>by
 obtain⟨H0,ρ,r,E,e,q⟩:=h;obtain⟨k,ek,e⟩:=AT e;refine⟨H0,ρ,k,E,ek,λH1 d=>?_⟩;cases k with
 |true=>rw[zt rfl]at e ⊢;exact⟨H0,ρ,r,E.grow d,e,q⟩
 |false=>rw[zD ZO]at e ⊢;exact⟨H0,ρ,r,E.grow d,e,q⟩⟩
theorem B5{l:O α}{x y:α}(h:(l.set i x)[j]?=Z y):(j=i/\y=x/\i<l.length)\/(j≠i/\l[j]?=Z y):=by
 rw[YI]at h;by_cases e:i=j
 ·subst e;rw[zt rfl]at h;split at h
  ·cases h;exact .inl ⟨rfl,rfl,by assumption⟩
  ·cases h
 ·rw[zD e]at h;exact .inr ⟨λz=>e z.symm,h⟩
theorem Jm{l:O α}(x:α)(h:i<l.length):(l.set i x)[i]?=Z x:=by
 rw[YI,zt rfl,zt h]
theorem Jo{l:O α}(x:α)(h:j≠i):(l.set i x)[j]?=l[j]?:=by
 rw[YI,zD (ka h)]
theorem bI.set{H1:Hp}{ρ:Ev}{b:Bx}(E:bI K H0 H σ ρ)(s:AV H H1)(r:aX K H1 b v)(w:u5 b=true\/loose b=false)(n:Nw H b v):bI K H0 H1 (σ.set i (Z v)) (ρ.set i (Z b)):=by
 have D:=E.grow s;have C:∀(j:Nat) (g:Bx) (a:A1),ρ[j]?=Z (Z g)->loose g=true->σ[j]?=Z (Z (.ref a))->H a≠U:=λj g a e1 e2 e3 z=>by
  obtain⟨G,h,x⟩:=E.val j g e1;rw[e3]at h;cases h;cases g with
  |z d=>cases e2
  |l ds=>
   obtain⟨A,vs,f,q,_⟩:=x;cases f;rcases q with q|⟨o,q⟩<;>(rw[z]at q;cases q)
  |o ds=>
   obtain⟨A,vs,f,q,_⟩:=x;cases f;rw[z]at q;cases q
  |n ds=>
   obtain⟨A,vs,f,q,_⟩:=x;cases f;rcases q with q|⟨o,q⟩<;>(rw[z]at q;cases q)
  |m ds _=>
   obtain⟨A,vs,f,q,_⟩:=x;cases f;rw[z]at q;cases q
 have B:u5 b=true->∀a,v=.ref a->H a=U:=λho=>by
  cases b with
  |o ds=>exact n
  |m ds _=>exact n
  |_=>cases ho
 refine⟨by rw[jv,jv];exact E.len,λj g e=>?_,λj k c a g e1 t e2 e3 h f=>?_,D.base,λj c a e1 t e2=>?_⟩
 ·rcases B5 e with⟨rfl,e',hi⟩|⟨u,e'⟩
  ·cases e';exact⟨v,Jm _ (by rw[E.len];exact hi),r⟩
  ·rw[Jo _ u];exact D.val j g e'
 ·rcases B5 e1 with⟨rfl,e',hi⟩|⟨u,e'⟩
  ·cases e';rw[Jm _ (by rw[E.len];exact hi)]at e2;cases e2;rcases B5 e3 with⟨rfl,p,_⟩|⟨y,p⟩
   ·rfl
   ·rw[Jo _ y]at f;exact absurd (B t a S) (C k g a p h f)
  ·rw[Jo _ u]at e2;rcases B5 e3 with⟨rfl,p,hi⟩|⟨y,p⟩
   ·cases p;rw[Jm _ (by rw[E.len];exact hi)]at f;cases f;have F:loose c=true:=by cases c<;>first|rfl|cases t
    rcases w with w|w
    ·exact absurd (B w a S) (C j _ a e' F e2)
    ·rw[w]at h;cases h
   ·rw[Jo _ y]at f;exact E.own j k c a g e' t e2 p h f
 ·rcases B5 e1 with⟨rfl,e',hi⟩|⟨u,e'⟩
  ·cases e';rw[Jm _ (by rw[E.len];exact hi)]at e2;cases e2;exact E.base.free (B t a S)
  ·rw[Jo _ u]at e2;exact E.new j c a e' t e2
def EW(ρ:Ev)(i:Nat):Bx->Y Ev
 |.l _=>U
 |.n _=>U
 |b=>Z (ρ.set i (Z b))
theorem YH{H1:Hp}{ρ ρ':Ev}{b:Bx}(E:bI K H0 H σ ρ)(s:AV H H1)(r:aX K H1 b v)(n:Nw H b v)(e:EW ρ i b=Z ρ'):bI K H0 H1 (σ.set i (Z v)) ρ':=by
 cases b with
 |l ds=>cases e
 |z d=>cases e;exact E.set s r (.inr S) n
 |o d=>cases e;exact E.set s r (.inl S) n
 |n ds=>cases e
 |m d _=>cases e;exact E.set s r (.inl S) n
theorem bF(i:Nat){p:Pos}(c:X.N.Nodup)(he:QV X e f)(hi:X.N[i]?=Z x:=by rfl)(hx:CD X.env.scope x:=by first|exact jI rfl|exact QE S)(hs:swapsWith e (Z (.Name x p)) pos.line X.env=pure false:=by rfl)(j:X.fn x=true\/X.env.scope.names.lookup x=Z .local:=by first|exact .inl rfl|exact .inr S):Mh X (.Assign [.Name x p] e pos) (λρ=>(f ρ).bind λb=>(EW ρ i b).bind λρ'=>Z (.nx ρ')):=⟨have he:=he.run;YF (Pu c hi hx he hs j) λD σ H h=>by
 obtain⟨H0,ρ,r,E,e,q⟩:=h;obtain⟨b,eb,e⟩:=AT e;obtain⟨ρ',g,e⟩:=AT e;cases e;exact⟨H0,ρ,b,E,eb,λv H1 a d l=>q _ _ (YH E a l d g)⟩⟩
def Lo(σ:L2.St)(ρ:Ev)(σ':L2.St)(ρ':Ev):Prop:=∀(j:Nat) b,loose b=true->ρ'[j]?=Z (Z b)->ρ[j]?=Z (Z b)/\σ'[j]?=σ[j]?
theorem Lo.refl{ρ:Ev}:Lo σ ρ σ ρ:=λ_ _ _ e=>⟨e,rfl⟩
theorem Lo.trans{σ g h:L2.St}{ρ f d:Ev}(a:Lo σ ρ g f)(b:Lo g f h d):Lo σ ρ h d:=λj c l e=>by
 obtain⟨e1,e2⟩:=b j c l e;obtain⟨e3,i⟩:=a j c l e1;exact⟨e3,e2.trans i⟩
theorem Lo.set{ρ:Ev}(i:Nat)(v:V)(d:Dt):Lo σ ρ (σ.set i (Z v)) (ρ.set i (Z (.z d))):=λj b l e=>by
 rcases B5 e with⟨rfl,e',_⟩|⟨a,e'⟩
 ·cases e';cases l
 ·exact⟨e',Jo _ a⟩
def Mm(K:B1)(g:Dt->Ev->Y Ev):TG:=λv σ H Q=>∃H0 ρ d a,bI K H0 H σ ρ/\AW K H d v/\g d ρ=Z a/\∀ σ',bI K H0 H σ' a->Lo σ ρ σ' a->Q σ' H
def GB(X:Cx)(t:Expr)(g:Dt->Ev->Y Ev):Prop:=PG X t (Mm X.K g)
structure Cf (X:Cx) (t:Expr) (g:Dt->Ev->Option Ev):Prop where
 run:GB X t g
theorem aO(i:Nat)(a:X.N.Nodup)(hi:X.N[i]?=Z x:=by rfl)(hx:CD X.env.scope x:=by first|exact jI rfl|exact QE S)(f:X.fn x=true\/X.env.scope.names.lookup x=Z .local:=by first|exact .inl rfl|exact .inr S):Cf X (.Name x pos) (λd ρ=>Z (ρ.set i (Z (.z d)))):=⟨λAN s σ H v u Q I r h=>by
 obtain⟨H0,ρ,d,g,E,c,e,q⟩:=h;cases e;exact Az a hi hx f AN s σ H v u Q I r (q _ (E.set (b:=.z d) (AV.refl H) c (.inr S) trivial) (Lo.set i v d))⟩
theorem rE(i:Nat)(a:X.N.Nodup:=by show List.Nodup (_++_);decide +kernel)(hi:X.N[i]?=Z x:=by rfl)(hx:CD X.env.scope x:=by first|exact jI rfl|exact QE S)(f:X.fn x=true\/X.env.scope.names.lookup x=Z .local:=by first|exact .inl rfl|exact .inr S):Cf X (.Name x pos) (λd ρ=>Z (ρ.set i (Z (.z d)))):=aO i a hi hx f
def ue(K:B1)(g:O Dt->Ev->Y Ev):EA:=λvs σ H Q=>∃H0 ρ ds a,bI K H0 H σ ρ/\aK K H ds vs/\g ds ρ=Z a/\∀ σ',bI K H0 H σ' a->Lo σ ρ σ' a->Q σ' H
def g9(X:Cx)(t:O Expr)(g:O Dt->Ev->Y Ev):Prop:=L2.V9 X t (ue X.K g)
structure HR (X:Cx) (t:List Expr) (g:List Dt->Ev->Option Ev):Prop where
 run:g9 X t g
def qI:O Dt->Ev->Y Ev
 |[],ρ=>Z ρ
 |_,_=>U
def bQ(g:Dt->Ev->Y Ev)(gs:O Dt->Ev->Y Ev):O Dt->Ev->Y Ev
 |d::ds,ρ=>(g d ρ).bind (gs ds)
 |_,_=>U
theorem m9  :HR X [] qI:=⟨λAN s σ H vs us Q I r h=>by
 obtain⟨H0,ρ,ds,b,E,a,e,q⟩:=h;cases ds with
 |nil=>cases e;unfold aK at a;exact Yt AN s σ H vs us Q I r ⟨a,q _ E Lo.refl⟩
 |cons d ds=>cases e⟩
theorem bL{t:Expr}{ts:O Expr}{gt:Dt->Ev->Y Ev}{gs:O Dt->Ev->Y Ev}(h1:Cf X t gt)(h2:HR X ts gs)(hs:(assignEach (t::ts) X.env).map (·.2)=assign t X.env::(assignEach ts X.env).map (·.2):=by rfl):HR X (t::ts) (bQ gt gs):=⟨have h1:=h1.run;have h2:=h2.run;λAN s σ H vs us Q I r h=>by
 obtain⟨H0,ρ,ds,n,E,b,e,q⟩:=h;cases ds with
 |nil=>cases e
 |cons d ds=>
  unfold aK at b;obtain⟨v,c,rfl,m,f⟩:=b;simp only[bQ]at e;obtain⟨a,e1,e⟩:=AT e;exact Ba h1 h2 hs AN s σ H _ us Q I r ⟨v,c,rfl,H0,ρ,d,a,E,m,e1,λp i o=>⟨H0,a,ds,n,i,f,e,λj g l=>q j g (o.trans l)⟩⟩⟩
def n8(n:Nat)(gs:O Dt->Ev->Y Ev):Dt->Ev->Y Ev
 |.tup ds,ρ=>if ds.length=n then gs ds ρ else U
 |_,_=>U
theorem rY{ts:O Expr}{k:Nat}{gs:O Dt->Ev->Y Ev}(f:X.calm=true)(h:HR X ts gs)(j:(assignEach ts X.env).length=n:=by rfl)(i:(assignEach ts X.env).findIdx? (·.1)=U:=by rfl):Cf X (.Tuple ts k pos) (n8 n gs):=⟨have h:=h.run;λAN s σ H v u Q I r g=>by
 obtain⟨H0,ρ,d,m,E,c,e,q⟩:=g;cases d with
 |tup ds=>
  simp only[n8]at e;split at e
  ·rename_i l;unfold AW at c;obtain⟨a,vs,rfl,o,b⟩:=c;exact NH f h j i AN s σ H _ u Q I r ⟨a,vs,rfl,o,by rw[b.length];exact l,H0,ρ,ds,m,E,b,e,q⟩
  ·cases e
 |_=>cases e⟩
theorem zW{gt:Dt->Ev->Y Ev}(he:QV X e f)(a:Cf X tg gt)(hs:swapsWithSole [tg] e pos.line X.env=pure false:=by rfl)(c:swappedStores [tg] e X.env=pure U:=by rfl)(h1:(assignEach [tg] X.env).map (·.2)=[assign tg X.env]:=by rfl):Mh X (.Assign [tg] e pos) (λρ=>(f ρ).bind λb=>match b with|.z d=>(gt d ρ).bind λρ'=>Z (.nx ρ')|_=>U):=⟨have he:=he.run;have a:=a.run;YF (Pp he a hs c h1) λD σ H h=>by
 obtain⟨H0,ρ,r,E,e,q⟩:=h;obtain⟨b,eb,e⟩:=AT e;refine⟨H0,ρ,b,E,eb,λv H1 g m l=>?_⟩;cases b with
 |z d=>
  obtain⟨ρ',i,e⟩:=AT e;cases e;exact⟨H0,ρ,d,ρ',E.grow g,l,i,λσ' j _=>q _ _ j⟩
 |_=>cases e⟩
def GW(i j:Nat)(ρ:Ev):O Bx->Y Ap
 |[.z d,.z d']=>Z (.nx ((ρ.set i (Z (.z d))).set j (Z (.z d'))))
 |_=>U
theorem Ws(i j:Nat){px py pt:Pos}{kt k2 pt2}(g:X.calm=true)(m:X.N.Nodup)(c:YD X [a,b] fs)(hi:X.N[i]?=Z x:=by rfl)(o:X.N[j]?=Z y:=by rfl)(u:i≠j:=by decide)(hx:X.env.scope.names.lookup x=Z .local:=by rfl)(f:X.env.scope.names.lookup y=Z .local:=by rfl)(l:swappedStores [.Tuple [.Name x px,.Name y py] kt pt] (.Tuple [a,b] k2 pt2) X.env=pure (Z [x,y]):=by rfl)(hs:swapsWithSole [.Tuple [.Name x px,.Name y py] kt pt] (.Tuple [a,b] k2 pt2) pos.line X.env=pure false:=by rfl):Mh X (.Assign [.Tuple [.Name x px,.Name y py] kt pt] (.Tuple [a,b] k2 pt2) pos) (λρ=>(fs ρ).bind (GW i j ρ)):=⟨have c:=c.run;YF (UK g m hi o u hx f c l hs) λD σ H h=>by
 obtain⟨H0,ρ,r,E,e,q⟩:=h;obtain⟨bs,eb,e⟩:=AT e;refine⟨H0,ρ,bs,E,eb,λvs H1 s v=>?_⟩;unfold GW at e;split at e
 ·rename_i d n;cases e;cases v with
  |cons p t=>
   cases t with
   |cons p' w=>
    cases w;refine⟨_,_,rfl,q _ _ ?_⟩;exact((E.grow s).set (b:=.z d) (AV.refl H1) p (.inr S) trivial).set (b:=.z n) (AV.refl H1) p' (.inr S) trivial
 ·cases e⟩
def GN(ρ:Ev)(i:Nat):Bx->Y Ap
 |.z d=>match ρ[i]? with
  |some (Z (.o ds))=>if ds.length<AA then Z (.nx (ρ.set i (Z (.o (ds++[d])))))else U
  |_=>U
 |_=>U
theorem bI.afe{ρ:Ev}{t c1:Bx}{a:A1}{u:HO}(E:bI K H0 H σ ρ)(h:ρ[i]?=Z (Z t))(ho:u5 t=true)(hs:σ[i]?=Z (Z (.ref a)))(k:Kp H (B4 H a u))(r:aX K (B4 H a u) c1 (.ref a)):
  bI K H0 (B4 H a u) σ (ρ.set i (Z c1)):=by
 have hi:i<ρ.length:=(bv.mp h).1;have hb:H0 a=U:=E.new i t a h ho hs;have lo:∀c,u5 c=true->loose c=true:=λc F=>by cases c<;>first|rfl|cases F
 refine⟨by rw[jv];exact E.len,λj A e=>?_,λj D c f A e1 y e2 e3 N M=>?_,λc o e=>?_,λj c f e1 y e2=>?_⟩
 ·rcases B5 e with⟨rfl,e',_⟩|⟨C,e'⟩
  ·cases e';exact⟨_,hs,r⟩
  ·obtain⟨v,e1,w⟩:=E.val j A e';refine⟨v,e1,?_⟩;have x:∀f,v=.ref f->loose A=true->f≠a:=λf ev G z=>by
    subst z;exact C (E.own i j t _ _ h ho hs e' G (by rw[e1,ev])).symm
   cases A with
   |z d=>exact AW.kp k w
   |l B=>
    obtain⟨f,s,rfl,q,p⟩:=w;refine⟨f,s,rfl,?_,p.kp k⟩;have g:=x f S rfl;rcases q with q|⟨o,q⟩
    ·exact .inl (by rw[aQ g];exact q)
    ·exact .inr ⟨o,by rw[aQ g];exact q⟩
   |o B=>
    obtain⟨f,s,rfl,q,p⟩:=w;have g:=x f S rfl;exact⟨f,s,rfl,by rw[aQ g];exact q,p.kp k⟩
   |n B=>
    obtain⟨f,s,rfl,q,p⟩:=w;refine⟨f,s,rfl,?_,p.kp k⟩;have g:=x f S rfl;rcases q with q|⟨o,q⟩
    ·exact .inl (by rw[aQ g];exact q)
    ·exact .inr ⟨o,by rw[aQ g];exact q⟩
   |m B=>
    obtain⟨f,s,rfl,q,p⟩:=w;have g:=x f S rfl;exact⟨f,s,rfl,by rw[aQ g];exact q,p.1.kp k,p.2⟩
 ·have back:∀(m:Nat) (b:Bx),(ρ.set i (Z c1))[m]?=Z (Z b)->loose b=true->∃b0,ρ[m]?=Z (Z b0)/\loose b0=true/\(u5 b=true->u5 b0=true):=λm b e l=>by
   rcases B5 e with⟨rfl,e',_⟩|⟨C,e'⟩
   ·exact⟨_,h,lo _ ho,λ_=>ho⟩
   ·exact⟨b,e',l,λz=>z⟩
  obtain⟨b0,q1,q2,I⟩:=back j _ e1 (lo _ y);obtain⟨b1,J,L,_⟩:=back D _ e3 N;exact E.own j D b0 f b1 q1 (I y) e2 J L M
 ·rw[aQ (dO e hb)];exact E.base c o e
 ·rcases B5 e1 with⟨rfl,e',_⟩|⟨C,e'⟩
  ·exact E.new _ t f h ho e2
  ·exact E.new j c f e' y e2
theorem bI.abQ{ρ:Ev}{ds es:O Dt}{a:A1}{us:O V}(E:bI K H0 H σ ρ)(h:ρ[i]?=Z (Z (.o ds)))(hs:σ[i]?=Z (Z (.ref a)))(b:H a=Z (.lst vs))(r:aK K H es us):
  bI K H0 (B4 H a (.lst us)) σ (ρ.set i (Z (.o es))):=E.afe h S hs (.lst b) ⟨a,us,rfl,aV,r.kp (.lst b)⟩
theorem xH(i:Nat){p:Pos}(he:QV X e f)(s:X.N[i]?=Z x:=by rfl)(o:V4 X.env.scope x:=by first|exact jI rfl|exact QE (jI S)|exact QE (QE S))(hd:re x:=by decide)(y:(x==("__classdict__":AJ))=false:=by decide)(l:A9 [e] X.env=[(false,eval e X.env)]:=by rfl)(n:attributeBase (.Name x p) "append" X.env (eval (.Name x p) X.env)=eval (.Name x p) X.env:=by rfl)(B:((AD cpos (A9 [e] X.env)).all (λx=>!x.1)&&(backToKw cpos (keywordEach [] X.env)).all (λx=>x.1.isSome)&&decide ([e].length+([]:O AC).length+(if([]:O AC).isEmpty then 0 else 1)<30))=true:=by rfl)(A:(apos.endLine==cpos.line)=true:=by rfl)(hs:swapsWith (.Call (.Attribute (.Name x p) "append" apos) [e] [] cpos) U pos.line X.env=pure false:=by rfl):Mh X (.Expr (.Call (.Attribute (.Name x p) "append" apos) [e] [] cpos) pos) (λρ=>(f ρ).bind (GN ρ i)):=⟨have he:=he.run;YF (Hw (Yy xb PySem.F.slot_list_append PySem.F.type_list_append DR (ou (i:=i) s o hd y) (gR he rP (by rw[l]<;>rfl)) n B A (by rw[l]<;>rfl) S) hs) λD σ H h=>by
  obtain⟨H0,ρ,r,E,e,q⟩:=h;obtain⟨b,eb,e⟩:=AT e;cases b with
  |z d=>
   simp only[GN]at e;split at e
   ·rename_i ds j;split at e
    ·rename_i t;cases e;obtain⟨v,e1,a,vs,rfl,g,m⟩:=E.val i _ j;refine⟨_,e1,.inl ⟨rfl,vs,.inl (.inl g)⟩,H0,ρ,_,E,eb,λu H1 c G w=>?_⟩;have C:=E.grow c;refine⟨a,vs,u,rfl,rfl,c _ _ g,by rw[m.length];exact t,q _ _ ?_⟩;exact C.abQ j e1 (c _ _ g) ((m.kp (.of c)).append (aK.cons w aK.nil))
    ·cases e
   ·cases e
  |_=>cases e⟩
end
def LP(x:AJ):It:=⟨λi _=>i<x.cps.size,λi H v H'=>H'=H/\∃c,x.cps[i]?=Z c/\v=.str ⟨#[c]⟩,λi _=>x.cps.size<=i⟩
def lI(h:A6)(it:A1)(x:AJ)(i:Nat):Prop:=∃t,h.IsStrIter it "str_ascii_iterator" x t i\/h.IsStrIter it "str_iterator" x t i
theorem SN(it:A1)(x:AJ):C5 P w K tg (LP x) [it] it (λi h=>lI h it x i) where
 mem:=by simp
 obj:=λi h st b hb=>by
  have e:b=it:=by simpa using hb
  subst e;obtain⟨t,⟨o,e,c,d⟩|⟨o,e,c,d⟩⟩:=st
  ·exact⟨o,e,λv z=>by rw[d]at z;cases z⟩
  ·exact⟨o,e,λv z=>by rw[d]at z;cases z⟩
 keep:=λi h h' st k=>by
  obtain⟨t,⟨o,e,c⟩|⟨o,e,c⟩⟩:=st
  ·exact⟨t,.inl ⟨o,k it (by simp) o e,c⟩⟩
  ·exact⟨t,.inr ⟨o,k it (by simp) o e,c⟩⟩
 item:=by
  intro X y q u p i AN s σ H E I g st m;subst y q u;obtain⟨f0,f1,f2,f,a,j⟩:=g it (by simp);have hi:i<x.cps.size:=m;have hx:x.cps[i]?=Z x.cps[i]:=by simp[hi]
  obtain⟨t,st|st⟩:=st
  ·refine wpAny_pyNext_ascii_item st hx λh' l A=>?_;have n:L2.AU X AN σ H { s with heap:=h',toks:=s.toks+1 }:=I.turned (λb o hb e=>(A.2 b hb).trans e) f0 f1 f a j;obtain⟨o,e,c,d⟩:=id l;exact⟨_,rfl,Nu (s:={ s with heap:=h',toks:=s.toks+1 }) e c d () ⟨.str ⟨#[x.cps[i]]⟩,H,n,⟨_,rfl⟩,⟨rfl,_,hx,rfl⟩,⟨t,.inl l⟩,λb hb=>(g b hb).1⟩⟩
  ·refine wpAny_pyNext_wide_item st hx λh' l A=>?_;have n:L2.AU X AN σ H { s with heap:=h',toks:=s.toks+1 }:=I.turned (λb o hb e=>(A.2 b hb).trans e) f0 f1 f a j;obtain⟨o,e,c,d⟩:=id l;exact⟨_,rfl,Nu (s:={ s with heap:=h',toks:=s.toks+1 }) e c d () ⟨.str ⟨#[x.cps[i]]⟩,H,n,⟨_,rfl⟩,⟨rfl,_,hx,rfl⟩,⟨t,.inr l⟩,λb hb=>(g b hb).1⟩⟩
 done:=by
  intro X y q u p i AN s σ H E I g st m;subst y q u;obtain⟨f0,f1,f2,f,a,j⟩:=g it (by simp);have hx:x.cps[i]?=U:=by have:x.cps.size<=i:=m;simp[this]
  obtain⟨t,st|st⟩:=st
  ·exact wpAny_pyNext_ascii_end (I.ok.hd p) st hx λh' eb=>⟨rfl,I.turned (t':=s.toks) (λb o hb e=>eb b o hb e) f0 f1 f a j⟩
  ·exact wpAny_pyNext_wide_end (I.ok.hd p) st hx λh' eb=>⟨rfl,I.turned (t':=s.toks) (λb o hb e=>eb b o hb e) f0 f1 f a j⟩
 self:=λ_ _ _ _ _ st h=>by
  obtain⟨t,st|st⟩:=st
  ·exact wpAny_pyIter_striter_ascii st h
  ·exact wpAny_pyIter_striter_wide st h
def br(K:B1)(tl:TE):TI:=λσ H R=>tl σ H λx H1=>(∃a,x=.ref a/\(∃xs,uG K H1 a xs)/\R (GU K a) H1)\/(∃a,x=.ref a/\(∃xs,Ay K H1 a xs)/\R (IZ K a) H1)\/∃y,x=.str y/\R (LP y) H1
theorem Wt{l:Expr}{tl:TE}(j:PE X l tl):PI X tg l (br X.K tl):=by
 intro AN s σ H R I h;refine jE (j AN s σ H _ I h) λv s1 ⟨x,H1,I1,r1,q1⟩=>?_;have c:∀(o:AE) (b:A1),b∈[s1.heap.objs.size]->uq X AN H1 b:=λo b hb=>by
  have e:b=s1.heap.objs.size:=by simpa using hb
  subst e;exact I1.R9 (zk _) (I1.hok.fresh (zk _))
 rcases q1 with⟨a,e,⟨xs,d⟩,q⟩|⟨a,e,⟨xs,d⟩,q⟩|⟨y,e,q⟩
 ·subst e;cases r1;obtain⟨AQ,i,p,g⟩:=I1.list d;refine KP p.isList ?_;exact⟨s1.heap.objs.size,[s1.heap.objs.size],_,_,H1,rfl,I1.kept (t':=s1.toks) λb o e=>ze _ e,aE a _,⟨_,zw _ rfl,rfl,rfl⟩,c default,q⟩
 ·subst e;cases r1;obtain⟨AQ,i,p,g⟩:=I1.tuple d;refine wpAny_pyIter_tuple (show s1.heap.IsTuple a AQ.toArray from p) ?_;exact⟨s1.heap.objs.size,[s1.heap.objs.size],_,_,H1,rfl,I1.kept (t':=s1.toks) λb o e=>ze _ e,Wa a _,⟨_,zw _ rfl,rfl,rfl⟩,c default,q⟩
 ·subst e;obtain⟨t,rfl⟩:=r1;cases f:y.cps.all (· < 128)with
  |true=>
   refine wpAny_pyIter_ascii f ?_;exact⟨s1.heap.objs.size,[s1.heap.objs.size],_,_,H1,rfl,I1.kept (t':=s1.toks) λb o e=>ze _ e,SN _ y,⟨t,.inl ⟨_,zw _ rfl,rfl,rfl⟩⟩,c default,q⟩
  |false=>
   refine wpAny_pyIter_wide f ?_;exact⟨s1.heap.objs.size,[s1.heap.objs.size],_,_,H1,rfl,I1.kept (t':=s1.toks) λb o e=>ze _ e,SN _ y,⟨t,.inr ⟨_,zw _ rfl,rfl,rfl⟩⟩,c default,q⟩
def B0(K:B1)(J:It)(ds:O Dt)(Hs:Hp):Prop:=∀(i:Nat) (H:Hp),AV Hs H →
 (∀d,ds[i]?=Z d->J.go i H/\∀x H',J.yld i H x H'->AV H H'/\AW K H' d x)/\(ds.length<=i->J.stop i H)
theorem B0.of{ds:O Dt}(h:∀(i:Nat) (H:Hp),AV Hs H →
  (∀d,ds[i]?=Z d->J.go i H/\∀x H',J.yld i H x H'->H'=H/\AW K H d x)/\(ds.length<=i->J.stop i H)):B0 K J ds Hs:=λi H s=>
 ⟨λd e=>⟨((h i H s).1 d e).1,λx H' y=>by
  obtain⟨rfl,r⟩:=((h i H s).1 d e).2 x H' y;exact⟨AV.refl _,r⟩⟩,(h i H s).2⟩
def Bz(x:AJ):O Dt:=x.cps.toList.map λc=>.str ⟨#[c]⟩
theorem B0.list{ds:O Dt}(h:uG K Hs a vs)(r:aK K Hs ds vs):B0 K (GU K a) ds Hs:=.of λi H s=>by
 have h':=s.seq h;have c:=r.kp (.of s);refine⟨λd e=>?_,λe=>⟨vs,h',by rw[r.length];exact e⟩⟩;obtain⟨v,ev,b⟩:=c.get e;refine⟨⟨vs,v,h',ev⟩,λx H' y=>?_⟩;obtain⟨y1,y2⟩:=y;have:=y2 vs h';rw[ev]at this;cases this;exact⟨y1,b⟩
theorem B0.tup{ds:O Dt}(h:Ay K Hs a vs)(r:aK K Hs ds vs):B0 K (IZ K a) ds Hs:=.of λi H s=>by
 have h':=(Kp.of s).sqT h;have c:=r.kp (.of s);refine⟨λd e=>?_,λe=>⟨vs,h',by rw[r.length];exact e⟩⟩;obtain⟨v,ev,b⟩:=c.get e;refine⟨⟨vs,v,h',ev⟩,λx H' y=>?_⟩;obtain⟨y1,y2⟩:=y;have:=y2 vs h';rw[ev]at this;cases this;exact⟨y1,b⟩
theorem B0.str(x:AJ):B0 K (LP x) (Bz x) Hs:=.of λi H s=>by
 refine⟨λd e=>?_,λe=>?_⟩
 ·unfold Bz at e;rw[ZE]at e;cases h:x.cps.toList[i]? with
  |none=>rw[h]at e;cases e
  |some c=>
   rw[h]at e;cases e;have b:x.cps[i]?=Z c:=by simpa using h
   have hi:i<x.cps.size:=by
    have:=(bv.mp h).1;simpa using this
   refine⟨hi,λv H' y=>?_⟩;obtain⟨y1,f,a,rfl⟩:=y;rw[b]at a;cases a;refine⟨y1,?_⟩;unfold AW;exact⟨rfl,by show(1:Nat)<=AA;decide⟩
 ·have:(Bz x).length=x.cps.size:=by simp[Bz]
  show x.cps.size<=i;omega
def SQ(lo:Int)(n:Nat):O Dt:=(cf n).map λk=>.int (lo+(k:Nat))
theorem B0.rng(lo:Int)(n:Nat):B0 K (HV lo n) (SQ lo n) Hs:=.of λi H s=>by
 refine⟨λd e=>?_,λe=>?_⟩
 ·unfold SQ at e;rw[ZE]at e;by_cases hi:i<n
  ·rw[kN hi]at e;cases e;refine⟨hi,λv H' y=>?_⟩;obtain⟨y1,y2⟩:=y;refine⟨y1,?_⟩;unfold AW;exact y2
  ·rw[qV (by simp;omega)]at e;cases e
 ·have:(SQ lo n).length=n:=by simp[SQ]
  show n<=i;omega
def iF(K:B1)(f:Ev->Y (O Dt)):TI:=λσ H R=>∃H0 ρ ds,bI K H0 H σ ρ/\f ρ=Z ds/\∀J H',AV H H' →
 (∀Hs,AV Hs H'->(∀a,H a=U->Hs a=H' a)->(∀a o u,H' a=Z (.n6 o u)->Hs a=H' a)->(∀a vs,H' a=Z (.tup vs)->Hs a=H' a)->B0 K J ds Hs)->R J H'
def NB(X:Cx)(tg iter:Expr)(f:Ev->Y (O Dt)):Prop:=PI X tg iter (iF X.K f)
structure G2 (X:Cx) (tg iter:Expr) (f:Ev->Option (List Dt)):Prop where
 run:NB X tg iter f
def FK:Bx->Y (O Dt)
 |.z (.lst ds)=>Z ds
 |.z (.tup ds)=>Z ds
 |.z (.str x)=>Z (Bz x)
 |.o ds=>Z ds
 |_=>U
section
variable{f:Ev->Y Bx}{fs:Ev->Y (O Bx)}
mutual
theorem AW.part{K:B1}{H Hs:Hp}(b:∀a o u,H a=Z (.n6 o u)->Hs a=H a)(c:∀a vs,H a=Z (.tup vs)->Hs a=H a):∀{d:Dt} {v:V},AW K H d v->AW K Hs d v
 |.non,_,h=>by simpa only[AW]using h
 |.bl _,_,h=>by simpa only[AW]using h
 |.int _,_,h=>by simpa only[AW]using h
 |.str _,_,h=>by simpa only[AW]using h
 |.tup ds,_,h=>by
  simp only[AW]at h ⊢;obtain⟨a,vs,e,q,r⟩:=h;refine⟨a,vs,e,?_,aK.part b c r⟩;rcases q with (q|⟨o,q⟩)|q
  ·exact .inl (.inl ((c _ _ q).trans q))
  ·exact .inl (.inr ⟨o,(b _ _ _ q).trans q⟩)
  ·exact .inr q
 |.lst ds,_,h=>by
  simp only[AW]at h ⊢;obtain⟨a,vs,e,q,r⟩:=h;refine⟨a,vs,e,?_,aK.part b c r⟩;rcases q with⟨o,q⟩|q
  ·exact .inl ⟨o,(b _ _ _ q).trans q⟩
  ·exact .inr q
 |.emp,_,h=>by
  simp only[AW]at h ⊢;obtain⟨a,o,e,q⟩:=h;exact⟨a,o,e,(b _ _ _ q).trans q⟩
theorem aK.part{K:B1}{H Hs:Hp}(b:∀a o u,H a=Z (.n6 o u)->Hs a=H a)(c:∀a vs,H a=Z (.tup vs)->Hs a=H a):∀{ds:O Dt} {vs:O V},aK K H ds vs->aK K Hs ds vs
 |[],_,h=>by simpa only[aK]using h
 |d::ds,_,h=>by
  simp only[aK]at h ⊢;obtain⟨v,r,e,q,t⟩:=h;exact⟨v,r,e,AW.part b c q,aK.part b c t⟩
end
theorem yM(h:QV X e f):G2 X tg e (λρ=>(f ρ).bind FK):=⟨have h:=h.run;λAN s σ H R I q=>by
 refine Wt h AN s σ H R I ?_;obtain⟨H0,ρ,ds,E,e,q⟩:=q;obtain⟨b,eb,e⟩:=AT e;refine⟨H0,ρ,b,E,eb,λv H1 u y j=>?_⟩;cases b with
 |z d=>
  cases d with
  |tup p=>
   cases e;simp only[aX,AW]at j;obtain⟨a,vs,rfl,c,t⟩:=j;refine .inr (.inl ⟨a,rfl,⟨vs,c⟩,q _ _ u λHs hs w g i=>.tup ?_ (t.part g i)⟩);rcases c with (c|⟨o,c⟩)|c
   ·exact .inl (.inl ((i _ _ c).trans c))
   ·exact .inl (.inr ⟨o,(g _ _ _ c).trans c⟩)
   ·exact .inr c
  |lst p=>
   cases e;simp only[aX,AW]at j;obtain⟨a,vs,rfl,c,t⟩:=j;refine .inl ⟨a,rfl,⟨vs,c.sq⟩,q _ _ u λHs hs w g i=>.list ?_ (t.part g i)⟩;rcases c with⟨o,c⟩|c
   ·exact .inl (.inr ⟨o,(g _ _ _ c).trans c⟩)
   ·exact .inr c
  |str x=>
   cases e;simp only[aX,AW]at j;obtain⟨rfl,_⟩:=j;exact .inr (.inr ⟨x,rfl,q _ _ u λHs hs w g i=>.str x⟩)
  |_=>cases e
 |l p=>cases e
 |n p=>cases e
 |m p=>cases e
 |o p=>
  cases e;obtain⟨a,vs,rfl,c,t⟩:=j;refine .inl ⟨a,rfl,⟨vs,.inl (.inl c)⟩,q _ _ u λHs hs w g i=>.list (.inl (.inl ((w a (y a S)).trans c))) (t.part g i)⟩⟩
def LO:O Bx->Y (O Dt)
 |[.z (.int j)]=>if -(2 ^ 62)<=j/\j<2 ^ 62 then Z (SQ 0 j.toNat)else U
 |_=>U
theorem uJ{p:Pos}(c:Gl X "range")(g:X.mg "range"=U)(a:YD X [e] fs)(hs:A9 [e] X.env=[(false,eval e X.env)]:=by rfl):G2 X tg (.Call (.Name "range" p) [e] [] pos) (λρ=>(fs ρ).bind LO):=⟨have a:=a.run;λAN s σ H R I q=>by
 refine lv c g a hs AN s σ H R I ?_;obtain⟨H0,ρ,ds,E,e,q⟩:=q;obtain⟨bs,eb,e⟩:=AT e;refine⟨H0,ρ,bs,E,eb,λvs H1 d f=>?_⟩;unfold LO at e;split at e
 ·rename_i j;split at e
  ·rename_i b;cases e;cases f with
   |cons p t=>
    cases t;simp only[aX,AW]at p;subst p;exact⟨j,rfl,b.1,b.2,q _ _ d λHs _ _ _ _=>.rng 0 _⟩
  ·cases e
 ·cases e⟩
def qM(gt:Dt->Ev->Y Ev)(gb:Ev->Y Ap):O Dt->Ev->Y Ap
 |[],ρ=>Z (.nx ρ)
 |d::ds,ρ=>(gt d ρ).bind λc=>(gb c).bind λr=>match r with
  |.nx a=>qM gt gb ds a
  |.ct a=>qM gt gb ds a
  |.bk a=>Z (.nx a)
  |.rt b=>Z (.rt b)
noncomputable def iM(H:Hp)(σ:L2.St)(ρ:Ev):Hp:=λa=>@ite _ (∃(i:Nat) (c:Bx),ρ[i]?=Z (Z c)/\u5 c=true/\σ[i]?=Z (Z (.ref a))) (Classical.propDecidable _) U (H a)
theorem Bl{ρ:Ev}:AV (iM H σ ρ) H:=λa o e=>by
 unfold iM at e;split at e
 ·cases e
 ·exact e
theorem bI.rebase{ρ:Ev}(E:bI K Hs H σ ρ)(s:AV H0 Hs):bI K H0 H σ ρ:=⟨E.len,E.val,E.own,s.trans E.base,λi c a e1 b e2=>s.free (E.new i c a e1 b e2)⟩
theorem bI.sans{ρ:Ev}(E:bI K H0 H σ ρ):bI K (iM H σ ρ) H σ ρ:=⟨E.len,E.val,E.own,Bl,λi c a e1 b e2=>by
 unfold iM;rw[zt ⟨i,c,e1,b,e2⟩]⟩
theorem bI.sub{ρ:Ev}(E:bI K H0 H σ ρ):AV H0 (iM H σ ρ):=λa o e=>by
 unfold iM;split
 ·rename_i h;obtain⟨i,c,e1,b,e2⟩:=h;rw[E.new i c a e1 b e2]at e;cases e
 ·exact E.base a o e
theorem j4{ρ:Ev}(E:bI K H0 H σ ρ)(h:∀vs,H a≠Z (.lst vs))(h2:∀vs,H a≠Z (.dK vs)):iM H σ ρ a=H a:=by
 unfold iM;split
 ·rename_i g;obtain⟨i,c,e1,f,e2⟩:=g;obtain⟨v,e3,d⟩:=E.val i _ e1;rw[e2]at e3;cases e3;cases c with
  |o ds=>obtain⟨e,vs,b,q,_⟩:=d;cases b;exact absurd q (h vs)
  |m ds _=>obtain⟨e,vs,b,q,_⟩:=d;cases b;exact absurd q (h2 vs)
  |_=>cases f
 ·rfl
theorem SM.rebase{K:B1}{H0 Hs:Hp}{D:C3}{r:Ap}(s:AV H0 Hs)(h:SM K H0 D r):SM K Hs D r:=by
 cases r with
 |nx ρ=>exact λσ H E=>h σ H (E.rebase s)
 |bk ρ=>exact λσ H E=>h σ H (E.rebase s)
 |ct ρ=>exact λσ H E=>h σ H (E.rebase s)
 |rt b=>exact λv H s' n r=>h v H (s.trans s') (n.old s) r
theorem uK{gt:Dt->Ev->Option Ev}{gb:Ev->Option Ap}{ds:O Dt}{H1:Hp}{ρ:Ev}{D:C3}{r:Ap}(p:bI X.K H0 H1 σ ρ)(Y:B0 X.K J ds (iM H1 σ ρ))(e:qM gt gb ds ρ=Z r)(q:SM X.K H0 D r):
  ∃W:Nat->Nat->L2.St->Hp->Prop,(∃m,W 0 m σ H1)/\∀i m σ H,W i m σ H →
   (J.stop i H/\D.nx σ H)\/(J.go i H/\∃N:L2.St->Hp->Prop,(∀ σ' H',N σ' H'->∃o,o<m/\W (i+1) o σ' H')/\∀x H',J.yld i H x H'->Mm X.K gt x σ H' λc H2=>tG X.K gb { D with nx:=N,ct:=N,bk:=D.nx } c H2):=by
 have n:=p.sans;have q2:=q.rebase p.sub;generalize iM H1 σ ρ=Hs at Y n q2;refine⟨λi m σ' H'=>m=ds.length-i/\i<=ds.length/\∃d,bI X.K Hs H' σ' d/\qM gt gb (ds.drop i) d=Z r,⟨ds.length,by simp,QP _,ρ,n,by simpa using e⟩,?_⟩;rintro i m σ' H' ⟨rfl,B,d,j,e'⟩;obtain⟨y1,y2⟩:=Y i H' j.base;by_cases h:i<ds.length
 ·right;have hd:ds[i]?=Z ds[i]:=by simp[h]
  obtain⟨A,z⟩:=y1 _ hd;rw[Yf h]at e';simp only[qM]at e';obtain⟨s,e1,e'⟩:=AT e';obtain⟨l,e2,e'⟩:=AT e';refine⟨A,λc H2=>∃a,bI X.K Hs H2 c a/\qM gt gb (ds.drop (i+1)) a=Z r,λc H2 ⟨a,f,e3⟩=>⟨ds.length-(i+1),by omega,rfl,h,a,f,e3⟩,λx H2 y=>?_⟩;obtain⟨w,v⟩:=z x H2 y;refine⟨Hs,d,ds[i],s,j.grow w,v,e1,λC f _=>⟨Hs,s,l,f,e2,?_⟩⟩;cases l with
  |nx a=>exact λc u g=>⟨a,g,e'⟩
  |ct a=>exact λc u g=>⟨a,g,e'⟩
  |bk a=>cases e';exact q2
  |rt b=>cases e';exact q2
 ·left;have t:ds.length<=i:=by omega
  refine⟨y2 t,?_⟩;rw[lz t]at e';cases e';exact q2 σ' H' j
theorem xJ{fi:Ev->Y (O Dt)}{gt:Dt->Ev->Y Ev}{gb:Ev->Y Ap}(hp:PassesOwn (ri X) X.A X.env X.xe)(n:X.calm=true)(hi:G2 X tg iter fi)(d:Cf X tg gt)(hb:Qe X body gb)(hs:∀x,foldedSetIterable iter X.env x=pure x:=by intro _;rfl):Mh X (.For tg iter body [] pos) (λρ=>(fi ρ).bind λds=>qM gt gb ds ρ):=⟨have hi:=hi.run;have d:=d.run;have hb:=hb.run;YF (Re hp n hi d hb hs) λD σ H h=>by
 obtain⟨H0,ρ,r,E,e,q⟩:=h;obtain⟨ds,l,e⟩:=AT e;refine⟨H0,ρ,ds,E,l,λJ H1 p y=>?_⟩;have g:=E.grow p;refine uK g ?_ e q;refine y _ Bl (λa b=>?_) (λa o u b=>j4 g (λvs z=>by rw[b]at z;cases z) (λvs z=>by rw[b]at z;cases z)) λa vs b=>j4 g (λvs z=>by rw[b]at z;cases z) (λvs z=>by rw[b]at z;cases z);unfold iM;split
 ·rename_i s;obtain⟨i,c,e1,B,e2⟩:=s;obtain⟨v,e3,j⟩:=E.val i _ e1;rw[e2]at e3;cases e3;cases c with
  |o ds=>obtain⟨t,vs,f,q,_⟩:=j;cases f;rw[b]at q;cases q
  |m ds _=>obtain⟨t,vs,f,q,_⟩:=j;cases f;rw[b]at q;cases q
  |_=>cases B
 ·rfl⟩
theorem bI.lend{ρ:Ev}{ds:O Dt}(E:bI K H0 H σ ρ)(h:ρ[i]?=Z (Z (.o ds))):bI K H0 H σ (ρ.set i (Z (.l ds))):=by
 have back:∀(j:Nat) (b:Bx),(ρ.set i (Z (.l ds)))[j]?=Z (Z b)->(j=i/\b=.l ds)\/(j≠i/\ρ[j]?=Z (Z b)):=λj b e=>by
  rcases B5 e with⟨rfl,e',_⟩|⟨f,e'⟩
  ·cases e';exact .inl ⟨rfl,rfl⟩
  ·exact .inr ⟨f,e'⟩
 refine⟨by rw[jv];exact E.len,λj b e=>?_,λj k c a b e1 d e2 e3 n g=>?_,E.base,λj c a e1 d e2=>?_⟩
 ·rcases back j b e with⟨rfl,rfl⟩|⟨f,e'⟩
  ·obtain⟨v,e1,a,vs,e2,q,r⟩:=E.val _ _ h;exact⟨v,e1,a,vs,e2,.inl q,r⟩
  ·exact E.val j b e'
 ·rcases back j _ e1 with⟨rfl,z⟩|⟨f,e'⟩
  ·subst z;cases d
  ·rcases back k _ e3 with⟨rfl,z⟩|⟨p,m⟩
   ·exact E.own j _ c a _ e' d e2 h S g
   ·exact E.own j k c a b e' d e2 m n g
 ·rcases back j _ e1 with⟨rfl,z⟩|⟨f,e'⟩
  ·subst z;cases d
  ·exact E.new j c a e' d e2
def oF(i:Nat)(gt:Dt->Ev->Y Ev)(gb:Ev->Y Ap)(ρ:Ev):Y Ap:=match ρ[i]? with
 |some (Z (.o ds))=>qM gt gb ds (ρ.set i (Z (.l ds)))
 |some (Z (.l ds))=>qM gt gb ds ρ
 |some (Z b)=>(FK b).bind λds=>qM gt gb ds ρ
 |_=>U
theorem MO{ρ:Ev}{ds:O Dt}(E:bI X.K H0 H σ ρ)(h:ρ[i]?=Z (Z (.l ds))):∃a vs,σ[i]?=Z (Z (.ref a))/\uG X.K H a vs/\B0 X.K (GU X.K a) ds (iM H σ ρ):=by
 obtain⟨v,e1,a,vs,rfl,q,r⟩:=E.val i _ h;have e:iM H σ ρ a=H a:=by
  unfold iM;split
  ·rename_i f;obtain⟨j,c,e2,d,e3⟩:=f;have:=E.own j i c a _ e2 d e3 h S e1;subst this;rw[h]at e2;cases e2;cases d
  ·rfl
 refine⟨a,vs,e1,.inl q,.list (.inl ?_) (r.part (λb o u hb=>j4 E (λvs z=>by rw[hb]at z;cases z) (λvs z=>by rw[hb]at z;cases z)) λb g hb=>j4 E (λvs z=>by rw[hb]at z;cases z) (λvs z=>by rw[hb]at z;cases z))⟩;rcases q with q|⟨o,q⟩
 ·exact .inl (e.trans q)
 ·exact .inr ⟨o,e.trans q⟩
theorem qN(i:Nat){p:Pos}{gt:Dt->Ev->Option Ev}{gb:Ev->Option Ap}(hp:PassesOwn (ri X) X.A X.env X.xe)(J:X.calm=true)(B:Cf X tg gt)(hb:Qe X body gb)(L:X.N[i]?=Z x:=by rfl)(K:V4 X.env.scope x:=by first|exact jI rfl|exact QE (jI S)|exact QE (QE S))(hd:re x:=by decide)(P:(x==("__classdict__":AJ))=false:=by decide)(hs:∀y,foldedSetIterable (.Name x p) X.env y=pure y:=by intro _;rfl):Mh X (.For tg (.Name x p) body [] pos) (oF i gt gb):=⟨have B:=B.run;have hb:=hb.run;YF (Re hp J (Wt (ou (i:=i) L K hd P)) B hb hs) λD σ H h=>by
 obtain⟨H0,ρ,r,E,e,q⟩:=h;unfold oF at e;split at e
 ·rename_i ds s;have I:=E.lend s;have hi:i<ρ.length:=(bv.mp s).1;obtain⟨a,vs,e1,sq,Y⟩:=MO I (Jm _ hi);exact⟨_,e1,.inl ⟨a,rfl,⟨vs,sq⟩,uK I Y e q⟩⟩
 ·rename_i ds s;obtain⟨a,vs,e1,sq,Y⟩:=MO E s;exact⟨_,e1,.inl ⟨a,rfl,⟨vs,sq⟩,uK E Y e q⟩⟩
 ·rename_i b M Q s;obtain⟨ds,f,e⟩:=AT e;obtain⟨v,e1,j⟩:=E.val i _ s;have t:∀b o u,H b=Z (.n6 o u)->iM H σ ρ b=H b:=λb o u hb=>j4 E (λvs z=>by rw[hb]at z;cases z) (λvs z=>by rw[hb]at z;cases z);have C:∀b G,H b=Z (.tup G)->iM H σ ρ b=H b:=λb G hb=>j4 E (λvs z=>by rw[hb]at z;cases z) (λvs z=>by rw[hb]at z;cases z);cases b with
  |z d=>
   cases d with
   |tup g=>
    cases f;simp only[aX,AW]at j;obtain⟨a,vs,rfl,c,F⟩:=j;refine⟨_,e1,.inr (.inl ⟨a,rfl,⟨vs,c⟩,uK E (.tup ?_ (F.part t C)) e q⟩)⟩;rcases c with (c|⟨o,c⟩)|c
    ·exact .inl (.inl ((C _ _ c).trans c))
    ·exact .inl (.inr ⟨o,(t _ _ _ c).trans c⟩)
    ·exact .inr c
   |lst g=>
    cases f;simp only[aX,AW]at j;obtain⟨a,vs,rfl,c,F⟩:=j;refine⟨_,e1,.inl ⟨a,rfl,⟨vs,c.sq⟩,uK E (.list ?_ (F.part t C)) e q⟩⟩;rcases c with⟨o,c⟩|c
    ·exact .inl (.inr ⟨o,(t _ _ _ c).trans c⟩)
    ·exact .inr c
   |str x=>
    cases f;simp only[aX,AW]at j;obtain⟨rfl,_⟩:=j;exact⟨_,e1,.inr (.inr ⟨x,rfl,uK E (.str x) e q⟩)⟩
   |_=>cases f
  |l g=>cases f
  |o g=>exact absurd S (M g)
  |n g=>cases f
  |m g=>cases f
 ·cases e⟩
end
def CB(a:O (AJ×A1)):O (AJ×A1)->Prop
 |[]=>True
 |(n,c)::r=>a.lookup n=Z c/\CB a r
theorem CB.get{a:O (AJ×A1)}:∀{cl:O (AJ×A1)},CB a cl->∀{x:AJ} {c:A1},cl.lookup x=Z c->a.lookup x=Z c
 |[],_,_,_,e=>by cases e
 |(n,d)::r,h,x,c,e=>by
  rw[o4]at e;by_cases hx:x==n
  ·simp only[hx]at e;cases e;have:x=n:=by simpa using hx
   rw[this];exact h.1
  ·have hx:(x==n)=false:=by simpa using hx
   simp only[hx]at e;exact CB.get h.2 e
structure RA (X:Cx) (scope:Scope) (cl:List (Str×Addr)) (x:Str) (i:Nat):Prop where
 n:X.N[i]?=some x
 k:X.env.kindOf x=some .cell\/X.env.kindOf x=some .free
 k':(relabel scope X.env).names.lookup x=some .cell\/(relabel scope X.env).names.lookup x=some .free
 c:∃c,cl.lookup x=some c
def Mi(X:Cx)(scope:Scope)(cl:O (AJ×A1)):AZ->O Nat->Prop
 |[],[]=>True
 |x::xs,i::is=>RA X scope cl x i/\Mi X scope cl xs is
 |_,_=>False
theorem Mi.get{X:Cx}{scope:Scope}{cl:O (AJ×A1)}:∀{xs:AZ} {is:O Nat},Mi X scope cl xs is->xs.length=is.length/\∀(j:Nat) (x:AJ),xs[j]?=Z x->∃i,is[j]?=Z i/\RA X scope cl x i
 |[],[],_=>⟨rfl,λj x e=>by simp at e⟩
 |x::xs,i::is,h=>by
  obtain⟨h1,h2⟩:=h;obtain⟨l,g⟩:=Mi.get h2;refine⟨by simp[l],λj y e=>?_⟩;cases j with
  |zero=>simp at e;subst e;exact⟨i,rfl,h1⟩
  |succ j=>obtain⟨k,e1,e2⟩:=g j y (by simpa using e);exact⟨k,by simpa using e1,e2⟩
 |[],_::_,h=>h.elim
 |_::_,[],h=>h.elim
def IL(a:O (AJ×NameKind))(x:AJ):Bool:=match a.lookup x with
 |some .cell=>true
 |_=>false
def zG(X:Cx)(a:AZ)(scope:Scope)(cl:O (AJ×A1))(C:A1)(s₀:A2)(H₀:Hp)(fp:O A1):Cx:=
 { X with N:=a,s₀:=s₀,H₀:=H₀,env:=compEnvC scope (cellsFrom (C+1) scope.names cl) C X.env,outer:=X.stack,ex:=fp,fn:=IL scope.names,pn:=[],xe:=λ_ _=>False }
structure L5 (h:Heap) (cs:List (Str×Addr)):Prop where
 inj:∀x y c,cs.lookup x=some c->cs.lookup y=some c->x=y
 cell:∀x c,cs.lookup x=some c->∃v,h.IsCell c v
theorem mK{n:AJ}{a:α}{l:O (AJ×α)}(h:x≠n):((n,a)::l).lookup x=l.lookup x:=by
 rw[o4,beq_eq_false_iff_ne.mpr h]
theorem L3:∀(i:O (AJ×NameKind)) (h:A6) (d:O (AJ×A1)),L5 h d->L5 (pushCells h i) (cellsFrom h.objs.size i d)
 |[],_,_,x=>x
 |(n,k)::r,h,d,x=>by
  unfold pushCells cellsFrom;split
  ·have g:∀y c,d.lookup y=Z c->c≠h.objs.size:=λy c e=>let ⟨_,q⟩:=x.cell y c e;Zl q.lt;have:=L3 r (h.push { cls:=.type "cell",data:=.cell U }) ((n,h.objs.size)::d) ⟨λy z c e1 e2=>?_,λy c e=>?_⟩
   ·rwa [qk]at this
   ·by_cases a:y=n<;>by_cases f:z=n
    ·rw[a,f]
    ·subst a;rw[Kb]at e1;rw[mK f]at e2;cases e1;exact absurd S (g _ _ e2)
    ·subst f;rw[Kb]at e2;rw[mK a]at e1;cases e2;exact absurd S (g _ _ e1)
    ·rw[mK a]at e1;rw[mK f]at e2;exact x.inj y z c e1 e2
   ·by_cases a:y=n
    ·subst a;rw[Kb]at e;cases e;exact⟨U,_,zw _ rfl,rfl⟩
    ·rw[mK a]at e;obtain⟨v,q⟩:=x.cell y c e;exact⟨v,q.keeps λb o e=>ze _ e⟩
  ·exact L3 r h d x
theorem Bm:∀(b:O (AJ×NameKind)) (n:Nat) (a:O (AJ×A1)) (x:AJ) (c:A1),(cellsFrom n b a).lookup x=Z c->a.lookup x=Z c\/n<=c
 |[],_,_,_,_,e=>.inl e
 |(m,k)::r,n,a,x,c,e=>by
  unfold cellsFrom at e;split at e
  ·rcases Bm r _ _ x c e with h|h
   ·by_cases hx:x=m
    ·subst hx;rw[Kb]at h;cases h;exact .inr (zk _)
    ·rw[mK hx]at h;exact .inl h
   ·exact .inr ()
  ·exact Bm r _ _ x c e
theorem Qf:∀(c:O (AJ×NameKind)) (n:Nat) (a:O (AJ×A1)) (x:AJ),(x,NameKind.cell)∉c->(cellsFrom n c a).lookup x=a.lookup x
 |[],_,_,_,_=>rfl
 |(m,k)::r,n,a,x,h=>by
  unfold cellsFrom;have b:(x,NameKind.cell)∉r:=λz=>h (zi _ z);split
  ·rename_i d;rw[Qf r _ _ x b,mK λz=>h (by rw[z,<-beq_iff_eq.mp d];exact zg ..)]
  ·exact Qf r _ _ x b
theorem Wu:∀(b:O (AJ×NameKind)) (n:Nat) (a:O (AJ×A1)) (x:AJ),((x,NameKind.cell)∈b\/∃c,a.lookup x=Z c)->∃c,(cellsFrom n b a).lookup x=Z c
 |[],_,_,_,h=>h.elim (λz=>by simp at z) λz=>z
 |(m,k)::r,n,a,x,h=>by
  unfold cellsFrom;split
  ·refine Wu r _ _ x ?_;by_cases hx:x=m
   ·exact .inr ⟨n,by rw[hx,Kb]⟩
   ·rw[mK hx];exact h.imp_left λz=>(List.mem_cons.mp z).elim (λz=>absurd (congrArg Prod.fst z) hx) λz=>z
  ·rename_i d;exact Wu r _ _ x (h.imp_left λz=>(List.mem_cons.mp z).elim (λz=>by cases z;exact absurd S d) λz=>z)
theorem az{g:A1}{Q:Env->A2->Prop}(h:Q (newEnv scope s.heap.objs.size g (cellsFrom (s.heap.objs.size+1) scope.names cl) qual U .none (Z env) builtinsNs) { s with heap:=pushCells (s.heap.push { cls:=.type "dict",data:=.dict #[] }) scope.names }):
  A7 M A (newFunctionEnv scope g cl [] qual U .none (Z env)) Q E s:=by
 simp only[newFunctionEnv,y8,QU];refine zd (wpAny_alloc ?_);refine zd (wpAny_layCells _ (λname a b=>by cases a==NameKind.cell<;>simp) _ _ _ _ ?_);rw[show({ s with heap:=s.heap.push { cls:=.type "dict",data:=.dict #[] } }:A2).heap.objs.size=s.heap.objs.size+1 from qk ..];rw[List.forIn_nil];exact zd (zh (zh h))
structure ur (X:Cx) (scope:Scope) (cl:List (Str×Addr)) (xs:AZ) (is:List Nat):Prop where
 clos:closureFor scope X.env=pure cl
 kind:scope.kind=.function
 cell:∀y∈scope.names,y.2=.cell->cl.lookup y.1=none
 names:∀y∈scope.names,y.2=.local->scope.names.lookup y.1=some .local
 sub:CB X.env.cells cl
 has:∀x,((relabel scope X.env).names.lookup x=some .cell\/(relabel scope X.env).names.lookup x=some .free)->(x,NameKind.cell)∈scope.names\/∃c,cl.lookup x=some c
 cap:Mi X scope cl xs is
def zX(is:O Nat)(σ:L2.St):L2.St:=is.map λi=>(σ[i]?).bind λv=>v
def lH(is:O Nat)(ρ:Ev):Ev:=is.map λi=>pW ρ i
def CL(n m:Nat)(g:Dt->Ev->Y Ev):Prop:=∀d ρ a,g d ρ=Z a->a.length=ρ.length/\∀j,j<n\/m<=j->a[j]?=ρ[j]?
def HL(n m:Nat)(g:O Dt->Ev->Y Ev):Prop:=∀d ρ a,g d ρ=Z a->a.length=ρ.length/\∀j,j<n\/m<=j->a[j]?=ρ[j]?
theorem bN{m:Nat}(h:n<=i:=by decide)(h':i<m:=by decide):CL n m (λd ρ=>Z (ρ.set i (Z (.z d)))):=λd ρ b e=>by
 cases e;exact⟨by rw[jv],λj a=>Jo _ ()⟩
theorem YJ{m:Nat}:HL n m qI:=λd ρ a e=>by
 cases d with
 |nil=>cases e;exact⟨rfl,λ_ _=>S⟩
 |cons=>cases e
theorem uL{m:Nat}{g:Dt->Ev->Y Ev}{gs:O Dt->Ev->Y Ev}(h:CL n m g)(hs:HL n m gs):HL n m (bQ g gs):=λd ρ o e=>by
 cases d with
 |nil=>cases e
 |cons d ds=>
  simp only[bQ]at e;obtain⟨l,e1,e⟩:=AT e;obtain⟨a,b⟩:=h _ _ _ e1;obtain⟨i,f⟩:=hs _ _ _ e;exact⟨i.trans a,λj c=>(f j c).trans (b j c)⟩
theorem OA{m k:Nat}{gs:O Dt->Ev->Y Ev}(hs:HL n m gs):CL n m (n8 k gs):=λd ρ a e=>by
 cases d with
 |tup ds=>
  simp only[n8]at e;split at e
  ·exact hs _ _ _ e
  ·cases e
 |_=>cases e
def Ea(gt:Dt->Ev->Y Ev)(p:Ev->Y Bool)(fs:Ev->Y (O Dt))(ρ:Ev):O Dt->Y (O Dt)
 |[]=>Z []
 |d::ds=>(gt d ρ).bind λa=>(p a).bind λk=>if k=true then(fs a).bind λys=>(Ea gt p fs ρ ds).bind λzs=>Z (ys++zs)else Ea gt p fs ρ ds
def LJ:Bx->Y (O Dt)
 |.z y=>Z [y]
 |_=>U
def FN(gt:Dt->Ev->Y Ev)(p:Ev->Y Bool)(fe:Ev->Y Bx)(ρ:Ev):O Dt->Y (O Dt):=Ea gt p (λρ=>(fe ρ).bind LJ) ρ
theorem Eb{b:Bx}{ys:O Dt}(h:LJ b=Z ys):∃y,b=.z y/\ys=[y]:=by
 cases b<;>cases h;exact⟨_,rfl,rfl⟩
theorem yO{gt:Dt->Ev->Y Ev}{p:Ev->Y Bool}{fe:Ev->Y Bx}{ρ:Ev}:∀{ds out:O Dt},FN gt p fe ρ ds=Z out->out.length<=ds.length
 |[],_,e=>by cases e;exact zk _
 |d::ds,out,e=>by
  simp only[FN,Ea]at e;obtain⟨f,_,e⟩:=AT e;obtain⟨k,_,e⟩:=AT e;cases k with
  |false=>
   rw[zD ZO]at e;exact Zs (yO (gt:=gt) (p:=p) (fe:=fe) e) (by simp)
  |true=>
   rw[zt rfl]at e;obtain⟨ys,a,e⟩:=AT e;obtain⟨zs,c,e⟩:=AT e;obtain⟨b,_,a⟩:=AT a;obtain⟨y,_,rfl⟩:=Eb a;cases e;simpa using yO (gt:=gt) (p:=p) (fe:=fe) c
def C6(X:Cx)(ifs:O Expr)(p:Ev->Y Bool):Prop:=(ifs=[]/\p=λ_=>Z true)\/∃c,ifs=[c]/\PB X c p
structure xK (X:Cx) (ifs:List Expr) (p:Ev->Option Bool):Prop where
 run:C6 X ifs p
section
variable{xs:AZ}{gt:Dt->Ev->Y Ev}{p:Ev->Y Bool}{fe:Ev->Y Bx}{fi:Ev->Y (O Dt)}
theorem SL{m:Hp}{d:A2}(a:L2.AU X AN σ m d)(O:ur X scope cl xs is)(w:∀b∈fp,uq X AN m b)(A:∀b∈fp,b<d.heap.objs.size):
  L2.AU (zG X (xs++ts) scope cl d.heap.objs.size d m fp) [] (zX is σ++bb ts.length U) m { d with heap:=pushCells (d.heap.push { cls:=.type "dict",data:=.dict #[] }) scope.names }:=by
 obtain⟨I,G⟩:=O.cap.get;have g:=O.sub;have Q:(d.heap.push { cls:=.type "dict",data:=.dict #[] }).objs.size=d.heap.objs.size+1:=qk ..;have s:∀b o,d.heap.get? b=Z o->(pushCells (d.heap.push { cls:=.type "dict",data:=.dict #[] }) scope.names).get? b=Z o:=λb o e=>pushCells_keeps _ _ b o (ze _ e);have B:L5 (pushCells (d.heap.push { cls:=.type "dict",data:=.dict #[] }) scope.names) (cellsFrom (d.heap.objs.size+1) scope.names cl):=by
  rw[<-Q];refine L3 _ _ _ ⟨λx y c e1 e2=>a.ok.inj x y c (g.get e1) (g.get e2),λx c e=>?_⟩;obtain⟨v,q⟩:=a.cell x c (g.get e);exact⟨v,q.keeps λb o e=>ze _ e⟩
 have C:∀x c,(cellsFrom (d.heap.objs.size+1) scope.names cl).lookup x=Z c->X.env.cells.lookup x=Z c\/d.heap.objs.size<c:=λx c e=>(Bm _ _ _ x c e).imp_left g.get;refine⟨⟨a.ok.mod,O.kind,a.ok.glob,a.ok.blt,zk _,B.inj,λx hx=>Wu _ _ _ x (O.has x hx),λx c hx e=>?_,a.ok.hd,a.ok.frames,.inl rfl,λb hb=>⟨Zl (A b hb),λx c e=>?_⟩,a.bs,Zs a.ok.bsz a.sz,λb o e hb=>?_,λb hb F=>?_,a.stack,a.Yr⟩,
  rfl,a.bare,Un.kept s,⟨_,(Heap.Ns.new d.heap (.type "dict")).keeps (pushCells_keeps _ _),λj x v e1 e2 _=>?_⟩,B.cell,a.hok.fresh (zk _),λx c e=>(C x c e).elim (a.rO x c) λh=>a.hok.fresh (j0 h),λq W=>absurd (show q∈([]:List (A1×AE)) from W) (by simp),a.hok.kept s,?_⟩
 ·refine(Bm _ _ _ x c e).elim (λh=>?_) λh=>j0 h;have hx:(x,NameKind.cell)∈scope.names:=by
   have hx:IL scope.names x=true:=hx;unfold IL at hx;split at hx
   ·rename_i q;exact mem_of_lookup q
   ·cases hx
  rw[O.cell _ hx rfl]at h;cases h
 ·rcases C x c e with h|h
  ·exact(w b hb).2.2.2.2.1 x c h
  ·exact kQ (fO (A b hb) h)
 ·obtain⟨_,_,_,z,_⟩:=w b hb;rcases z with z|z
  ·exact a.ok.abD b o e z
  ·exact absurd (ZZ (zv e) (Zs a.ok.bsz z)) (Q3 _)
 ·obtain⟨_,K,H,_⟩:=w b hb;rcases List.mem_cons.mp (a.Pq b F)with z|z
  ·exact K z
  ·exact H z
 ·have D:j<is.length:=by
   by_cases D:j<is.length
   ·exact D
   ·rw[QN (by simp[zX];omega)]at e2;rw[Q4]at e2;split at e2<;>cases e2
  have M:xs[j]?=Z x:=by
   have e1:(xs++ts)[j]?=Z x:=e1;rw[ZY ()]at e1;exact e1
  obtain⟨i,J,f⟩:=G j x M;have e3:σ[i]?=Z (Z v):=by
   rw[ZY (by simp[zX];omega)]at e2;unfold zX at e2;rw[ZE,J]at e2;cases q:σ[i]? with
   |none=>rw[qs,q]at e2;cases e2
   |some o=>
    rw[qs,q]at e2;have:o=Z v:=by simpa using e2
    rw[this]
  have E:V4 X.env.scope x:=by
   rcases f.k with k|k
   ·exact .inr (.inl k)
   ·exact .inr (.inr k)
  obtain⟨m',a0,P⟩:=a.loc;obtain⟨u,r,l⟩:=P i x v f.n e3 E;refine⟨u,r,?_⟩;rcases l with⟨k,_⟩|⟨k,c,L,N⟩
  ·rcases f.k with t|t<;>(rw[k]at t;cases t)
  ·obtain⟨c',p⟩:=f.c;have:=g.get p;rw[L]at this;cases this;refine .inr ⟨f.k',c,(Qf _ _ _ x λz=>by rw[O.cell _ z rfl]at p;cases p).trans p,?_⟩;obtain⟨o,ho,hd⟩:=N;exact⟨o,s c o ho,hd⟩
 ·show(zX is σ++bb ts.length U).length=(xs++ts).length;simp[zX,I]
theorem bI.caps{ρ:Ev}(E:bI K H0 H σ ρ)(is:O Nat)(n:Nat):bI K H H (zX is σ++bb n U) (lH is ρ++bb n U):=by
 have f:∀(j:Nat) c,(lH is ρ++bb n U)[j]?=Z (Z c)->u5 c=false:=λj c e=>by
  by_cases g:j<is.length
  ·rw[ZY (by simp[lH];omega)]at e;unfold lH at e;rw[ZE]at e;cases q:is[j]? with
   |none=>rw[q]at e;cases e
   |some i=>
    rw[q]at e;have:pW ρ i=Z c:=by simpa using e
    exact Bg this
  ·rw[QN (by simp[lH];omega),Q4]at e;split at e<;>cases e
 refine⟨by simp[zX,lH],λj b e=>?_,λj k c a b e d=>absurd d (by rw[f j c e];exact ZO),AV.refl H,λj c a e d=>absurd d (by rw[f j c e];exact ZO)⟩;by_cases g:j<is.length
 ·rw[ZY (by simp[lH];omega)]at e;rw[ZY (by simp[zX];omega)];unfold lH at e;unfold zX;rw[ZE]at e ⊢;cases q:is[j]? with
  |none=>rw[q]at e;cases e
  |some i=>
   rw[q]at e;have:pW ρ i=Z b:=by simpa using e
   obtain⟨v,e1,r⟩:=Jh E this;exact⟨v,by simp[e1],r⟩
 ·rw[QN (by simp[lH];omega),Q4]at e;split at e<;>cases e
theorem bI.forget{ρ ρ':Ev}(E:bI K H0 H σ ρ')(l:ρ'.length=ρ.length)(h:∀(j:Nat) b,ρ[j]?=Z (Z b)->ρ'[j]?=Z (Z b)):bI K H0 H σ ρ:=
 ⟨E.len.trans l,λj b e=>E.val j b (h j b e),λi j c a b e1 d e2 e3 f g=>E.own i j c a b (h _ _ e1) d e2 (h _ _ e3) f g,E.base,λi c a e1 d e2=>E.new i c a (h _ _ e1) d e2⟩
structure DF (Hb:Hp) (σ:L2.St) (ρ:Ev) (n:Nat):Prop where
 own:∀(j:Nat) c,ρ[j]?=some (some c)->u5 c=false
 lt:∀(j:Nat) b,ρ[j]?=some (some b)->j<n
 old:∀(j:Nat) c a,ρ[j]?=some (some c)->loose c=true->σ[j]?=some (some (.ref a))->Hb a≠none
def Fx(σ σ':L2.St)(ρ:Ev):Prop:=∀(j:Nat) c,loose c=true->ρ[j]?=Z (Z c)->σ'[j]?=σ[j]?
theorem DF.fx{σ':L2.St}{ρ:Ev}(P:DF Hb σ ρ n)(f:Fx σ σ' ρ):DF Hb σ' ρ n:=⟨P.own,P.lt,λj c a e b ea=>P.old j c a e b (by rw[<-f j c b e];exact ea)⟩
theorem Fu{ρ:Ev}(E:bI K H0 H σ ρ)(j:Nat)(c:Bx)(a:A1)(e:ρ[j]?=Z (Z c))(h:loose c=true)(ea:σ[j]?=Z (Z (.ref a))):H a≠U:=λz=>by
 obtain⟨v,e1,b⟩:=E.val j _ e;rw[ea]at e1;cases e1;cases c with
 |z d=>cases h
 |l g=>
  obtain⟨f,vs,e2,q,_⟩:=b;cases e2;rcases q with q|⟨o,q⟩<;>(rw[z]at q;cases q)
 |n g=>
  obtain⟨f,vs,e2,q,_⟩:=b;cases e2;rcases q with q|⟨o,q⟩<;>(rw[z]at q;cases q)
 |o g=>
  obtain⟨f,vs,e2,q,_⟩:=b;cases e2;rw[z]at q;cases q
 |m g _=>
  obtain⟨f,vs,e2,q,_⟩:=b;cases e2;rw[z]at q;cases q
theorem bI.grown{ρ:Ev}(E:bI K Hb H σ ρ)(P:DF Hb σ ρ n)(i:Hb D=U)(kp:Kp H (B4 H D o)):bI K Hb (B4 H D o) σ ρ:=by
 refine⟨E.len,λj b e=>?_,λj k c a b e p=>absurd p (by rw[P.own j c e];exact ZO),λc o e=>?_,λj c a e p=>absurd p (by rw[P.own j c e];exact ZO)⟩
 ·obtain⟨v,ev,h⟩:=E.val j b e;refine⟨v,ev,?_⟩;cases b with
  |z d=>exact AW.kp kp h
  |o s=>have:=P.own j _ e;cases this
  |m s _=>have:=P.own j _ e;cases this
  |n s=>
   obtain⟨a,vs,rfl,q,g⟩:=h;refine⟨a,vs,rfl,?_,g.kp kp⟩;have f:a≠D:=λz=>P.old j _ _ e S ev (by rw[z];exact i);exact q.imp (λq=>by rw[aQ f];exact q) λ⟨o,q⟩=>⟨o,by rw[aQ f];exact q⟩
  |l s=>
   obtain⟨a,vs,rfl,q,g⟩:=h;refine⟨a,vs,rfl,?_,g.kp kp⟩;have f:a≠D:=λz=>P.old j _ _ e S ev (by rw[z];exact i);exact q.imp (λq=>by rw[aQ f];exact q) λ⟨o,q⟩=>⟨o,by rw[aQ f];exact q⟩
 ·rw[aQ (dO e i)];exact E.base c o e
def Wv(X:Cx)(el:A1->Env->Sem Unit)(fs:Ev->Y (O Dt))(Ac:A1->Hp->O Dt->HO->Prop)(N n:Nat):Prop:=∀(AN:O (A1×AE)) (s:A2) (σ:L2.St) (H Hb:Hp) (ρ:Ev) (D:A1) (o:HO) (o1 ys:O Dt),L2.AU X AN σ H s->bI X.K Hb H σ ρ->DF Hb σ ρ n->Hb D=U->fs ρ=Z ys->H D=Z o->Ac D H o1 o->o1.length+ys.length<=N →
 A7 (ri X) X.A (el D X.env) (λ_ s'=>∃ σ' H' o',L2.AU X AN σ' H' s'/\bI X.K Hb H' σ' ρ/\Fx σ σ' ρ/\H' D=Z o'/\Ac D H' (o1++ys) o') X.xe s
theorem PQ{fs:Ev->Y (O Dt)}{Ac:A1->Hp->O Dt->HO->Prop}{N:Nat}(h:∀(AN:O (A1×AE)) (s:A2) (σ:L2.St) (H Hb:Hp) (ρ:Ev) (D:A1) (o:HO) (o1 ys:O Dt),L2.AU X AN σ H s->bI X.K Hb H σ ρ->fs ρ=Z ys->H D=Z o->Ac D H o1 o->o1.length+ys.length<=N →
  A7 (ri X) X.A (el D X.env) (λ_ s'=>∃a o',L2.AU X AN σ (B4 a D o') s'/\AV H a/\Kp a (B4 a D o')/\Ac D (B4 a D o') (o1++ys) o') X.xe s):Wv X el fs Ac N n:=λAN s σ H Hb ρ D o o1 ys I E P b e1 e2 a1 l=>by
 refine QI (h AN s σ H Hb ρ D o o1 ys I E e1 e2 a1 l) (λ_ s' ⟨a,o',I',s9,kp,a'⟩=>?_) λ_ _ z=>z;exact⟨σ,_,o',I',(E.grow s9).grown P b kp,λ_ _ _ _=>S,aV,a'⟩
structure YK (B:Around->Bool->Prop) (P:Program) (w:World) (K:B1) (tg:Expr) (J:It) (fp:List Addr) (it:Addr) (tn:Nat->Heap->Prop):Prop where
 obj:∀i h,tn i h->∀b∈fp,∃o,h.get? b=some o/\∀v,o.data≠.cell v
 keep:∀i h h',tn i h->(∀b∈fp,∀o,h.get? b=some o->h'.get? b=some o)->tn i h'
 item:∀(X:Cx),X.prog=P->X.w=w->X.K=K->B X.A X.calm->∀(i:Nat) (AN:List (Addr×Obj)) (s:Shared) (σ:L2.St) (H:Hp) (E:B7),L2.AU X AN σ H s->(∀b∈fp,uq X AN H b)->tn i s.heap->J.go i H →
  wpAny (model P w) X.A (pyNext (.ref it)) (λr s1=>∃u,r=some u ∧
   wpAny (model P w) X.A (letOwnedTupleGo tg (.ref it) u) (λ_ s2=>∃x H',L2.AU X AN σ H' s2/\As x u/\J.yld i H x H'/\tn (i+1) s2.heap/\∀b∈fp,H' b=none) E s1) E s
 done:∀(X:Cx),X.prog=P->X.w=w->X.K=K->B X.A X.calm->∀(i:Nat) (AN:List (Addr×Obj)) (s:Shared) (σ:L2.St) (H:Hp) (E:B7),L2.AU X AN σ H s->(∀b∈fp,uq X AN H b)->tn i s.heap->J.stop i H →
  wpAny (model P w) X.A (pyNext (.ref it)) (λr s1=>r=none/\L2.AU X AN σ H s1) E s
 self:∀(A:Around) (i:Nat) (s:Shared) (Q:B7) (E:B7),tn i s.heap->Q (.ref it) s->wpAny (model P w) A (pyIter (.ref it)) Q E s
abbrev Bo:A5->Bool->Prop:=λ_ c=>c=true
theorem FP(T:C5 P w K tg J fp it tn):YK Bo P w K tg J fp it tn:=⟨T.obj,T.keep,T.item,T.done,T.self⟩
theorem NZ{B:A5->Bool->Prop}{comp:Expr}{d:Nat}{d3:Pos}{Ac:A1->Hp->O Dt->HO->Prop}{fs:Ev->Option (O Dt)}{N m:Nat}{ds o0 out:O Dt}{ρ:Ev}{R:Result->A2->Prop}(b9:B X.A X.calm)(hx:X.xe=λ_ _=>False)(N5:GB X tgt gt)(c8:C6 X ifs p)(f1:Wv X el fs Ac N m)(d0:CL n m gt)(d8:n<=m)(I:L2.AU X AN σ H s)(E:bI X.K Hb H σ ρ)(P:DF Hb σ ρ n)(hD:Hb D=U)(f2:H D=Z o)(hA:Ac D H o0 o)(T:YK B X.prog X.w X.K tgt J fp it tn)(st:tn 0 s.heap)(hf:∀b∈fp,uq X AN H b)(Y:B0 X.K J ds Hb)(f4:Ea gt p fs ρ ds=Z out)(hN:o0.length+out.length<=N)(a6:∀{D:A1} {H H':Hp} {o1:O Dt} {o:HO},Kp H H'->Ac D H o1 o->Ac D H' o1 o)(f5:∀(it:A0) (D:A1) (env:Env),compTurn comp d it (.ref D) env=(standAt d3 >>= λ_=>pyNext it >>= λr=>match r with
   |none=>pure (.done .next)
   |some v=>letOwnedTupleGo tgt it v >>= λ_=>assign tgt env v >>= λ_=>(forIn ifs true λc r=>if r=true then isTrue c env (eval c env) >>= λok=>pure (ForInStep.yield ok)else pure (ForInStep.yield r)) >>= λok=>if ok=true then el D env >>= λ_=>again (.compLoop comp d it (.ref D) env)else again (.compLoop comp d it (.ref D) env)))(e2:∀{it a8:A0} {env:Env} {Q:Fin->A2->Prop} {E:B7} {s:A2},A7 (ri X) X.A ((compTurn comp d it a8 env).onRaise (λx=>noteFrame x env >>= λ_=>theTreesLotGoes x)) Q E s->A7 (ri X) (X.A.under (.compLoop comp d it a8 env)) ((ri X).den (.compLoop comp d it a8 env)) Q E s)(hR:∀s' σ' H' o',L2.AU X AN σ' H' s'->bI X.K Hb H' σ' ρ->Fx σ σ' ρ->H' D=Z o'->Ac D H' (o0++out) o'->R (.ok .next) s'):
  AF (ri X) X.A (.compLoop comp d (.ref it) (.ref D) X.env) R s:=by
 have a4:∀{H':Hp},(∀b∈fp,H' b=U)->∀b∈fp,uq X AN H' b:=λ{H'} hn b hb=>⟨hn b hb,(hf b hb).2⟩;refine codeAny_loop S (λk s'=>∃(i:Nat) (σ':L2.St) (H':Hp) (o1 o2:O Dt) (o:HO),k=ds.length-i/\i<=ds.length/\L2.AU X AN σ' H' s'/\tn i s'.heap/\(∀b∈fp,H' b=U)/\bI X.K Hb H' σ' ρ/\Fx σ σ' ρ/\H' D=Z o/\Ac D H' o1 o/\Ea gt p fs ρ (ds.drop i)=Z o2/\o1++o2=o0++out) ?_ ds.length
  ⟨0,σ,H,o0,out,o,by simp,QP _,I,st,λb hb=>(hf b hb).1,E,λ_ _ _ _=>S,f2,hA,by simpa using f4,rfl⟩
 rintro k s4 ⟨i,a0,H4,o1,o2,o,rfl,hi,I4,b0,b4,E4,F4,a1,r4,g,ho⟩;have P4:=P.fx F4;refine e2 (wpAny_noted ?_);rw[f5];obtain⟨y1,y2⟩:=Y i H4 E4.base;by_cases a3:i<ds.length
 ·have hd:ds[i]?=Z ds[i]:=by simp[a3]
  obtain⟨go,yl⟩:=y1 _ hd;rw[Yf a3]at g;simp only[Ea]at g;obtain⟨q,e1,g⟩:=AT g;obtain⟨k,ek,g⟩:=AT g;obtain⟨e6,a7⟩:=d0 _ _ _ e1;have back:∀{a2:L2.St} {H5:Hp},bI X.K Hb H5 a2 q->bI X.K Hb H5 a2 ρ:=λE5=>E5.forget e6 λj b e=>by rw[a7 j (.inl (P.lt j b e))];exact e
  refine zd (KI (zd ?_));refine jE (T.item X S S S b9 i AN s4 a0 H4 _ I4 (a4 b4) b0 go) λr s5 ⟨u,hr,h5⟩=>?_;subst hr;refine zd (jE h5 λ_ s6 ⟨x,H6,I6,r6,y6,GE,fr6⟩=>?_);obtain⟨sm,rx⟩:=yl x H6 y6;have E4:=E4.grow sm;have a1:=sm _ _ a1;have r4:=a6 (.of sm) r4;have g2:=I6.pinned (a4 fr6) (T.obj _ _ GE);have ha:=N5 _ s6 a0 H6 x u (λσ' H'=>H'=H6/\bI X.K Hb H6 σ' q/\Lo a0 ρ σ' q) g2 r6 ⟨Hb,ρ,ds[i],q,E4,rx,e1,λσ' E' L'=>⟨rfl,E',L'⟩⟩;rw[hx]at ha;refine zd (QI ha (λ_ s7 h7=>?_) λ_ _ z=>z.elim);obtain⟨y,M,I7,rfl,E7,L7⟩:=h7;have P7:DF Hb y q m:=by
   refine⟨λj c e=>?_,λj c e=>?_,λj c a e t ea=>?_⟩
   ·cases c with
    |o ds=>exact P.own j _ (L7 j _ S e).1
    |m ds _=>exact P.own j _ (L7 j _ S e).1
    |_=>rfl
   ·refine Nat.lt_of_not_le λh=>?_;rw[a7 j (.inr h)]at e;exact absurd (ZZ (P.lt j c e) d8) (mZ.mpr h)
   ·obtain⟨e',ee⟩:=L7 j c t e;exact P4.old j c a e' t (by rw[<-ee];exact ea)
  have c3:∀{a2:L2.St},Fx y a2 q->Fx σ a2 ρ:=λf j c t e=>by
   have e':q[j]?=Z (Z c):=by rw[a7 j (.inl (P.lt j c e))];exact e
   exact(f j c t e').trans ((L7 j c t e').2.trans (F4 j c t e))
  have ht:A7 (ri X) X.A (forIn ifs true λc r=>if r=true then do let ok <-isTrue c X.env (eval c X.env);pure (ForInStep.yield ok)else pure (ForInStep.yield r))
    (λok C=>ok=k/\∃l,L2.AU X (AN++DN fp s6.heap) y l C/\AV M l) (notedBy (ri X) X.A X.env λe s'=>R (.error e) s') s7:=by
   rcases c8 with⟨rfl,rfl⟩|⟨c,rfl,hc⟩
   ·cases ek;exact wpAny_tests_nil ⟨rfl,M,I7,AV.refl M⟩
   ·refine wpAny_tests_one ?_;have:=hc _ s7 y M (λb l=>b=k/\AV M l) I7 ⟨Hb,q,k,E7,ek,λl C=>⟨rfl,C⟩⟩;rw[hx]at this;exact QI this (λb C ⟨l,I8,eb,s8'⟩=>⟨eb,l,I8,s8'⟩) λ_ _ z=>z.elim
  refine zd (QI ht (λok C h8=>?_) λ_ _ z=>z);obtain⟨rfl,l,I8,G⟩:=h8;have c0:∀{L:L2.St} {F:Hp} {s9:A2},L2.AU X (AN++DN fp s6.heap) L F s9->L2.AU X AN L F s9/\tn (i+1) s9.heap/\∀b∈fp,F b=U:=λ{L F s9} W=>by
   refine⟨W.xg,T.keep _ _ _ GE λb hb o e=>(W.pin (b,o) (z5 _ (z5 _ (uZ hb e)))).1,λb hb=>?_⟩;obtain⟨o,e,d⟩:=T.obj _ _ GE b hb;exact(W.pin (b,o) (z5 _ (z5 _ (uZ hb e)))).2.1
  cases ok with
  |false=>
   rw[zD ZO]at g;obtain⟨W,d2,f0⟩:=c0 I8;exact zh ⟨rfl,ds.length-(i+1),by omega,i+1,y,l,o1,o2,o,rfl,a3,W,d2,f0,back (E7.grow G),c3 (λ_ _ _ _=>S),G _ _ a1,a6 (.of G) r4,g,ho⟩
  |true=>
   rw[zt rfl]at g;obtain⟨ys,eb,g⟩:=AT g;obtain⟨zs,e5,g⟩:=AT g;cases g;have t:=congrArg dV ho;simp only[zC]at t;have he:=f1 _ C y l Hb q D o o1 ys I8 (E7.grow G) P7 hD eb (G _ _ a1) (a6 (.of G) r4) ();rw[hx]at he;refine zd (QI he (λ_ g3 d1=>?_) λ_ _ z=>z.elim);obtain⟨L,F,o',c6,E9,F9,e3,a5⟩:=d1;obtain⟨g1,e0,f3⟩:=c0 c6;exact zh ⟨rfl,ds.length-(i+1),by omega,i+1,L,F,o1++ys,zs,o',rfl,a3,g1,e0,f3,back E9,c3 F9,e3,a5,e5,by rw[ZT];exact ho⟩
 ·have b3:ds.length<=i:=by omega
  rw[lz b3]at g;cases g;refine zd (KI (zd ?_));refine jE (T.done X S S S b9 i AN s4 a0 H4 _ I4 (a4 b4) b0 (y2 b3)) λr s5 ⟨hr,I5⟩=>?_;subst hr;rw[qv]at ho;exact zh (hR s5 a0 H4 o I5 E4 F4 a1 (by rw[<-ho];exact r4))
theorem N6{R:Result->A2->Prop}{d:Nat}{g:Expr}{it a:A0}(f:(clausesOf e)[d]?=Z ⟨g,iter,ifs,0⟩)(hd:∀{Q:Fin->A2->Prop} {E:B7},A7 (A8 prog w) A ((compStart e d it a env).onRaise (λx=>do noteFrame x env;standAt theWindowsPlace)) Q E s->A7 (A8 prog w) (A.under (.compStart e d it a env)) ((A8 prog w).den (.compStart e d it a env)) Q E s)(c:Code.quiet (.compLoop e d it a env)=true:=by rfl)(h0:AF (A8 prog w) A (.compLoop e d it a env) R s)(h:A7 (A8 prog w) A (pyIter it) (λb s'=>AF (A8 prog w) A (.compLoop e d b a env) R s') (notedBy (A8 prog w) A env λx s'=>R (.error x) s') s):
  AF (A8 prog w) A (.compStart e d it a env) R s:=by
 refine codeAny_of_tree (hd ?_);refine wpAny_notedAt ?_;unfold compStart;rw[f];show A7 _ _ (ask >>= _) _ _ s;refine zd (YV (wpAny_ite ?_));split
 ·exact zh (And.intro c h0)
 ·refine zd (KL ?_);show A7 _ _ (standAt iter.pos >>= _) _ _ s;exact zd (KI (zd (QI h (λb s' h'=>zh (And.intro c h')) λ_ _ x=>x)))
def FQ(H:Hp)(D:A1):Hp:=λb=>if b=D then U else H b
theorem xM{b:A1}(h:b≠D):FQ H D b=H b:=zD h
theorem Jp:AV (FQ H D) H:=λb o e=>by
 by_cases h:b=D
 ·rw[FQ,zt h]at e;cases e
 ·rw[xM h]at e;exact e
theorem bI.onto{b:Hp}{ρ:Ev}(E:bI K Hb H σ ρ)(P:∀(j:Nat) c,ρ[j]?=Z (Z c)->u5 c=false)(s:AV b H):bI K b H σ ρ:=
 ⟨E.len,E.val,E.own,s,λj c a e d=>absurd d (by rw[P j c e];exact ZO)⟩
def EK(fi:Ev->Y (O Dt))(gt:Dt->Ev->Y Ev)(p:Ev->Y Bool)(fs:Ev->Y (O Dt)):Ev->Y (O Dt):=λρ=>(fi ρ).bind λds=>Ea gt p fs ρ ds
theorem SX{comp:Expr}{d:Nat}{Ac:A1->Hp->O Dt->HO->Prop}{fs:Ev->Option (O Dt)}{N m:Nat}(a1:X.calm=true)(hx:X.xe=λ_ _=>False)(hi:NB X tgt iter fi)(N5:GB X tgt gt)(a4:C6 X ifs p)(a2:Wv X el fs Ac N m)(a6:CL n m gt)(a5:n<=m)(C:∀{D:A1} {H H':Hp} {o1:O Dt} {o:HO},Kp H H'->Ac D H o1 o->Ac D H' o1 o)(L:∀{D:A1} {H:Hp} {o1:O Dt} {o:HO},Ac D H o1 o->(∀t u,o≠.n6 t u)/\∀vs,o≠.tup vs)(hs:∀x,foldedSetIterable iter X.env x=pure x)(a8:∀(it:A0) (D:A1) (env:Env),compTurn comp d it (.ref D) env=(standAt iter.pos >>= λ_=>pyNext it >>= λr=>match r with
   |none=>pure (.done .next)
   |some v=>letOwnedTupleGo tgt it v >>= λ_=>assign tgt env v >>= λ_=>(forIn ifs true λc r=>if r=true then isTrue c env (eval c env) >>= λok=>pure (ForInStep.yield ok)else pure (ForInStep.yield r)) >>= λok=>if ok=true then el D env >>= λ_=>again (.compLoop comp d it (.ref D) env)else again (.compLoop comp d it (.ref D) env)))(a3:∀{it f:A0} {env:Env} {R:Result->A2->Prop} {s:A2},AF (ri X) X.A (.compLoop comp d it f env) R s->A7 (ri X) X.A (pyIter it) (λa0 s'=>AF (ri X) X.A (.compLoop comp d a0 f env) R s') (notedBy (ri X) X.A env λx s'=>R (.error x) s') s->AF (ri X) X.A (.compStart comp d it f env) R s)(a7:∀{it f:A0} {env:Env} {Q:Fin->A2->Prop} {E:B7} {s:A2},A7 (ri X) X.A ((compTurn comp d it f env).onRaise (λx=>noteFrame x env >>= λ_=>theTreesLotGoes x)) Q E s->A7 (ri X) (X.A.under (.compLoop comp d it f env)) ((ri X).den (.compLoop comp d it f env)) Q E s):
  Wv X (λD env=>do let x <-eval iter env;standAt iter.pos;let x <-foldedSetIterable iter env x;let _ <-runOwn (.compStart comp d (<-holding [x] (pyIter x)) (.ref D) env) env) (EK fi gt p fs) Ac N n:=by
 intro AN s σ H Hb ρ D o o1 ys I E P hD e F q i;obtain⟨ds,ed,e⟩:=AT e;refine zd (QI (hi AN s σ H (λJ H'=>AV H H'/\∀Hs,AV Hs H'->(∀a,H a=U->Hs a=H' a)->(∀a o u,H' a=Z (.n6 o u)->Hs a=H' a)->(∀a vs,H' a=Z (.tup vs)->Hs a=H' a)->B0 X.K J ds Hs) I ⟨Hb,ρ,ds,E,ed,λJ H' s' y=>⟨s',y⟩⟩) (λv s1 h1=>?_) λ_ _ z=>z);refine zd (KI (zd (YE (hs v) (zd (QR (QI h1 (λb4 s2 h2=>?_) λ_ _ z=>z))))));obtain⟨it,fp,tn,J,H2,rfl,I2,T,st,hf,g,Y⟩:=h2;have l:=g _ _ F;have b3:=C (.of g) q;have Yb:B0 X.K J ds (FQ H2 D):=Y _ Jp (λa b=>xM λz=>by rw[z,F]at b;cases b) (λa t u b=>xM λz=>by rw[z,l]at b;cases b;exact(L q).1 _ _ S) λa vs b=>xM λz=>by rw[z,l]at b;cases b;exact(L q).2 _ rfl
 have M:AV Hb (FQ H2 D):=λa u ea=>by rw[xM (dO ea hD)];exact g _ _ (E.base _ _ ea)
 have E2:bI X.K (FQ H2 D) H2 σ ρ:=(E.grow g).onto P.own Jp;have W:DF (FQ H2 D) σ ρ n:=⟨P.own,P.lt,λj c a ec i ea z=>P.old j c a ec i ea (M.free z)⟩;have lp:∀{R:Result->A2->Prop},(∀s' σ' H' o',L2.AU X AN σ' H' s'->bI X.K (FQ H2 D) H' σ' ρ->Fx σ σ' ρ->H' D=Z o'->Ac D H' (o1++ys) o'->R (.ok .next) s')->AF (ri X) X.A (.compStart comp d (.ref it) (.ref D) X.env) R s2:=λhR=>
  have h:=NZ (B:=Bo) a1 hx N5 a4 a2 a6 a5 I2 E2 W (zt S) l b3 (FP T) st hf Yb e i C a8 a7 hR
  a3 h (T.self _ 0 _ _ _ st h)
 exact zd (wpAny_runOwn (lp λs' σ' H' o' I' G F' b0 a'=>zh ⟨σ',H',o',I',G.onto P.own (M.trans G.base),F',b0,a'⟩))
theorem yP{B:A5->Bool->Prop}{comp:Expr}{mk:Sem A0}{o0:AE}{O0:HO}{Ac:A1->Hp->List Dt->HO->Prop}{fs:Ev->Option (List Dt)}{N m:Nat}{H2:Hp}{a:A2}{ds out:List Dt}{ρ:Ev}(O:ur X scope cl xs is)(a7:B X.A X.calm)(N5:∀C n l fp,GB (zG X (xs++ts) scope cl C n l fp) tgt gt)(b9:∀C n l fp,C6 (zG X (xs++ts) scope cl C n l fp) ifs p)(e1:∀C n l fp,Wv (zG X (xs++ts) scope cl C n l fp) el fs Ac N m)(c8:CL is.length m gt)(c6:is.length<=m)(W:L2.AU X AN σ H2 a)(Ec:bI X.K H2 H2 (zX is σ++bb ts.length U) (lH is ρ++bb ts.length U))(T:YK B X.prog X.w X.K tgt J fp it tn)(st:tn 0 a.heap)(hf:∀b∈fp,uq X AN H2 b)(Y:B0 X.K J ds H2)(d1:Ea gt p fs (lH is ρ++bb ts.length U) ds=Z out)(e3:out.length<=N)(e2:∀(D C:A1) (s':A2) (H':Hp) (o:HO),H2 D=U->L2.AU X AN σ H' s'->uq X AN H' C->(∃m,s'.heap.Ns C m)->AV H2 H'->H' D=Z o->Ac D H' out o->RR (.ref D) C (.ok .next) s')(b4:∀{Q:B7},Q (.ref a.heap.objs.size) { a with heap:=a.heap.push o0 }->A7 (ri X) X.A mk Q E a)(e0:∀H,iw X.prog X.w H (a.heap.push o0) a.heap.objs.size O0)(b3:∀H,Ac a.heap.objs.size H [] O0)(a8:∀{D:A1} {H H':Hp} {o1:List Dt} {o:HO},Kp H H'->Ac D H o1 o->Ac D H' o1 o)(d3:∀(it:A0) (D:A1) (env:Env),compTurn comp 0 it (.ref D) env=(standAt iter.pos >>= λ_=>pyNext it >>= λr=>match r with
   |none=>pure (.done .next)
   |some v=>letOwnedTupleGo tgt it v >>= λ_=>assign tgt env v >>= λ_=>(forIn ifs true λc r=>if r=true then isTrue c env (eval c env) >>= λok=>pure (ForInStep.yield ok)else pure (ForInStep.yield r)) >>= λok=>if ok=true then el D env >>= λ_=>again (.compLoop comp 0 it (.ref D) env)else again (.compLoop comp 0 it (.ref D) env)))(b0:∀{it d:A0} {env:Env} {R:Result->A2->Prop} {s:A2},AF (ri X) X.A (.compLoop comp 0 it d env) R s->A7 (ri X) X.A (pyIter it) (λa6 s'=>AF (ri X) X.A (.compLoop comp 0 a6 d env) R s') (notedBy (ri X) X.A env λx s'=>R (.error x) s') s->AF (ri X) X.A (.compStart comp 0 it d env) R s)(d0:∀{it d:A0} {env:Env} {Q:Fin->A2->Prop} {E:B7} {s:A2},A7 (ri X) X.A ((compTurn comp 0 it d env).onRaise (λx=>noteFrame x env >>= λ_=>theTreesLotGoes x)) Q E s->A7 (ri X) (X.A.under (.compLoop comp 0 it d env)) ((ri X).den (.compLoop comp 0 it d env)) Q E s):
  A7 (ri X) X.A mk (λd a3=>A7 (ri X) X.A (newFunctionEnv scope X.env.globals cl [] X.env.qual U .none (Z X.env)) (λa1 c0=>
   AF (ri X) X.A (.compStart comp 0 (.ref it) d { a1 with scope:=relabel scope X.env }) (RR d a1.locals) c0) E a3) E a:=by
 refine b4 (az ?_);have F:H2 a.heap.objs.size=U:=W.hok.fresh (zk _);have u:L2.AU X AN σ (B4 H2 a.heap.objs.size O0) { a with heap:=a.heap.push o0 }:=
  W.laid (t':=a.toks) (λb o e=>ze _ e) (zk _) (e0 _)
 have a0:∀b∈fp,b<a.heap.objs.size:=λb hb=>let ⟨o,e,_⟩:=T.obj 0 _ st b hb;zv e;have y:∀b∈fp,uq X AN (B4 H2 a.heap.objs.size O0) b:=λb hb=>⟨by rw[aQ (Zl (a0 b hb))];exact(hf b hb).1,(hf b hb).2⟩;have L:tn 0 (a.heap.push o0):=T.keep 0 _ _ st λb hb o e=>ze _ e;have t:∀b∈fp,b<(a.heap.push o0).objs.size:=λb hb=>by rw[qk];exact qB (a0 b hb)
 generalize d8:({ a with heap:=a.heap.push o0 }:A2)=s3 at *
 have d2:s3.heap=a.heap.push o0:=by rw[<-d8]
 rw[<-d2]at L t;have IC:=SL (ts:=ts) u O y t;have a2:tn 0 (pushCells (s3.heap.push { cls:=.type "dict",data:=.dict #[] }) scope.names):=T.keep 0 _ _ L λb hb o e=>pushCells_keeps _ _ b o (ze _ e);have a4:∀b∈fp,uq (zG X (xs++ts) scope cl s3.heap.objs.size s3 (B4 H2 a.heap.objs.size O0) fp) [] (B4 H2 a.heap.objs.size O0) b:=λb hb=>by
  obtain⟨f0,f1,f2,f3,G,P⟩:=y b hb;refine⟨f0,Zl (t b hb),λz=>?_,.inl hb,λx c e z=>?_,λq hq=>absurd (show q∈([]:List (A1×AE)) from hq) (by simp)⟩
  ·rcases List.mem_cons.mp (u.Pq b z)with q|q
   ·exact f1 q
   ·exact f2 q
  ·rcases Bm _ _ _ x c e with h|h
   ·exact G x c (O.sub.get h) z
   ·rw[z]at h;exact absurd (ZZ (t b hb) (ol h)) (Q3 _)
 have P0:DF H2 (zX is σ++bb ts.length U) (lH is ρ++bb ts.length U) is.length:=by
  have g:∀(j:Nat) c,(lH is ρ++bb ts.length U)[j]?=Z (Z c)->j<is.length/\u5 c=false:=λj c e=>by
   by_cases hj:j<is.length
   ·refine⟨hj,?_⟩;rw[ZY (by simp[lH];omega)]at e;unfold lH at e;rw[ZE]at e;cases q:is[j]? with
    |none=>rw[q]at e;cases e
    |some i=>rw[q]at e;exact Bg (by simpa using e)
   ·rw[QN (by simp[lH];omega),Q4]at e;split at e<;>cases e
  exact⟨λj c e=>(g j c e).2,λj c e=>(g j c e).1,Fu Ec⟩
 have h:=NZ (B:=B) (X:=zG X (xs++ts) scope cl s3.heap.objs.size s3 (B4 H2 a.heap.objs.size O0) fp) (R:=RR (.ref a.heap.objs.size) s3.heap.objs.size) (o0:=[]) a7 S (N5 _ _ _ _) (b9 _ _ _ _) (e1 _ _ _ _) c8 c6 IC (Ec.grow (bO F)) P0 F aV (b3 _) T a2 a4 Y d1 (by simpa using e3) a8 d3 d0 λM e4 I o5 f E5 _ c3 a5=>by
  have IB:L2.AU X AN σ I M:=u.call' (ch:=fp) f.os f.base f.hok f.bare λb hb=>by
   obtain⟨f0,f1,f2,f3,G,P⟩:=y b hb;exact⟨f3,f1,G,P⟩
  obtain⟨m,hn,_⟩:=f.loc;exact e2 _ _ M I o5 F IB (u.R9 (zk _) f.free) ⟨m,hn⟩ E5.base c3 a5
 exact b0 h (T.self _ 0 _ _ _ a2 h)
def D3(K:B1)(_:A1)(H:Hp)(o1:O Dt)(o:HO):Prop:=∃us,o=.lst us/\aK K H o1 us
theorem D3.kp{K:B1}{D:A1}{H H':Hp}{o1:O Dt}{o:HO}(k:Kp H H'):D3 K D H o1 o->D3 K D H' o1 o:=λ⟨us,e,r⟩=>⟨us,e,r.kp k⟩
def Ww(fe:Ev->Y Bx):Ev->Y (O Dt):=λρ=>(fe ρ).bind LJ
theorem YL(h:PV X elt fe):Wv X (λD env=>do let _ <-call (.builtin "list.append") [.ref D,<-eval elt env]) (Ww fe) (D3 X.K) 100000 n:=by
 refine PQ λAN s σ H Hb ρ D o o1 ys I En g hD ⟨us,e,r4⟩ hl=>?_;subst e;obtain⟨b,eb,g⟩:=AT g;obtain⟨y,rfl,rfl⟩:=Eb g;refine zd (QI (h AN s σ H (λv a=>AV H a/\AW X.K a y v) I ⟨Hb,ρ,_,En,eb,λv a d _ i=>⟨d,i⟩⟩) (λv d q=>?_) λ_ _ z=>z);obtain⟨c,a,m,p,f,i⟩:=q;have l:=f _ _ hD;refine zd (QI ((DR (X:=X)) _ d σ a (.ref D) [c] (.ref D) [v] (λw j=>j=B4 a D (.lst (us++[c]))) m S (.cons p .nil) ⟨_,us,c,rfl,rfl,l,by rw[r4.length];have h0:(100000:Nat)<AA:=();simp at hl;omega,rfl⟩) (λw x u=>?_) λ_ _ z=>z);obtain⟨A,j,t,_,rfl⟩:=u;have kp:Kp a (B4 a D (.lst (us++[c]))):=.lst l;exact zh ⟨a,_,t,f,kp,us++[c],rfl,((r4.kp (.of f)).append (aK.cons i aK.nil)).kp kp⟩
theorem Bp{B:A5->Bool->Prop}{H2:Hp}{l:A2}{ds out:List Dt}{ρ:Ev}(O:ur X scope cl xs is)(v:B X.A X.calm)(L:∀C j i fp,GB (zG X (xs++ts) scope cl C j i fp) tgt gt)(F:∀C j i fp,C6 (zG X (xs++ts) scope cl C j i fp) ifs p)(x:∀C j i fp,PV (zG X (xs++ts) scope cl C j i fp) elt fe)(M:CL is.length (is.length+ts.length) gt)(t:L2.AU X AN σ H2 l)(y:bI X.K H2 H2 (zX is σ++bb ts.length U) (lH is ρ++bb ts.length U))(T:YK B X.prog X.w X.K tgt J fp it tn)(st:tn 0 l.heap)(I:∀b∈fp,uq X AN H2 b)(Y:B0 X.K J ds H2)(z:ds.length<=100000)(n:FN gt p fe (lH is ρ++bb ts.length U) ds=Z out)(H:∀(D C:A1) (s':A2) (H':Hp) (us:List V),H2 D=U->L2.AU X AN σ H' s'->uq X AN H' C->(∃m,s'.heap.Ns C m)->AV H2 H'->H' D=Z (.lst us)->aK X.K H' out us->RR (.ref D) C (.ok .next) s'):
  A7 (ri X) X.A (newList []) (λq u=>A7 (ri X) X.A (newFunctionEnv scope X.env.globals cl [] X.env.qual U .none (Z X.env)) (λs G=>
   AF (ri X) X.A (.compStart (.ListComp elt [⟨tgt,iter,ifs,0⟩] scope pos) 0 (.ref it) q { s with scope:=relabel scope X.env }) (RR q s.locals) G) E u) E l:=
 yP (B:=B) (Ac:=D3 X.K) (O0:=.lst []) (N:=100000) O v L F (λC j i fp=>YL (x C j i fp)) M (kr ..) t y T st I Y n (Zs (yO n) z) (λD C s' H' o a b c d e f g=>by obtain⟨us,rfl,r⟩:=g;exact H D C s' H' us a b c d e f r)
  qo (λ_=>⟨QP _,[],0,.nil,zw _ rfl⟩) (λ_=>⟨[],rfl,aK.nil⟩) D3.kp (λ_ _ _=>S) codeAny_compStart_list λh=>h
end
def iC(K:B1)(f:Ev->Y (O Dt)):TI:=λσ H R=>∃H0 ρ ds,bI K H0 H σ ρ/\f ρ=Z ds/\∀J H',AV H H'->B0 K J ds H'->R J H'
def OM(X:Cx)(tg iter:Expr)(f:Ev->Y (O Dt)):Prop:=PI X tg iter (iC X.K f)
structure EE (X:Cx) (tg iter:Expr) (f:Ev->Option (List Dt)):Prop where
 run:OM X tg iter f
def HZ:Bx->Y (O Dt)
 |.z (.lst ds)=>Z ds
 |.z (.tup ds)=>Z ds
 |.z (.str x)=>Z (Bz x)
 |.o ds=>Z ds
 |.l ds=>Z ds
 |_=>U
section
variable{f:Ev->Y Bx}{fs:Ev->Y (O Bx)}{xs:AZ}{gt:Dt->Ev->Y Ev}{p:Ev->Y Bool}{fe:Ev->Y Bx}{fi:Ev->Y (O Dt)}
theorem WN(h:G2 X tgt iter fi):EE X tgt iter fi:=⟨have h:=h.run;λAN s σ H R I q=>by
 obtain⟨H0,ρ,ds,E,e,q⟩:=q;exact h AN s σ H R I ⟨H0,ρ,ds,E,e,λJ H' s' y=>q J H' s' (y H' (AV.refl H') (λ_ _=>S) (λ_ _ _ _=>S) λ_ _ _=>S)⟩⟩
theorem cZ(h:QV X e f):EE X tgt e (λρ=>(f ρ).bind HZ):=⟨have h:=h.run;λAN s σ H R I q=>by
 refine Wt h AN s σ H R I ?_;obtain⟨H0,ρ,ds,E,e,q⟩:=q;obtain⟨b,eb,e⟩:=AT e;refine⟨H0,ρ,b,E,eb,λv H1 j t i=>?_⟩;cases b with
 |z d=>
  cases d with
  |tup p=>
   cases e;simp only[aX,AW]at i;obtain⟨a,vs,rfl,c,g⟩:=i;exact .inr (.inl ⟨a,rfl,⟨vs,c⟩,q _ _ j (.tup c g)⟩)
  |lst p=>
   cases e;obtain⟨a,vs,rfl,c,g⟩:=i.HB rfl;exact .inl ⟨a,rfl,⟨vs,c⟩,q _ _ j (.list c g)⟩
  |str x=>
   cases e;simp only[aX,AW]at i;obtain⟨rfl,_⟩:=i;exact .inr (.inr ⟨x,rfl,q _ _ j (.str x)⟩)
  |_=>cases e
 |l p=>
  cases e;obtain⟨a,vs,rfl,c,g⟩:=i.HB rfl;exact .inl ⟨a,rfl,⟨vs,c⟩,q _ _ j (.list c g)⟩
 |o p=>
  cases e;obtain⟨a,vs,rfl,c,g⟩:=i.HB rfl;exact .inl ⟨a,rfl,⟨vs,c⟩,q _ _ j (.list c g)⟩
 |n _=>cases e
 |m _ _=>cases e⟩
def dR(fi:Ev->Y (O Dt))(gt:Dt->Ev->Y Ev)(p:Ev->Y Bool)(fe:Ev->Y Bx)(is:O Nat)(n:Nat):Ev->Y Bx:=λρ=>(fi ρ).bind λds=>
 if ds.length<=100000 then(FN gt p fe (lH is ρ++bb n U) ds).bind λa=>Z (.o a)else U
theorem fB(ts:AZ)(O:ur X scope cl xs is)(l:X.calm=true)(hi:EE X tgt iter fi)(g:∀C d c fp,Cf (zG X (xs++ts) scope cl C d c fp) tgt gt)(f:∀C d c fp,xK (zG X (xs++ts) scope cl C d c fp) ifs p)(i:∀C d c fp,QV (zG X (xs++ts) scope cl C d c fp) elt fe)(u:CL is.length (is.length+ts.length) gt)(hs:∀x,foldedSetIterable iter X.env x=pure x:=by intro _;rfl):QV X (.ListComp elt [⟨tgt,iter,ifs,0⟩] scope pos) (dR fi gt p fe is ts.length):=⟨have hi:=hi.run;have g:=λC d c fp=>(g C d c fp).run;have f:=λC d c fp=>(f C d c fp).run;have i:=λC d c fp=>(i C d c fp).run;λAN s σ H Q I h=>by
 obtain⟨H0,ρ,b,E,e,q⟩:=h;obtain⟨ds,N,e⟩:=AT e;split at e
 ·rename_i P;obtain⟨a0,F,e⟩:=AT e;cases e;rw[eval_ListComp];refine ki (use:=U) S hs O.clos O.kind O.names ?_;refine jE (hi AN s σ H (λJ H'=>AV H H'/\B0 X.K J ds H') I ⟨H0,ρ,ds,E,N,λJ H' s' y=>⟨s',y⟩⟩) λv s1 h1=>jE h1 λa1 s2 h2=>?_;obtain⟨it,fp,tn,J,H2,rfl,G,T,st,hf,j,Y⟩:=h2;refine Bp (B:=Bo) (RR:=λL C=>compPost (ri X) X.A X.xe U (EP X AN σ Q) L C) (ts:=ts) (xs:=xs) O l g f i u G ((E.grow j).caps is ts.length) (FP T) st hf Y P F ?_;intro D C s' H' us M n t ⟨m,hn⟩ s2' hD' r';refine⟨m,hn,λh' sb=>⟨.ref D,H',?_,rfl,q _ _ (j.trans s2') (λa ea=>by cases ea;exact j.free M) ⟨D,us,rfl,hD',r'⟩⟩⟩;obtain⟨f0,f1,f2,f3,W,z⟩:=t;exact n.turned (t':=s'.toks) (λb o hb e=>(sb.2 b hb).trans e) f0 f1 f3 W z
 ·cases e⟩
theorem HJ(i:Nat){py spos:Pos}(ts:AZ)(O:ur X scope cl xs is)(P:X.calm=true)(hN:X.N.Nodup)(hi:EE X tgt iter fi)(n:∀C d c fp,Cf (zG X (xs++ts) scope cl C d c fp) tgt gt)(l:∀C d c fp,xK (zG X (xs++ts) scope cl C d c fp) ifs p)(t:∀C d c fp,QV (zG X (xs++ts) scope cl C d c fp) elt fe)(a2:CL is.length (is.length+ts.length) gt)(W:swapsWith (.ListComp elt [⟨tgt,iter,ifs,0⟩] scope pos) (Z (.Name y py)) spos.line X.env=pure true:=by with_unfolding_all rfl)(hy:X.N[i]?=Z y:=by rfl)(hx:CD X.env.scope y:=by first|exact jI rfl|exact QE S)(hf:X.fn y=true\/X.env.scope.names.lookup y=Z .local:=by first|exact .inl rfl|exact .inr S)(hs:∀x,foldedSetIterable iter X.env x=pure x:=by intro _;rfl):Mh X (.Assign [.Name y py] (.ListComp elt [⟨tgt,iter,ifs,0⟩] scope pos) spos) (λρ=>(dR fi gt p fe is ts.length ρ).bind λb=>(EW ρ i b).bind λρ'=>Z (.nx ρ')):=⟨have hi:=hi.run;have n:=λC d c fp=>(n C d c fp).run;have l:=λC d c fp=>(l C d c fp).run;have t:=λC d c fp=>(t C d c fp).run;λAN s σ H D I h=>by
 obtain⟨H0,ρ,r,E,e,q⟩:=h;obtain⟨b,eb,e⟩:=AT e;obtain⟨ds,ed,eb⟩:=AT eb;split at eb
 ·rename_i a7;obtain⟨a0,eo,eb⟩:=AT eb;cases eb;cases e;rw[exec_Assign_Name_used _ _ _ _ W];refine zd (KI (zd ?_));show A7 _ X.A (do let _ <-comprehension (.ListComp elt [⟨tgt,iter,ifs,0⟩] scope pos) scope X.env _ (newList []) false (eval iter X.env) (Z (assign (.Name y py) X.env))) _ _ s;refine zd (QI (ki (use:=Z (assign (.Name y py) X.env)) (Q:=λ_ s'=>SP X AN D .next s') S hs O.clos O.kind O.names ?_) (λ_ s' hq=>zh (zh hq)) λ_ _ e=>e);refine jE (hi AN s σ H (λJ H'=>AV H H'/\B0 X.K J ds H') I ⟨H0,ρ,ds,E,ed,λJ H' s' y=>⟨s',y⟩⟩) λv s1 h1=>jE h1 λb0 s2 h2=>?_;obtain⟨it,fp,tn,J,H2,rfl,I2,T,st,a8,u,Y⟩:=h2;refine Bp (B:=Bo) (RR:=λa5 C=>compPost (ri X) X.A X.xe (Z (assign (.Name y py) X.env)) (λ_ s'=>SP X AN D .next s') a5 C) (ts:=ts) (xs:=xs) O P n l t a2 I2 ((E.grow u).caps is ts.length) (FP T) st a8 Y a7 eo ?_;intro f C s' H' us hD F fC ⟨m,hn⟩ s2' hD' r';show A7 _ X.A (assign (.Name y py) X.env (.ref f)) _ _ s';obtain⟨f0,f1,f2,f3,f4,f5⟩:=fC;obtain⟨g,M,ep,a3,G,a4⟩:=id hn;have a1:L2.AU X (AN++[(C,g)]) σ H' s':=F.Pr λL hp=>by
   rcases List.mem_append.mp hp with z|z
   ·exact F.pin L (z5 _ z)
   ·have:L=(C,g):=by simpa using z
    subst this;exact⟨a3,f0,f1,f2,λv z=>by rw[G]at z;cases z⟩
  refine jE (L2.Az hN hy hx hf (AN++[(C,g)]) s' σ H' (.ref f) (.ref f) (λσ' j=>σ'=σ.set i (Z (.ref f))/\j=H') a1 S ⟨rfl,rfl⟩) λ_ s'' ⟨σ',j,J',e1,e2⟩=>?_;subst e1 e2;have a6:=(J'.pin (C,g) (by simp)).1;refine⟨m,⟨g,M,ep,a6,G,a4⟩,λh' sb=>?_⟩;refine⟨σ.set i (Z (.ref f)),j,J'.xg.turned (t':=s''.toks) (λb o hb e=>(sb.2 b hb).trans e) f0 f1 f3 f4 f5,q _ _ ?_⟩;exact E.set (u.trans s2') (b:=.o a0) ⟨f,us,rfl,hD',r'⟩ (.inl S) λa ea=>by cases ea;exact u.free hD
 ·cases eb⟩
def lend:Bx->Bx
 |.o ds=>.l ds
 |.m ds _=>.n ds
 |b=>b
def w9:Bx->Bool
 |.o _=>true
 |.m _ _=>true
 |_=>false
def DA(K:B1)(n:Nat)(F:O Bx->Y Bx):Sp:=λvs H Q _=>vs.length=n/\∃bs r,tu K H bs vs/\bs.all (λb=>!w9 b)=true/\F bs=Z r/\∀v H',AV H H'->Nw H r v->aX K H' r v->Q v H'
def dN(n:Nat)(g:Ev->Y Ap):O Bx->Y Bx:=λbs=>(g (bs.map Z++bb (n-bs.length) U)).bind λr=>match r with
 |.rt b=>Z b
 |.nx _=>Z (.z .non)
 |_=>U
theorem bI.start{K:B1}{H:Hp}{N:AZ}{bs:O Bx}{vs:O V}(r:tu K H bs vs)(ho:bs.all (λb=>!w9 b)=true):bI K H H (L2.start N vs) (bs.map Z++bb (N.length-bs.length) U):=by
 have g:bs.length=vs.length:=Paired.length r;have get:∀(i:Nat) b,(bs.map Z++bb (N.length-bs.length) U)[i]?=Z (Z b)->bs[i]?=Z b:=λi b e=>by
  by_cases hi:i<bs.length
  ·rw[ZY (by simpa using hi),ZE]at e;cases q:bs[i]? with
   |none=>rw[q]at e;cases e
   |some l=>rw[q]at e;simpa using e
  ·rw[QN (by simp;omega),Q4]at e;split at e<;>cases e
 have f:∀(i:Nat) c,(bs.map Z++bb (N.length-bs.length) U)[i]?=Z (Z c)->u5 c=true->False:=λi c e d=>by
  have:=List.all_eq_true.mp ho _ (Q1 (get i _ e));cases c with
  |o ds=>cases this
  |m ds _=>cases this
  |_=>cases d
 refine⟨?_,λi b e=>?_,λi j c a b e d=>(f i c e d).elim,AV.refl H,λi c a e d=>(f i c e d).elim⟩
 ·unfold L2.start;simp[g]
 ·have e':=get i b e;have hi:i<bs.length:=(bv.mp e').1;have:∀{bs:O Bx} {vs:O V} {i:Nat} {b:Bx},AI (aX K H) bs vs->bs[i]?=Z b->∃v,vs[i]?=Z v/\aX K H b v:=by
   intro bs vs i b r
   induction r generalizing i with
   |nil=>intro e;simp at e
   |cons p t h=>
    intro e;cases i with
    |zero=>simp at e;subst e;exact⟨_,rfl,p⟩
    |succ i=>obtain⟨v,e1,e2⟩:=h (i:=i) (by simpa using e);exact⟨v,by simpa using e1,e2⟩
  obtain⟨v,e1,e2⟩:=this r e';refine⟨v,?_,e2⟩;unfold L2.start;rw[ZY (by simp;omega),ZE,e1];rfl
end
theorem i8{st:AB}{f:A1}{k:Nat}{g:Ev->Y Ap}(F:D6 K x qual st f fd)(S:bG N ps (aR st))(i:∀(a:A0) (A:A5) (outer:O Env) (s:A2) (H:Hp) (E:XK),nZ k (A.deeper (AK qual (aR st) s.heap.objs.size f a))->V9 (GP FJ P w K mg base N qual (aR st) f a A outer s H E).nox (jG st) g):
  rQ P w K mg base FJ (k+1) f fd ps (DA K ps.length (dN N.length g)):=by
 refine F.ok S (λvs H Q E h=>h.1) λa A outer s H vs Q E j h=>?_;obtain⟨n,bs,r,d,ho,e,q⟩:=h;refine⟨_,i a A outer s H E j,?_⟩;obtain⟨c,er,e⟩:=AT e;refine⟨H,_,c,bI.start d ho,er,?_⟩;cases c with
 |rt b=>cases e;exact λv H' s' m c=>q v H' s' m c
 |nx ρ=>cases e;exact λσ H' l=>q _ H' l.base trivial (by unfold aX AW;rfl)
 |bk ρ=>cases e
 |ct ρ=>cases e
section
variable{k:Nat}{f:A1}{F:O Bx->Y Bx}{p:Pos}{fs:Ev->Y (O Bx)}
theorem Jq{K:B1}{H:Hp}:∀{bs:O Bx} {vs:O V},tu K H bs vs->tu K H (bs.map lend) vs
 |_,_,.nil=>.nil
 |b::bs,_,.cons h t=>by
  refine .cons ?_ (Jq t);cases b with
  |z d=>exact h
  |l ds=>exact h
  |o ds=>obtain⟨a,vs,e,q,r⟩:=h;exact⟨a,vs,e,.inl q,r⟩
  |n ds=>exact h
  |m ds _=>obtain⟨a,vs,e,q,r⟩:=h;exact⟨a,vs,e,.inl q,r.1⟩
theorem Qg:∀bs:O Bx,(bs.map lend).all (λb=>!w9 b)=true
 |[]=>rfl
 |b::bs=>by
  rw[zo,k8,Qg bs];cases b<;>rfl
def bH(n:Nat)(F:O Bx->Y Bx)(fs:Ev->Y (O Bx)):Ev->Y Bx:=λρ=>(fs ρ).bind λbs=>if bs.length=n then F (bs.map lend)else U
theorem yQ(G:rQ X.prog X.w X.K X.mg X.base FJ k f fd ps (DA X.K n F))(m:nZ k X.A)(d:Gl X x)(u:X.mg x=Z (.ref f))(j:keepIn X.K (.ref f)=true)(hb:BQ X.K fd ps [])(a:YD X (e::es) fs)(l:re x:=by decide)(he:A9 (e::es) X.env=(false,eval e X.env)::A9 es X.env:=by rfl)(i:(AD pos (A9 es X.env)).any (·.1)=false:=by rfl):QV X (.Call (.Name x p) (e::es) [] pos) (bH n F fs):=⟨have a:=a.run;HD (Px G m d u j hb .nil (Ic) a l he i) λσ H Q h=>by
 obtain⟨H0,ρ,r,E,e,q⟩:=h;obtain⟨bs,eb,e⟩:=AT e;refine⟨H0,ρ,bs,E,eb,λvs H1 b c=>?_⟩;split at e
 ·rename_i t;rw[qv];exact⟨by rw[<-Paired.length c];exact t,_,r,Jq c,Qg bs,e,λv H2 s o g=>q v H2 (b.trans s) (o.old b) g⟩
 ·cases e⟩
end
end P1
variable{b:P1.Bx}{d:P1.Dt}{G:A1->O (L2.AY×P1.Dt)->O P1.Bx->Y (O (L2.AY×P1.Dt))}{f:P1.Ev->Y P1.Bx}{q:P1.Ev->Y Bool}{g:P1.Ev->Y P1.Ap}{p:P1.Ev->Y Bool}{AO:O (L2.AY×P1.Dt)}{ds:O P1.Dt}{fa:P1.Ev->Y P1.Bx}{ρ:P1.Ev}{fb:P1.Ev->Y P1.Bx}{g1 g2:P1.Ev->Y P1.Ap}{gt:P1.Dt->P1.Ev->Y P1.Ev}{gb:P1.Ev->Y P1.Ap}{fi:P1.Ev->Y (O P1.Dt)}{fe:P1.Ev->Y P1.Bx}{Ac:A1->L2.Hp->O P1.Dt->L2.HO->Prop}{o1:O P1.Dt}{fk fo fv f1:P1.Ev->Y P1.Bx}{gx:P1.Ev->Y P1.Dt}{gY b_1:P1.Bx}
namespace P1
open L2 SeqAt
open AutoSeq1 (wpAny_loadPart')
def Mj(h:A6)(a:A1):Prop:=∃o ep,h.get? a=Z o/\o.ExactDict/\o.data=.dict #[] ep
section
variable{b:A1}
theorem Bq{AO:O (AY×V)}{vs:O (AY×A0)}(q:AO=[])(r:KV AO vs)(d:h.DictOf (bw P w) a vs):Mj h a:=by
 subst q;cases r;obtain⟨o,es,ep,h1,h2,b,_,c,_⟩:=d;have:es=#[]:=by
  have:=c.length;apply fZ;simpa using this
 subst this;exact⟨o,ep,h1,h2,b⟩
theorem Mj.dict(P:A3)(w:A4)(x:Mj h a):h.DictOf (strKind P w) a []:=by
 obtain⟨o,ep,h1,h2,c⟩:=x;exact⟨o,#[],ep,h1,h2,c,λe b=>by simp at b,.nil,JE⟩
theorem PR(e:(a==sysModules)=false)(hb:(b==sysModules)=false)(d:Mj s.heap a)(f:Mj s.heap b)(c:A.units<cLine):RcAt A s (.ref a) (.ref b) true:=λprog w E Q h=>
 PySem.W.keq_eq (knd:=strKind prog w) e hb (d.dict prog w) (f.dict prog w) c (λ_=>.nil) h
theorem vE(e:(a==sysModules)=false)(hb:(b==sysModules)=false)(d:Mj s.heap a)(f:Mj s.heap b)(c:A.units<cLine):RcNeAt A s (.ref a) (.ref b) false:=λprog w E Q h=>
 PySem.W.keq_ne (r:=true) (knd:=strKind prog w) e hb (d.dict prog w) (f.dict prog w) c (λ_=>.nil) h
theorem S5(o:AE)(b:AJ)(u:Tok):Meets (Builtin.«dict.__eq__» ⟨[.ref a,.str b u],[]⟩) (λ_ R s=>(s.heap.get? a=Z o/\o.cls=.type "dict")/\R (.ok (.ret .notImplemented)) s):=
 .of_wp λprog w A R s h=>by
  have c:s.TypeIs (.ref a) "dict":=⟨o,h.1.1,h.1.2⟩;show A7 _ _ (Builtin.Dict.dictSlotArgs "__eq__" ⟨[.ref a,.str b u],[]⟩ >>= _) _ _ s;refine zd ?_;unfold Builtin.Dict.dictSlotArgs;refine zd (wpAny_notOrdered_dict c ?_);show A7 _ _ (pure (Value.ref a,Value.str b u)) _ _ s;refine zh ?_;refine zd (JO (T :="str") (typeIs_str s b u) PySem.F.sub_str_dict ?_);simp only[Kx,QU];refine zd (KL ?_);exact zh ⟨_,rfl,h.2⟩
theorem S7(b:AJ)(u:Tok)(es:Array DictEntry)(ep:Nat)(e:Y A1)(sl:Array (Y A0)):Meets (Builtin.«str.__eq__» ⟨[.str b u,.ref a],[]⟩) (λ_ R s=>s.heap.get? a=Z { cls:=.type "dict",dict:=e,data:=.dict es ep,slots:=sl }/\R (.ok (.ret .notImplemented)) s):=
 .of_wp λprog w A R s h=>by obtain⟨hp,g,d,tk,os⟩:=s;obtain⟨c,h⟩:=h;wp_walk using wpAny_loadPart' c,yz c;exact⟨_,rfl,h⟩
theorem N7(x:AJ)(t:Tok)(d:Mj s.heap a)(g:A.units<cLine):RcAt A s (.str x t) (.ref a) false:=λprog w E Q h=>by
 obtain⟨⟨j,f,i,sl⟩,ep,ho,⟨e,hd,hs⟩,c⟩:=d;simp only at e c;subst e c;exact rc_eq_decline_or (k:=false) (typeIs_str s x t) ⟨_,ho,rfl⟩ () PySem.F.sub_dict_str PySem.F.slot_str_eq PySem.F.slot_dict_eq_refl
  (λ_ b=>call_meets PySem.F.slot_str_eq (typeIs_str s x t) PySem.F.entry_str_eq (PySem.F.args_str_eq_2 _ _) (S7 x t #[] ep f sl) ⟨ho,b⟩)
  (λ_ b=>call_meets PySem.F.slot_dict_eq_refl ⟨_,ho,rfl⟩ PySem.F.entry_dict_eq (PySem.F.args_dict_eq_2 _ _) (S5 _ x t) ⟨⟨ho,rfl⟩,b⟩)
  (λ_ b=>YE (rfl:isSame (.str x t) (.ref a)=pure false) b) (.inr g) h
theorem S8(o:AE)(b:AJ)(u:Tok):Meets (Builtin.«dict.__ne__» ⟨[.ref a,.str b u],[]⟩) (λ_ R s=>(s.heap.get? a=Z o/\o.cls=.type "dict")/\R (.ok (.ret .notImplemented)) s):=
 .of_wp λprog w A R s h=>by
  have c:s.TypeIs (.ref a) "dict":=⟨o,h.1.1,h.1.2⟩;show A7 _ _ (Builtin.Dict.dictSlotArgs "__ne__" ⟨[.ref a,.str b u],[]⟩ >>= _) _ _ s;refine zd ?_;unfold Builtin.Dict.dictSlotArgs;refine zd (wpAny_notOrdered_dict c ?_);show A7 _ _ (pure (Value.ref a,Value.str b u)) _ _ s;refine zh ?_;refine zd (JO (T :="str") (typeIs_str s b u) PySem.F.sub_str_dict ?_);simp only[Kx,QU];refine zd (KL ?_);exact zh ⟨_,rfl,h.2⟩
theorem S9(b:AJ)(u:Tok)(es:Array DictEntry)(ep:Nat)(e:Y A1)(sl:Array (Y A0)):Meets (Builtin.«str.__ne__» ⟨[.str b u,.ref a],[]⟩) (λ_ R s=>s.heap.get? a=Z { cls:=.type "dict",dict:=e,data:=.dict es ep,slots:=sl }/\R (.ok (.ret .notImplemented)) s):=
 .of_wp λprog w A R s h=>by obtain⟨hp,g,d,tk,os⟩:=s;obtain⟨c,h⟩:=h;wp_walk using wpAny_loadPart' c,yz c;exact⟨_,rfl,h⟩
theorem cv(x:AJ)(t:Tok)(d:Mj s.heap a)(g:A.units<cLine):RcNeAt A s (.str x t) (.ref a) true:=λprog w E Q h=>by
 obtain⟨⟨j,f,i,sl⟩,ep,ho,⟨e,hd,hs⟩,c⟩:=d;simp only at e c;subst e c;exact rc_ne_decline_or (k:=false) (typeIs_str s x t) ⟨_,ho,rfl⟩ () PySem.F.sub_dict_str PySem.F.slot_str_ne PySem.F.slot_dict_ne_refl
  (λ_ b=>call_meets PySem.F.slot_str_ne (typeIs_str s x t) PySem.F.entry_str_ne (PySem.F.args_str_ne_2 _ _) (S9 x t #[] ep f sl) ⟨ho,b⟩)
  (λ_ b=>call_meets PySem.F.slot_dict_ne_refl ⟨_,ho,rfl⟩ PySem.F.entry_dict_ne (PySem.F.args_dict_ne_2 _ _) (S8 _ x t) ⟨⟨ho,rfl⟩,b⟩)
  (λ_ b=>YE (rfl:isSame (.str x t) (.ref a)=pure false) b) (.inr g) h
theorem cE(x:AJ)(t:Tok)(d:Mj s.heap a)(c:A.units<cLine):EqAt A s (.str x t) (.ref a) false:=λprog w E Q h=>by
 unfold eqBool;refine QR ?_;refine wpAny_ite_split (λb=>absurd (eq_of_beq b) nofun) (λ_=>?_);exact zd (N7 x t d c prog w E _ (km h))
end
mutual
def Br:Dt->Nat
 |.tup xs=>Bt xs+1
 |.lst xs=>Bt xs+1
 |_=>1
def Bt:O Dt->Nat
 |[]=>0
 |d::ds=>max (Br d) (Bt ds)
end
mutual
def GZ:Dt->Dt->Y Bool
 |.non,.non=>Z true
 |.non,.bl _=>Z false|.non,.int _=>Z false|.non,.str _=>Z false|.non,.tup _=>Z false|.non,.lst _=>Z false
 |.bl a,.bl b=>Z (a==b)
 |.bl a,.int b=>Z ((if a then 1 else 0)==b)
 |.bl _,.non=>Z false|.bl _,.str _=>Z false|.bl _,.tup _=>Z false|.bl _,.lst _=>Z false
 |.int a,.int b=>Z (a==b)
 |.int a,.bl b=>Z (a==(if b then 1 else 0))
 |.int _,.non=>Z false|.int _,.str _=>Z false|.int _,.tup _=>Z false|.int _,.lst _=>Z false
 |.str a,.str b=>Z (a==b)
 |.str _,.non=>Z false|.str _,.bl _=>Z false|.str _,.int _=>Z false|.str _,.tup _=>Z false|.str _,.lst _=>Z false|.str _,.emp=>Z false
 |.tup xs,.tup ys=>oG xs ys
 |.tup _,.non=>Z false|.tup _,.bl _=>Z false|.tup _,.int _=>Z false|.tup _,.str _=>Z false|.tup _,.lst _=>Z false
 |.lst xs,.lst ys=>oG xs ys
 |.emp,.emp=>Z true
 |.lst _,.non=>Z false|.lst _,.bl _=>Z false|.lst _,.int _=>Z false|.lst _,.str _=>Z false|.lst _,.tup _=>Z false
 |_,_=>U
def oG:O Dt->O Dt->Y Bool
 |[],[]=>Z true
 |[],_::_=>Z false
 |_::_,[]=>Z false
 |x::xs,y::ys=>match GZ x y with
  |some b=>match oG xs ys with
   |some c=>Z (b&&c)
   |none=>U
  |none=>U
end
mutual
theorem Tc:∀{d:Dt} {k:Bool},GZ d d=Z k->k=true
 |.non,_,e=>by cases e;rfl
 |.bl b,_,e=>by cases e;simp
 |.int b,_,e=>by cases e;simp
 |.str b,_,e=>by cases e;simp
 |.tup xs,_,e=>Ed (ds:=xs) e
 |.lst xs,_,e=>Ed (ds:=xs) e
 |.emp,_,e=>by cases e;rfl
theorem Ed:∀{ds:O Dt} {k:Bool},oG ds ds=Z k->k=true
 |[],_,e=>by simp only[oG]at e;cases e;rfl
 |d::ds,_,e=>by
  simp only[oG]at e;cases h:GZ d d with
  |none=>rw[h]at e;cases e
  |some b=>
   rw[h]at e;simp only at e;cases h2:oG ds ds with
   |none=>rw[h2]at e;cases e
   |some c=>
    rw[h2]at e;cases e;rw[Tc h,Ed h2];rfl
end
theorem HN(xs ys:O Dt):GZ (.tup xs) (.tup ys)=oG xs ys:=rfl
theorem xO:∀{xs ys:O Dt} {k:Bool},oG xs ys=Z k->∃e:Nat->Bool,(∀(j:Nat) x y,xs[j]?=Z x->ys[j]?=Z y->GZ x y=Z (e j))/\k=((cf (min xs.length ys.length)).all e&&xs.length==ys.length)
 |[],[],k,h=>by simp only[oG]at h;cases h;exact⟨λ_=>true,λj x y e=>by simp at e,by simp⟩
 |[],y::ys,k,h=>by simp only[oG]at h;cases h;exact⟨λ_=>true,λj x y e=>by simp at e,by simp⟩
 |x::xs,[],k,h=>by simp only[oG]at h;cases h;exact⟨λ_=>true,λj x y _ e=>by simp at e,by simp⟩
 |x::xs,y::ys,k,h=>by
  simp only[oG]at h;cases h1:GZ x y with
  |none=>rw[h1]at h;cases h
  |some b=>
   rw[h1]at h;simp only at h;cases h2:oG xs ys with
   |none=>rw[h2]at h;cases h
   |some c=>
    rw[h2]at h;cases h;obtain⟨e,g,d⟩:=xO h2;refine⟨λj=>match j with|0=>b|j+1=>e j,λj u v a ev=>?_,?_⟩
    ·cases j with
     |zero=>simp at a ev;subst a ev;exact h1
     |succ j=>exact g j u v (by simpa using a) (by simpa using ev)
    ·have:min (x::xs).length (y::ys).length=min xs.length ys.length+1:=by simp only[ZI];omega
     rw[this,List.range_succ_eq_map,k8,kE,d];have hb:((x::xs).length==(y::ys).length)=(xs.length==ys.length):=by
      rw[JJ];simp
     rw[hb,Bool.and_assoc];rfl
theorem xP:∀{ds:O Dt} {j:Nat} {d:Dt},ds[j]?=Z d->Br d<=Bt ds
 |[],_,_,e=>by simp at e
 |d::ds,0,_,e=>by simp at e;subst e;simp only[Bt];exact Nat.le_max_left _ _
 |d::ds,j+1,_,e=>by
  simp only[Bt];exact Zs (xP (ds:=ds) (j:=j) (by simpa using e)) (Nat.le_max_right _ _)
theorem HS(I:L2.AU X AN σ H s)(h:Ay X.K H a vs):∃b,s.heap.get? a=Z b/\b.cls=.type "tuple":=by
 obtain⟨AQ,_,⟨b,e,c,_⟩,_⟩:=I.tuple h;exact⟨b,e,c⟩
theorem HW(I:L2.AU X AN σ H s)(h:uG X.K H a vs):∃b,s.heap.get? a=Z b/\b.cls=.type "list":=by
 obtain⟨AQ,_,⟨b,n,e,c,_⟩,_⟩:=I.list h;exact⟨b,e,c⟩
theorem tD(I:L2.AU X AN σ H s){o:AE}(h:H a=Z (.n6 o (.dK []))):∃b,s.heap.get? a=Z b/\b.cls=.type "dict":=by
 obtain⟨e,_,_,vs,_,b,es,ep,e2,ex,_⟩:=I.hok a _ h;exact⟨b,e2,ex.1⟩
theorem Ef{n m:String}(h:∃b,s.heap.get? a=Z b/\b.cls=.type n)(q:∃b,s.heap.get? a=Z b/\b.cls=.type m)(f:n≠m):False:=by
 obtain⟨o,e,c⟩:=h;obtain⟨o',e',d⟩:=q;rw[e]at e';cases e';rw[c]at d;exact f (by injection d)
mutual
theorem AW.inj(I:L2.AU X AN σ H s):∀{d e:Dt} {v:V},AW X.K H d v->AW X.K H e v->d=e
 |.non,e,v,h,q=>by
  simp only[AW]at h;subst h;cases e<;>simp only[AW]at q<;>first|rfl|(cases q;done)|(obtain⟨a,b,z,_⟩:=q;cases z;done)|(obtain⟨z,_⟩:=q;cases z;done)
 |.bl _,e,v,h,q=>by
  simp only[AW]at h;subst h;cases e<;>simp only[AW]at q<;>first|(cases q;rfl)|(cases q;done)|(obtain⟨a,b,z,_⟩:=q;cases z;done)|(obtain⟨z,_⟩:=q;cases z;done)
 |.int _,e,v,h,q=>by
  simp only[AW]at h;subst h;cases e<;>simp only[AW]at q<;>first|(cases q;rfl)|(cases q;done)|(obtain⟨a,b,z,_⟩:=q;cases z;done)|(obtain⟨z,_⟩:=q;cases z;done)
 |.str x,e,v,h,q=>by
  simp only[AW]at h;have g:v=.str x:=h.1;subst g;cases e with
  |str y=>
   simp only[AW]at q;have z:V.str x=V.str y:=q.1;injection z with z;rw[z]
  |tup es=>simp only[AW]at q;obtain⟨a,b,z,_⟩:=q;cases z
  |lst es=>simp only[AW]at q;obtain⟨a,b,z,_⟩:=q;cases z
  |emp=>simp only[AW]at q;obtain⟨a,b,z,_⟩:=q;cases z
  |_=>simp only[AW]at q;cases q
 |.tup ds,e,v,h,q=>by
  simp only[AW]at h;obtain⟨a,vs,rfl,sq,r⟩:=h;cases e with
  |tup es=>
   simp only[AW]at q;obtain⟨b,us,z,c,f⟩:=q;cases z;have:=I.Nt sq c;subst this;rw[aK.inj I r f]
  |lst es=>
   simp only[AW]at q;obtain⟨b,us,z,c,f⟩:=q;cases z;exact(Ef (HS I sq) (HW I c.sq) ()).elim
  |emp=>
   simp only[AW]at q;obtain⟨b,o,z,c⟩:=q;cases z;exact(Ef (HS I sq) (tD I c) ()).elim
  |str x=>simp only[AW]at q;have z:=q.1;cases z
  |_=>simp only[AW]at q;cases q
 |.lst ds,e,v,h,q=>by
  simp only[AW]at h;obtain⟨a,vs,rfl,sq,r⟩:=h;cases e with
  |lst es=>
   simp only[AW]at q;obtain⟨b,us,z,c,f⟩:=q;cases z;have:=I.IK sq.sq c.sq;subst this;rw[aK.inj I r f]
  |tup es=>
   simp only[AW]at q;obtain⟨b,us,z,c,f⟩:=q;cases z;exact(Ef (HW I sq.sq) (HS I c) ()).elim
  |emp=>
   simp only[AW]at q;obtain⟨b,o,z,c⟩:=q;cases z;exact(Ef (HW I sq.sq) (tD I c) ()).elim
  |str x=>simp only[AW]at q;have z:=q.1;cases z
  |_=>simp only[AW]at q;cases q
 |.emp,e,v,h,q=>by
  simp only[AW]at h;obtain⟨a,o,rfl,sq⟩:=h;cases e with
  |emp=>rfl
  |tup es=>
   simp only[AW]at q;obtain⟨b,us,z,c,f⟩:=q;cases z;exact(Ef (tD I sq) (HS I c) ()).elim
  |lst es=>
   simp only[AW]at q;obtain⟨b,us,z,c,f⟩:=q;cases z;exact(Ef (tD I sq) (HW I c.sq) ()).elim
  |str x=>simp only[AW]at q;have z:=q.1;cases z
  |_=>simp only[AW]at q;cases q
theorem aK.inj(I:L2.AU X AN σ H s):∀{ds es:O Dt} {vs:O V},aK X.K H ds vs->aK X.K H es vs->ds=es
 |[],es,vs,h,q=>by
  simp only[aK]at h;subst h;cases es with
  |nil=>rfl
  |cons e es=>simp only[aK]at q;obtain⟨_,_,z,_⟩:=q;cases z
 |d::ds,es,vs,h,q=>by
  simp only[aK]at h;obtain⟨v,r,rfl,h1,h2⟩:=h;cases es with
  |nil=>simp only[aK]at q;cases q
  |cons e es=>
   simp only[aK]at q;obtain⟨a,b,z,q1,q2⟩:=q;cases z;rw[AW.inj I h1 q1,aK.inj I h2 q2]
end
theorem ND(I:L2.AU X AN σ H s):∀(n:Nat) {A:A5} {d e:Dt} {x y:V} {u v:A0} {k:Bool},min (Br d) (Br e)<=n->A.units+n<cLine->AW X.K H d x->AW X.K H e y->As x u->As y v->GZ d e=Z k->EqAt A s u v k:=by
 intro n
 induction n with
 |zero=>
  intro A d e x y u v k P;have h1:1<=Br d:=by cases d<;>simp only[Br]<;>omega
  have h2:1<=Br e:=by cases e<;>simp only[Br]<;>omega
  omega
 |succ n ih=>
  intro A d e x y u v k P hA m c w g ek;have h:A.units<cLine:=by omega
  by_cases L:u=v/\∃a,u=.ref a
  ·obtain⟨rfl,a,rfl⟩:=L;have hx:x=.ref a:=by have:=w.abs;simpa[IX]using this.symm
   have hy:y=.ref a:=by have:=g.abs;simpa[IX]using this.symm
   subst hx hy;have:=AW.inj I m c;subst this;rw[Tc ek];exact EqAt.same _
  ·have items:∀{ds es:O Dt} {vs us:O V} {AQ l:O A0} {f:Nat->Bool},min (Bt ds) (Bt es)<=n->aK X.K H ds vs->aK X.K H es us->AX vs AQ->AX us l->(∀(j:Nat) x y,ds[j]?=Z x->es[j]?=Z y->GZ x y=Z (f j)) →
     ∀j (h1:j<AQ.toArray.size) (h2:j<l.toArray.size),EqAt A.in1 s AQ.toArray[j] l.toArray[j] (f j):=by
    intro ds es vs us AQ l f hm r1 W w1 w2 F j h1 h2;have l1:=w1.length;have l2:=w2.length;have l3:=r1.length;have l4:=W.length;have j1:j<AQ.length:=by simpa using h1
    have j2:j<l.length:=by simpa using h2
    have M:ds[j]?=Z ds[j]:=by simp
    have d2:es[j]?=Z es[j]:=by simp
    obtain⟨a,ea,B⟩:=r1.get M;obtain⟨b,eb,C⟩:=W.get d2;obtain⟨p,ep,rp⟩:=w1.get ea;obtain⟨q,eq,rq⟩:=w2.get eb;have e1:AQ.toArray[j]=p:=by simpa[j1]using ep
    have e2:l.toArray[j]=q:=by simpa[j2]using eq
    rw[e1,e2];have m1:=xP M;have m2:=xP d2;exact ih () (by rw[units_in1];omega) B C rp rq (F j _ _ M d2)
   cases d with
   |non=>
    cases m;cases w;cases e with
    |non=>cases c;cases g;cases ek;exact EqAt.same _
    |bl b=>cases c;cases g;cases ek;exact EqAt.none_bool b
    |int b=>cases c;obtain⟨t,rfl⟩:=g;cases ek;exact EqAt.none_int b t
    |str b=>obtain⟨rfl,_⟩:=c;obtain⟨t,rfl⟩:=g;cases ek;exact EqAt.none_str b t
    |tup es=>obtain⟨b,us,rfl,sq,_⟩:=c;cases g;cases ek;obtain⟨_,_,p,_⟩:=I.tuple sq;exact EqAt.none_tuple p h
    |lst es=>obtain⟨b,us,rfl,sq,_⟩:=c;cases g;cases ek;obtain⟨_,_,p,_⟩:=I.list sq.sq;exact EqAt.none_list p.isList h
    |emp=>cases ek
   |bl a=>
    cases m;cases w;cases e with
    |non=>cases c;cases g;cases ek;exact EqAt.bool_none a
    |bl b=>cases c;cases g;cases ek;exact EqAt.bool_bool a b
    |int b=>cases c;obtain⟨t,rfl⟩:=g;cases ek;exact EqAt.bool_int a b t
    |str b=>obtain⟨rfl,_⟩:=c;obtain⟨t,rfl⟩:=g;cases ek;exact EqAt.bool_str a b t
    |tup es=>obtain⟨b,us,rfl,sq,_⟩:=c;cases g;cases ek;obtain⟨_,_,p,_⟩:=I.tuple sq;exact EqAt.bool_tuple a p h
    |lst es=>obtain⟨b,us,rfl,sq,_⟩:=c;cases g;cases ek;obtain⟨_,_,p,_⟩:=I.list sq.sq;exact EqAt.bool_list a p.isList h
    |emp=>cases ek
   |int a=>
    cases m;obtain⟨i,rfl⟩:=w;cases e with
    |non=>cases c;cases g;cases ek;exact EqAt.int_none a i
    |bl b=>cases c;cases g;cases ek;exact EqAt.int_bool a i b
    |int b=>cases c;obtain⟨t,rfl⟩:=g;cases ek;exact EqAt.int_int a i b t
    |str b=>obtain⟨rfl,_⟩:=c;obtain⟨t,rfl⟩:=g;cases ek;exact EqAt.int_str a i b t
    |tup es=>obtain⟨b,us,rfl,sq,_⟩:=c;cases g;cases ek;obtain⟨_,_,p,_⟩:=I.tuple sq;exact EqAt.int_tuple a i p h
    |lst es=>obtain⟨b,us,rfl,sq,_⟩:=c;cases g;cases ek;obtain⟨_,_,p,_⟩:=I.list sq.sq;exact EqAt.int_list a i p.isList h
    |emp=>cases ek
   |str a=>
    obtain⟨rfl,_⟩:=m;obtain⟨i,rfl⟩:=w;cases e with
    |non=>cases c;cases g;cases ek;exact EqAt.str_none a i
    |bl b=>cases c;cases g;cases ek;exact EqAt.str_bool a i b
    |int b=>cases c;obtain⟨t,rfl⟩:=g;cases ek;exact EqAt.str_int a i b t
    |str b=>obtain⟨rfl,_⟩:=c;obtain⟨t,rfl⟩:=g;cases ek;exact EqAt.str_str a i b t
    |tup es=>obtain⟨b,us,rfl,sq,_⟩:=c;cases g;cases ek;obtain⟨_,_,p,_⟩:=I.tuple sq;exact EqAt.str_tuple a i p h
    |lst es=>obtain⟨b,us,rfl,sq,_⟩:=c;cases g;cases ek;obtain⟨_,_,p,_⟩:=I.list sq.sq;exact EqAt.str_list a i p.isList h
    |emp=>
     simp only[AW]at c;obtain⟨p,o,rfl,e⟩:=c;cases g;cases ek;obtain⟨_,_,vs,r,q⟩:=wQ I.hok (.inr ⟨o,e⟩);exact cE a i (Bq S r q) h
   |tup ds=>
    obtain⟨a,vs,rfl,N,B⟩:=m;cases w;obtain⟨AQ,E,p,_⟩:=I.tuple N;cases e with
    |non=>cases c;cases g;cases ek;exact EqAt.tuple_none p h
    |bl b=>cases c;cases g;cases ek;exact EqAt.tuple_bool b p h
    |int b=>cases c;obtain⟨t,rfl⟩:=g;cases ek;exact EqAt.tuple_int b t p h
    |str b=>obtain⟨rfl,_⟩:=c;obtain⟨t,rfl⟩:=g;cases ek;exact EqAt.tuple_str b t p h
    |lst es=>obtain⟨b,us,rfl,sq,_⟩:=c;cases g;cases ek;obtain⟨_,_,p2,_⟩:=I.list sq.sq;exact EqAt.tuple_list p p2.isList h
    |tup es=>
     obtain⟨b,us,rfl,Q,C⟩:=c;cases g;obtain⟨l,D,p2,_⟩:=I.tuple Q;change oG _ _=Z _ at ek;obtain⟨f,F,rfl⟩:=xO ek;have J:a≠b:=λz=>L ⟨by rw[z],a,rfl⟩;have z:=EqAt.of_refs J (RcAt.tuples (A:=A) (e:=f) p p2 h (items (by simp only[Br]at P;omega) B C E D F));have q1:AQ.toArray.size=ds.length:=by rw[zI,<-E.length,B.length]
     have q2:l.toArray.size=es.length:=by rw[zI,<-D.length,C.length]
     rw[q1,q2]at z;exact z
    |emp=>cases ek
   |lst ds=>
    obtain⟨a,vs,rfl,N,B⟩:=m;cases w;obtain⟨AQ,E,p,_⟩:=I.list N.sq;cases e with
    |non=>cases c;cases g;cases ek;exact EqAt.list_none p.isList h
    |bl b=>cases c;cases g;cases ek;exact EqAt.list_bool b p.isList h
    |int b=>cases c;obtain⟨t,rfl⟩:=g;cases ek;exact EqAt.list_int b t p.isList h
    |str b=>obtain⟨rfl,_⟩:=c;obtain⟨t,rfl⟩:=g;cases ek;exact EqAt.list_str b t p.isList h
    |tup es=>obtain⟨b,us,rfl,sq,_⟩:=c;cases g;cases ek;obtain⟨_,_,p2,_⟩:=I.tuple sq;exact EqAt.list_tuple p.isList p2 h
    |lst es=>
     obtain⟨b,us,rfl,Q,C⟩:=c;cases g;obtain⟨l,D,p2,_⟩:=I.list Q.sq;change oG _ _=Z _ at ek;obtain⟨f,F,rfl⟩:=xO ek;have J:a≠b:=λz=>L ⟨by rw[z],a,rfl⟩;have q1:AQ.toArray.size=ds.length:=by rw[zI,<-E.length,B.length]
     have q2:l.toArray.size=es.length:=by rw[zI,<-D.length,C.length]
     by_cases a0:AQ.toArray.size=l.toArray.size
     ·have z:=EqAt.of_refs J (RcAt.lists (A:=A) (e:=f) p.isList p2.isList a0 h (items (by simp only[Br]at P;omega) B C E D F));have G:ds.length=es.length:=by omega
      rw[q1]at z;rw[G,nS,beq_self_eq_true,ya,<-G];exact z
     ·have G:(ds.length==es.length)=false:=by rw[beq_eq_false_iff_ne];omega
      rw[G,yY];exact EqAt.of_refs J (RcAt.lists_lengths p.isList p2.isList (by simpa using a0) h)
    |emp=>cases ek
   |emp=>
    cases e<;>first|(cases ek;done)|skip;simp only[AW]at m c;obtain⟨a,o,rfl,e1⟩:=m;obtain⟨b,o',rfl,e2⟩:=c;cases w;cases g;cases ek;obtain⟨_,m1,vs,r,q⟩:=wQ I.hok (.inr ⟨o,e1⟩);obtain⟨_,m2,a1,r',q'⟩:=wQ I.hok (.inr ⟨o',e2⟩);exact EqAt.of_refs (λz=>L ⟨by rw[z],a,rfl⟩) (PR m1 m2 (Bq S r q) (Bq S r' q') h)
theorem Td(I:L2.AU X AN σ H s){es:O Dt}{us:O V}{c:O A0}{f:Nat->Bool}(E:min (Bt ds) (Bt es)<=n)(F:A.units+n+1<cLine)(g:aK X.K H ds vs)(e:aK X.K H es us)(h:AX vs AQ)(i:AX us c)(w:∀(j:Nat) x y,ds[j]?=Z x->es[j]?=Z y->GZ x y=Z (f j)):∀j (h1:j<AQ.toArray.size) (h2:j<c.toArray.size),EqAt A.in1 s AQ.toArray[j] c.toArray[j] (f j):=by
 intro j h1 h2;have B:=h.length;have D:=i.length;have l3:=g.length;have G:=e.length;have t:j<AQ.length:=by simpa using h1
 have z:j<c.length:=by simpa using h2
 have d:ds[j]?=Z (ds[j]'()):=by simp
 have d2:es[j]?=Z (es[j]'()):=by simp
 obtain⟨a,ea,m⟩:=g.get d;obtain⟨b,eb,v⟩:=e.get d2;obtain⟨p,ep,u⟩:=h.get ea;obtain⟨q,l,o⟩:=i.get eb;have e1:AQ.toArray[j]=p:=by simpa[t]using ep
 have e2:c.toArray[j]=q:=by simpa[z]using l
 rw[e1,e2];have C:=xP d;have J:=xP d2;exact ND I n () (by rw[units_in1];omega) m v u o (w j _ _ d d2)
def jF(K:B1)(H:Hp):Dt->V->Prop
 |.lst ds,v=>∃a vs,v=.ref a/\uG K H a vs/\aK K H ds vs
 |d,v=>AW K H d v
def oH:Bx->Bool
 |.n _=>true
 |.m _ _=>true
 |_=>false
def toD:Bx->Dt
 |.z d=>d
 |.l ds=>.lst ds
 |.o ds=>.lst ds
 |.n _=>.non
 |.m _ _=>.non
theorem aX.toD(h:aX K H b v)(a:oH b=false):jF K H (toD b) v:=by
 cases b with
 |z d=>
  cases d with
  |lst ds=>exact h.HB rfl
  |_=>exact h
 |l ds=>exact h.HB rfl
 |o ds=>exact h.HB rfl
 |n _=>cases a
 |m _ _=>cases a
theorem YM(I:L2.AU X AN σ H s){e:Dt}{x y:V}{v:A0}{k:Bool}(N:min (Br d) (Br e)<=100)(hA:X.A.units+100<cLine)(z:jF X.K H d x)(h:jF X.K H e y)(B:As x u)(i:As y v)(ek:GZ d e=Z k):RcAt X.A s u v k/\RcNeAt X.A s u v (!k):=by
 have g:X.A.units<cLine:=by omega
 cases d with
 |non=>
  cases z;cases B;cases e with
  |non=>
   cases h;cases i;cases ek;exact⟨.none_none,.none_none⟩
  |bl c=>
   cases h;cases i;cases ek;exact⟨.none_bool c,.none_bool c⟩
  |int c=>
   cases h;obtain⟨t2,rfl⟩:=i;cases ek;exact⟨.none_int c t2,.none_int c t2⟩
  |str c=>
   obtain⟨rfl,_⟩:=h;obtain⟨t2,rfl⟩:=i;cases ek;exact⟨.none_str c t2,.none_str c t2⟩
  |tup c=>
   obtain⟨a2,w,rfl,j,m⟩:=h;cases i;obtain⟨t,l,p2,_⟩:=I.tuple j;cases ek;exact⟨.none_tuple p2 g,.none_tuple p2 g⟩
  |lst c=>
   obtain⟨a2,w,rfl,j,m⟩:=h;cases i;obtain⟨t,l,p2,_⟩:=I.list j;cases ek;exact⟨.none_list p2.isList g,.none_list p2.isList g⟩
  |emp=>cases ek
 |bl x1=>
  cases z;cases B;cases e with
  |non=>
   cases h;cases i;cases ek;exact⟨.bool_none x1,.bool_none x1⟩
  |bl c=>
   cases h;cases i;cases ek;exact⟨.bool_bool x1 c,.bool_bool x1 c⟩
  |int c=>
   cases h;obtain⟨t2,rfl⟩:=i;cases ek;exact⟨.bool_int x1 c t2,.bool_int x1 c t2⟩
  |str c=>
   obtain⟨rfl,_⟩:=h;obtain⟨t2,rfl⟩:=i;cases ek;exact⟨.bool_str x1 c t2,.bool_str x1 c t2⟩
  |tup c=>
   obtain⟨a2,w,rfl,j,m⟩:=h;cases i;obtain⟨t,l,p2,_⟩:=I.tuple j;cases ek;exact⟨.bool_tuple x1 p2 g,.bool_tuple x1 p2 g⟩
  |lst c=>
   obtain⟨a2,w,rfl,j,m⟩:=h;cases i;obtain⟨t,l,p2,_⟩:=I.list j;cases ek;exact⟨.bool_list x1 p2.isList g,.bool_list x1 p2.isList g⟩
  |emp=>cases ek
 |int x1=>
  cases z;obtain⟨t1,rfl⟩:=B;cases e with
  |non=>
   cases h;cases i;cases ek;exact⟨.int_none x1 t1,.int_none x1 t1⟩
  |bl c=>
   cases h;cases i;cases ek;exact⟨.int_bool x1 t1 c,.int_bool x1 t1 c⟩
  |int c=>
   cases h;obtain⟨t2,rfl⟩:=i;cases ek;exact⟨.int_int x1 t1 c t2,.int_int x1 t1 c t2⟩
  |str c=>
   obtain⟨rfl,_⟩:=h;obtain⟨t2,rfl⟩:=i;cases ek;exact⟨.int_str x1 t1 c t2,.int_str x1 t1 c t2⟩
  |tup c=>
   obtain⟨a2,w,rfl,j,m⟩:=h;cases i;obtain⟨t,l,p2,_⟩:=I.tuple j;cases ek;exact⟨.int_tuple x1 t1 p2 g,.int_tuple x1 t1 p2 g⟩
  |lst c=>
   obtain⟨a2,w,rfl,j,m⟩:=h;cases i;obtain⟨t,l,p2,_⟩:=I.list j;cases ek;exact⟨.int_list x1 t1 p2.isList g,.int_list x1 t1 p2.isList g⟩
  |emp=>cases ek
 |str x1=>
  obtain⟨rfl,_⟩:=z;obtain⟨t1,rfl⟩:=B;cases e with
  |non=>
   cases h;cases i;cases ek;exact⟨.str_none x1 t1,.str_none x1 t1⟩
  |bl c=>
   cases h;cases i;cases ek;exact⟨.str_bool x1 t1 c,.str_bool x1 t1 c⟩
  |int c=>
   cases h;obtain⟨t2,rfl⟩:=i;cases ek;exact⟨.str_int x1 t1 c t2,.str_int x1 t1 c t2⟩
  |str c=>
   obtain⟨rfl,_⟩:=h;obtain⟨t2,rfl⟩:=i;cases ek;exact⟨.str_str x1 t1 c t2,.str_str x1 t1 c t2⟩
  |tup c=>
   obtain⟨a2,w,rfl,j,m⟩:=h;cases i;obtain⟨t,l,p2,_⟩:=I.tuple j;cases ek;exact⟨.str_tuple x1 t1 p2 g,.str_tuple x1 t1 p2 g⟩
  |lst c=>
   obtain⟨a2,w,rfl,j,m⟩:=h;cases i;obtain⟨t,l,p2,_⟩:=I.list j;cases ek;exact⟨.str_list x1 t1 p2.isList g,.str_list x1 t1 p2.isList g⟩
  |emp=>
   simp only[jF,AW]at h;obtain⟨p,o,rfl,e⟩:=h;cases i;cases ek;obtain⟨_,_,vs,r,q⟩:=wQ I.hok (.inr ⟨o,e⟩);exact⟨N7 x1 t1 (Bq S r q) g,cv x1 t1 (Bq S r q) g⟩
 |tup x1=>
  obtain⟨a1,a0,rfl,J,D⟩:=z;cases B;obtain⟨F,C,p1,_⟩:=I.tuple J;cases e with
  |non=>
   cases h;cases i;cases ek;exact⟨.tuple_none p1 g,.tuple_none p1 g⟩
  |bl c=>
   cases h;cases i;cases ek;exact⟨.tuple_bool c p1 g,.tuple_bool c p1 g⟩
  |int c=>
   cases h;obtain⟨t2,rfl⟩:=i;cases ek;exact⟨.tuple_int c t2 p1 g,.tuple_int c t2 p1 g⟩
  |str c=>
   obtain⟨rfl,_⟩:=h;obtain⟨t2,rfl⟩:=i;cases ek;exact⟨.tuple_str c t2 p1 g,.tuple_str c t2 p1 g⟩
  |tup c=>
   obtain⟨a2,w,rfl,j,m⟩:=h;cases i;obtain⟨t,l,p2,_⟩:=I.tuple j;change oG _ _=Z _ at ek;obtain⟨f,L,rfl⟩:=xO ek;have q1:F.toArray.size=x1.length:=by rw[zI,<-C.length,D.length]
   have q2:t.toArray.size=c.length:=by rw[zI,<-l.length,m.length]
   have it:=Td I (n:=99) (A:=X.A) (by simp only[Br]at N;omega) () D m C l L;rw[<-q1,<-q2];exact⟨.tuples p1 p2 g it,.tuples p1 p2 g it⟩
  |lst c=>
   obtain⟨a2,w,rfl,j,m⟩:=h;cases i;obtain⟨t,l,p2,_⟩:=I.list j;cases ek;exact⟨.tuple_list p1 p2.isList g,.tuple_list p1 p2.isList g⟩
  |emp=>cases ek
 |lst x1=>
  obtain⟨a1,a0,rfl,J,D⟩:=z;cases B;obtain⟨F,C,p1,_⟩:=I.list J;cases e with
  |non=>
   cases h;cases i;cases ek;exact⟨.list_none p1.isList g,.list_none p1.isList g⟩
  |bl c=>
   cases h;cases i;cases ek;exact⟨.list_bool c p1.isList g,.list_bool c p1.isList g⟩
  |int c=>
   cases h;obtain⟨t2,rfl⟩:=i;cases ek;exact⟨.list_int c t2 p1.isList g,.list_int c t2 p1.isList g⟩
  |str c=>
   obtain⟨rfl,_⟩:=h;obtain⟨t2,rfl⟩:=i;cases ek;exact⟨.list_str c t2 p1.isList g,.list_str c t2 p1.isList g⟩
  |tup c=>
   obtain⟨a2,w,rfl,j,m⟩:=h;cases i;obtain⟨t,l,p2,_⟩:=I.tuple j;cases ek;exact⟨.list_tuple p1.isList p2 g,.list_tuple p1.isList p2 g⟩
  |lst c=>
   obtain⟨a2,w,rfl,j,m⟩:=h;cases i;obtain⟨t,l,p2,_⟩:=I.list j;change oG _ _=Z _ at ek;obtain⟨f,L,rfl⟩:=xO ek;have q1:F.toArray.size=x1.length:=by rw[zI,<-C.length,D.length]
   have q2:t.toArray.size=c.length:=by rw[zI,<-l.length,m.length]
   have it:=Td I (n:=99) (A:=X.A) (by simp only[Br]at N;omega) () D m C l L;by_cases G:F.toArray.size=t.toArray.size
   ·have E:x1.length=c.length:=by omega
    rw[E,nS,beq_self_eq_true,ya,<-E,<-q1];exact⟨.lists p1.isList p2.isList G g it,.lists p1.isList p2.isList G g it⟩
   ·have E:(x1.length==c.length)=false:=by rw[beq_eq_false_iff_ne];omega
    rw[E,yY];exact⟨.lists_lengths p1.isList p2.isList (by simpa using G) g,.lists_lengths p1.isList p2.isList (by simpa using G) g⟩
  |emp=>cases ek
 |emp=>
  cases e<;>first|(cases ek;done)|skip;simp only[jF,AW]at z h;obtain⟨a,o,rfl,e1⟩:=z;obtain⟨b,o',rfl,e2⟩:=h;cases B;cases i;cases ek;obtain⟨_,M,vs,r,q⟩:=wQ I.hok (.inr ⟨o,e1⟩);obtain⟨_,W,a3,Q,P⟩:=wQ I.hok (.inr ⟨o',e2⟩);exact⟨PR M W (Bq S r q) (Bq S Q P) g,vE M W (Bq S r q) (Bq S Q P) g⟩
def Bn(a b:Bx):Y Bx:=if oH a=true\/oH b=true then U else if min (Br (toD a)) (Br (toD b))<=100 then(GZ (toD a) (toD b)).bind λk=>Z (.z (.bl k))else U
def V6(a b:Bx):Y Bx:=if oH a=true\/oH b=true then U else if min (Br (toD a)) (Br (toD b))<=100 then(GZ (toD a) (toD b)).bind λk=>Z (.z (.bl (!k)))else U
theorem of_eq(g:X.A.units+100<cLine):NT X (AG .Eq) Bn:=by
 intro AN s σ H x y v u Q I j l h;obtain⟨a,b,c,m,f,e,q⟩:=h;unfold Bn at e;split at e
 ·cases e
 rename_i d;have i:oH a=false:=by cases h:oH a with|false=>rfl|true=>exact absurd (.inl h) d
 have hb:oH b=false:=by cases h:oH b with|false=>rfl|true=>exact absurd (.inr h) d
 split at e
 ·rename_i n;obtain⟨k,ek,e⟩:=AT e;cases e;exact(YM I n g (m.toD i) (f.toD hb) j l ek).1 X.prog X.w X.xe _ ⟨.bl k,H,I,rfl,q _ H (AV.refl H) trivial (by unfold aX AW;rfl)⟩
 ·cases e
theorem zH(g:X.A.units+100<cLine):NT X (AG .NotEq) V6:=by
 intro AN s σ H x y v u Q I j l h;obtain⟨a,b,c,m,f,e,q⟩:=h;unfold V6 at e;split at e
 ·cases e
 rename_i d;have i:oH a=false:=by cases h:oH a with|false=>rfl|true=>exact absurd (.inl h) d
 have hb:oH b=false:=by cases h:oH b with|false=>rfl|true=>exact absurd (.inr h) d
 split at e
 ·rename_i n;obtain⟨k,ek,e⟩:=AT e;cases e;exact(YM I n g (m.toD i) (f.toD hb) j l ek).2 X.prog X.w X.xe _ ⟨.bl (!k),H,I,rfl,q _ H (AV.refl H) trivial (by unfold aX AW;rfl)⟩
 ·cases e
theorem G3{i:Int}:aX K H (.z (.int i)) (.int i):=by unfold aX AW;rfl
theorem Qh{b:Bool}:aX K H (.z (.bl b)) (.bl b):=by unfold aX AW;rfl
theorem GH(h:x.length<=AA):aX K H (.z (.str x)) (.str x):=by unfold aX AW;exact⟨rfl,h⟩
theorem Qi{i:Int}(h:aX K H (.z (.int i)) v):v=.int i:=by simpa only[aX,AW]using h
theorem Cc(h:aX K H (.z (.str x)) v):v=.str x/\x.length<=AA:=by simpa only[aX,AW]using h
theorem HG(h:aX K H (.z (.tup ds)) v):∃a vs,v=.ref a/\Ay K H a vs/\aK K H ds vs:=by simpa only[aX,AW]using h
def i2(g:Int->Int->Y Dt):Bx->Bx->Y Bx
 |.z (.int i),.z (.int j)=>(g i j).bind λd=>Z (.z d)
 |_,_=>U
theorem N8{f:A0->A0->Sem A0}{r:R2}{g:Int->Int->Y Dt}(ho:Bb X f r)(h:∀i j d H Q,g i j=Z d->(∀v,AW X.K H d v->Q v H)->r (.int i) (.int j) H Q):NT X f (i2 g):=Bb.imp ho λx y H Q q=>by
 obtain⟨a,b,c,n,m,e,q⟩:=q;unfold i2 at e;split at e
 ·rename_i i j;obtain⟨d,o,e⟩:=AT e;cases e;rw[Qi n,Qi m];exact h i j d H Q o λv l=>q v H (AV.refl H) trivial l
 ·cases e
theorem HU{i:Int}:AW K H (.int i) (.int i):=by unfold AW;rfl
theorem HQ{b:Bool}:AW K H (.bl b) (.bl b):=by unfold AW;rfl
abbrev C7:=i2 λi j=>Z (.int (i-j))
abbrev EV:=i2 λi j=>Z (.bl (decide (j<i)))
abbrev HM:=i2 λi j=>Z (.bl (decide (j<=i)))
abbrev Oa:=i2 λi j=>if 0<j/\j<1073741824 then Z (.int (i / j))else U
abbrev lZ:=i2 λi j=>if 0<j then Z (.int (i%j))else U
abbrev IT:=i2 λi j=>if 0<=j/\j<=1000/\i.natAbs<2 ^ 64 then Z (.int (i ^ j.toNat))else U
theorem Js:NT X (binaryOp .Sub) C7:=N8 t9 λi j d H Q e q=>by cases e;exact⟨i,j,rfl,rfl,q _ HU⟩
theorem YQ:NT X (AG .Gt) EV:=N8 Sn λi j d H Q e q=>by cases e;exact⟨i,j,rfl,rfl,q _ HQ⟩
theorem P':NT X (AG .GtE) HM:=N8 dy λi j d H Q e q=>by cases e;exact⟨i,j,rfl,rfl,q _ HQ⟩
theorem HX:NT X (binaryOp .FloorDiv) Oa:=N8 tP λi j d H Q e q=>by
 split at e
 ·rename_i h;cases e;exact⟨i,j,rfl,rfl,h,q _ HU⟩
 ·cases e
theorem eZ:NT X (binaryOp .Mod) lZ:=N8 rf λi j d H Q e q=>by
 split at e
 ·rename_i h;cases e;exact⟨i,j,rfl,rfl,h,q _ HU⟩
 ·cases e
theorem eR:NT X (binaryOp .Pow) IT:=N8 S4 λi j d H Q e q=>by
 split at e
 ·rename_i h;cases e;exact⟨i,j,rfl,rfl,⟨h.1,by omega,h.2.2⟩,q _ HU⟩
 ·cases e
def Qj:Bx->Y Bx
 |.z (.int i)=>Z (.z (.int (-i)))
 |_=>U
theorem Wz:R1 X (unaryOp .USub) Qj:=EB.imp aw λx H Q q=>by
 obtain⟨a,c,b,e,q⟩:=q;unfold Qj at e;split at e
 ·rename_i i;cases e;exact⟨i,Qi b,q _ H (AV.refl H) trivial G3⟩
 ·cases e
def WD:Nat:=1000000
theorem tj:WD<=AA:=by decide
theorem po{b:A1}{us:O V}{Q:VK}(I:L2.AU X AN σ H s)(j:uG X.K H l vs)(hb:uG X.K H b us)(m:vs.length+us.length<=AA)(q:∀p,H p=U->Q (.ref p) (B4 H p (.lst (vs++us)))):
  A7 (ri X) X.A (binaryOp .Add (.ref l) (.ref b)) (EP X AN σ Q) X.xe s:=by
 obtain⟨AQ,g,⟨⟨y,D,u,sl⟩,t,e1,c1,d,f⟩,z1⟩:=I.list j;obtain⟨a,c,⟨⟨cls2,C,B,n⟩,i,e2,c2,d2,h⟩,z2⟩:=I.list hb;simp only at c1 d f c2 d2 h;subst c1 d f c2 d2 h;have v:=g.length;have z:=c.length;have e:AQ.toArray++a.toArray=(AQ++a).toArray:=by simp
 refine concat_meets ⟨_,e1,rfl⟩ ⟨_,e2,rfl⟩ noFill_list_add seq_list_add PySem.F.slot_list_add PySem.F.entry_list_add (PySem.F.args_list_add_2 _ _) (list_addW l b AQ.toArray a.toArray t i U U sl n (by rw[zI,zI];omega)) ⟨e1,e2,?_⟩;rw[e];exact⟨.ref s.heap.objs.size,_,I.laid (t':=s.toks) (o:=.lst (vs++us)) (λb x q=>ze _ q) (zk _) ⟨by rw[zC];exact m,_,0,g.append c,zw _ rfl⟩,rfl,q _ (I.hok.fresh (zk _))⟩
theorem nV{b:A1}{us:O V}{Q:VK}(I:L2.AU X AN σ H s)(c:Ay X.K H l vs)(hb:Ay X.K H b us)(g:vs.length+us.length<=AA)(n:vs=[]->Q (.ref b) H)(q1:us=[]->Q (.ref l) H)(q2:∀p,H p=U->Q (.ref p) (B4 H p (.tup (vs++us)))):
  A7 (ri X) X.A (binaryOp .Add (.ref l) (.ref b)) (EP X AN σ Q) X.xe s:=by
 by_cases a:vs=[]
 ·obtain⟨AQ,o,⟨⟨x,f,t,sl⟩,e1,c1,m,d⟩,z1⟩:=I.tuple c;obtain⟨j,u,⟨⟨cls2,h,v,i⟩,e2,c2,q,e⟩,z2⟩:=I.tuple hb;simp only at c1 d c2 e;subst c1 d c2 e;have:AQ=[]:=o.Hy.mpr a;exact concat_meets ⟨_,e1,rfl⟩ ⟨_,e2,rfl⟩ noFill_tuple_add seq_tuple_add PySem.F.slot_tuple_add xc (YR _ _)
   (tuple_addW0 l b AQ.toArray j.toArray m q f h sl i (by simp[this])) ⟨e1,e2,⟨.ref b,H,I,rfl,n a⟩⟩
 ·exact c5 AN s σ H (.ref l) (.ref b) (.ref l) (.ref b) Q I S S ⟨l,b,vs,us,rfl,rfl,c,hb,a,g,q1,λ_=>q2⟩
def gZ:Bx->Bx->Y Bx
 |.z (.int i),.z (.int j)=>Z (.z (.int (i+j)))
 |.z (.str i),.z (.str j)=>if i.length+j.length<=WD then Z (.z (.str (i++j)))else U
 |.z (.tup xs),.z (.tup ys)=>if xs.length+ys.length<=WD then Z (.z (.tup (xs++ys)))else U
 |a,b=>(qj a).bind λxs=>(qj b).bind λys=>if xs.length+ys.length<=WD then Z (.o (xs++ys))else U
theorem DM(i j:AJ):(i++j).length=i.length+j.length:=by
 show(i.cps++j.cps).size=_;rw[Kk];rfl
theorem dZ:NT X (binaryOp .Add) gZ:=by
 intro AN s σ H x y v u Q I n o h;obtain⟨a,b,c,t,g,e,q⟩:=h;have B:=tj;unfold gZ at e;split at e
 ·rename_i i j;cases e;exact du AN s σ H x y v u Q I n o ⟨i,j,Qi t,Qi g,q _ H (AV.refl H) trivial G3⟩
 ·rename_i i j;split at e
  ·rename_i A;cases e;exact Wg AN s σ H x y v u Q I n o ⟨i,j,(Cc t).1,(Cc g).1,by omega,q _ H (AV.refl H) trivial (GH (by rw[DM];omega))⟩
  ·cases e
 ·rename_i xs ys;split at e
  ·rename_i A;cases e;obtain⟨l,vs,rfl,sl,d⟩:=HG t;obtain⟨m,us,rfl,w,f⟩:=HG g;cases n;cases o;have h1:=d.length;have h2:=f.length;refine nV I sl w () (λz=>q _ H (AV.refl H) trivial ?_) (λz=>q _ H (AV.refl H) trivial ?_) λp hp=>q _ _ (bO hp) trivial ?_
   ·unfold aX AW;refine⟨m,us,rfl,w,?_⟩;have:xs=[]:=by subst z;exact gG (by simpa using h1.symm)
    rw[this,k6];exact f
   ·unfold aX AW;refine⟨l,vs,rfl,sl,?_⟩;have:ys=[]:=by subst z;exact gG (by simpa using h2.symm)
    rw[this,qv];exact d
   ·unfold aX AW;exact⟨p,_,rfl,.inl (.inl aV),(d.append f).kp (.of (bO hp))⟩
  ·cases e
 ·obtain⟨xs,ea,e⟩:=AT e;obtain⟨ys,eb,e⟩:=AT e;split at e
  ·rename_i A;cases e;obtain⟨l,vs,rfl,sl,d⟩:=t.HB ea;obtain⟨m,us,rfl,w,f⟩:=g.HB eb;cases n;cases o;have h1:=d.length;have h2:=f.length;refine po I sl w () λp hp=>q _ _ (bO hp) (λa ea=>by cases ea;exact hp) ⟨p,_,rfl,aV,(d.append f).kp (.of (bO hp))⟩
  ·cases e
def Bu:Bx->Bx->Y Bx
 |.z (.int i),.z (.int j)=>if(-(2 ^ 64)<i/\i<2 ^ 64)\/(-(2 ^ 64)<j/\j<2 ^ 64)then Z (.z (.int (i*j)))else U
 |.z (.str x),.z (.int n)=>if n<=1000 ∧ -1000<=n/\x.length<=1000 then Z (.z (.str (Txt.mul x n)))else U
 |_,_=>U
theorem zJ(x:Array Nat):∀(n:Nat) (a:Array Nat),((bb n x).foldl (·++·) a).size=a.size+n*x.size
 |0,a=>by simp
 |n+1,a=>by
  rw[ym,qr,zJ x n,Kk,gd];omega
theorem Qk(x:AJ)(n:Int):(Txt.mul x n).length<=n.toNat*x.length+x.length:=by
 unfold Txt.mul;split
 ·exact QP _
 ·split
  ·exact Nat.le_add_left _ _
  ·show((bb n.toNat x.cps).foldl (·++·) #[]).size<=_;rw[zJ];show(#[]:Array Nat).size+n.toNat*x.cps.size<=n.toNat*x.cps.size+x.cps.size;simp
theorem xQ:NT X (binaryOp .Mult) Bu:=by
 intro AN s σ H x y v u Q I l m h;obtain⟨a,b,c,o,g,e,q⟩:=h;unfold Bu at e;split at e
 ·rename_i i j;split at e
  ·rename_i f;cases e;exact ox AN s σ H x y v u Q I l m ⟨i,j,Qi o,Qi g,f,q _ H (AV.refl H) trivial G3⟩
  ·cases e
 ·rename_i d n;split at e
  ·rename_i f;cases e;obtain⟨rfl,hx⟩:=Cc o;have p:=Qi g;subst p;obtain⟨t,rfl⟩:=l;obtain⟨z,rfl⟩:=m;have hs:AA=16777216:=sizeLine_eq;have A:n.toNat*d.length<=1000*1000:=Nat.mul_le_mul () f.2.2;refine SB.mul ⟨?_,λh1 h2=>?_,λh1 h2=>?_⟩ λz k=>⟨.str _,H,I.tok _,⟨_,rfl⟩,q _ H (AV.refl H) trivial (GH (Zs (Qk d n) ()))⟩
   ·have e1:decide (n < -(2 ^ 63:Int))=false:=ZN ();have e2:decide (n>=2 ^ 63)=false:=ZN ();rw[e1,e2];rfl
   ·have w:0<n:=by omega
    have:(1000:Int)<=(2 ^ 63-1) / n:=(Int.le_ediv_iff_mul_le w).mpr ();omega
   ·show decide (d.length*n.toNat>AA)=false;rw[n0];exact ZN ()
  ·cases e
 ·cases e
def OU(i j:AJ):Bool:=!(Builtin.Str.occurrences j i 0 j.length 1).isEmpty
def Bv:Dt->Bool
 |.non=>true
 |.bl _=>true
 |.int _=>true
 |.str _=>true
 |_=>false
def CH(x:Dt)(ys:O Dt):Y Bool:=if Bv x=true/\ys.all Bv=true then Z (ys.any λy=>match GZ y x with|some true=>true|_=>false)else U
def wY:Bx->Y (O Dt)
 |.z (.lst ds)=>Z ds
 |.z (.tup ds)=>Z ds
 |.l ds=>Z ds
 |.o ds=>Z ds
 |_=>U
def FG:Bx->Bx->Y Bool
 |.z (.str i),.z (.str j)=>Z (OU i j)
 |.z d,b=>(wY b).bind λys=>CH d ys
 |_,_=>U
def Cs(a b:Bx):Y Bx:=(FG a b).bind λk=>Z (.z (.bl k))
theorem Tf(r:AW K H d v)(f:Bv d=true):wO v=true:=by
 cases d<;>first|(cases f;done)|skip
 all_goals simp only[AW]at r
 ·subst r;rfl
 ·subst r;rfl
 ·subst r;rfl
 ·obtain⟨rfl,_⟩:=r;rfl
theorem Ob{K:B1}{H:Hp}:∀{ds:O Dt} {vs:O V},aK K H ds vs->ds.all Bv=true->vs.all wO=true
 |[],_,h,_=>by simp only[aK]at h;subst h;rfl
 |d::ds,_,h,f=>by
  simp only[aK]at h;obtain⟨v,r,rfl,h1,h2⟩:=h;rw[k8,ZH]at f;rw[k8,Tf h1 f.1,Ob h2 f.2];rfl
theorem Ql(b:Bool):(match Z b with|some true=>true|_=>false)=b:=by cases b<;>rfl
theorem oj{e:Dt}{x y:V}(b:AW K H d x)(a:AW K H e y)(fd:Bv d=true)(fe:Bv e=true):DE x y=(match GZ d e with|some true=>true|_=>false):=by
 cases d<;>first|(cases fd;done)|skip
 all_goals (cases e<;>first|(cases fe;done)|skip)
 all_goals simp only[AW]at b a
 all_goals first
  |(subst b;subst a;exact(Ql _).symm)
  |(obtain⟨rfl,_⟩:=b;subst a;exact(Ql _).symm)
  |(subst b;obtain⟨rfl,_⟩:=a;exact(Ql _).symm)
  |(obtain⟨rfl,_⟩:=b;obtain⟨rfl,_⟩:=a;exact(Ql _).symm)
theorem YS{K:B1}{H:Hp}{d:Dt}{x:V}(a:AW K H d x)(fd:Bv d=true):∀{ds:O Dt} {vs:O V},aK K H ds vs->ds.all Bv=true->GO x vs=ds.any λy=>match GZ y d with|some true=>true|_=>false
 |[],_,h,_=>by simp only[aK]at h;subst h;rfl
 |e::ds,_,h,f=>by
  simp only[aK]at h;obtain⟨v,r,rfl,h1,h2⟩:=h;rw[k8,ZH]at f;have:=YS a fd h2 f.2;unfold GO at this ⊢;rw[kL,kL,oj h1 a f.1 fd,this]
theorem xR(h:aX K H b v)(e:wY b=Z ds):∃a vs,v=.ref a/\(uG K H a vs\/Ay K H a vs)/\aK K H ds vs:=by
 cases b with
 |z d=>
  cases d<;>first|(cases e;done)|skip
  ·cases e;obtain⟨a,vs,e,q,r⟩:=HG h;exact⟨a,vs,e,.inr q,r⟩
  ·cases e;obtain⟨a,vs,e,q,r⟩:=h.HB rfl;exact⟨a,vs,e,.inl q,r⟩
 |l c=>
  cases e;obtain⟨a,vs,e,q,r⟩:=h.HB rfl;exact⟨a,vs,e,.inl q,r⟩
 |o c=>
  cases e;obtain⟨a,vs,e,q,r⟩:=h.HB rfl;exact⟨a,vs,e,.inl q,r⟩
 |n _=>cases e
 |m _ _=>cases e
theorem TR{a:Bx}{x y:V}{k:Bool}(h:aX X.K H a x)(f:aX X.K H b y)(e:FG a b=Z k):
  (∃i j,x=.str i/\y=.str j/\k=OU i j)\/(∃p xs,y=.ref p/\(uG X.K H p xs\/Ay X.K H p xs)/\wO x=true/\xs.all wO=true/\k=GO x xs):=by
 unfold FG at e;split at e
 ·rename_i i j;cases e;exact .inl ⟨i,j,(Cc h).1,(Cc f).1,rfl⟩
 ·rename_i d _;obtain⟨ys,m,e⟩:=AT e;unfold CH at e;split at e
  ·rename_i c;cases e;obtain⟨p,vs,rfl,sq,g⟩:=xR f m;have l:AW X.K H d x:=h;exact .inr ⟨p,vs,rfl,sq,Tf l c.1,Ob g c.2,(YS l c.1 g c.2).symm⟩
  ·cases e
 ·cases e
theorem Jt:NT X (AG .In) Cs:=by
 intro AN s σ H x y v u Q I d f h;obtain⟨a,b,c,g,l,e,q⟩:=h;obtain⟨k,ek,e⟩:=AT e;cases e;rcases TR g l ek with⟨i,j,rfl,rfl,rfl⟩|⟨p,xs,rfl,sq,f1,f2,rfl⟩
 ·exact oB AN s σ H _ _ v u Q I d f ⟨i,j,rfl,rfl,q _ H (AV.refl H) trivial Qh⟩
 ·exact sv AN s σ H _ _ v u Q I d f ⟨p,xs,rfl,sq,f1,f2,q _ H (AV.refl H) trivial Qh⟩
def Ju:Bx->Bool
 |.z .non=>true
 |_=>false
theorem Oc(h:aX K H b v):decide (v=.non)=Ju b:=by
 cases b with
 |z d=>
  cases d<;>simp only[aX,AW]at h
  ·subst h;rfl
  ·subst h;rfl
  ·subst h;rfl
  ·obtain⟨rfl,_⟩:=h;rfl
  ·obtain⟨_,_,rfl,_⟩:=h;rfl
  ·obtain⟨_,_,rfl,_⟩:=h;rfl
  ·obtain⟨_,_,rfl,_⟩:=h;rfl
 |l ds=>obtain⟨_,_,rfl,_⟩:=h;rfl
 |o ds=>obtain⟨_,_,rfl,_⟩:=h;rfl
 |n ds=>obtain⟨_,_,rfl,_⟩:=h;rfl
 |m ds _=>obtain⟨_,_,rfl,_⟩:=h;rfl
def Dx(a:Bx):Bx->Y Bx
 |.z .non=>Z (.z (.bl (Ju a)))
 |_=>U
def Jv(a:Bx):Bx->Y Bx
 |.z .non=>Z (.z (.bl (!Ju a)))
 |_=>U
theorem DU:NT X (AG .Is) Dx:=Bb.imp ip λx y H Q q=>by
 obtain⟨a,b,c,f,d,e,q⟩:=q;unfold Dx at e;split at e
 ·cases e;simp only[aX,AW]at d;exact⟨d,by rw[Oc f];exact q _ H (AV.refl H) trivial Qh⟩
 ·cases e
theorem Qm:NT X (AG .IsNot) Jv:=Bb.imp UX λx y H Q q=>by
 obtain⟨a,b,c,f,d,e,q⟩:=q;unfold Jv at e;split at e
 ·cases e;simp only[aX,AW]at d;exact⟨d,by rw[Oc f];exact q _ H (AV.refl H) trivial Qh⟩
 ·cases e
def jD:Bx->Bx->Y Bx
 |.z (.str x),.z (.int i)=>(Ma x.cps.toList i).bind λc=>Z (.z (.str ⟨#[c]⟩))
 |b,.z (.int i)=>(wY b).bind λds=>(Ma ds i).bind λd=>Z (.z d)
 |_,_=>U
theorem Sb{i:Int}(r:aK K H ds vs)(e:Ma ds i=Z d):∃v,Ma vs i=Z v/\AW K H d v:=by
 unfold Ma at e ⊢;rw[r.length];obtain⟨j,a,e⟩:=AT e;rw[a];exact r.get e
theorem bM{a b:Expr}(l:QV X a fa)(hb:QV X b fb)(hs:Yx b:=by intro _ _;with_unfolding_all rfl):QV X (.Subscript a b pos) (b2 jD fa fb):=⟨have l:=l.run;have hb:=hb.run;HD (m4 l5 l hb hs) λσ H Q h=>by
 obtain⟨H0,ρ,c,E,e,q⟩:=h;obtain⟨a,ea,e⟩:=AT e;obtain⟨b,eb,e⟩:=AT e;refine⟨H0,ρ,a,E,ea,λv H1 g D z=>⟨H0,ρ,b,E.grow g,eb,λu H2 f C n=>?_⟩⟩;have j:=z.same f;unfold jD at e;split at e
 ·rename_i x i;obtain⟨B,A,e⟩:=AT e;cases e;exact .inr (.inr ⟨_,_,B,(Cc j).1,Qi n,(Cc j).2,A,q _ _ (g.trans f) trivial (GH (by show(1:Nat)<=AA;decide))⟩)
 ·obtain⟨ds,s,e⟩:=AT e;obtain⟨d,t,e⟩:=AT e;cases e;obtain⟨p,vs,rfl,sq,y⟩:=xR j s;obtain⟨w,m,o⟩:=Sb y t;have hi:=Qi n;rcases sq with sq|sq
  ·exact .inl ⟨p,vs,_,w,rfl,hi,sq,m,q _ _ (g.trans f) trivial o⟩
  ·exact .inr (.inl ⟨p,vs,_,w,rfl,hi,sq,m,q _ _ (g.trans f) trivial o⟩)
 ·cases e⟩
theorem oi:AH "bool"=Z (.type "bool"):=by decide +kernel
theorem OG:AH "int"=Z (.type "int"):=by decide +kernel
theorem ni:AH "tuple"=Z (.type "tuple"):=by decide +kernel
theorem Qn:AH "list"=Z (.type "list"):=by decide +kernel
theorem pD:AH "isinstance"=Z (.builtin "isinstance"):=by decide +kernel
theorem xT:AH "len"=Z (.builtin "len"):=by decide +kernel
theorem UD:AH "abs"=Z (.builtin "abs"):=by decide +kernel
theorem NA:AH "all"=Z (.builtin "all"):=by decide +kernel
theorem WK:AH "min"=Z (.builtin "min"):=by decide +kernel
theorem zY:AH "max"=Z (.builtin "max"):=by decide +kernel
theorem j5:AH "sorted"=Z (.builtin "sorted"):=by decide +kernel
theorem zZ:AH "sum"=Z (.builtin "sum"):=by decide +kernel
def BH:Dt->Bool
 |.bl _=>true
 |_=>false
theorem cc(I:L2.AU X AN σ H s){x:V}{v:A0}{Q:VK}(f:jF X.K H d x)(g:As x v)(q:Q (.bl (BH d)) H):A7 (ri X) X.A (call (.builtin "isinstance") [v,.type "bool"]) (EP X AN σ Q) X.xe s:=by
 cases d with
 |non=>simp only[jF,AW]at f;subst f;cases g;exact IsiPair.NoneType_bool ⟨.bl _,H,I.tok _,rfl,q⟩
 |bl b=>simp only[jF,AW]at f;subst f;cases g;exact IsiPair.bool_bool ⟨.bl _,H,I,rfl,q⟩
 |int b=>simp only[jF,AW]at f;subst f;obtain⟨t,rfl⟩:=g;exact IsiPair.int_bool ⟨.bl _,H,I.tok _,rfl,q⟩
 |str b=>simp only[jF,AW]at f;obtain⟨rfl,_⟩:=f;obtain⟨t,rfl⟩:=g;exact IsiPair.str_bool ⟨.bl _,H,I.tok _,rfl,q⟩
 |tup ds=>simp only[jF,AW]at f;obtain⟨a,vs,rfl,sq,_⟩:=f;cases g;obtain⟨_,_,p,_⟩:=I.tuple sq;exact IsiPair.isTuple_bool p (λ_ _ e=>e) ⟨.bl _,H,I.tok _,rfl,q⟩
 |lst ds=>simp only[jF]at f;obtain⟨a,vs,rfl,sq,_⟩:=f;cases g;obtain⟨_,_,p,_⟩:=I.list sq;exact IsiPair.isList_bool p.isList (λ_ _ e=>e) ⟨.bl _,H,I.tok _,rfl,q⟩
 |emp=>simp only[jF,AW]at f;obtain⟨a,o,rfl,sq⟩:=f;cases g;obtain⟨h,e,c⟩:=tD I sq;exact IsiPair.dict_bool e c ⟨.bl _,H,I.tok _,rfl,q⟩
theorem Tg{p:Pos}(he:QV X e f)(j:Gl X "isinstance")(y:X.mg "isinstance"=U)(d:Gl X "bool")(o:X.mg "bool"=U)(hs:A9 [e,.Name "bool" p2] X.env=[(false,eval e X.env),(false,eval (.Name "bool" p2) X.env)]:=by rfl):QV X (.Call (.Name "isinstance" p) [e,.Name "bool" p2] [] pos) (b1 (λb=>if oH b=true then U else Z (.z (.bl (BH (toD b))))) f):=⟨by
 have he:=he.run;have n:iz X (.builtin "isinstance") (λxs H Q=>∃b x,xs=[x,.ty "bool"]/\aX X.K H b x/\oH b=false/\Q (.bl (BH (toD b))) H):=by
  intro AN s σ H xs us Q I r h;obtain⟨b,x,rfl,i,m,q⟩:=h;obtain⟨u,A,rfl,a,l⟩:=C2 r;cases l;exact cc I (i.toD m) a q
 have t:PA X [e,.Name "bool" p2] (zB (tF X.K f) (zB (tC (.ty "bool")) EU)):=gR he (gR (Hv d o (v:=.ty "bool") (u:=.type "bool") oi S) rP) (by rw[hs]<;>rfl);refine HD (uH n j y pD t () () (by rw[hs]<;>rfl) S) λσ H Q h=>?_;obtain⟨H0,ρ,c,E,e,q⟩:=h;obtain⟨b,eb,e⟩:=AT e;split at e
 ·cases e
 rename_i g;cases e;exact⟨H0,ρ,b,E,eb,λv H1 w B a=>⟨b,v,rfl,a,by simpa using g,q _ _ w trivial Qh⟩⟩⟩
def Eh:Dt->Bool
 |.bl _=>true
 |.int _=>true
 |_=>false
theorem u7(I:L2.AU X AN σ H s){x:V}{v:A0}{Q:VK}(f:jF X.K H d x)(g:As x v)(q:Q (.bl (Eh d)) H):A7 (ri X) X.A (call (.builtin "isinstance") [v,.type "int"]) (EP X AN σ Q) X.xe s:=by
 cases d with
 |non=>simp only[jF,AW]at f;subst f;cases g;exact IsiPair.NoneType_int ⟨.bl _,H,I.tok _,rfl,q⟩
 |bl b=>simp only[jF,AW]at f;subst f;cases g;exact IsiPair.bool_int ⟨.bl _,H,I,rfl,q⟩
 |int b=>simp only[jF,AW]at f;subst f;obtain⟨t,rfl⟩:=g;exact IsiPair.int_int ⟨.bl _,H,I,rfl,q⟩
 |str b=>simp only[jF,AW]at f;obtain⟨rfl,_⟩:=f;obtain⟨t,rfl⟩:=g;exact IsiPair.str_int ⟨.bl _,H,I.tok _,rfl,q⟩
 |tup ds=>simp only[jF,AW]at f;obtain⟨a,vs,rfl,sq,_⟩:=f;cases g;obtain⟨_,_,p,_⟩:=I.tuple sq;exact IsiPair.isTuple_int p (λ_ _ e=>e) ⟨.bl _,H,I.tok _,rfl,q⟩
 |lst ds=>simp only[jF]at f;obtain⟨a,vs,rfl,sq,_⟩:=f;cases g;obtain⟨_,_,p,_⟩:=I.list sq;exact IsiPair.isList_int p.isList (λ_ _ e=>e) ⟨.bl _,H,I.tok _,rfl,q⟩
 |emp=>simp only[jF,AW]at f;obtain⟨a,o,rfl,sq⟩:=f;cases g;obtain⟨h,e,c⟩:=tD I sq;exact IsiPair.dict_int e c ⟨.bl _,H,I.tok _,rfl,q⟩
theorem WL{p:Pos}(he:QV X e f)(j:Gl X "isinstance")(y:X.mg "isinstance"=U)(d:Gl X "int")(o:X.mg "int"=U)(hs:A9 [e,.Name "int" p2] X.env=[(false,eval e X.env),(false,eval (.Name "int" p2) X.env)]:=by rfl):QV X (.Call (.Name "isinstance" p) [e,.Name "int" p2] [] pos) (b1 (λb=>if oH b=true then U else Z (.z (.bl (Eh (toD b))))) f):=⟨by
 have he:=he.run;have n:iz X (.builtin "isinstance") (λxs H Q=>∃b x,xs=[x,.ty "int"]/\aX X.K H b x/\oH b=false/\Q (.bl (Eh (toD b))) H):=by
  intro AN s σ H xs us Q I r h;obtain⟨b,x,rfl,i,m,q⟩:=h;obtain⟨u,A,rfl,a,l⟩:=C2 r;cases l;exact u7 I (i.toD m) a q
 have t:PA X [e,.Name "int" p2] (zB (tF X.K f) (zB (tC (.ty "int")) EU)):=gR he (gR (Hv d o (v:=.ty "int") (u:=.type "int") OG S) rP) (by rw[hs]<;>rfl);refine HD (uH n j y pD t () () (by rw[hs]<;>rfl) S) λσ H Q h=>?_;obtain⟨H0,ρ,c,E,e,q⟩:=h;obtain⟨b,eb,e⟩:=AT e;split at e
 ·cases e
 rename_i g;cases e;exact⟨H0,ρ,b,E,eb,λv H1 w B a=>⟨b,v,rfl,a,by simpa using g,q _ _ w trivial Qh⟩⟩⟩
def iR:Dt->Bool
 |.tup _=>true
 |_=>false
theorem US(I:L2.AU X AN σ H s){x:V}{v:A0}{Q:VK}(f:jF X.K H d x)(g:As x v)(q:Q (.bl (iR d)) H):A7 (ri X) X.A (call (.builtin "isinstance") [v,.type "tuple"]) (EP X AN σ Q) X.xe s:=by
 cases d with
 |non=>simp only[jF,AW]at f;subst f;cases g;exact IsiPair.NoneType_tuple ⟨.bl _,H,I.tok _,rfl,q⟩
 |bl b=>simp only[jF,AW]at f;subst f;cases g;exact IsiPair.bool_tuple ⟨.bl _,H,I.tok _,rfl,q⟩
 |int b=>simp only[jF,AW]at f;subst f;obtain⟨t,rfl⟩:=g;exact IsiPair.int_tuple ⟨.bl _,H,I.tok _,rfl,q⟩
 |str b=>simp only[jF,AW]at f;obtain⟨rfl,_⟩:=f;obtain⟨t,rfl⟩:=g;exact IsiPair.str_tuple ⟨.bl _,H,I.tok _,rfl,q⟩
 |tup ds=>simp only[jF,AW]at f;obtain⟨a,vs,rfl,sq,_⟩:=f;cases g;obtain⟨_,_,p,_⟩:=I.tuple sq;exact IsiPair.isTuple_tuple p (λ_ _ e=>e) ⟨.bl _,H,I,rfl,q⟩
 |lst ds=>simp only[jF]at f;obtain⟨a,vs,rfl,sq,_⟩:=f;cases g;obtain⟨_,_,p,_⟩:=I.list sq;exact IsiPair.isList_tuple p.isList (λ_ _ e=>e) ⟨.bl _,H,I.tok _,rfl,q⟩
 |emp=>simp only[jF,AW]at f;obtain⟨a,o,rfl,sq⟩:=f;cases g;obtain⟨h,e,c⟩:=tD I sq;exact IsiPair.dict_tuple e c ⟨.bl _,H,I.tok _,rfl,q⟩
theorem Bw{p:Pos}(he:QV X e f)(j:Gl X "isinstance")(y:X.mg "isinstance"=U)(d:Gl X "tuple")(o:X.mg "tuple"=U)(hs:A9 [e,.Name "tuple" p2] X.env=[(false,eval e X.env),(false,eval (.Name "tuple" p2) X.env)]:=by rfl):QV X (.Call (.Name "isinstance" p) [e,.Name "tuple" p2] [] pos) (b1 (λb=>if oH b=true then U else Z (.z (.bl (iR (toD b))))) f):=⟨by
 have he:=he.run;have n:iz X (.builtin "isinstance") (λxs H Q=>∃b x,xs=[x,.ty "tuple"]/\aX X.K H b x/\oH b=false/\Q (.bl (iR (toD b))) H):=by
  intro AN s σ H xs us Q I r h;obtain⟨b,x,rfl,i,m,q⟩:=h;obtain⟨u,A,rfl,a,l⟩:=C2 r;cases l;exact US I (i.toD m) a q
 have t:PA X [e,.Name "tuple" p2] (zB (tF X.K f) (zB (tC (.ty "tuple")) EU)):=gR he (gR (Hv d o (v:=.ty "tuple") (u:=.type "tuple") ni S) rP) (by rw[hs]<;>rfl);refine HD (uH n j y pD t () () (by rw[hs]<;>rfl) S) λσ H Q h=>?_;obtain⟨H0,ρ,c,E,e,q⟩:=h;obtain⟨b,eb,e⟩:=AT e;split at e
 ·cases e
 rename_i g;cases e;exact⟨H0,ρ,b,E,eb,λv H1 w B a=>⟨b,v,rfl,a,by simpa using g,q _ _ w trivial Qh⟩⟩⟩
def BS:Dt->Bool
 |.lst _=>true
 |_=>false
theorem dE(I:L2.AU X AN σ H s){x:V}{v:A0}{Q:VK}(f:jF X.K H d x)(g:As x v)(q:Q (.bl (BS d)) H):A7 (ri X) X.A (call (.builtin "isinstance") [v,.type "list"]) (EP X AN σ Q) X.xe s:=by
 cases d with
 |non=>simp only[jF,AW]at f;subst f;cases g;exact IsiPair.NoneType_list ⟨.bl _,H,I.tok _,rfl,q⟩
 |bl b=>simp only[jF,AW]at f;subst f;cases g;exact IsiPair.bool_list ⟨.bl _,H,I.tok _,rfl,q⟩
 |int b=>simp only[jF,AW]at f;subst f;obtain⟨t,rfl⟩:=g;exact IsiPair.int_list ⟨.bl _,H,I.tok _,rfl,q⟩
 |str b=>simp only[jF,AW]at f;obtain⟨rfl,_⟩:=f;obtain⟨t,rfl⟩:=g;exact IsiPair.str_list ⟨.bl _,H,I.tok _,rfl,q⟩
 |tup ds=>simp only[jF,AW]at f;obtain⟨a,vs,rfl,sq,_⟩:=f;cases g;obtain⟨_,_,p,_⟩:=I.tuple sq;exact IsiPair.isTuple_list p (λ_ _ e=>e) ⟨.bl _,H,I.tok _,rfl,q⟩
 |lst ds=>simp only[jF]at f;obtain⟨a,vs,rfl,sq,_⟩:=f;cases g;obtain⟨_,_,p,_⟩:=I.list sq;exact IsiPair.isList_list p.isList (λ_ _ e=>e) ⟨.bl _,H,I,rfl,q⟩
 |emp=>simp only[jF,AW]at f;obtain⟨a,o,rfl,sq⟩:=f;cases g;obtain⟨h,e,c⟩:=tD I sq;exact IsiPair.dict_list e c ⟨.bl _,H,I.tok _,rfl,q⟩
theorem Ti{p:Pos}(he:QV X e f)(j:Gl X "isinstance")(y:X.mg "isinstance"=U)(d:Gl X "list")(o:X.mg "list"=U)(hs:A9 [e,.Name "list" p2] X.env=[(false,eval e X.env),(false,eval (.Name "list" p2) X.env)]:=by rfl):QV X (.Call (.Name "isinstance" p) [e,.Name "list" p2] [] pos) (b1 (λb=>if oH b=true then U else Z (.z (.bl (BS (toD b))))) f):=⟨by
 have he:=he.run;have n:iz X (.builtin "isinstance") (λxs H Q=>∃b x,xs=[x,.ty "list"]/\aX X.K H b x/\oH b=false/\Q (.bl (BS (toD b))) H):=by
  intro AN s σ H xs us Q I r h;obtain⟨b,x,rfl,i,m,q⟩:=h;obtain⟨u,A,rfl,a,l⟩:=C2 r;cases l;exact dE I (i.toD m) a q
 have t:PA X [e,.Name "list" p2] (zB (tF X.K f) (zB (tC (.ty "list")) EU)):=gR he (gR (Hv d o (v:=.ty "list") (u:=.type "list") Qn S) rP) (by rw[hs]<;>rfl);refine HD (uH n j y pD t () () (by rw[hs]<;>rfl) S) λσ H Q h=>?_;obtain⟨H0,ρ,c,E,e,q⟩:=h;obtain⟨b,eb,e⟩:=AT e;split at e
 ·cases e
 rename_i g;cases e;exact⟨H0,ρ,b,E,eb,λv H1 w B a=>⟨b,v,rfl,a,by simpa using g,q _ _ w trivial Qh⟩⟩⟩
def im(K:B1)(f:Ev->Y (Y Int)):TO:=λσ H Q=>∃H0 ρ o,bI K H0 H σ ρ/\f ρ=Z o/\∀H',AV H H'->Q o H'
def ah(X:Cx)(e:Y Expr)(f:Ev->Y (Y Int)):Prop:=PO X e (im X.K f)
structure HI (X:Cx) (e:Option Expr) (f:Ev->Option (Option Int)):Prop where
 run:ah X e f
theorem MY{e:Y Expr}{t t':TO}(h:PO X e t)(m:∀ σ H Q,t' σ H Q->t σ H Q):PO X e t':=λAN s σ H Q I q=>h AN s σ H Q I (m σ H Q q)
def oJ:Ev->Y (Y Int):=λ_=>Z U
theorem pX  :HI X U oJ:=⟨MY Tl λσ H Q h=>by
 obtain⟨H0,ρ,o,E,e,q⟩:=h;cases e;exact q H (AV.refl H)⟩
def LB:Bx->Y (Y Int)
 |.z (.int i)=>Z (Z i)
 |_=>U
def tH(f:Ev->Y Bx):Ev->Y (Y Int):=λρ=>(f ρ).bind LB
theorem pY(h:QV X e f):HI X (Z e) (tH f):=⟨have h:=h.run;MY (n5 h) λσ H Q q=>by
 obtain⟨H0,ρ,o,E,e,q⟩:=q;obtain⟨b,eb,e⟩:=AT e;refine⟨H0,ρ,b,E,eb,λv H1 c d a=>?_⟩;unfold LB at e;split at e
 ·rename_i i;cases e;exact⟨i,Qi a,q H1 c⟩
 ·cases e⟩
def C1(xs:O Dt)(lo hi:Y Int):O Dt:=(xs.drop (HT.jK xs.length 0 lo)).take (HT.jK xs.length xs.length hi-HT.jK xs.length 0 lo)
theorem Tj(r:aK K H ds vs)(lo hi:Y Int):aK K H (C1 ds lo hi) (Sq vs lo hi):=by
 unfold C1 Sq;rw[r.length];exact(r.drop _).take _
theorem jp(ds:O Dt)(h1:HT.jK ds.length 0 lo=0)(h2:HT.jK ds.length ds.length hi=ds.length):C1 ds lo hi=ds:=by
 unfold C1;rw[h1,h2];simp
theorem BJ{t sl:A1}{c b:A0}{Q:B7}(a:IsTup s.heap t items)(hs:s.heap.IsSliceOf sl c b .none)(pl:IsPart c lo)(f:IsPart b hi)(h1:HT.jK items.size 0 lo=0)(h2:HT.jK items.size items.size hi=items.size)(h:Q (.ref t) s):A7 (A8 prog w) A (getItem (.ref t) (.ref sl)) Q E s:=by
 obtain⟨os,e,g,j⟩:=id hs;have d:s.TypeIs (.ref sl) "slice":=⟨os,e,g⟩;unfold getItem
 try with_reducible refine QR ?_
 first|refine zd (zh ?_)|skip
 refine zd (wpAny_sequenceKey a.typeIs () ?_);refine zd (xa (name:=Str.ofString "__getitem__") a.typeIs PyProof.Rows.slot_tuple_getitem
  (ky PyProof.Rows.slot_tuple_getitem a.typeIs entry_tuple_getitem ?_ (args_tuple_getitem _ _)))
 show A7 _ _ (Builtin.Tuple.tupleItemsOf (.ref t) >>= _) _ _ s;refine zd (tupleItemsOf_ a ?_);refine zd (jS d ?_);rw[zt ()];refine zd (HT.uI hs pl f ?_);have i:(((HT.jK items.size 0 lo:Nat):Int)==0&&(1:Int)==1&&(HT.jK items.size items.size hi-HT.jK items.size 0 lo)==items.size)=true:=by
  rw[h1,h2];simp
 show A7 _ _ (if(((HT.jK items.size 0 lo:Nat):Int)==0&&(1:Int)==1&&(HT.jK items.size items.size hi-HT.jK items.size 0 lo)==items.size)=true then _ else _) _ _ s;rw[zt i]
 first
  |refine zd (zd (jS a.typeIs (zh ?_)))
  |refine zd (jS a.typeIs (zd (zh ?_)))
  |refine zd (jS a.typeIs ?_)
 rw[zt ()]
 first
  |exact zd (KL (zh ⟨_,rfl,zh h⟩))
  |exact zd (KL (zd (zh (zh ⟨_,rfl,zh h⟩))))
def Ee(b:Bx)(lo hi:Y Int):Y Bx:=match b with
 |.z (.str x)=>Z (.z (.str (Txt.slice x lo hi)))
 |.z (.tup ds)=>Z (.z (.tup (C1 ds lo hi)))
 |b=>(qj b).bind λds=>Z (.o (C1 ds lo hi))
def df(K:B1):V->Y Int->Y Int->Hp->VK->Prop:=λx lo hi H Q=>∃b c,aX K H b x/\Ee b lo hi=Z c/\∀w H',AV H H'->Nw H c w->aX K H' c w->Q w H'
theorem nK:GI X (df X.K):=by
 intro AN s σ H x v E B lo hi sl Q I w hs pl m h;obtain⟨b,c,n,e,q⟩:=h;unfold Ee at e;split at e
 ·rename_i y;cases e;obtain⟨rfl,d⟩:=Cc n;obtain⟨t,rfl⟩:=w;refine⟨"str", _,F.slot_str_getitem.lookup,typeIs_str _ _ _,?_⟩;obtain⟨o,e1,e2,e3⟩:=hs;have z:∀J k,EP X AN σ Q (.str (Txt.slice y lo hi) J) { s with toks:=k }:=λJ k=>⟨.str _,H,I.tok _,⟨_,rfl⟩,q _ H (AV.refl H) trivial (GH (Zs (Txt.slice_le y _ _) d))⟩;cases pl with
  |none=>
   cases m with
   |none=>exact KM (l:=U) (u:=U) (st:=U) ⟨o,e1,e2,e3⟩ S (post_val_or_str ⟨Zs (Txt.slice_le y _ _) d,z⟩)
   |int j A=>exact KM (l:=U) (u:=Z (j,A)) (st:=U) ⟨o,e1,e2,e3⟩ S (post_val_or_str ⟨Zs (Txt.slice_le y _ _) d,z⟩)
  |int i G=>
   cases m with
   |none=>exact KM (l:=Z (i,G)) (u:=U) (st:=U) ⟨o,e1,e2,e3⟩ S (post_val_or_str ⟨Zs (Txt.slice_le y _ _) d,z⟩)
   |int j A=>exact KM (l:=Z (i,G)) (u:=Z (j,A)) (st:=U) ⟨o,e1,e2,e3⟩ S (post_val_or_str ⟨Zs (Txt.slice_le y _ _) d,z⟩)
 ·rename_i ds;cases e;obtain⟨a,vs,rfl,sq,g⟩:=HG n;by_cases f:HT.jK vs.length 0 lo=0/\HT.jK vs.length vs.length hi=vs.length
  ·cases w;obtain⟨AQ,r,D,M⟩:=I.tuple sq;have C:AQ.toArray.size=vs.length:=by rw[zI];exact r.length.symm
   refine⟨"tuple", _,PyProof.Rows.slot_tuple_getitem.lookup,D.typeIs,BJ D hs pl m (by rw[C];exact f.1) (by rw[C];exact f.2) ⟨.ref a,H,I,rfl,q _ H (AV.refl H) trivial ?_⟩⟩;rw[jp ds (by rw[<-g.length];exact f.1) (by rw[<-g.length];exact f.2)];exact n
  ·refine cr AN s σ H _ v E B lo hi sl Q I w hs pl m ⟨a,vs,rfl,sq,f,λp hp=>q _ _ (bO hp) trivial ?_⟩;unfold aX AW;exact⟨p,_,rfl,.inl (.inl aV),(Tj g lo hi).kp (.of (bO hp))⟩
 ·obtain⟨ds,L,e⟩:=AT e;cases e;obtain⟨a,vs,rfl,sq,g⟩:=n.HB L;exact o6 AN s σ H _ v E B lo hi sl Q I w hs pl m ⟨a,vs,rfl,sq,λp hp=>q _ _ (bO hp) (λa ea=>by cases ea;exact hp) ⟨p,_,rfl,aV,(Tj g lo hi).kp (.of (bO hp))⟩⟩
def R3(f:Ev->Y Bx)(fl fh:Ev->Y (Y Int)):Ev->Y Bx:=λρ=>(f ρ).bind λb=>(fl ρ).bind λlo=>(fh ρ).bind λhi=>Ee b lo hi
theorem FT{lo hi:Y Expr}{fl fh:Ev->Y (Y Int)}(he:QV X e f)(g:HI X lo fl)(i:HI X hi fh):QV X (.Subscript e (.Slice lo hi U p2) pos) (R3 f fl fh):=⟨have he:=he.run;have g:=g.run;have i:=i.run;HD (rX nK he g i) λσ H Q h=>by
 obtain⟨H0,ρ,c,E,e,q⟩:=h;obtain⟨b,eb,e⟩:=AT e;obtain⟨lo,el,e⟩:=AT e;obtain⟨hi,m,e⟩:=AT e;refine⟨H0,ρ,b,E,eb,λv H1 a x p=>⟨H0,ρ,lo,E.grow a,el,λH2 d=>⟨H0,ρ,hi,E.grow (a.trans d),m,λu j=>?_⟩⟩⟩;have l:=(a.trans d).trans j;exact⟨b,c,(p.same d).same j,e,λw s t n o=>q w s (l.trans t) (n.old l) o⟩⟩
def u6:O Bx->Y Bx
 |[.z (.str x)]=>Z (.z (.int x.length))
 |[b]=>(wY b).bind λds=>Z (.z (.int ds.length))
 |_=>U
theorem BG(r:tu K H [b] vs):∃v,vs=[v]/\aX K H b v:=by
 cases r with
 |cons p t=>cases t;exact⟨_,rfl,p⟩
theorem EG{c:Bx}(r:tu K H [b,c] vs):∃v u,vs=[v,u]/\aX K H b v/\aX K H c u:=by
 cases r with
 |cons p t=>
  cases t with
  |cons p' a=>cases a;exact⟨_,_,rfl,p,p'⟩
theorem xU:pU X (.builtin "len") u6:=iz.imp (PK.or PL) λxs H Q q=>by
 obtain⟨bs,c,b,e,q⟩:=q;unfold u6 at e;split at e
 ·rename_i x;cases e;obtain⟨v,rfl,a⟩:=BG b;obtain⟨rfl,hx⟩:=Cc a;exact .inr ⟨x,rfl,hx,q _ H (AV.refl H) trivial G3⟩
 ·obtain⟨ds,f,e⟩:=AT e;cases e;obtain⟨v,rfl,a⟩:=BG b;obtain⟨p,vs,rfl,sq,d⟩:=xR a f;exact .inl ⟨p,vs,rfl,sq,by rw[d.length];exact q _ H (AV.refl H) trivial G3⟩
 ·cases e
def Fs:O Bx->Y Bx
 |[.z (.int i)]=>Z (.z (.int (if i<0 then -i else i)))
 |_=>U
theorem XZ:pU X (.builtin "abs") Fs:=iz.imp bz λxs H Q q=>by
 obtain⟨bs,c,a,e,q⟩:=q;unfold Fs at e;split at e
 ·rename_i i;cases e;obtain⟨v,rfl,b⟩:=BG a;have:=Qi b;subst this;exact⟨i,rfl,q _ H (AV.refl H) trivial G3⟩
 ·cases e
def Fh:O Bx->Y Bx
 |[.z (.int i)]=>Z (.z (.int i))
 |[.z (.bl k)]=>Z (.z (.int (if k then 1 else 0)))
 |_=>U
theorem f':pU X (.type "int") Fh:=iz.imp oQ λxs H Q q=>by
 obtain⟨bs,c,b,e,q⟩:=q;unfold Fh at e;split at e
 ·rename_i i;cases e;obtain⟨v,rfl,a⟩:=BG b;have:=Qi a;subst this;exact .inl ⟨i,rfl,q _ H (AV.refl H) trivial G3⟩
 ·rename_i k;cases e;obtain⟨v,rfl,a⟩:=BG b;simp only[aX,AW]at a;subst a;exact .inr ⟨k,rfl,q _ H (AV.refl H) trivial G3⟩
 ·cases e
def Tn:O Bx->Y Bx
 |[b]=>(wY b).bind λds=>Z (.o ds)
 |_=>U
theorem aI:pU X (.type "list") Tn:=iz.imp PN λxs H Q q=>by
 obtain⟨bs,c,d,e,q⟩:=q;unfold Tn at e;split at e
 ·obtain⟨ds,f,e⟩:=AT e;cases e;obtain⟨v,rfl,h⟩:=BG d;obtain⟨p,vs,rfl,sq,g⟩:=xR h f;exact⟨p,vs,rfl,sq,λl b=>q _ _ (bO b) (λa ea=>by cases ea;exact b) ⟨l,vs,rfl,aV,g.kp (.of (bO b))⟩⟩
 ·cases e
def mj:O Bx->Y Bx
 |[b]=>(wY b).bind λds=>Z (.z (.tup ds))
 |_=>U
theorem pZ:pU X (.type "tuple") mj:=iz.imp Mg λxs H Q q=>by
 obtain⟨bs,c,d,e,q⟩:=q;unfold mj at e;split at e
 ·obtain⟨ds,f,e⟩:=AT e;cases e;obtain⟨v,rfl,g⟩:=BG d;obtain⟨p,vs,rfl,sq,a⟩:=xR g f;refine⟨p,vs,rfl,?_⟩;rcases sq with sq|sq
  ·refine .inl ⟨sq,λl b=>q _ _ (bO b) trivial ?_⟩;unfold aX AW;exact⟨l,vs,rfl,.inl (.inl aV),a.kp (.of (bO b))⟩
  ·refine .inr ⟨sq,q _ H (AV.refl H) trivial ?_⟩;unfold aX AW;exact⟨p,vs,rfl,sq,a⟩
 ·cases e
def Od:O Dt->Y (O Bool)
 |[]=>Z []
 |.bl b::ds=>(Od ds).bind λbs=>Z (b::bs)
 |_=>U
theorem Jw{K:B1}{H:Hp}:∀{ds:O Dt} {bs:O Bool} {vs:O V} {us:O A0},Od ds=Z bs->aK K H ds vs->AX vs us->us=bs.map Value.bool
 |[],_,_,_,e,r,w=>by
  cases e;simp only[aK]at r;subst r;cases w;rfl
 |d::ds,_,_,_,e,r,w=>by
  simp only[aK]at r;obtain⟨v,a,rfl,h1,h2⟩:=r;cases d<;>first|(cases e;done)|skip;simp only[Od]at e;obtain⟨bs,e1,e⟩:=AT e;cases e;simp only[AW]at h1;subst h1;cases w with
  |cons p t=>
   cases p;rw[Jw e1 h2 t];rfl
theorem CO(bs:O Bool):((cf bs.length).all λi=>bs.getD i false)=bs.all id:=by
 rw[JJ,qc,qc];constructor
 ·intro h b hb;obtain⟨i,hi,rfl⟩:=List.mem_iff_getElem.mp hb;have:=h i (by simpa using hi);simpa[hQ,hi]using this
 ·intro h i hi;have hi:i<bs.length:=by simpa using hi
  have:=h bs[i] (Y2 hi);simpa[hQ,hi]using this
def CS:O Bx->Y Bx
 |[b]=>(qj b).bind λds=>(Od ds).bind λbs=>Z (.z (.bl (bs.all id)))
 |_=>U
theorem Tp(bs:O Bool):TruthOf prog w A (λi v=>(bs.map Value.bool).toArray[i]?=Z v) λi=>bs.getD i false:=λi v s Q E h q=>by
 have h':(bs.map Value.bool)[i]?=Z v:=by simpa using h
 rw[ZE]at h';cases e:bs[i]? with
 |none=>rw[e]at h';cases h'
 |some b=>
  rw[e]at h';cases h';have:bs.getD i false=b:=by simp[hQ,e]
  have a:Q b s:=by rw[<-this];exact q
  exact km a
theorem OS(p:X.calm=true):pU X (.builtin "all") CS:=by
 intro AN s σ H xs us Q I r h;obtain⟨bs,c,g,e,q⟩:=h;unfold CS at e;split at e
 ·obtain⟨ds,j,e⟩:=AT e;obtain⟨ks,ek,e⟩:=AT e;cases e;obtain⟨v,rfl,C⟩:=BG g;obtain⟨a,vs,rfl,sq,y⟩:=C.HB j;obtain⟨u,rfl,f⟩:=BA r;cases f;obtain⟨AQ,w,pl,D⟩:=I.list sq;have d:=Jw ek y w;have l:a<s.heap.objs.size:=by obtain⟨o,n,e,_⟩:=pl;exact zv e
  refine call_all_walk (KP pl.isList ?_);refine⟨s.heap.objs.size,_,_,_,_,_,λi=>ks.getD i false,rfl,Walks.list (by show X.A.handled=U;exact I.ok.hd p) s.heap.objs.size a (Zl l) AQ.toArray,⟨⟨_,zw _ rfl,rfl,rfl⟩,pl.isList.push _⟩,?_,λh' tk k=>?_⟩
  ·rw[d];exact Tp ks
  ·have z:AQ.toArray.size=ks.length:=by rw[d];simp
   rw[z,CO];have m:L2.AU X AN σ H { s with heap:=s.heap.push { cls:=.type "list_iterator",data:=.fields #[.ref a,.int 0 0] } }:=I.kept (t':=s.toks) λb o e=>ze _ e;refine⟨.bl _,H,?_,rfl,q _ H (AV.refl H) trivial Qh⟩;obtain⟨f0,f1,f2,x,t,B⟩:=I.R9 (b:=s.heap.objs.size) (H':=H) (zk _) (I.hok.fresh (zk _));exact m.turned (it:=s.heap.objs.size) (λb o hb e=>k b o (by simpa using hb) e) f0 f1 x t B
 ·cases e
end P1
namespace P1
open L2
def gv(i:Nat):Ev->Y Bx:=λρ=>pW ρ i
def rZ(g:Bx->Bx->Y Bx)(fa fb:Ev->Y Bx):Ev->Y Bool:=λρ=>(b2 g fa fb ρ).bind Qa
def tV(f:Ev->Y Bx):Ev->Y Bool:=λρ=>(f ρ).bind F0
def aG:Ev->Y (O Bx):=λ_=>Z []
def BK(p:Dt->Bool)(f:Ev->Y Bx):Ev->Y Bx:=b1 (λb=>if oH b=true then U else Z (.z (.bl (p (toD b))))) f
def eY:Ev->Y Ap:=λρ=>Z (.nx ρ)
def gn(f:Ev->Y Bx):Ev->Y Ap:=λρ=>(f ρ).bind FS
def Au(i:Nat)(f:Ev->Y Bx):Ev->Y Ap:=λρ=>(f ρ).bind λb=>(EW ρ i b).bind λa=>Z (.nx a)
def Jx(gt:Dt->Ev->Y Ev)(f:Ev->Y Bx):Ev->Y Ap:=λρ=>(f ρ).bind λb=>match b with|.z d=>(gt d ρ).bind λa=>Z (.nx a)|_=>U
def WM(i j:Nat)(fs:Ev->Y (O Bx)):Ev->Y Ap:=λρ=>(fs ρ).bind (GW i j ρ)
def Ml(i:Nat)(f:Ev->Y Bx):Ev->Y Ap:=λρ=>(f ρ).bind (GN ρ i)
def zy(fi:Ev->Y (O Dt))(gt:Dt->Ev->Y Ev)(gb:Ev->Y Ap):Ev->Y Ap:=λρ=>(fi ρ).bind λds=>qM gt gb ds ρ
def DI(f:Ev->Y Bx):Ev->Y (O Dt):=λρ=>(f ρ).bind FK
def z6(f:Ev->Y Bx):Ev->Y (O Dt):=λρ=>(f ρ).bind HZ
def Co(fs:Ev->Y (O Bx)):Ev->Y (O Dt):=λρ=>(fs ρ).bind LO
def g8(i:Nat):Dt->Ev->Y Ev:=λd ρ=>Z (ρ.set i (Z (.z d)))
def oK:Ev->Y Bool:=λ_=>Z true
theorem bW:xK X [] oK:=⟨.inl ⟨rfl,rfl⟩⟩
theorem fQ(h:QB X c p):xK X [c] p:=⟨have h:=h.run;.inr ⟨c,rfl,h⟩⟩
theorem vS:Mi X scope cl [] []:=trivial
theorem cz{xs:AZ}(n:X.N[i]?=Z x)(k:X.env.kindOf x=Z .cell\/X.env.kindOf x=Z .free)(a:(relabel scope X.env).names.lookup x=Z .cell\/(relabel scope X.env).names.lookup x=Z .free)(c:∃c,cl.lookup x=Z c)(r:Mi X scope cl xs is):Mi X scope cl (x::xs) (i::is):=⟨⟨n,k,a,c⟩,r⟩
theorem mem_of_lookup{a:O (AJ×NameKind)}{x:AJ}{k:NameKind}:a.lookup x=Z k->(x,k)∈a:=kM
theorem iN{xs:AZ}(clos:closureFor scope X.env=pure cl)(kind:scope.kind=.function)(cell:scope.names.all (λy=>decide (y.2≠.cell)||(cl.lookup y.1).isNone)=true)(names:scope.names.all (λy=>decide (y.2=.local->scope.names.lookup y.1=Z .local))=true)(sub:CB X.env.cells cl)(has:(relabel scope X.env).names.all (λy=>!(y.2==.cell||y.2==.free)||(cl.lookup y.1).isSome||scope.names.contains (y.1,.cell))=true)(cap:Mi X scope cl xs is):ur X scope cl xs is where
 clos:=clos
 kind:=kind
 cell:=λy a b=>by
  have:=List.all_eq_true.mp cell y a;simp only[b,ne_eq,not_true_eq_false,KA,il,Option.isNone_iff_eq_none]at this;exact this
 names:=λy a=>QA (List.all_eq_true.mp names y a)
 sub:=sub
 has:=λx hx=>by
  have h:∃k,(relabel scope X.env).names.lookup x=Z k/\(k==NameKind.cell||k==NameKind.free)=true:=by
   rcases hx with hx|hx
   ·exact⟨_,hx,rfl⟩
   ·exact⟨_,hx,rfl⟩
  obtain⟨k,e,c⟩:=h;have:=List.all_eq_true.mp has _ (mem_of_lookup e);simp only[c,k9,il,yk]at this;rcases this with h|h
  ·exact .inr (ef.mp h)
  ·exact .inl (List.contains_iff_mem.mp h)
 cap:=cap
theorem HY{k:Nat}(r:nZ k A):A.units+100<cLine:=by have:=r.un;omega
theorem XE{F:O Bx->Y Bx}(h:∀b:O Int,b.length<=63->F [.z (.lst (b.map .int))]=Z (.z (.bl true)))(i:∀b:O Int,b.length<=63->F [.l (b.map .int)]=Z (.z (.bl true)))(K:B1)(H:Hp)(a:A1)(b:O Int)(f:b.length<=63)(_:D7 H)(c:uG K H a (b.map V.int)):
  DA K 1 F [.ref a] H (λv _=>v=.bl true) λ_ _ _=>False:=by
 have e:∀d:O Int,aK K H (d.map Dt.int) (d.map V.int):=λd=>by
  induction d with
  |nil=>exact aK.nil
  |cons m d j=>exact aK.cons (by unfold AW;rfl) j
 have g:∀v (H':Hp),AV H H'->Nw H (.z (.bl true)) v->aX K H' (.z (.bl true)) v->v=.bl true:=λv H' _ _ r=>by simpa only[aX,AW]using r
 rcases c with c|c
 ·exact⟨rfl,[.l (b.map .int)],_,.cons ⟨a,_,rfl,c,e b⟩ .nil,rfl,i b f,g⟩
 ·refine⟨rfl,[.z (.lst (b.map .int))],_,.cons ?_ .nil,rfl,h b f,g⟩;unfold aX AW;exact⟨a,_,rfl,.inr c,e b⟩
theorem O'{st:AB}{f:A1}{k m:Nat}(F:D6 K x qual st f fd)(S:bG N ps (aR st))(c:N.length=n)(b:ps.length=m)(d:∀(a:A0) (A:A5) (outer:O Env) (s:A2) (H:Hp) (E:XK),nZ k (A.deeper (AK qual (aR st) s.heap.objs.size f a))->V9 (GP FJ P w K mg base N qual (aR st) f a A outer s H E).nox (jG st) g):
  rQ P w K mg base FJ (k+1) f fd ps (DA K m (dN n g)):=by
 subst c b;exact i8 F S d
section
variable{st:Expr}{fs:Ev->Y Bx}
theorem Qo{α β:Type}{f:α->Y β}{g:α->β}:∀l:O α,(∀a∈l,f a=Z (g a))->l.filterMap f=l.map g
 |[],_=>rfl
 |a::l,h=>by
  rw[KG,h a (zg ..),zo,Qo l λb hb=>h b (zi _ hb)]
theorem aK.rev{K:B1}{H:Hp}:∀{ds:O Dt} {vs:O V},aK K H ds vs->aK K H ds.reverse vs.reverse
 |[],_,h=>by simp only[aK]at h;subst h;exact aK.nil
 |d::ds,_,h=>by
  simp only[aK]at h;obtain⟨v,r,rfl,hd,a⟩:=h;rw[Ki,Ki];exact aK.append (aK.rev a) (aK.cons hd aK.nil)
theorem rg{st:O AB}:V9 X st (λ_=>U):=λD AN s σ H I q=>by
 obtain⟨H0,ρ,r,E,e,q⟩:=q;cases e
end
def ER:Bx->Bx->Y Bx
 |.z (.int i),.z (.int j)=>Z (.z (.bl (decide (i<j))))
 |.z (.str x),.z (.str y)=>Z (.z (.bl (decide (x.cps.toList<y.cps.toList))))
 |_,_=>U
theorem OT:NT X (AG .Lt) ER:=by
 intro AN s σ H x y v u Q I f g h;obtain⟨a,b,c,l,d,e,q⟩:=h;unfold ER at e;split at e
 ·rename_i i j;cases e;exact fF AN s σ H x y v u Q I f g ⟨i,j,Qi l,Qi d,q _ H (AV.refl H) trivial (by unfold aX;exact HQ)⟩
 ·rename_i i j;cases e;obtain⟨rfl,_⟩:=Cc l;obtain⟨rfl,_⟩:=Cc d;obtain⟨t,rfl⟩:=f;obtain⟨m,rfl⟩:=g;exact PySem.P.lt_str ⟨.bl _,H,I,rfl,q _ H (AV.refl H) trivial (by unfold aX;exact HQ)⟩
 ·cases e
def FW:O Dt->Y AZ
 |[]=>Z []
 |.str x::r=>(FW r).bind λys=>Z (x::ys)
 |_=>U
theorem yR{K:B1}{H:Hp}:∀{ds:O Dt} {vs:O V} {ys:AZ},aK K H ds vs->FW ds=Z ys->vs=ys.map V.str/\∀y∈ys,y.length<=AA
 |[],_,_,h,e=>by cases e;simp only[aK]at h;subst h;exact⟨rfl,λy a=>by cases a⟩
 |.str x::ds,_,_,h,e=>by
  simp only[FW]at e;obtain⟨ys,e1,e2⟩:=AT e;cases e2;simp only[aK]at h;obtain⟨v,r,rfl,hd,b⟩:=h;obtain⟨rfl,hx⟩:v=.str x/\x.length<=AA:=by simpa only[AW]using hd
  obtain⟨rfl,h2⟩:=yR b e1;refine⟨rfl,λy a=>?_⟩;rcases List.mem_cons.mp a with rfl|a
  ·exact hx
  ·exact h2 y a
 |.non::_,_,_,_,e=>by cases e
 |.bl _::_,_,_,_,e=>by cases e
 |.int _::_,_,_,_,e=>by cases e
 |.tup _::_,_,_,_,e=>by cases e
 |.lst _::_,_,_,_,e=>by cases e
 |.emp::_,_,_,_,e=>by cases e
theorem BL{K:B1}{H:Hp}:∀{ys:AZ},(∀y∈ys,y.length<=AA)->aK K H (ys.map Dt.str) (ys.map V.str)
 |[],_=>aK.nil
 |y::ys,h=>aK.cons (by unfold AW;exact⟨rfl,h y (zg ..)⟩) (BL λz a=>h z (zi _ a))
theorem u9:∀{ys:AZ} {AQ:O A0},AX (ys.map V.str) AQ->StrsAre AQ ys
 |[],_,h=>by cases h;exact .nil
 |y::ys,_,h=>by
  cases h with
  |cons r t=>
   obtain⟨tk,rfl⟩:=r;exact .cons y tk (u9 t)
theorem yS:∀{AQ:O A0} {ys:AZ},StrsAre AQ ys->AX (ys.map V.str) AQ
 |_,_,.nil=>.nil
 |_,_,.cons y t h=>.cons ⟨t,rfl⟩ (yS h)
theorem Qp:iz X (.builtin "sorted") (λxs H Q=>∃p ys,xs=[.ref p]/\uG X.K H p (ys.map V.str)/\ys.length<64/\∀l zs,H l=U->zs.Perm ys->sortedS zs=true->Q (.ref l) (B4 H l (.lst (zs.map V.str)))):=by
 intro AN s σ H xs us Q I r h;obtain⟨p,ys,rfl,t,v,q⟩:=h;obtain⟨u,rfl,j⟩:=BA r;cases j;obtain⟨AQ,f,pl,d⟩:=I.list t;have i:=f.length;rw[zl]at i d;refine sorted_strs pl.isList (u9 f) () λc zs hs hp g=>?_;obtain⟨n,m⟩:=sortedAll_at s.heap AQ c;refine⟨.ref (s.heap.objs.size+1),_,I.laid (t':=s.toks) (a:=s.heap.objs.size+1) (o:=.lst (zs.map V.str)) (λb o e=>sortedAll_old e) (Kn _) ?_,rfl,q _ zs (I.hok.fresh (Kn _)) hp g⟩;refine⟨by rw[zl,hp.length_eq];exact d,c.toList,n,yS hs,?_⟩;rw[m]
def pF(a b:AJ):Prop:=ltCps b.cps.toList a.cps.toList=false
theorem BP:∀(p:AJ) (l:AZ),risingS p l=true->(p::l).Pairwise pF
 |p,[],_=>by simp
 |p,x::r,h=>by
  have h':(!ltCps x.cps.toList p.cps.toList&&risingS x r)=true:=h;rw[ZH]at h';have c:=BP x r h'.2;have hx:pF p x:=by simpa[pF]using h'.1
  refine dl.mpr ⟨λy b=>?_,c⟩;rcases List.mem_cons.mp b with rfl|b
  ·exact hx
  ·have a:pF x y:=kB c b;unfold pF at hx a ⊢;rw[ltCps_eq]at hx a ⊢;simp only[JU]at hx a ⊢;exact nl (α:=Nat) hx a
theorem Qq{l:AZ}(h:sortedS l=true):l.Pairwise pF:=by
 cases l with
 |nil=>exact .nil
 |cons p l=>exact BP p l h
theorem BR{a b:AJ}(h:pF a b)(h':pF b a):a=b:=by
 unfold pF at h h';rw[ltCps_eq]at h h';simp only[JU]at h h';have:=o7 (as:=a.cps.toList) (bs:=b.cps.toList) h h';cases a;cases b;simp only[Str.mk.injEq];exact o8.mp this
theorem yU:∀{l l':AZ},l.Perm l'->l.Pairwise pF->l'.Pairwise pF->l=l'
 |[],l',h,_,_=>by rw[List.nil_perm.mp h]
 |a::l,[],h,_,_=>by cases List.perm_nil.mp h
 |a::l,b::l',h,p,p'=>by
  have e:a=b:=by
   have c:a∈b::l':=h.mem_iff.mp (zg ..);have hb:b∈a::l:=h.mem_iff.mpr (zg ..);rcases List.mem_cons.mp c with h1|h1
   ·exact h1
   ·rcases List.mem_cons.mp hb with h2|h2
    ·exact h2.symm
    ·exact BR (kB p h2) (kB p' h1)
  subst e;rw[yU ((List.perm_cons a).mp h) (dl.mp p).2 (dl.mp p').2]
def F1(a b:AJ):Bool:=!ltCps b.cps.toList a.cps.toList
def iT(ys:AZ):AZ:=ys.mergeSort F1
theorem fj(ys:AZ):(iT ys).Perm ys:=yo ys F1
theorem oM(ys:AZ):(iT ys).Pairwise pF:=by
 have h:=KO (le:=F1) (λa b c h1 h2=>by
  unfold F1 at *
  rw[ltCps_eq]at *
  simp only[QY,JU]at *
  exact nl (α:=Nat) h1 h2) (λa b=>by
  unfold F1;rw[ltCps_eq,ltCps_eq];simp only[yk,QY,JU];exact List.le_total a.cps.toList b.cps.toList) ys
 exact h.imp λ{a b} hh=>by simpa[F1,pF]using hh
theorem Tq{zs:AZ}(hp:zs.Perm ys)(hs:sortedS zs=true):zs=iT ys:=yU (hp.trans (fj ys).symm) (Qq hs) (oM ys)
def FZ:O Bx->Y Bx
 |[b]=>(qj b).bind λds=>(FW ds).bind λys=>if ys.length<64 then Z (.o ((iT ys).map Dt.str))else U
 |_=>U
theorem Ei:pU X (.builtin "sorted") FZ:=iz.imp Qp λxs H Q q=>by
 obtain⟨bs,c,f,e,q⟩:=q;unfold FZ at e;split at e
 ·rename_i b;obtain⟨ds,j,e⟩:=AT e;obtain⟨ys,n,e⟩:=AT e;split at e
  ·rename_i o;cases e;obtain⟨v,rfl,g⟩:=BG f;obtain⟨p,vs,rfl,sq,m⟩:=g.HB j;obtain⟨rfl,i⟩:=yR m n;refine⟨p,ys,rfl,sq,o,λl zs d hp hs=>?_⟩;rw[Tq hp hs];refine q _ _ (bO d) (λa ea=>by cases ea;exact d) ⟨l,_,rfl,aV,BL λy h=>i y ((fj ys).mem_iff.mp h)⟩
  ·cases e
 ·cases e
def Tt(x:AJ)(b:Bx):Y Bx:=(qj b).bind λds=>(FW ds).bind λys=>if(ys.map (·.length)).sum+ys.length*x.length<=100000 then Z (.z (.str (Txt.join x ys)))else U
theorem eC:ML X "str.join" (λx xs H Q=>∃y p ys,x=.str y/\xs=[.ref p]/\uG X.K H p (ys.map V.str)/\(ys.map (·.length)).sum+ys.length*y.length<=100000/\Q (.str (Txt.join y ys)) H):=by
 intro AN s σ H x xs v us Q I b c h;obtain⟨y,p,ys,rfl,rfl,sq,hb,q⟩:=h;obtain⟨t,rfl⟩:=b;obtain⟨u,rfl,a⟩:=BA c;cases a;obtain⟨AQ,d,pl,e⟩:=I.list sq;exact join_list pl.isList (u9 d) () λf k=>⟨.str _,H,I.tok _,⟨_,rfl⟩,q⟩
theorem tT{p1:Pos}(h:QV X e f)(hx:x.length<=AA:=by decide)(d:attributeBase (.Constant (.str x) j p1) "join" X.env (eval (.Constant (.str x) j p1) X.env)=eval (.Constant (.str x) j p1) X.env:=by rfl)(u:((AD cpos (A9 [e] X.env)).all (λx=>!x.1)&&(backToKw cpos (keywordEach [] X.env)).all (λx=>x.1.isSome)&&decide ([e].length+([]:O AC).length+(if([]:O AC).isEmpty then 0 else 1)<30))=true:=by rfl)(t:(apos.endLine==cpos.line)=true:=by rfl)(hs:A9 [e] X.env=(false,eval e X.env)::A9 [] X.env:=by rfl):QV X (.Call (.Attribute (.Constant (.str x) j p1) "join" apos) [e] [] cpos) (b1 (Tt x) f):=⟨have h:=h.run;HD (Yy (T :="str") F.plainAttrs_str F.slot_str_join F.type_str_join eC (MR (hx:=hx)) (SJ h YG hs) d u t hs S) λσ H Q q=>by
  obtain⟨H0,ρ,c,E,e,q⟩:=q;obtain⟨a,ea,e⟩:=AT e;refine⟨H0,ρ,_,E,rfl,λv H1 b B s=>?_⟩;obtain⟨rfl,z⟩:v=.str x/\x.length<=AA:=by simpa only[aX,AW]using s
  refine⟨rfl,H0,ρ,[a],E.grow b,by simp only[aq,ea,kG],λvs H2 l i=>?_⟩;obtain⟨w,rfl,o⟩:=BG i;unfold Tt at e;obtain⟨ds,g,e⟩:=AT e;obtain⟨ys,n,e⟩:=AT e;split at e
  ·rename_i hb;cases e;obtain⟨p,A,rfl,sq,m⟩:=o.HB g;obtain⟨rfl,y⟩:=yR m n;refine⟨x,p,ys,rfl,rfl,sq,hb,q _ _ (b.trans l) trivial ?_⟩;unfold aX AW;exact⟨rfl,joinOk_length (joinOk_of ())⟩
  ·cases e⟩
def Jy:O Bx->Y Bx
 |[.z (.int a),.z (.int b)]=>Z (.z (.int (if b>a then b else a)))
 |_=>U
def EX:O Bx->Y Bx
 |[.z (.int a),.z (.int b)]=>Z (.z (.int (if b<a then b else a)))
 |_=>U
theorem L0{a:Bx}(h:tu K H [a,b] vs):∃v w,vs=[v,w]/\aX K H a v/\aX K H b w:=by
 cases h with
 |cons p t=>
  cases t with
  |cons p' c=>cases c;exact⟨_,_,rfl,p,p'⟩
theorem z7(i:X.calm=true):pU X (.builtin "max") Jy:=by
 intro AN s σ H xs us Q I r h;obtain⟨bs,c,f,e,q⟩:=h;unfold Jy at e;split at e
 ·rename_i a b;cases e;obtain⟨v,w,rfl,n,g⟩:=L0 f;have j:=Qi n;have l:=Qi g;subst j l;obtain⟨u,o,rfl,d,m⟩:=AX.two r;obtain⟨t,rfl⟩:=d;obtain⟨p,rfl⟩:=m;refine max_two_ints (I.ok.hd i) λh' tk kp=>?_;by_cases hb:b>a
  ·rw[zt hb]at q ⊢;exact⟨.int b,H,I.kept kp,⟨_,rfl⟩,q _ H (AV.refl H) trivial G3⟩
  ·rw[zD hb]at q ⊢;exact⟨.int a,H,I.kept kp,⟨_,rfl⟩,q _ H (AV.refl H) trivial G3⟩
 ·cases e
theorem Na(i:X.calm=true):pU X (.builtin "min") EX:=by
 intro AN s σ H xs us Q I r h;obtain⟨bs,c,f,e,q⟩:=h;unfold EX at e;split at e
 ·rename_i a b;cases e;obtain⟨v,w,rfl,n,g⟩:=L0 f;have j:=Qi n;have l:=Qi g;subst j l;obtain⟨u,o,rfl,d,m⟩:=AX.two r;obtain⟨t,rfl⟩:=d;obtain⟨p,rfl⟩:=m;refine min_two_ints (I.ok.hd i) λh' tk kp=>?_;by_cases hb:b<a
  ·rw[zt hb]at q ⊢;exact⟨.int b,H,I.kept kp,⟨_,rfl⟩,q _ H (AV.refl H) trivial G3⟩
  ·rw[zD hb]at q ⊢;exact⟨.int a,H,I.kept kp,⟨_,rfl⟩,q _ H (AV.refl H) trivial G3⟩
 ·cases e
def Jz(AO:O (AY×Dt))(x:AY):Y Dt:=(AO.find? λa=>decide (a.1=x)).map (·.2)
def Qs(AO:O (AY×Dt))(x:AY)(d:Dt):O (AY×Dt):=
 if(AO.any λa=>decide (a.1=x))=true then AO.map (λa=>if a.1=x then(a.1,d)else a)else AO++[(x,d)]
theorem gK.nil:gK K H [] []:=⟨rfl,aK.nil,λp hp=>by cases hp⟩
theorem gK.inv{p:AY×Dt}{ks:O (AY×V)}(h:gK K H (p::AO) ks):∃v r,ks=(p.1,v)::r/\AW K H p.2 v/\E6 p.1/\gK K H AO r:=by
 obtain⟨h1,h2,a⟩:=h;cases ks with
 |nil=>simp at h1
 |cons q r=>
  simp only[zo,kC]at h1;obtain⟨e,h1⟩:=h1;simp only[zo,aK]at h2;obtain⟨v,d,e2,c,b⟩:=h2;simp only[kC]at e2;obtain⟨rfl,rfl⟩:=e2;exact⟨q.2,r,by rw[<-e],c,a p (zg ..),h1,b,λx hx=>a x (zi _ hx)⟩
theorem gK.cons{p:AY×Dt}{AO:O (AY×Dt)}{v:V}{r:O (AY×V)}(a:AW K H p.2 v)(hp:E6 p.1)(h:gK K H AO r):gK K H (p::AO) ((p.1,v)::r):=
 ⟨by simp[h.1],aK.cons a h.2.1,λx hx=>by
  rcases List.mem_cons.mp hx with rfl|hx
  ·exact hp
  ·exact h.2.2 x hx⟩
theorem gK.append{AO:O (AY×Dt)}{ks:O (AY×V)}{x:AY}{d:Dt}{v:V}(h:gK K H AO ks)(a:AW K H d v)(hx:E6 x):gK K H (AO++[(x,d)]) (ks++[(x,v)]):=
 ⟨by simp[h.1],by rw[qh,qh];exact aK.append h.2.1 (aK.cons a aK.nil),λp hp=>by
  rcases List.mem_append.mp hp with hp|hp
  ·exact h.2.2 p hp
  ·cases ba.mp hp;exact hx⟩
theorem gK.len{ks:O (AY×V)}(h:gK K H AO ks):ks.length=AO.length:=by
 have:=congrArg dV h.1;simpa using this
theorem gK.look:∀{AO:O (AY×Dt)} {ks:O (AY×V)} {x:AY} {d:Dt},gK K H AO ks->Jz AO x=Z d->∃v,DW ks x=Z v/\AW K H d v
 |[],_,_,_,_,e=>by cases e
 |p::AO,_,x,d,h,e=>by
  obtain⟨v,r,rfl,b,c,a⟩:=h.inv;unfold Jz at e;by_cases hp:p.1=x
  ·rw[List.find?_cons_of_pos (by simpa using hp)]at e;cases e;exact⟨v,Bd (by rw[hp]),b⟩
  ·rw[List.find?_cons_of_neg (by simpa using hp)]at e;obtain⟨w,e1,e2⟩:=gK.look a e;exact⟨w,(Bf (by simpa using hp)).trans e1,e2⟩
theorem gK.any:∀{AO:O (AY×Dt)} {ks:O (AY×V)} {x:AY},gK K H AO ks->(ks.any λa=>decide (a.1=x))=AO.any λa=>decide (a.1=x)
 |[],ks,_,h=>by
  have:=h.len;cases ks with
  |nil=>rfl
  |cons _ _=>simp at this
 |p::AO,_,x,h=>by
  obtain⟨v,r,rfl,d,c,b⟩:=h.inv;rw[kL,kL,gK.any b]
theorem gK.acw:∀{AO:O (AY×Dt)} {ks:O (AY×V)} {x:AY} {d:Dt} {v:V},gK K H AO ks->AW K H d v->gK K H (AO.map λa=>if a.1=x then(a.1,d)else a) (ks.map λa=>if a.1=x then(a.1,v)else a)
 |[],ks,_,_,_,h,_=>by
  have:=h.len;cases ks with
  |nil=>exact gK.nil
  |cons _ _=>simp at this
 |p::AO,_,x,d,v,h,hd=>by
  obtain⟨w,r,rfl,e,b,f⟩:=h.inv;rw[zo,zo];have c:=gK.acw (x:=x) f hd;by_cases hp:p.1=x
  ·rw[zt hp,zt (by simp[hp])];exact gK.cons (p:=(p.1,d)) hd b c
  ·rw[zD hp,zD (by simpa using hp)];exact gK.cons e b c
theorem gK.put{ks:O (AY×V)}{x:AY}(h:gK K H AO ks)(a:AW K H d v)(hx:E6 x):gK K H (Qs AO x d) (BB ks x v):=by
 unfold Qs BB;rw[h.any];split
 ·exact h.acw a
 ·exact h.append a hx
section
variable{ek o:Expr}{pos':Pos}
def DB:Bx->Y AY
 |.z (.str x)=>Z (.inr x)
 |.z (.int i)=>Z (.inl i)
 |_=>U
theorem Qt{k:AY}(e:DB b=Z k)(r:aX K H b v):v=kV k/\E6 k:=by
 unfold DB at e;split at e
 ·cases e;simp only[aX,AW]at r;exact r
 ·cases e;simp only[aX,AW]at r;exact⟨r,trivial⟩
 ·cases e
def oh:Bx->Bx->Y Bx
 |.n AO,b=>(DB b).bind λk=>(Jz AO k).bind λd=>Z (.z d)
 |_,_=>U
theorem WQ{a c:Bx}(h:oh a b=Z c):∃AO k d,a=.n AO/\DB b=Z k/\Jz AO k=Z d/\c=.z d:=by
 unfold oh at h;split at h
 ·obtain⟨k,ek,h⟩:=AT h;obtain⟨d,e,h⟩:=AT h;cases h;exact⟨_,k,d,rfl,ek,e,rfl⟩
 ·cases h
theorem j6(z:X.A.units+100<cLine)(ho:QV X o fo)(f:QV X ek fk)(hs:L8 ek:=by intro _ _;rfl):QV X (.Subscript o ek pos) (b2 oh fo fk):=⟨have ho:=ho.run;have f:=f.run;HD (dr () ho f hs) λσ H Q h=>by
 obtain⟨H0,ρ,c,E,e,q⟩:=h;obtain⟨a,ea,e⟩:=AT e;obtain⟨b,eb,e⟩:=AT e;refine⟨H0,ρ,a,E,ea,λv H1 i C t=>⟨H0,ρ,b,E.grow i,eb,λw H2 g B l=>?_⟩⟩;obtain⟨AO,x,d,rfl,n,j,rfl⟩:=WQ e;obtain⟨p,ks,rfl,u,y⟩:=t.same g;obtain⟨s,ev,m⟩:=y.look j;obtain⟨rfl,_⟩:=Qt n l;exact⟨p,s,rfl,.inl ⟨ks,x,u,rfl,ev.symm⟩,q _ _ (i.trans g) trivial m⟩⟩
def Tv(ρ:Ev)(i:Nat):Bx->Bx->Y Ap
 |.z d,b=>(DB b).bind λx=>match ρ[i]? with
  |some (Z (.m AO w))=>if AO.length<1000 then Z (.nx (ρ.set i (Z (.m (Qs AO x d) w))))else U
  |_=>U
 |_,_=>U
def YT(i:Nat)(f fk:Ev->Y Bx):Ev->Y Ap:=λρ=>(f ρ).bind λb=>(fk ρ).bind λk=>Tv ρ i b k
theorem WR{k:Bx}{r:Ap}(h:Tv ρ i b k=Z r):∃d y AO w,b=.z d/\DB k=Z y/\ρ[i]?=Z (Z (.m AO w))/\AO.length<1000/\r=.nx (ρ.set i (Z (.m (Qs AO y d) w))):=by
 unfold Tv at h;split at h
 ·obtain⟨y,c,h⟩:=AT h;split at h
  ·rename_i a;split at h
   ·rename_i e;cases h;exact⟨_,y,_,_,rfl,c,a,e,rfl⟩
   ·cases h
  ·cases h
 ·cases h
theorem YW(i:Nat){p:Pos}(M:X.A.units+100<cLine)(he:QV X e f)(g:QV X ek fk)(F:X.N[i]?=Z x:=by rfl)(s:V4 X.env.scope x:=by first|exact jI rfl|exact QE (jI S)|exact QE (QE S))(hd:re x:=by decide)(I:(x==("__classdict__":AJ))=false:=by decide)(hs:swapsWith e (Z (.Subscript (.Name x p) ek pos')) pos.line X.env=pure false:=by rfl):Mh X (.Assign [.Subscript (.Name x p) ek pos'] e pos) (λρ=>(f ρ).bind λb=>(fk ρ).bind λk=>Tv ρ i b k):=⟨have he:=he.run;have g:=g.run;YF (gL () (ou (i:=i) F s hd I) g he hs) λD σ H h=>by
  obtain⟨H0,ρ,r,E,e,q⟩:=h;obtain⟨b,eb,e⟩:=AT e;obtain⟨k,ek,e⟩:=AT e;refine⟨H0,ρ,b,E,eb,λv H1 K W z=>?_⟩;obtain⟨d,y,AO,Q,rfl,G,m,t,rfl⟩:=WR e;have j:=E.grow K;obtain⟨w,e1,a,ks,rfl,J,n,L⟩:=j.val i _ m;refine⟨_,e1,H0,ρ,_,j,ek,λu H2 c P o=>?_⟩;obtain⟨rfl,B⟩:=Qt G o;have C:=j.grow c;have l:=c _ _ J;have kp:Kp H2 (B4 H2 a (.dK (BB ks y v))):=.dk l;refine⟨a,_,rfl,FI.k (k:=y) l (by rw[n.len];exact fO t ()),q _ _ ?_⟩;exact C.afe m S e1 kp ⟨a,_,rfl,aV,((n.kp (.of c)).put (x:=y) (aX.same c z) B).kp kp,L⟩⟩
end
section
variable{a b:Expr}{fc:Ev->Y Bx}{fs:Ev->Y (O Bx)}
theorem RO{j}(hx:x.length<=AA:=by decide):QV X (.Constant (.str x) j pos) (cB (.str x)):=⟨P1.MR (hx:=hx)⟩
end
section
variable{a b:Expr}{fc:Ev->Y Bx}{fs:Ev->Y (O Bx)}
variable{AS:O Expr}
theorem ak(h1:QV X e f)(h2:YD X es fs)(hs:A9 (e::es) X.env=(false,eval e X.env)::A9 es X.env:=by rfl):YD X (e::es) (aq f fs):=⟨P1.SJ (h1:=h1.run) (h2:=h2.run) (hs:=hs)⟩
theorem aA  :YD X [] (λ_=>Z []):=⟨P1.YG ⟩
end
theorem PD{st:AB}{f:A1}{k m:Nat}(F:D6 K x qual st f fd)(S:bG N ps (aR st))(d:N.length=n)(e:ps.length=m)(b:∀(a:A0) (A:A5) (outer:O Env) (s:A2) (H:Hp) (E:XK),nZ k (A.deeper (AK qual (aR st) s.heap.objs.size f a))->Qe (GP FJ P w K mg base N qual (aR st) f a A outer s H E).nox (jG st) g):
  rQ P w K mg base FJ (k+1) f fd ps (DA K m (dN n g)):=O' F S d e λa A outer s H E c=>(b a A outer s H E c).run
theorem Ga:∀(vs:O A0) (ys:AZ),vs.length=ys.length->(∀(j:Nat) v,vs[j]?=Z v->∃y t,ys[j]?=Z y/\v=.str y t)->StrsAre vs ys
 |[],[],_,_=>.nil
 |v::vs,y::ys,hl,h=>by
  obtain⟨b,t,e,rfl⟩:=h 0 v rfl;cases e;exact .cons y t (Ga vs ys (by simpa using hl) λj v a=>h (j+1) v (by simpa using a))
theorem WT{AO:O (AY×A0)}(b:AO.map (·.1)=ys.map Sum.inr){c:Array A0}(h:ItemsOf (λi v=>∃k x,AO[i]?=Z (k,x)/\(bw prog w).is k v=true) c AO.length):StrsAre c.toList ys:=by
 have g:AO.length=ys.length:=by have:=congrArg dV b;simpa using this
 refine Ga _ _ (by rw[Qb,h.1,g]) λj v f=>?_;obtain⟨k,x,e,hi⟩:=h.2 j v (by simpa using f);have e1:(AO.map (·.1))[j]?=Z k:=by rw[ZE,e];rfl
 rw[b,ZE]at e1;cases a:ys[j]? with
 |none=>rw[a]at e1;cases e1
 |some y=>
  rw[a]at e1;cases e1;have d:m7 (Sum.inr y) v=true:=hi;rcases bZ d with⟨i,t,e2,e3⟩|⟨z,t,e2,e3⟩
  ·cases e2
  ·cases e2;exact⟨_,t,rfl,e3⟩
def Eg:O (AY×Dt)->Y AZ
 |[]=>Z []
 |(.inr x,_)::r=>(Eg r).bind λys=>Z (x::ys)
 |(.inl _,_)::_=>U
theorem yV:∀{AO:O (AY×Dt)} {ys:AZ},Eg AO=Z ys->AO.map (·.1)=ys.map Sum.inr
 |[],_,e=>by cases e;rfl
 |(.inr x,_)::r,_,e=>by
  obtain⟨ys,e1,e⟩:=AT e;cases e;rw[zo,zo,yV e1]
 |(.inl _,_)::_,_,e=>by cases e
theorem XU(e:Eg AO=Z ys)(h:∀p∈AO,E6 p.1)(y:AJ)(a:y∈ys):y.length<=AA:=by
 have:(Sum.inr y:AY)∈AO.map (·.1):=by rw[yV e];exact List.mem_map.mpr ⟨y,a,rfl⟩
 obtain⟨p,hp,ep⟩:=List.mem_map.mp this;have:=h p hp;rw[ep]at this;exact this
theorem YX:∀{ks:O (AY×V)} {vs:O (AY×A0)},KV ks vs->vs.map (·.1)=ks.map (·.1)
 |_,_,.nil=>rfl
 |_,_,.cons h t=>by rw[zo,zo,YX t,h.1]
theorem bI.alk(E:bI K H0 H σ ρ)(i:Nat):bI K H0 H σ (ρ.set i U):=by
 have back:∀(j:Nat) (b:Bx),(ρ.set i U)[j]?=Z (Z b)->ρ[j]?=Z (Z b):=λj b e=>by
  rw[YI]at e;split at e
  ·split at e<;>cases e
  ·exact e
 refine⟨by rw[jv];exact E.len,λj b e=>E.val j b (back j b e),λj k c a b e1 d e2 e3 f g=>E.own j k c a b (back _ _ e1) d e2 (back _ _ e3) f g,E.base,λj c a e1 d e2=>E.new j c a (back _ _ e1) d e2⟩
def kill(is:O Nat)(ρ:Ev):Ev:=is.foldl (λρ i=>ρ.set i U) ρ
theorem bI.kill{K:B1}{H0 H:Hp}{σ:L2.St}:∀(is:O Nat) {ρ:Ev},bI K H0 H σ ρ->bI K H0 H σ (P1.kill is ρ)
 |[],_,E=>E
 |i::is,_,E=>bI.kill is (E.alk i)
def cQ(is:O Nat):Ev->Y Ap:=λρ=>Z (.nx (kill is ρ))
theorem WC{c:O AB}(is:O Nat)(h:V9 X c g):V9 X c (aD g (cQ is)):=Wn h λD σ H q=>by
 obtain⟨H0,ρ,r,E,e,q⟩:=q;obtain⟨a,e1,e⟩:=AT e;refine⟨H0,ρ,a,E,e1,?_⟩;cases a with
 |nx f=>cases e;exact λσ' H' d=>q σ' H' (d.kill is)
 |rt b=>cases e;exact q
 |bk b=>cases e;exact q
 |ct b=>cases e;exact q
theorem aY{a:O AB}(is:O Nat)(h:Qe X a g):Qe X a (aD g (cQ is)):=⟨WC is h.run⟩
end P1
namespace S1
section
variable(rk:A0->Nat)
def at_(xs:Array Keyed)(i:Nat):Nat:=match xs[i]? with
 |some p=>rk p.1
 |none=>0
def Up(xs:Array Keyed)(k:Nat):Prop:=∀i j,i<=j->j<k->at_ rk xs i<=at_ rk xs j
def CY(xs:Array Keyed)(k:Nat):Prop:=∀i j,i<=j->j<k->at_ rk xs j<=at_ rk xs i
structure Bs (kd:SortKind) (b:Array Keyed) (st:SortSt):Prop where
 pm:(arrOf st).Perm b
 kd:kindOf st=kd
 fl:failedOf st=none
 pd:pendingOf st=#[]
variable{rk}{kd:SortKind}{b:Array Keyed}
theorem Bs.sz{st:SortSt}(h:Bs kd b st):(AM st).size=b.size:=h.pm.size_eq
theorem Bs.arr{st:SortSt}{xs:Array Keyed}(h:Bs kd b st)(hp:xs.Perm (AM st)):Bs kd b (PyProof.Rows.setArr st xs):=⟨hp.trans h.pm,h.kd,h.fl,h.pd⟩
theorem xV{xs ys:Array Keyed}(h:xs[i]?=ys[j]?):at_ rk xs i=at_ rk ys j:=by unfold at_;rw[h]
theorem NS{xs:Array Keyed}{p d:Nat}(hs:p<xs.size)(hd:d<=p)(k:Nat):at_ rk (bubble xs p d) k=if k=p-d then at_ rk xs p else if p-d<k/\k<=p then at_ rk xs (k-1)else at_ rk xs k:=by
 have e:=getElem?_bubble hs d hd k;by_cases q:k=p-d
 ·simp only[zt q]at e ⊢;exact xV e
 ·simp only[zD q]at e ⊢;by_cases q2:p-d<k/\k<=p
  ·simp only[zt q2]at e ⊢;exact xV e
  ·simp only[zD q2]at e ⊢;exact xV e
theorem WW{xs:Array Keyed}(a:j<=xs.size)(k:Nat):at_ rk (mirror xs i j ((j-i) / 2)) k=if i<=k/\k<j then at_ rk xs (i+j-1-k)else at_ rk xs k:=by
 have e:=getElem?_mirror_all (i:=i) a k;by_cases q:i<=k/\k<j
 ·simp only[zt q]at e ⊢;exact xV e
 ·simp only[zD q]at e ⊢;exact xV e
theorem BW{xs:Array Keyed}(a:j<=xs.size)(he:∀k,i<=k->k<j->at_ rk xs k=at_ rk xs (j-1))(k:Nat):at_ rk (mirror xs i j ((j-i) / 2)) k=at_ rk xs k:=by
 rw[WW a];by_cases q:i<=k/\k<j
 ·rw[zt q,he (i+j-1-k) () (),he k q.1 q.2]
 ·rw[zD q]
end
section
variable{b:Array Keyed}{kd:SortKind}{rk:A0->Nat}
def D4(prog:A3)(w:A4)(A:A5)(s:A2)(kd:SortKind)(rk:A0->Nat)(b:Array Keyed):Prop:=
 ∀(E:B7) (p q:Keyed) (Q:Bool->A2->Prop),p∈b.toList->q∈b.toList->Q (decide (rk p.1<rk q.1)) s->A7 (A8 prog w) A (keyLt' kd p.1 q.1) Q E s
theorem Tw{st:SortSt}{Q:Y Bool->SortSt->Prop}(a:D4 prog w A s kd rk b)(B:Bs kd b st)(hi:i<b.size)(e:j<b.size)(h:Q (Z (decide (at_ rk (AM st) i<at_ rk (AM st) j))) st):wpS (A8 prog w) A E s (ltAt' i j) Q st:=by
 have get:∀k,k<b.size->∃p,(AM st)[k]?=Z p/\p∈b.toList:=λk d=>by
  have g:k<(AM st).size:=by rw[B.sz];exact d
  exact⟨(AM st)[k],getElem?_pos _ k g,(dz.mp B.pm).mem_iff.mp (by simp)⟩
 obtain⟨p,e1,c⟩:=get i hi;obtain⟨q,e2,f⟩:=get j e;have h:Q (Z (decide (rk p.1<rk q.1))) st:=by unfold at_ at h;rw[e1,e2]at h;exact h
 rw[ltAt'_eq];refine AL (wpS_get ?_);show wpS _ _ _ _ (elem' (AM st) i >>= λx=>elem' (AM st) j >>= λy=>lt' x y) Q st;rw[elem'_eq,elem'_eq,e1,e2];refine AL (wpS_pure ?_);refine AL (wpS_pure ?_);rw[lt'_eq];refine AL (wpS_get ?_);rw[B.kd];exact AL (wpS_lift (wpAny_attempt (a _ p q _ c f ⟨rfl,wpS_pure h⟩)))
theorem NM{st:SortSt}{a:Nat}{Q:AscSt->SortSt->Prop}(f:D4 prog w A s kd rk b)(v:n<=b.size)(p:1<=a)(o:a<=n)(B:Bs kd b st)(hs:Up rk (AM st) a)(h:∀m,a<=m->m<=n->Up rk (AM st) m->(m=n\/at_ rk (AM st) m<at_ rk (AM st) (m-1))->Q (U,m) st):wpS (A8 prog w) A E s (ascLoop a n) Q st:=by
 unfold ascLoop;refine wpS_forRange (I:=λx c t=>t=st/\c=(U,x)/\Up rk (AM st) x) ?_ ?_ ⟨rfl,rfl,hs⟩
 ·rintro x c t g y ⟨rfl,rfl,d⟩;refine AL (Tw f B () () ?_);by_cases q:at_ rk (AM t) x<at_ rk (AM t) (x-1)
  ·simp only[q,yb,QU];exact wpS_pure (h x g () d (.inr q))
  ·simp only[q,KA,zr,ZU];refine wpS_pure ⟨rfl,rfl,λi j l u=>?_⟩;by_cases hx:j<x
   ·exact d i j l hx
   ·have e:j=x:=by omega
    subst e;by_cases hi:i=j
    ·rw[hi];exact zk _
    ·have:=d i (j-1) () ();omega
 ·rintro c t ⟨rfl,rfl,d⟩;rw[show max a n=n by omega]at d ⊢;exact h n o (zk _) d (.inl S)
theorem t3{st:SortSt}{m:Nat}{Q:Y Nat->SortSt->Prop}(d:D4 prog w A s kd rk b)(f:n<=b.size)(h1:1<=m)(l:m<=n)(B:Bs kd b st)(hs:CY rk (AM st) m)(h:∀k t,Bs kd b t->1<=k->k<=n->Up rk (AM t) k->Q (Z k) t):wpS (A8 prog w) A E s (tail3 m n) Q st:=by
 unfold tail3;have a:m<=(AM st).size:=by rw[B.sz];omega
 refine AL (wpS_reverse ?_);have c:Bs kd b (PyProof.Rows.setArr st (mirror (AM st) 0 m ((m-0) / 2))):=B.arr (mirror_perm _ _ _ _);refine AL (NM d f h1 l c (λi j q o=>?_) λk p g e _=>wpS_pure (h k _ c () g e));show at_ rk (mirror (AM st) 0 m ((m-0) / 2)) i<=at_ rk (mirror (AM st) 0 m ((m-0) / 2)) j;rw[WW a,WW a,zt ⟨by omega,by omega⟩,zt ⟨by omega,by omega⟩];exact hs _ _ () ()
theorem bX{st:SortSt}{m:Nat}{Q:DescSt->SortSt->Prop}(g:D4 prog w A s kd rk b)(F:n<=b.size)(h1:1<=m)(y:m<=n)(B:Bs kd b st)(hs:CY rk (AM st) m)(h:∀k e t,Bs kd b t->m<=k->k<=n->CY rk (AM t) k->e+1<=k->(∀i,k-(e+1)<=i->i<k->at_ rk (AM t) i=at_ rk (AM t) (k-1))->Q (U,k,e) t):wpS (A8 prog w) A E s (descLoop m n) Q st:=by
 unfold descLoop;refine wpS_forRange (I:=λx c t=>∃e,c=(U,x,e)/\Bs kd b t/\CY rk (AM t) x/\e+1<=x/\∀i,x-(e+1)<=i->i<x->at_ rk (AM t) i=at_ rk (AM t) (x-1)) ?_ ?_ ⟨0,rfl,B,hs,by omega,λi q1 q2=>by rw[show i=m-1 by omega]⟩
 ·rintro x c t p G ⟨e,rfl,a,dn,f,d⟩;have o:x<=(AM t).size:=by rw[a.sz];omega
  have grow:∀xs:Array Keyed,(∀k,at_ rk xs k=at_ rk (AM t) k)->at_ rk (AM t) x<=at_ rk (AM t) (x-1)->CY rk xs (x+1):=λxs l H i j v D=>by
   rw[l,l];by_cases hx:j<x
   ·exact dn i j v hx
   ·have u:j=x:=by omega
    subst u;by_cases hi:i=j
    ·rw[hi];exact zk _
    ·have:=dn i (j-1) () ();omega
  dsimp only;refine AL (Tw g a () () ?_);by_cases q:at_ rk (AM t) x<at_ rk (AM t) (x-1)
  ·simp only[q,yb,QU];by_cases h0:e>0
   ·rw[zt h0];exact AL (wpS_reverse (wpS_pure ⟨0,rfl,a.arr (mirror_perm _ _ _ _),grow _ (BW o d) (),by omega,λi q1 q2=>by rw[show i=x by omega];rfl⟩))
   ·rw[zD h0];exact wpS_pure ⟨0,rfl,a,grow _ (λ_=>S) (),by omega,λi q1 q2=>by rw[show i=x by omega];rfl⟩
  ·simp only[q,KA,zr,ZU];refine AL (Tw g a () () ?_);by_cases q2:at_ rk (AM t) (x-1)<at_ rk (AM t) x
   ·simp only[q2,yb,QU];exact wpS_pure (h x e t a p () dn f d)
   ·simp only[q2,KA,zr,ZU];refine wpS_pure ⟨e+1,rfl,a,grow _ (λ_=>S) (),by omega,λi z C=>?_⟩;rw[show x+1-1=x by omega];by_cases hi:i=x
    ·rw[hi]
    ·rw[d i () ()];omega
 ·rintro c t ⟨e,rfl,a,dn,f,d⟩;rw[show max m n=n by omega]at dn f d ⊢;exact h n e t a y (zk _) dn f d
theorem RF{st:SortSt}{m:Nat}{Q:Y Nat->SortSt->Prop}(c:D4 prog w A s kd rk b)(d:n<=b.size)(q:m+1<=n)(B:Bs kd b st)(hs:CY rk (AM st) (m+1))(h:∀k t,Bs kd b t->1<=k->k<=n->Up rk (AM t) k->Q (Z k) t):wpS (A8 prog w) A E s (descPart m n) Q st:=by
 unfold descPart;refine AL (wpS_lift (KL ⟨rfl,?_⟩));refine AL (bX c d () q B hs λk e t a v l dn u g=>?_);have f:k<=(AM t).size:=by rw[a.sz];omega
 by_cases h0:e>0
 ·simp only[zt h0];refine AL (wpS_reverse (t3 c d () l (a.arr (mirror_perm _ _ _ _)) (λi j p o=>?_) h));show at_ rk (mirror (AM t) _ _ _) j<=at_ rk (mirror (AM t) _ _ _) i;rw[BW f g,BW f g];exact dn i j p o
 ·simp only[zD h0];exact t3 c d () l a dn h
theorem p5{st:SortSt}{Q:Y Nat->SortSt->Prop}(a:D4 prog w A s kd rk b)(d:n<=b.size)(h1:1<=n)(B:Bs kd b st)(h:∀k t,Bs kd b t->1<=k->k<=n->Up rk (AM t) k->Q (Z k) t):wpS (A8 prog w) A E s (countRun' 0 n) Q st:=by
 rw[countRun0_eq];refine AL (NM a d (zk 1) h1 B (λi j o l=>by rw[show i=j by omega];exact zk _) λm g p c or=>?_);by_cases e:m=n
 ·simp only[zt (show(m==n)=true by simpa using e)];exact wpS_pure (h m st B g p c)
 ·simp only[zD (show ¬ (m==n)=true by simpa using e)];have lt:=or.resolve_left e;have f:m<=(AM st).size:=by rw[B.sz];omega
  by_cases g1:m>1
  ·rw[zt g1];refine AL (Tw a B () () ?_);by_cases q:at_ rk (AM st) 0<at_ rk (AM st) (m-1)
   ·simp only[q,yb,QU];exact wpS_pure (h m st B g p c)
   ·simp only[q,KA,zr,ZU];have all:∀k,0<=k->k<m->at_ rk (AM st) k=at_ rk (AM st) (m-1):=λk _ v=>by
     have a1:=c 0 k () v;have a2:=c k (m-1) () ();omega
    refine AL (wpS_reverse (RF a d () (B.arr (mirror_perm _ _ _ _)) (λi j o l=>?_) h));show at_ rk (mirror (AM st) _ _ _) j<=at_ rk (mirror (AM st) _ _ _) i;rw[BW f all,BW f all];by_cases x:j<m
    ·rw[all i () (),all j () x];exact zk _
    ·have u:j=m:=by omega
     subst u;by_cases hi:i=j
     ·rw[hi];exact zk _
     ·rw[all i () ()];omega
  ·rw[zD g1];have e1:m=1:=by omega
   subst e1;refine RF a d () B (λi j o l=>?_) h;by_cases hi:i=j
   ·rw[hi];exact zk _
   ·rw[show i=0 by omega,show j=1 by omega];exact j0 lt
theorem LI{st:SortSt}{g:Nat}{Q:Bool->SortSt->Prop}(C:D4 prog w A s kd rk b)(H:n<=b.size)(J:g<=n)(B:Bs kd b st)(hs:Up rk (AM st) g)(h:∀t,Bs kd b t->Up rk (AM t) n->Q true t):wpS (A8 prog w) A E s (binarySort' 0 n g) Q st:=by
 rw[binarySort'_eq];simp only[yv];refine AL (wpS_mono (wpS_forRange (I:=λk c t=>c=(U,r9)/\Bs kd b t/\Up rk (AM t) (min k n)) (Q:=λc t=>c=(U,r9)/\Bs kd b t/\Up rk (AM t) n) ?_ ?_ ?_) ?_)
 ·rintro k c t K L ⟨rfl,f,d⟩;rw[show min k n=k by omega]at d;have p:k<b.size:=by omega
  refine AL (wpS_mono (wpS_forRange (I:=λx c a=>a=t/\∃l r,c=(U,l,r)/\l<=r/\r<=k/\r-l<=k-x/\(∀i,i<l->at_ rk (AM t) i<=at_ rk (AM t) k)/\(∀i,r<=i->i<k->at_ rk (AM t) k<at_ rk (AM t) i))
   (Q:=λc a=>a=t/\∃l r,c=(U,l,r)/\l<=k/\(∀i,i<l->at_ rk (AM t) i<=at_ rk (AM t) k)/\(∀i,l<=i->i<k->at_ rk (AM t) k<at_ rk (AM t) i)) ?_ ?_ ?_) ?_)
  ·rintro x c a _ hx ⟨rfl,l,r,rfl,G,m,D,lo,hi⟩;dsimp only;by_cases v:l>=r
   ·rw[zt v];have e:l=r:=by omega
    subst e;exact wpS_pure ⟨rfl,l,l,rfl,m,lo,hi⟩
   ·rw[zD v];refine AL (Tw C f p () ?_);by_cases q:at_ rk (AM a) k<at_ rk (AM a) ((l+r) / 2)
    ·simp only[q,yb,QU];refine wpS_pure ⟨rfl,l,(l+r) / 2,rfl,by omega,by omega,by omega,lo,λi q1 q2=>?_⟩;have:=d ((l+r) / 2) i q1 q2;omega
    ·simp only[q,KA,zr,ZU];refine wpS_pure ⟨rfl,(l+r) / 2+1,r,rfl,by omega,by omega,by omega,λi q1=>?_,hi⟩;have:=d i ((l+r) / 2) () ();omega
  ·rintro c a ⟨rfl,l,r,rfl,G,m,D,lo,hi⟩;have e:l=r:=by omega
   subst e;exact⟨rfl,l,l,rfl,m,lo,hi⟩
  ·exact⟨rfl,0,k,rfl,by omega,by omega,by omega,λi hi=>by omega,λi q1 q2=>by omega⟩
  ·rintro c a ⟨rfl,l,r,rfl,M,lo,hi⟩;show wpS _ _ _ _ (moveDown' k l >>= λ_=>pure (ForInStep.yield (U,r9))) _ _;rw[moveDown'_eq];refine AL (wpS_modify (wpS_pure ⟨rfl,f.arr (bubble_perm _ _ _),?_⟩));rw[show min (k+1) n=k+1 by omega];have o:k<(AM a).size:=by rw[f.sz];exact p
   intro i j u F;show at_ rk (bubble (AM a) k (k-l)) i<=at_ rk (bubble (AM a) k (k-l)) j;rw[NS o (),NS o (),show k-(k-l)=l by omega]
   repeat' split
   all_goals first
    |(exfalso;omega)
    |exact zk _
    |exact lo _ ()
    |exact j0 (hi _ () ())
    |exact d _ _ () ()
 ·rintro c t ⟨y,f,d⟩;refine⟨y,f,?_⟩;rwa [show min (max (max g 1) n) n=n by omega]at d
 ·refine⟨rfl,B,λi j u F=>?_⟩;by_cases z:g=0
  ·rw[show i=j by omega];exact zk _
  ·exact hs i j u ()
 ·rintro c t ⟨rfl,f,d⟩;exact wpS_pure (h t f d)
def Dn(kd:SortKind)(rk:A0->Nat)(b:Array Keyed)(st:SortSt):Prop:=(AM st).Perm b/\failedOf st=U/\pendingOf st=#[(0,b.size,0)]/\Up rk (AM st) b.size
theorem Bs.dn{st:SortSt}(B:Bs kd b st)(a:Up rk (AM st) b.size):Dn kd rk b (setPending st ((pendingOf st).push (0,b.size,0))):=⟨B.pm,B.fl,(by show(pendingOf st).push _=_;rw[B.pd];rfl),a⟩
theorem IM{st:SortSt}{Q:Unit->SortSt->Prop}(d:D4 prog w A s kd rk b)(B:Bs kd b st)(h2:2<=b.size)(y:b.size<64)
  (h:∀t,(AM t).Perm b->failedOf t=U->Up rk (AM t) b.size->Q r9 t):wpS (A8 prog w) A E s sortRuns' Q st:=by
 rw[sortRuns'_eq];refine AL (wpS_get ?_);have n:minRun' b.size b.size 0=b.size:=by
  obtain⟨f,o⟩:∃f,b.size=f+1:=⟨b.size-1,by omega⟩;have q:minRun' (f+1) b.size 0=b.size:=(minRun'_succ f b.size 0).trans (zt y);rwa [<-o]at q
 simp only[B.sz,n];have back:∀{t:SortSt},Bs kd b t->(pendingOf t).back?=U:=λB=>by rw[B.pd];rfl
 refine AL (wpS_mono (wpS_forRange (I:=λx c t=>(x=0/\c=(U,0)/\Bs kd b t)\/(1<=x/\c=(U,b.size)/\Dn kd rk b t)) (Q:=λc t=>c=(U,b.size)/\Dn kd rk b t) ?_ ?_ (.inl ⟨rfl,rfl,B⟩)) ?_)
 ·rintro x c t _ hx (⟨rfl,rfl,j⟩|⟨z,rfl,D⟩)
  ·dsimp only;rw[zD ()];simp only[Nat.sub_zero,nS,yv];refine AL (p5 d (zk _) () j λm t2 a C v i=>?_);dsimp only;by_cases lt:m<b.size
   ·rw[zt lt];refine AL (wpS_lift (KL ⟨rfl,AL (LI d (zk _) v a i λt3 g p=>?_)⟩));simp only[k9,zr,ZU];refine AL (wpS_get ?_);rw[back g];exact AL (wpS_modify (wpS_pure (.inr ⟨by omega,rfl,g.dn p⟩)))
   ·rw[zD lt];have e:m=b.size:=by omega
    subst e;refine AL (wpS_get ?_);rw[back a];exact AL (wpS_modify (wpS_pure (.inr ⟨by omega,rfl,a.dn i⟩)))
  ·dsimp only;rw[zt (zk _)];exact wpS_pure ⟨rfl,D⟩
 ·rintro c t (⟨hx,_,_⟩|⟨_,l,D⟩)
  ·omega
  ·exact⟨l,D⟩
 ·rintro c t ⟨rfl,D⟩;dsimp only;refine AL (wpS_mono (wpS_forRange (I:=λ_ c u=>u=t/\c=(U,r9)) (Q:=λc u=>u=t/\c=(U,r9)) ?_ (λ_ _ q=>q) ⟨rfl,rfl⟩) ?_)
  ·rintro x c u _ _ ⟨rfl,rfl⟩;refine AL (wpS_get ?_);rw[zt (by rw[D.2.2.1];exact zk 1)];exact wpS_pure ⟨rfl,rfl⟩
  ·rintro c u ⟨rfl,rfl⟩;exact wpS_pure (h _ D.1 D.2.1 D.2.2.2)
def Fm(a:A1)(s s':A2):Prop:=∀c o,c≠a->s.heap.get? c=Z o->s'.heap.get? c=Z o
theorem N0{vs:O A0}{P:Fin->A2->Prop}(ho:s.heap.get? a=Z (seqObj "list" vs.toArray n))(u:2<=vs.length->∀s',Fm a s s'->∀Q:SortKind->A2->Prop,Q kd s'->A7 (A8 prog w) A (keyKind' vs.toArray) Q E s')(g:∀s',Fm a s s'->D4 prog w A s' kd rk (pairsOf vs))(y:vs.length<64)(h:∀st:SortSt,(AM st).Perm (pairsOf vs)->Up rk (AM st) (pairsOf vs).size->P (.done (.ret .none)) { s with heap:=sortedHeap s.heap a vs ((AM st).map (·.2)) }):
  A7 (A8 prog w) A (Builtin.«list.sort» ⟨[.ref a],[]⟩) P E s:=by
 rw[list_sort_plain];have p:=zv ho;refine zd (listItems_at ho S (zd (listUpdate_at ho S ?_)));obtain⟨e1,g1⟩:∃e1,(s.heap.update a (Obj.mapSeq λ_=>#[])).get? a=Z (seqObj "list" #[] e1):=⟨_,get?_update_seq ho λ_=>#[]⟩;refine zd (seqEpoch_at g1 S (zd (wpAny_newTuple (zd (YO (QR ?_))))));have z1:(s.heap.update a (Obj.mapSeq λ_=>#[])).objs.size=s.heap.objs.size:=o9 ..;have keep:∀c,c<s.heap.objs.size->(((s.heap.update a (Obj.mapSeq λ_=>#[])).push (seqObj "tuple" vs.toArray 0)).push (seqObj "list" #[] 0)).get? c=(s.heap.update a (Obj.mapSeq λ_=>#[])).get? c:=λc b=>by
  rw[ot _ _ _ (by rw[size_push',z1];exact Zl (qB b)),ot _ _ _ (by rw[z1];exact Zl b)]
 have d:=(keep a p).trans g1;have old:Fm a s { s with heap:=((s.heap.update a (Obj.mapSeq λ_=>#[])).push (seqObj "tuple" vs.toArray 0)).push (seqObj "list" #[] 0) }:=λc o b e=>by
  show(((s.heap.update a (Obj.mapSeq λ_=>#[])).push (seqObj "tuple" vs.toArray 0)).push (seqObj "list" #[] 0)).get? c=Z o;rw[keep c (zv e),kq _ _ _ _ b];exact e
 show A7 _ _ _ _ _ { s with heap:=((s.heap.update a (Obj.mapSeq λ_=>#[])).push (seqObj "tuple" vs.toArray 0)).push (seqObj "list" #[] 0) };have z:vs.toArray.size=vs.length:=by simp
 have f:∀st:SortSt,(AM st).Perm (pairsOf vs)->((AM st).map (·.2)).size<=AA+1:=λst hp=>by
  have q:((AM st).map (·.2)).size=vs.length:=(Array.size_map ..).trans (hp.size_eq.trans (pairsOf_size _));rw[q,sizeLine_eq];omega
 by_cases h2:vs.toArray.size<2
 ·simp only[zt h2];refine zd (zh ?_);rw[StateT.run_pure];refine zd (zh (zd (seqEpoch_at d S (zd (listUpdate_at d S ?_ (hsz2:=f (SortSt.mk' general' (pairsOf vs) #[] 7 U) (Array.Perm.refl _)))))));simp only[bne_self_eq_false,zr,ZU];refine zh (h (SortSt.mk' general' (pairsOf vs) #[] 7 U) (Array.Perm.refl _) λi j B v=>?_);rw[pairsOf_size]at v;rw[show i=j by omega];exact zk _
 ·simp only[zD h2];refine zd (u () _ old _ ?_);refine zd (QI (IM (g _ old) (st:=SortSt.mk' kd (pairsOf vs) #[] 7 U) (Q:=λ_ t=>(AM t).Perm (pairsOf vs)/\failedOf t=U/\Up rk (AM t) (pairsOf vs).size) ⟨Array.Perm.refl _,rfl,rfl,rfl⟩ (by rw[pairsOf_size];omega) (by rw[pairsOf_size];exact y) λt q1 q2 l=>⟨q1,q2,l⟩) ?_ λ_ _ q=>q);rintro⟨⟨⟩,t⟩ s' ⟨rfl,hp,x,m⟩;dsimp only;refine zd (seqEpoch_at d S (zd (listUpdate_at d S ?_ (hsz2:=f t hp))));rw[x];simp only[bne_self_eq_false,zr,ZU];exact zh (h t hp m)
theorem f7{x:A0}{vs:O A0}{Q:B7}(t:∀(d:B7) (f:O A0->A2->Prop),(∀h' tk,s.heap.objs.size<=h'.objs.size->(∀c o,s.heap.get? c=Z o->h'.get? c=Z o)->f vs { s with heap:=h',toks:=tk })->A7 (A8 prog w) A.in1 (collect x) f d s)
  (i:2<=vs.length->∀(d:B7) (b:A5) (s':A2),(∀c o,s.heap.get? c=Z o->s'.heap.get? c=Z o)->∀Q:SortKind->A2->Prop,Q kd s'->A7 (A8 prog w) b (keyKind' vs.toArray) Q d s') (g:∀(b:A5) (s':A2),(∀c o,s.heap.get? c=Z o->s'.heap.get? c=Z o)->D4 prog w b s' kd rk (pairsOf vs)) (u:vs.length<64)
  (h:∀(l:A1) (h':A6) (tk n:Nat) (st:SortSt),(AM st).Perm (pairsOf vs)->Up rk (AM st) (pairsOf vs).size->s.heap.objs.size<=l->(∀c o,s.heap.get? c=Z o->h'.get? c=Z o)->h'.get? l=Z (seqObj "list" ((AM st).map (·.2)) n)->Q (.ref l) { s with heap:=h',toks:=tk }):
  A7 (A8 prog w) A (call (.builtin "sorted") [x]) Q E s:=by
 refine YA kind_sorted plain_sorted entry_sorted (args_sorted1 _) ?_;unfold Builtin.«sorted»;refine zd (m:=checkCount "sorted" 1 1 _) (zh (zd (t _ _ λh1 tk p ext=>zd (YO ?_))));have a:(h1.push (seqObj "list" vs.toArray 0)).get? h1.objs.size=Z (seqObj "list" vs.toArray 0):=zw _ rfl;have old:∀s':A2,Fm h1.objs.size { s with heap:=h1.push (seqObj "list" vs.toArray 0),toks:=tk } s'->∀c o,s.heap.get? c=Z o->s'.heap.get? c=Z o:=λs' q c o e=>
  q c o (Zl (zv (ext c o e))) (ze _ (ext c o e))
 refine zd (QR (ky slot_list_sort ⟨_,a,rfl⟩ entry_list_sort (N0 a (λq s' o=>i q _ _ s' (old s' o)) (λs' o=>g _ s' (old s' o)) u λst q1 q2=>⟨_,rfl,zh ⟨_,rfl,?_⟩⟩) (args_list_sort _)));obtain⟨n,j⟩:=sortedHeap_at (out:=(AM st).map (·.2)) a;refine h h1.objs.size _ tk n st q1 q2 p (λc o e=>?_) j;have hb:=zv (ext c o e);rw[sortedHeap_old (Zl hb) (by rw[qk];exact qB hb)];exact ze _ (ext c o e)
end
end S1
namespace S1
open L2
theorem dQ(fb:Bool)(x y:A0):keyLt' (tuples' fb) x y=(do
  let xs <-Builtin.List.listItems x
  let ys <-Builtin.List.listItems y
  for ((p,q),i) in (xs.toList.zip ys.toList).zipIdx do
   if !(<-eqBool p q)then return <-oneLt' (fb&&i==0) p q
  return decide (xs.size<ys.size)):=rfl
def YZ:AY->AY->Bool
 |.inl a,.inl b=>decide (a<b)
 |.inr x,.inr y=>decide (x.cps.toList<y.cps.toList)
 |.inl _,.inr _=>true
 |.inr _,.inl _=>false
def Y0:AY->AY->Bool
 |.inl _,.inl _=>true
 |.inr _,.inr _=>true
 |_,_=>false
def ql:O AY->O AY->Bool
 |[],[]=>false
 |[],_::_=>true
 |_::_,[]=>false
 |x::xs,y::ys=>if x=y then ql xs ys else YZ x y
def DJ:O AY->O AY->Prop
 |x::xs,y::ys=>Y0 x y=true/\DJ xs ys
 |_,_=>True
theorem EI{x y:AY}{p q:A0}{Q:Bool->A2->Prop}(hp:m7 x p=true)(c:m7 y q=true)(h:Q (decide (x=y)) s):A7 (A8 prog w) A (eqBool p q) Q E s:=
 (bw prog w).eqBool (a:=x) (b:=y) hp c h
theorem SO{fb:Bool}{x y:AY}{p q:A0}{Q:Bool->A2->Prop}(hs:Y0 x y=true)(hp:m7 x p=true)(a:m7 y q=true)(h:Q (YZ x y) s):A7 (A8 prog w) A (oneLt' fb p q) Q E s:=by
 rcases bZ hp with⟨i,t,rfl,rfl⟩|⟨z,t,rfl,rfl⟩
 ·rcases bZ a with⟨j,u,rfl,rfl⟩|⟨z,u,rfl,rfl⟩
  ·cases fb with
   |true=>exact oneLt_int h
   |false=>
    rw[oneLt'_eq];simp only[zr,ZU];refine zd (show A7 _ _ (AG .Lt (.int i t) (.int j u)) _ _ _ from lt_int ?_);exact km h
  ·cases hs
 ·rcases bZ a with⟨j,u,rfl,rfl⟩|⟨b,u,rfl,rfl⟩
  ·cases hs
  ·cases fb with
   |true=>exact oneLt_str h
   |false=>
    rw[oneLt'_eq];simp only[zr,ZU];refine zd (show A7 _ _ (AG .Lt (.str z t) (.str b u)) _ _ _ from PySem.P.lt_str ?_);exact km h
def Ks(ks:O AY)(AQ:O A0):Prop:=AI (λk v=>m7 k v=true) ks AQ
def De:O AY->O AY->Y Bool
 |x::xs,y::ys=>if x=y then De xs ys else Z (YZ x y)
 |_,_=>U
theorem LY:∀ks a:O AY,ql ks a=match De ks a with|some r=>r|none=>decide (ks.length<a.length)
 |[],[]=>rfl
 |[],_::_=>by simp[ql,De]
 |_::_,[]=>rfl
 |x::xs,y::ys=>by
  simp only[ql,De];by_cases e:x=y
  ·rw[zt e,zt e,LY xs ys];simp only[ZI,Nat.add_lt_add_iff_right]
  ·rw[zD e,zD e]
def turn(fb:Bool):(A0×A0)×Nat->Y Bool×Unit->Sem (ForInStep (Y Bool×Unit)):=λx _=>match x with
 |((p,q),i)=>do
  let e <-eqBool p q
  if(!e)=true then do
    let r <-oneLt' (fb&&i==0) p q
    pure (ForInStep.done (Z r,r9))
   else pure (ForInStep.yield (U,r9))
theorem I0(fb:Bool):∀(ks b:O AY) (AQ a:O A0) (i:Nat) (R:Y Bool×Unit->A2->Prop),Ks ks AQ->Ks b a->DJ ks b->R (De ks b,r9) s->A7 (A8 prog w) A (forIn ((AQ.zip a).zipIdx i) ((U,r9):Y Bool×Unit) (turn fb)) R E s:=by
 intro ks
 induction ks with
 |nil=>intro b AQ a i R h _ _ h1;cases h;exact zh h1
 |cons x xs g=>
  intro b AQ a i R h h' hs h1;cases h with
  |@cons _ p _ AQ hp d=>
   cases h' with
   |nil=>exact zh h1
   |@cons y q ys a c f=>
    rw[hY,List.zipIdx_cons,List.forIn_cons];refine zd ?_;show A7 _ _ (eqBool p q >>= _) _ _ _;refine zd (EI hp c ?_);by_cases e:x=y
    ·simp only[e,yb,k9,zr,ZU];refine zh (g ys AQ a (i+1) R d f hs.2 ?_);simp only[De,zt e]at h1;exact h1
    ·simp only[e,KA,Kx,QU];refine zd (SO hs.1 hp c (zh (zh ?_)));simp only[De,zD e]at h1;exact h1
theorem on{fb:Bool}{c:A1}{f j:AE}{d:O A0}{m:Nat}{b:O AY}{Q:Bool->A2->Prop}(o:s.heap.get? a=Z f)(t:f.data=.seq AQ.toArray n)(l:s.heap.get? c=Z j)(q:j.data=.seq d.toArray m)(g:Ks ks AQ)(i:Ks b d)(hs:DJ ks b)(h:Q (ql ks b) s):A7 (A8 prog w) A (keyLt' (tuples' fb) (.ref a) (.ref c)) Q E s:=by
 rw[dQ];refine zd (listItems_at o t (zd (listItems_at l q ?_)));have p:AQ.length=ks.length:=(Paired.length g).symm;have u:d.length=b.length:=(Paired.length i).symm;refine zd (I0 fb ks b AQ d 0 _ g i hs ?_);rw[LY]at h;cases e:De ks b with
 |some r=>rw[e]at h;exact zh h
 |none=>
  rw[e]at h;refine zh ?_;simpa[p,u]using h
theorem sk(x:AY):YZ x x=false:=by
 cases x with
 |inl a=>simp[YZ]
 |inr a=>simp[YZ]
theorem XY{x y z:AY}(h:YZ x y=true)(h':YZ y z=true):YZ x z=true:=by
 cases x<;>cases y<;>cases z<;>simp only[YZ,zz,zr,reduceCtorEq]at h h' ⊢
 ·omega
 ·exact List.lt_trans h h'
theorem gI{x y:AY}(h:YZ x y=false)(h':YZ y x=false):x=y:=by
 cases x<;>cases y<;>simp only[YZ,JU,Bool.true_eq_false,reduceCtorEq]at h h'
 ·congr 1;omega
 ·rename_i a b;have:=o7 (as:=a.cps.toList) (bs:=b.cps.toList) h' h;cases a;cases b;simp only at this;rw[o8.mp this]
theorem JB:∀xs:O AY,ql xs xs=false
 |[]=>rfl
 |x::xs=>by simp only[ql,QU];exact JB xs
theorem su:∀{xs ys zs:O AY},ql xs ys=true->ql ys zs=true->ql xs zs=true
 |[],[],_,h,_=>by cases h
 |[],_::_,[],_,h'=>by cases h'
 |[],_::_,_::_,_,_=>rfl
 |_::_,[],_,h,_=>by cases h
 |_::_,_::_,[],_,h'=>by cases h'
 |x::xs,y::ys,z::zs,h,h'=>by
  simp only[ql]at h h' ⊢;by_cases e1:x=y
  ·subst e1;rw[zt rfl]at h;by_cases e2:x=z
   ·subst e2;rw[zt rfl]at h' ⊢;exact su h h'
   ·rw[zD e2]at h' ⊢;exact h'
  ·rw[zD e1]at h;by_cases e2:y=z
   ·subst e2;rw[zD e1];exact h
   ·rw[zD e2]at h';have:=XY h h';rw[zD (λe=>by subst e;rw[sk]at this;cases this)];exact this
theorem BX:∀{xs ys:O AY},ql xs ys=false->ql ys xs=false->xs=ys
 |[],[],_,_=>rfl
 |[],_::_,h,_=>by cases h
 |_::_,[],_,h'=>by cases h'
 |x::xs,y::ys,h,h'=>by
  simp only[ql]at h h';by_cases e:x=y
  ·subst e;rw[zt rfl]at h h';rw[BX h h']
  ·rw[zD e]at h;rw[zD (ka e)]at h';exact absurd (gI h h') e
def xW(xs ys:O AY):Bool:=!ql ys xs
theorem z8(a b c:O AY)(h:xW a b=true)(h':xW b c=true):xW a c=true:=by
 unfold xW at *
 simp only[QY]at *
 cases f:ql c a with
 |false=>rfl
 |true=>
  cases d:ql a b with
  |true=>rw[su f d]at h';cases h'
  |false=>
   have e:=BX d h;subst e;rw[f]at h';cases h'
theorem z9(a b:O AY):(xW a b||xW b a)=true:=by
 unfold xW;cases h:ql b a with
 |false=>rfl
 |true=>
  cases h':ql a b with
  |false=>rfl
  |true=>have:=su h h';rw[JB]at this;cases this
theorem Oe{a b:O AY}(h:xW a b=true)(h':xW b a=true):a=b:=by
 unfold xW at *
 simp only[QY]at *
 exact BX h' h
theorem tK{α:Type}{le:α->α->Prop}(c:∀a b,le a b->le b a->a=b):∀{l l':O α},l.Perm l'->l.Pairwise le->l'.Pairwise le->l=l'
 |[],l',h,_,_=>by rw[List.nil_perm.mp h]
 |a::l,[],h,_,_=>by cases List.perm_nil.mp h
 |a::l,b::l',h,p,p'=>by
  have e:a=b:=by
   have d:a∈b::l':=h.mem_iff.mp (zg ..);have hb:b∈a::l:=h.mem_iff.mpr (zg ..);rcases List.mem_cons.mp d with h1|h1
   ·exact h1
   ·rcases List.mem_cons.mp hb with h2|h2
    ·exact h2.symm
    ·exact c a b (kB p h2) (kB p' h1)
  subst e;rw[tK c ((List.perm_cons a).mp h) (dl.mp p).2 (dl.mp p').2]
def nj(cY:O (O AY)):O (O AY):=cY.mergeSort xW
theorem mL(cY:O (O AY)):(nj cY).Perm cY:=yo ..
theorem xX(cY:O (O AY)):(nj cY).Pairwise (λa b=>xW a b=true):=KO z8 z9 cY
theorem uM{out:O (O AY)}(hp:out.Perm cY)(hs:out.Pairwise (λa b=>xW a b=true)):out=nj cY:=tK (λ_ _=>Oe) (hp.trans (mL cY).symm) hs (xX cY)
def CM(cY:O (O AY))(k:O AY):Nat:=cY.countP λu=>ql u k
theorem Og{α:Type}{p q:α->Bool}:∀{l:O α},(∀x∈l,p x=true->q x=true)->(∃x∈l,p x=false/\q x=true)->l.countP p<l.countP q
 |[],_,⟨x,hx,_⟩=>by cases hx
 |a::l,h,⟨x,hx,h1,h2⟩=>by
  have le:l.countP p<=l.countP q:=ms λy b=>h y (zi _ b);rw[pe,pe];rcases List.mem_cons.mp hx with rfl|hx
  ·rw[h1,h2];simp;omega
  ·have:=Og (λy b=>h y (zi _ b)) ⟨x,hx,h1,h2⟩;have c:=h a (zg ..);cases hp:p a with
   |true=>rw[c hp];simp;omega
   |false=>simp;omega
theorem Y4{a b:O AY}(d:a∈cY):decide (CM cY a<CM cY b)=ql a b:=by
 cases h:ql a b with
 |true=>
  refine ZA (Og (λu _ c=>su c h) ⟨a,d,JB a,h⟩)
 |false=>
  refine ZN (mZ.mpr (ms λu _ c=>?_));cases hb:ql b a with
  |true=>exact su c hb
  |false=>rw[BX h hb];exact c
def lJ(h:A6)(ks:O AY)(v:A0):Prop:=∃(a:A1) (o:AE) (AQ:O A0) (n:Nat),v=.ref a/\h.get? a=Z o/\o.cls=.type "tuple" ∧ o.data=.seq AQ.toArray n/\Ks ks AQ
theorem lJ.keep{h':A6}{v:A0}(q:lJ h ks v)(k:∀c o,h.get? c=Z o->h'.get? c=Z o):lJ h' ks v:=by
 obtain⟨a,o,AQ,n,e,g,c,d,p⟩:=q;exact⟨a,o,AQ,n,e,k _ _ g,c,d,p⟩
theorem Sl{k l:AY}{v:A0}(h:m7 k v=true)(h':m7 l v=true):k=l:=by
 rcases bZ h with⟨i,t,rfl,rfl⟩|⟨x,t,rfl,rfl⟩
 ·rcases bZ h' with⟨j,u,rfl,e⟩|⟨y,u,rfl,e⟩
  ·cases e;rfl
  ·cases e
 ·rcases bZ h' with⟨j,u,rfl,e⟩|⟨y,u,rfl,e⟩
  ·cases e
  ·cases e;rfl
theorem Ks.inj:∀{ks a:O AY} {AQ:O A0},Ks ks AQ->Ks a AQ->ks=a
 |_,_,[],h,h'=>by cases h;cases h';rfl
 |_,_,v::AQ,h,h'=>by
  cases h with
  |cons p t=>cases h' with
   |cons p' t'=>rw[Sl p p',Ks.inj t t']
theorem lJ.inj{h:A6}{ks b:O AY}{v:A0}(q:lJ h ks v)(l:lJ h b v):ks=b:=by
 obtain⟨a,o,AQ,n,rfl,g,c,d,p⟩:=q;obtain⟨m,o',j,s,e,i,t,f,p'⟩:=l;cases e;rw[g]at i;cases i;rw[d]at f;injection f with e1 e2;have e3:AQ=j:=by simpa using congrArg nn e1
 subst e3;exact p.inj p'
theorem Y5{f:α->Sem β}:∀(xs:O α) (ys:O β) (Q:O β->A2->Prop),AI (λx y=>∀(c:B7) (a:β->A2->Prop),a y s->A7 (A8 prog w) A (f x) a c s) xs ys->Q ys s->A7 (A8 prog w) A (xs.mapM f) Q E s:=by
 intro xs
 induction xs with
 |nil=>intro ys Q p h;cases p;rw[List.mapM_nil];exact zh h
 |cons x xs b=>
  intro ys Q p q;cases p with
  |cons h t=>
   rw[List.mapM_cons];exact zd (h _ _ (zd (b _ _ t (zh q))))
theorem WJ(v:A0):firstOfTuple' v=(do
  if(<-typeOf v) != .type "tuple" then return U
  return (<-Builtin.List.listItems v)[0]?):=rfl
theorem XI{k:AY}{v:A0}(q:lJ s.heap (k::ks) v):∃u,m7 k u=true/\∀(e:B7) (b:Y A0->A2->Prop),b (Z u) s->A7 (A8 prog w) A (firstOfTuple' v) b e s:=by
 obtain⟨a,o,AQ,n,rfl,g,c,d,p⟩:=q;cases p with
 |@cons _ u _ AQ hp t=>
  refine⟨u,hp,λe b h=>?_⟩;rw[WJ];refine zd (jS (T :="tuple") ⟨o,g,c⟩ ?_);rw[zD ()];exact zd (listItems_at g d (zh h))
theorem UU{k:AY}(h:m7 k u=true)(b:B7)(a:B7)(q:a (.type (if k.isLeft then "int" else "str")) s):A7 (A8 prog w) A (typeOf u) a b s:=by
 rcases bZ h with⟨i,t,rfl,rfl⟩|⟨x,t,rfl,rfl⟩
 ·exact jS (typeIs_int s i t) q
 ·exact jS (typeIs_str s x t) q
theorem Oh{vs:O A0}{Q:SortKind->A2->Prop}(j:AI (lJ s.heap) cY vs)(i:∀k∈cY,k≠[])(z:∀k∈cY,∀l∈cY,DJ k l)(h2:1<=vs.length)(h:Q (tuples' true) s):A7 (A8 prog w) A (keyKind' vs.toArray) Q E s:=by
 have step:∀(cY:O (O AY)) (vs:O A0),AI (lJ s.heap) cY vs->(∀k∈cY,k≠[])->∃us:O A0,AI (λv u=>∀(c:B7) (a:Y A0->A2->Prop),a (Z u) s->A7 (A8 prog w) A (firstOfTuple' v) a c s) vs us/\AI (λ(k:O AY) u=>∃x r,k=x::r/\m7 x u=true) cY us:=by
  intro cY vs j
  induction j with
  |nil=>intro _;exact⟨[],.nil,.nil⟩
  |@cons k v cY vs q t d=>
   intro i;obtain⟨us,p1,p2⟩:=d λk f=>i k (zi _ f);cases k with
   |nil=>exact absurd S (i _ (zg ..))
   |cons x r=>
    obtain⟨u,e,o⟩:=XI (prog:=prog) (w:=w) (A:=A) q;exact⟨u::us,.cons o p1,.cons ⟨x,r,rfl,e⟩ p2⟩
 obtain⟨us,p1,p2⟩:=step cY vs j i;have D:us.length=vs.length:=(Paired.length p1).symm;have y:∀{l:O A0} {n:O A0},AI (λv u=>∀(c:B7) (a:Y A0->A2->Prop),a (Z u) s->A7 (A8 prog w) A (firstOfTuple' v) a c s) l n->AI (λv u=>∀(c:B7) (a:Y A0->A2->Prop),a u s->A7 (A8 prog w) A (firstOfTuple' v) a c s) l (n.map Z):=λh=>by
  induction h with
  |nil=>exact .nil
  |cons q t d=>exact .cons q d
 rw[keyKind'_eq,ov,map_eq_pure_bind];refine zd (zd (Y5 vs (us.map Z) _ (y p1) (zh ?_)));have C:(us.map Z).toArray.all (·.isSome)=true:=by simp
 rw[zt C];refine zd (KL ?_);have F:(us.map Z).toArray.filterMap id=us.toArray:=by simp
 rw[F,oneTypeOnly'_eq,ov,map_eq_pure_bind];have ty:∀(cY:O (O AY)) (us:O A0),AI (λ(k:O AY) u=>∃x r,k=x::r/\m7 x u=true) cY us->∃ts:O A0,AI (λu t=>∀(c:B7) (a:B7),a t s->A7 (A8 prog w) A (typeOf u) a c s) us ts/\AI (λ(k:O AY) t=>∃x r,k=x::r/\t=.type (if x.isLeft then "int" else "str")) cY ts:=by
  intro cY us hp
  induction hp with
  |nil=>exact⟨[],.nil,.nil⟩
  |@cons k u cY us q t d=>
   obtain⟨ts,q1,q2⟩:=d;obtain⟨x,r,rfl,hx⟩:=q;exact⟨_::ts,.cons (λc a h=>UU hx c a h) q1,.cons ⟨x,r,rfl,rfl⟩ q2⟩
 obtain⟨ts,q1,q2⟩:=ty cY us p2;refine zd (zd (zd (Y5 us ts _ q1 (zh ?_))));have lt:ts.length=vs.length:=by rw[<-Paired.length q1,D]
 cases q2 with
 |nil=>simp at lt;omega
 |@cons G I H m h0 p=>
  obtain⟨b,r,rfl,rfl⟩:=h0;have same:∀t∈m,t=Value.type (if b.isLeft then "int" else "str"):=by
   have B:∀(cY:O (O AY)) (ts:O A0),AI (λ(k:O AY) t=>∃x r,k=x::r/\t=Value.type (if x.isLeft then "int" else "str")) cY ts->(∀k∈cY,DJ (b::r) k)->∀t∈ts,t=Value.type (if b.isLeft then "int" else "str"):=by
    intro cY ts hp
    induction hp with
    |nil=>intro _ t g;cases g
    |@cons k t cY ts q _ d=>
     intro hs u e;rcases List.mem_cons.mp e with rfl|e
     ·obtain⟨x,J,rfl,rfl⟩:=q;have:=(hs _ (zg ..)).1;cases b<;>cases x<;>first|rfl|cases this
     ·exact d (λk f=>hs k (zi _ f)) u e
   exact B _ _ p λk f=>z _ (zg ..) k (zi _ f)
  have e0:(Value.type (if b.isLeft then "int" else "str")::m).toArray[0]?=Z (Value.type (if b.isLeft then "int" else "str")):=by simp
  have e1:((Value.type (if b.isLeft then "int" else "str")::m).toArray.all λx=>x==Value.type (if b.isLeft then "int" else "str"))=true:=by
   simp only[List.all_toArray,qc];intro t g;rcases List.mem_cons.mp g with rfl|g
   ·simp
   ·rw[same t g];simp
  rw[e0];simp only[e1,QU];refine zh (zh ?_);have e2:((Z (Value.type (if b.isLeft then "int" else "str"))).any λx=>x !=Value.type "tuple")=true:=by
   cases b with
   |inl _=>exact(by decide:((Z (Value.type "int")).any λx=>x !=Value.type "tuple")=true)
   |inr _=>exact(by decide:((Z (Value.type "str")).any λx=>x !=Value.type "tuple")=true)
  rw[e2];exact h
def BC(cY:O (O AY))(vs:O A0)(v:A0):O AY:=match (vs.zip cY).find? (λp=>p.1==v)with
 |some p=>p.2
 |none=>[]
theorem oN{h:A6}:∀{cY:O (O AY)} {vs:O A0},AI (lJ h) cY vs->∀v∈vs,BC cY vs v∈cY/\lJ h (BC cY vs v) v
 |_,_,.nil,v,hv=>by cases hv
 |k::cY,u::vs,.cons q t,v,hv=>by
  unfold BC;rw[hY,k7];by_cases e:u=v
  ·subst e;simp only[beq_self_eq_true];exact⟨zg ..,q⟩
  ·have e':(u==v)=false:=by simpa using e
   simp only[e'];have b:v∈vs:=by
    rcases List.mem_cons.mp hv with h|h
    ·exact absurd h.symm e
    ·exact h
   have a:=oN t v b;exact⟨zi _ a.1,a.2⟩
theorem Gd{h:A6}:∀{cY:O (O AY)} {vs:O A0},AI (lJ h) cY vs->∀(K:A0->O AY),(∀v∈vs,lJ h (K v) v)->vs.map K=cY
 |_,_,.nil,_,_=>rfl
 |k::cY,v::vs,.cons q t,K,hK=>by
  rw[zo,(hK v (zg ..)).inj q,Gd t K λu a=>hK u (zi _ a)]
theorem Aa{h:A6}:∀{vs:O A0} {K:A0->O AY},(∀v∈vs,lJ h (K v) v)->AI (lJ h) (vs.map K) vs
 |[],_,_=>.nil
 |v::vs,K,hK=>.cons (hK v (zg ..)) (Aa λu a=>hK u (zi _ a))
theorem Tz{vs:O A0}(f:AI (lJ s.heap) cY vs)(u:∀k∈cY,∀l∈cY,DJ k l):D4 prog w A s (tuples' true) (λv=>CM cY (BC cY vs v)) (pairsOf vs):=by
 intro E p q Q hp i h;rw[pairsOf_toList]at hp i;obtain⟨b,t1⟩:=oN f p.1 (mem_zip_self hp).2;obtain⟨x,t2⟩:=oN f q.1 (mem_zip_self i).2;rw[Y4 b]at h;have m:=u _ b _ x;obtain⟨a,o,AQ,n,e,g,c,d,k⟩:=t1;obtain⟨B,o',z,C,e',y,D,t,j⟩:=t2;rw[e,e'];exact on g d y t k j m h
theorem TF{vs:O A0}(a:AI (lJ h) cY vs){xs:Array Keyed}(hp:xs.Perm (pairsOf vs))(l:Up (λv=>CM cY (BC cY vs v)) xs (pairsOf vs).size):AI (lJ h) (nj cY) (xs.map (·.2)).toList:=by
 have b:xs.toList.Perm (vs.zip vs):=by rw[<-pairsOf_toList];exact dz.mp hp
 have c:∀p∈xs.toList,p.1=p.2/\p.1∈vs:=λp q=>mem_zip_self (b.mem_iff.mp q);have e:(xs.map (·.2)).toList=xs.toList.map (·.1):=by
  rw[kH];exact qA λp q=>(c p q).1.symm
 have pv:(xs.toList.map (·.1)).Perm vs:=by
  have:=b.map Prod.fst;rwa [List.map_fst_zip (zk _)]at this
 have g:nj cY=(xs.toList.map (·.1)).map (BC cY vs):=by
  refine(uM ?_ ?_).symm
  ·have:=pv.map (BC cY vs);rwa [Gd a _ λv q=>(oN a v q).2]at this
  ·rw[dI];intro i j hi m n;have f:i<xs.size:=by simpa using hi
   have d:j<xs.size:=by simpa using m
   have u:=l i j (j0 n) (by rw[<-hp.size_eq];exact d);unfold at_ at u;rw[getElem?_pos xs i f,getElem?_pos xs j d]at u;have o:=(oN a xs[j].1 (c xs[j] (by simp)).2).1;simp only[List.getElem_map,Array.getElem_toList];unfold xW;rw[<-Y4 o,ZN (mZ.mpr u)];rfl
 rw[g,e];refine Aa λv q=>(oN a v ?_).2;exact pv.mem_iff.mp q
end S1
namespace P1
open L2 S1
theorem JC{o:AE}{T:String}{vs:O A0}{Q:O A0->A2->Prop}(ho:s.heap.get? l=Z o)(a:o.cls=.type T)(d:T ="list" ∨ T ="tuple")(hd:o.data=.seq vs.toArray n)(f:vs.length<=AA)(h:∀h' tk,s.heap.objs.size<=h'.objs.size->(∀c o,s.heap.get? c=Z o->h'.get? c=Z o)->Q vs { s with heap:=h',toks:=tk }):A7 (A8 prog w) A (collect (.ref l)) Q E s:=by
 unfold collect;refine zd (wpAny_runValue (ke entry_proto_collect' ?_));show A7 _ _ (newList [] >>= λq=>again (.builtin "list.__iadd__" ⟨[q,.ref l],[]⟩)) _ _ s;refine zd (YO (zh ⟨Code.quiet_builtin _ (by decide +kernel),ke entry_list_iadd' ?_⟩));show A7 _ _ (Builtin.List.listExtendWith (.ref s.heap.objs.size) (.ref l) (.ref s.heap.objs.size)) _ _ _;unfold Builtin.List.listExtendWith;have g1:(s.heap.push (seqObj "list" #[] 0)).get? l=Z o:=ze _ ho;refine zd (jS (T:=T) ⟨o,g1,a⟩ ?_);have b:(Value.type T==Value.type "list" || Value.type T==Value.type "tuple")=true:=by rcases d with rfl|rfl<;>decide
 rw[zt (by rw[Bool.or_assoc,b];simp)];refine zd (listItems_at g1 hd (zd (listItems_at (xs:=#[]) (n:=0) (zw _ S) S ?_)));rw[zD (by simp)];have g2:(s.heap.push (seqObj "list" #[] 0)).get? s.heap.objs.size=Z (seqObj "list" #[] 0):=zw _ rfl;refine zd (listUpdate_at (xs:=#[]) (n:=0) g2 S (zh ?_) (QP _) (by show(#[]++vs.toArray).size<=AA+1;simp only[Kk,zI,fM];omega));show A7 (A8 prog w) A (load s.heap.objs.size >>= _) Q E _;refine zd (yz (get?_update_seq g2 _) ?_);show A7 _ _ (pure ((#[]:Array A0)++vs.toArray).toList) Q E _;rw[show((#[]:Array A0)++vs.toArray).toList=vs by simp];refine zh (h _ s.toks ?_ λc g e=>?_)
 ·rw[o9,size_push'];exact Kn _
 ·rw[kq _ _ _ _ (Zl (zv e))];exact ze _ e
def GY:Dt->Y AY
 |.int i=>Z (.inl i)
 |.str x=>Z (.inr x)
 |_=>U
def Ge:O Dt->Y (O AY)
 |[]=>Z []
 |d::ds=>(GY d).bind λk=>(Ge ds).bind λks=>Z (k::ks)
def JD:Dt->Y (O AY)
 |.tup ds=>Ge ds
 |_=>U
def vA:O Dt->Y (O (O AY))
 |[]=>Z []
 |d::ds=>(JD d).bind λk=>(vA ds).bind λks=>Z (k::ks)
def dK:AY->Dt
 |.inl i=>.int i
 |.inr x=>.str x
def BD(ks:O AY):Dt:=.tup (ks.map dK)
theorem tI{k:AY}(h:GY d=Z k):d=dK k:=by
 cases d<;>cases h<;>rfl
theorem TJ:∀{ds:O Dt} {ks:O AY},Ge ds=Z ks->ds=ks.map dK
 |[],_,h=>by cases h;rfl
 |d::ds,_,h=>by
  obtain⟨k,e1,h⟩:=AT h;obtain⟨ks,e2,h⟩:=AT h;cases h;rw[zo,tI e1,TJ e2]
theorem TQ(h:JD d=Z ks):d=BD ks:=by
 cases d with
 |tup ds=>exact congrArg Dt.tup (TJ h)
 |_=>cases h
theorem Ej:∀{ds:O Dt} {cY:O (O AY)},vA ds=Z cY->ds=cY.map BD
 |[],_,h=>by cases h;rfl
 |d::ds,_,h=>by
  obtain⟨k,e1,h⟩:=AT h;obtain⟨ks,e2,h⟩:=AT h;cases h;rw[zo,TQ e1,Ej e2]
theorem X1{k:AY}(h:AW K H (dK k) v):v=kV k:=by
 cases k with
 |inl i=>exact(show v=.int i by simpa only[dK,AW]using h)
 |inr x=>exact(show v=.str x/\x.length<=AA by simpa only[dK,AW]using h).1
theorem Oi{K:B1}{H:Hp}:∀{ks:O AY} {vs:O V},aK K H (ks.map dK) vs->vs=ks.map kV
 |[],_,h=>by simp only[kD,aK]at h;exact h
 |k::ks,_,h=>by
  simp only[zo,aK]at h;obtain⟨v,r,rfl,h1,h2⟩:=h;rw[X1 h1,Oi h2,zo]
theorem mw(X:Cx):∀{us:O A0},AX (ks.map kV) us->Ks ks us:=by
 induction ks with
 |nil=>intro us h;cases h;exact .nil
 |cons k ks a=>
  intro us h;cases h with
  |cons r t=>exact .cons (Jc (P:=X.prog) (w:=X.w) r) (a t)
theorem tL{AN:O (A1×AE)}{σ:L2.St}{H:Hp}{s:A2}(I:AU X AN σ H s):∀{cY:O (O AY)} {vs:O V} {AQ:O A0},aK X.K H (cY.map BD) vs->AX vs AQ->AI (lJ s.heap) cY AQ
 |[],_,_,h,r=>by
  simp only[kD,aK]at h;subst h;cases r;exact .nil
 |k::cY,_,_,h,r=>by
  simp only[zo,aK]at h;obtain⟨v,vs,rfl,h1,h2⟩:=h;cases r with
  |cons i e=>
   refine .cons ?_ (tL I h2 e);simp only[BD,AW]at h1;obtain⟨a,j,rfl,sq,f⟩:=h1;obtain⟨AQ,b,⟨o,g,c,n,d⟩,_⟩:=I.tuple sq;cases i;rw[Oi f]at b;exact⟨a,o,AQ,n,rfl,g,c,d,mw X b⟩
theorem Ek{AN:O (A1×AE)}{σ:L2.St}{H:Hp}{s:A2}(I:AU X AN σ H s){cY:O (O AY)}{vs:O V}{AQ:O A0}(h:aK X.K H (cY.map BD) vs)(r:AX vs AQ):∀{lss:O (O AY)} {out:O A0},AI (lJ s.heap) lss out->(∀u∈out,u∈AQ)->∃zs,AX zs out/\aK X.K H (lss.map BD) zs
 |_,_,.nil,_=>⟨[],.nil,aK.nil⟩
 |l::lss,u::out,.cons q t,hm=>by
  obtain⟨zs,z1,z2⟩:=Ek I h r t λx hx=>hm x (zi _ hx);have c:∀(cY:O (O AY)) (vs:O V) (AQ:O A0),aK X.K H (cY.map BD) vs->AX vs AQ->u∈AQ->∃v,As v u/\AW X.K H (BD l) v:=by
   intro cY
   induction cY with
   |nil=>
    intro vs AQ h r a;simp only[kD,aK]at h;subst h;cases r;cases a
   |cons k cY g=>
    intro vs AQ h r a;simp only[zo,aK]at h;obtain⟨v,vs,rfl,h1,h2⟩:=h;cases r with
    |@cons _ i _ _ b d=>
     rcases List.mem_cons.mp a with rfl|a
     ·have e:k=l:=by
       have:=tL I (cY:=[k]) (vs:=[v]) (AQ:=[u]) (by simp only[zo,kD];exact aK.cons h1 aK.nil) (.cons b .nil);cases this with
       |cons f _=>exact f.inj q
      subst e;exact⟨v,b,h1⟩
     ·exact g vs _ h2 d a
  obtain⟨v,b,h1⟩:=c cY vs AQ h r (hm u (zg ..));exact⟨v::zs,.cons b z1,by rw[zo];exact aK.cons h1 z2⟩
def Qu(k l:O AY):Bool:=((k.zip l).all λp=>Y0 p.1 p.2)
theorem JF:∀{k l:O AY},Qu k l=true->DJ k l
 |[],_,_=>by simp[DJ]
 |_::_,[],_=>by simp[DJ]
 |x::k,y::l,h=>by
  unfold Qu at h;rw[hY,k8,ZH]at h;exact⟨h.1,JF h.2⟩
def El(cY:O (O AY)):Bool:=decide (cY.length<64)&&(cY.all (λk=>!k.isEmpty)&&cY.all λk=>cY.all λl=>Qu k l)
def vB:O Bx->Y Bx
 |[b]=>(wY b).bind λds=>(vA ds).bind λcY=>if El cY=true then Z (.o ((nj cY).map BD))else U
 |_=>U
theorem Ia(h:aX K H b v)(e:wY b=Z ds):∃a vs,v=.ref a/\(uG K H a vs\/Ay K H a vs)/\aK K H ds vs:=by
 cases b with
 |z d=>
  cases d<;>first|(cases e;done)|skip
  ·cases e;simp only[aX,AW]at h;obtain⟨a,vs,e,q,r⟩:=h;exact⟨a,vs,e,.inr q,r⟩
  ·cases e;simp only[aX,AW]at h;obtain⟨a,vs,e,q,r⟩:=h;exact⟨a,vs,e,.inl q.sq,r⟩
 |l c=>cases e;obtain⟨a,vs,e,q,r⟩:=h;exact⟨a,vs,e,.inl (.inl q),r⟩
 |o c=>cases e;obtain⟨a,vs,e,q,r⟩:=h;exact⟨a,vs,e,.inl (.inl (.inl q)),r⟩
 |n _=>cases e
 |m _ _=>cases e
theorem BZ:pU X (.builtin "sorted") vB:=by
 intro AN s σ H xs us Q I rx h;obtain⟨bs,c,rb,e,q⟩:=h;unfold vB at e;split at e
 ·rename_i b;obtain⟨ds,ed,e⟩:=AT e;obtain⟨cY,ek,e⟩:=AT e;split at e
  ·rename_i hs;cases e;simp only[El,ZH,zz,qc,QY]at hs;obtain⟨G,M,B⟩:=hs;obtain⟨v,rfl,J⟩:=BG rb;obtain⟨p,vs,rfl,sq,x⟩:=Ia J ed;obtain⟨u,rfl,K⟩:=BA rx;cases K;have E:=Ej ek;subst E;have N:∃(AQ:O A0) (o:AE) (T:String) (n:Nat),AX vs AQ/\s.heap.get? p=Z o/\o.cls=.type T/\(T ="list" ∨ T ="tuple")/\o.data=.seq AQ.toArray n/\vs.length<=AA:=by
    rcases sq with sq|sq
    ·obtain⟨AQ,f,pl,j⟩:=I.list sq;obtain⟨o,g,c,n,d⟩:=pl.isList;exact⟨AQ,o,_,n,f,g,c,.inl rfl,d,j⟩
    ·obtain⟨AQ,f,⟨o,g,c,n,d⟩,j⟩:=I.tuple sq;exact⟨AQ,o,_,n,f,g,c,.inr rfl,d,j⟩
   obtain⟨AQ,o,T,n,f,g,D,hT,hd,j⟩:=N;have a1:AQ.length=cY.length:=by rw[<-f.length,x.length,zl]
   have tv:=tL I x f;refine f7 (kd:=tuples' true) (rk:=λv=>CM cY (BC cY AQ v)) (vs:=AQ) (λW Q' y=>JC g D hT hd (by rw[<-f.length];exact j) y)
    (λh2 W A' s' k Q' y=>Oh (Paired.imp' (λ_ _ z=>lJ.keep z k) tv) (λk t=>by have:=M k t;cases k with|nil=>cases this|cons _ _=>exact kJ _ _) (λk t l i=>JF (B k t l i)) () y)
    (λA' s' k=>Tz (Paired.imp' (λ_ _ z=>lJ.keep z k) tv) λk t l i=>JF (B k t l i)) () λl h' tk m st hp up i ext P=>?_
   have L:=TF tv hp up;have mem:∀u∈((AM st).map (·.2)).toList,u∈AQ:=λu A=>by
    rw[kH]at A;obtain⟨pr,C,rfl⟩:=List.mem_map.mp A;have a0:pr∈AQ.zip AQ:=by rw[<-pairsOf_toList];exact(dz.mp hp).mem_iff.mp C
    have:=mem_zip_self a0;rw[<-this.1];exact this.2
   obtain⟨zs,z1,z2⟩:=Ek I x f L mem;have F:zs.length=cY.length:=by rw[z2.length,zl,(mL cY).length_eq]
   have w:H l=U:=I.hok.fresh i;refine⟨.ref l,_,I.laid (t':=tk) (a:=l) (o:=.lst zs) ext i ⟨by rw[F];exact j0 (ZZ G ()),_,m,z1,?_⟩,rfl,q _ _ (bO w) (λa ea=>by cases ea;exact w) ⟨l,zs,rfl,aV,z2.kp (.of (bO w))⟩⟩;rw[P]
  ·cases e
 ·cases e
end P1
namespace S6
theorem TC{b:Source}{Q:Nat->A2->Prop}(a:n≠0)(h:∀i d,i<n->Q i { s with drawn:=d }):A7 M A (choose b n) Q E s:=
 λc p e=>⟨a,h _ _ (gi _ (Nat.pos_of_ne_zero a))⟩
theorem Qv{α:Type}:∀{xs:O α} {i:Nat} (hi:i<xs.length),(xs[i]::xs.eraseIdx i).Perm xs
 |x::xs,0,_=>List.Perm.refl _
 |x::xs,i+1,h=>by
  rw[List.eraseIdx_cons_succ,List.getElem_cons_succ];exact(List.Perm.swap _ _ _).trans ((Qv (xs:=xs) (i:=i) (by simpa using h)).cons x)
theorem SE:∀(n:Nat) (xs:O α) (s:A2) (Q:O α->A2->Prop),xs.length=n->(∀ys d,ys.Perm xs->Q ys { s with drawn:=d })->A7 M A (drawOrder n xs) Q E s:=by
 intro n
 induction n with
 |zero=>
  intro xs s Q a h;cases xs with
  |nil=>
   unfold drawOrder;exact zh (h [] s.drawn (List.Perm.refl _))
  |cons x xs=>simp at a
 |succ n c=>
  intro xs s Q a h;cases xs with
  |nil=>simp at a
  |cons x xs=>
   unfold drawOrder;refine zd (TC (by simp) λi d hi=>?_);have e:(x::xs)[i]?=Z (x::xs)[i]:=by simp[hi]
   rw[e];dsimp only;refine zd (c ((x::xs).eraseIdx i) _ _ (by rw[m5,zt hi];simp at a ⊢;omega) λys b hp=>zh ?_);exact h _ b ((List.Perm.cons _ hp).trans (Qv hi))
theorem Y6{α:Type}(next:Nat->Nat):∀(n k:Nat) (xs:O α) (out:Array α),xs.length=n->(pickOrder.go next n k xs out).toList.Perm (out.toList++xs)
 |0,k,[],out,_=>by unfold pickOrder.go;simp
 |n+1,k,x::xs,out,hl=>by
  unfold pickOrder.go;have hi:next k%(x::xs).length<(x::xs).length:=gi _ (by simp);have e:(x::xs)[next k%(x::xs).length]?=Z (x::xs)[next k%(x::xs).length]:=by rw[Zp hi]
  rw[e];dsimp only;refine(Y6 next n (k+1) _ _ (by rw[m5,zt hi];simp at hl ⊢;omega)).trans ?_;rw[Array.toList_push,ZT];exact(List.Perm.refl _).append (Qv hi)
theorem Ta(next:Nat->Nat)(xs:Array α):(pickOrder next xs).toList.Perm xs.toList:=by
 have:=Y6 next xs.size 0 xs.toList #[] (by simp);simpa[pickOrder]using this
structure Wk (w:World) (h:Heap) (a:Addr) (es:Array (Int×Value)) (ep:Nat) (t:SetTable):Prop where
 at_:∃o,h.get? a=some o/\o.cls=.type "set" ∧ o.data=.set es ep t
 fit:t.fits es.size=true
 led:w.params.followText "set-order"=false->t.led=true
 non:1<es.size->t.plain=false
theorem Wk.keep{h':A6}{es:Array (Int×A0)}(x:Wk w h a es ep t)(k:∀o,h.get? a=Z o->h'.get? a=Z o):Wk w h' a es ep t:=
 ⟨let ⟨o,e,r⟩:=x.at_;⟨o,k o e,r⟩,x.fit,x.led,x.non⟩
def It(h:A6)(it a:A1)(first:A0)(i n ep:Nat):Prop:=∃o,h.get? it=Z o/\o.cls=.type "set_iterator" ∧ o.data=.fields #[first,.int (i:Int) 0,.ref a,.int (n:Int) 0,.int (ep:Int) 0]
theorem It.keep{h':A6}{f:A0}(x:It h it a f i n ep)(k:∀o,h.get? it=Z o->h'.get? it=Z o):It h' it a f i n ep:=
 let ⟨o,e,r⟩:=x;⟨o,k o e,r⟩
theorem It.ty{f:A0}(x:It s.heap it a f i n ep):s.TypeIs (.ref it) "set_iterator":=let ⟨o,e,c,_⟩:=x;⟨o,e,c⟩
theorem j7:Slot "set_iterator" "__next__" "set_iterator.__next__":=
 .of (owner :="set_iterator") (n :="__next__") (by rw[typeLookup_type,builtinLookup_eq_fast];kernel_rfl) (by decide +kernel) (by decide +kernel) (by decide +kernel)
  (by first|exact .inl (by decide +kernel)|exact .inr (by decide +kernel)) (by rw[isSubtype_type];kernel_rfl)
theorem Ca:Slot "set_iterator" "__iter__" "set_iterator.__iter__":=
 .of (owner :="set_iterator") (n :="__iter__") (by rw[typeLookup_type,builtinLookup_eq_fast];kernel_rfl) (by decide +kernel) (by decide +kernel) (by decide +kernel)
  (by first|exact .inl (by decide +kernel)|exact .inr (by decide +kernel)) (by rw[isSubtype_type];kernel_rfl)
theorem Mp:entryFor table "set_iterator.__next__"=Z Builtin.«set_iterator.__next__»:=entryFor_of_tree (by kernel_rfl)
theorem G4:entryFor table "set.__iter__"=Z Builtin.«frozenset.__iter__»:=entryFor_alias (id' :="frozenset.__iter__") (by kernel_rfl) S (by decide +kernel) (by kernel_rfl)
theorem Mq:entryFor table "set_iterator.__iter__"=Z Builtin.«dict_keyiterator.__iter__»:=entryFor_alias (id' :="dict_keyiterator.__iter__") (by kernel_rfl) S (by decide +kernel) (by kernel_rfl)
theorem OK:Manifest.owners.lookup (String.ofList "rotareti_tes".toList.reverse)=Z Manifest.sig_set_iterator:=by kernel_rfl
theorem Qw(a:A0):argsOk "set_iterator.__next__" ⟨[a],[]⟩:=by
 unfold argsOk;rw[signature?_of (id :="set_iterator.__next__") (n :="__txen__".toList) (o :="rotareti_tes".toList) (by kernel_rfl) OK];kernel_rfl
theorem Qx(a:A0):argsOk "set_iterator.__iter__" ⟨[a],[]⟩:=by
 unfold argsOk;rw[signature?_of (id :="set_iterator.__iter__") (n :="__reti__".toList) (o :="rotareti_tes".toList) (by kernel_rfl) OK];kernel_rfl
section
variable{es:Array (Int×A0)}
theorem Ib{first:A0}(d:It s.heap it a first i es.size ep)(g:Wk w s.heap a es ep t)(h:A7 (A8 prog w) A.in1 (if let .int slot _:=first then(do
    match <-setNext a slot.toNat (i:Int).toNat (ep:Int).toNat with
    |some (x,next)=>
     setField (.ref it) 0 (rawInt next)
     setField (.ref it) 1 (rawInt ((i:Int)+1))
     ret x
    |none=>setField (.ref it) 2 .none;raiseNew (<-newExc (.type "StopIteration") []))
   else(do
    let Z places <-seqItems? first|unsupported "internal:set_iterator"
    match places[(i:Int).toNat]? with
    |some (.int place _)=>
     let x <-setNextDrawn a place.toNat (ep:Int).toNat
     setField (.ref it) 1 (rawInt ((i:Int)+1))
     ret x
    |some _=>unsupported "internal:set_iterator"
    |none=>setField (.ref it) 0 (rawInt 0);setField (.ref it) 2 .none;raiseNew (<-newExc (.type "StopIteration") []))) (λf s'=>∃v,f=.done (.ret v)/\Q (Z v) s') (λe s'=>s'.TypeIs e "StopIteration" ∧ Q U s') s):A7 (A8 prog w) A (pyNext (.ref it)) Q E s:=by
 obtain⟨o,ho,p,hd⟩:=id d;obtain⟨n,m,q,l⟩:=g.at_;unfold pyNext;refine zd (wpAny_attempt (xa (name:=Str.ofString "__next__") d.ty j7 (ky j7 d.ty Mp ?_ (Qw _))));unfold Builtin.«set_iterator.__next__»;refine zd (zh ?_);refine zd (wpAny_fieldsOf ho hd ?_);show A7 _ _ (setEntries a >>= _) _ _ s;refine zd (wpAny_setEntries_of m l g.fit ?_);rw[zD (by simp)];refine QI h (λf s' c=>?_) λe s' c=>?_
 ·obtain⟨v,rfl,j⟩:=c;exact⟨v,rfl,zh j⟩
 ·refine zd (JO (T :="StopIteration") (b:=true) c.1 isSubtype_stop ?_);exact zh c.2
theorem Y7{hp:A6}(c:A.handled=U)(h:∀h',(∀b o,hp.get? b=Z o->h'.get? b=Z o)->Q U { s with heap:=h' }):
  A7 (A8 prog w) A.in1 (do raiseNew (<-newExc (.type "StopIteration") [])) (λ(d:Fin) s'=>∃v,d=.done (.ret v)/\Q (Z v) s') (λe s'=>s'.TypeIs e "StopIteration" ∧ Q U s') { s with heap:=hp }:=by
 refine zd ?_;simp only[newExc,newTuple];refine zd (qo ?_ (by size_fits));refine zd (m:=firstArgMember _ _) (YE (a:=Value.none) (by first|rfl|(simp only[firstArgMember];rfl)) ?_);refine qo ?_ (by size_fits);simp only[raiseNew];refine zd (wpAny_handled ?_);rw[show A.in1.handled=U from c];refine zd (zh (wpAny_throw ⟨⟨_,zw _ rfl,rfl⟩,?_⟩));exact h _ λb o e=>ze _ (ze _ e)
theorem It.put{f:A0}(b:It h it a f i n ep)(x:A0):It (h.update it (Obj.mapFields (·.setIfInBounds 0 x))) it a x i n ep:=by
 obtain⟨o,ho,c,hd⟩:=b;exact⟨_,kA _ ho (Obj.isFreed_of_fields (y9 hd _)),(Obj.cls_mapFields ..).trans c,by rw[y9 hd];simp⟩
theorem It.step{f:A0}(b:It h it a f i n ep):It (h.update it (Obj.mapFields (·.setIfInBounds 1 (rawInt ((i:Int)+1))))) it a f (i+1) n ep:=by
 obtain⟨o,ho,c,hd⟩:=b;exact⟨_,kA _ ho (Obj.isFreed_of_fields (y9 hd _)),(Obj.cls_mapFields ..).trans c,by rw[y9 hd];simp[rawInt]⟩
theorem It.field{f:A0}{k:Nat}{x:A0}{Q:Unit->A2->Prop}(b:It s.heap it a f i n ep)(c:k<5)(h:Q r9 { s with heap:=s.heap.update it (Obj.mapFields (·.setIfInBounds k x)) }):A7 (A8 prog w) A (setField (.ref it) k x) Q E s:=by
 obtain⟨o,ho,d,hd⟩:=b;exact wpAny_setField ho hd (by simpa using c) h
theorem uN{f:AE->AE}{b:A1}{o:AE}(hb:b≠it)(e:h.get? b=Z o):(h.update it f).get? b=Z o:=by rw[kq _ _ _ _ hb];exact e
theorem LZ{slot next:Nat}{x:A0}(c:It s.heap it a (.int (slot:Int) 0) i es.size ep)(g:Wk w s.heap a es ep t)(f:∀{j:A5} {l:B7} {d:Y (A0×Nat)->A2->Prop},d (Z (x,next)) s->A7 (A8 prog w) j (setNext a slot i ep) d l s)(h:∀h',It h' it a (.int (next:Int) 0) (i+1) es.size ep->(∀b o,b≠it->s.heap.get? b=Z o->h'.get? b=Z o)->Q (Z x) { s with heap:=h' }):A7 (A8 prog w) A (pyNext (.ref it)) Q E s:=by
 refine Ib c g ?_;show A7 _ _ (setNext a slot i ep >>= _) _ _ s;refine zd (f ?_);refine zd (c.field () ?_);refine zd ((c.put _).field (s:={ s with heap:=_ }) () ?_);exact zh ⟨x,rfl,h _ ((c.put _).step) λb o hb e=>uN hb (uN hb e)⟩
theorem JG{slot:Nat}(m:A.handled=U)(c:It s.heap it a (.int (slot:Int) 0) i es.size ep)(g:Wk w s.heap a es ep t)(f:∀{j:A5} {l:B7} {d:Y (A0×Nat)->A2->Prop},d U s->A7 (A8 prog w) j (setNext a slot i ep) d l s)(h:∀h',(∀b o,b≠it->s.heap.get? b=Z o->h'.get? b=Z o)->Q U { s with heap:=h' }):A7 (A8 prog w) A (pyNext (.ref it)) Q E s:=by
 refine Ib c g ?_;show A7 _ _ (setNext a slot i ep >>= _) _ _ s;refine zd (f ?_);refine zd (c.field () (Y7 m λh' k=>h h' λb o hb e=>k b o (uN hb e)))
theorem cy{tp:A1}{g:AE}{c:Nat}{x:Int×A0}(f:It s.heap it a (.ref tp) i es.size ep)(d:Wk w s.heap a es ep t)(n:s.heap.get? tp=Z g)(hd:g.data=.seq (pl.map λ(k:Nat)=>rawInt (k:Int)).toArray c)(p:pl[i]?=Z j)(hx:es[j]?=Z x)(h:∀h',It h' it a (.ref tp) (i+1) es.size ep->(∀b o,b≠it->s.heap.get? b=Z o->h'.get? b=Z o)->Q (Z x.2) { s with heap:=h' }):A7 (A8 prog w) A (pyNext (.ref it)) Q E s:=by
 refine Ib f d ?_;show A7 _ _ (seqItems? (.ref tp) >>= _) _ _ s;refine zd (m:=seqItems? (.ref tp)) ?_;unfold seqItems?;refine zd (yz n ?_);rw[hd];refine zh ?_;dsimp only;rw[KS,show((pl.map λ(k:Nat)=>rawInt (k:Int)).toArray)[i]?=Z (rawInt (j:Int)) by simp[p]];show A7 _ _ (setNextDrawn a j ep >>= _) _ _ s;obtain⟨u,q,v,l⟩:=d.at_;refine zd (m:=setNextDrawn a j ep) ?_;unfold setNextDrawn;refine zd (Jn q l d.fit ?_);dsimp only;rw[zD (by simp),hx];refine zh ?_;refine zd (f.field () ?_);exact zh ⟨x.2,rfl,h _ f.step λb o hb e=>uN hb e⟩
theorem TV{tp:A1}{f:AE}{c:Nat}(n:A.handled=U)(d:It s.heap it a (.ref tp) i es.size ep)(g:Wk w s.heap a es ep t)(j:s.heap.get? tp=Z f)(hd:f.data=.seq (pl.map λ(k:Nat)=>rawInt (k:Int)).toArray c)(l:pl[i]?=U)(h:∀h',(∀b o,b≠it->s.heap.get? b=Z o->h'.get? b=Z o)->Q U { s with heap:=h' }):A7 (A8 prog w) A (pyNext (.ref it)) Q E s:=by
 refine Ib d g ?_;show A7 _ _ (seqItems? (.ref tp) >>= _) _ _ s;refine zd (m:=seqItems? (.ref tp)) ?_;unfold seqItems?;refine zd (yz j ?_);rw[hd];refine zh ?_;dsimp only;rw[KS,show((pl.map λ(k:Nat)=>rawInt (k:Int)).toArray)[i]?=U by simpa using l];refine zd (d.field () ?_);refine zd ((d.put _).field (s:={ s with heap:=_ }) () (Y7 n λh' k=>h h' λb o hb e=>k b o (uN hb (uN hb e))))
theorem yW{Q:Bool->A2->Prop}(h:Q (w.params.followText "set-order") s):A7 (A8 prog w) A setsByText Q E s:=by
 unfold setsByText;exact zd (YV (zh h))
theorem Qy{f:A0}{Q:B7}(b:It s.heap it a f i n ep)(h:Q (.ref it) s):A7 (A8 prog w) A (pyIter (.ref it)) Q E s:=by
 refine wpAny_pyIter_slot b.ty Ca (ky Ca b.ty Mq ?_ (Qx _));show A7 _ _ (ret (.ref it)) _ _ s;exact zh ⟨_,rfl,"set_iterator", _,b.ty,j7.lookup,h⟩
def Qz(w:A4)(a:A1)(ep:Nat)(es:Array (Int×A0)):O A0:=(pickOrder (w.params.setOrder a ep) es).toList.map (·.2)
theorem Em:(Qz w a ep es).Perm (es.toList.map (·.2)):=(Ta _ _).map _
theorem Oj{slot:Nat}{Q:Y (A0×Nat)->A2->Prop}(d:w.params.followText "set-order"=true)(b:Wk w s.heap a es ep t)(h:Q (((Qz w a ep es)[i]?).map λv=>(v,slot)) s):A7 (A8 prog w) A (setNext a slot i ep) Q E s:=by
 obtain⟨g,f,j,c⟩:=b.at_;unfold setNext;refine zd (Jn f c b.fit (zd (yW ?_)));rw[d];simp only[↓reduceIte,bne_self_eq_false,zr];refine zd (m:=setWalk a) ?_;unfold setWalk;refine zd (Jn f c b.fit (zd (yW ?_)));rw[d];simp only[↓reduceIte];refine zd (YV (zh (zh ?_)));have e:(pickOrder (w.params.setOrder a ep) es)[i]?.map (λe=>(e.2,slot))=((Qz w a ep es)[i]?).map λv=>(v,slot):=by
  unfold Qz;rw[ZE,q4,QO];rfl
 rw[<-e]at h;exact h
theorem WX(p:A.handled=U)(j:w.params.followText "set-order"=true)(m:a≠it)(c:es.size<=AA):Walks prog w A it [it,a] [it] es.size (λi v=>(Qz w a ep es)[i]?=Z v) (λi h=>It h it a (.int 0 0) i es.size ep/\Wk w h a es ep t) where
 sub:=λb hb=>by simp at hb;simp[hb]
 frame:=λ_ _ _ st g=>⟨st.1.keep λo e=>g it (by simp) o e,st.2.keep λo e=>g a (by simp) o e⟩
 item:=λi s Q E hi st d=>by
  have n:(Qz w a ep es).length=es.size:=by rw[Em.length_eq];simp
  obtain⟨v,f⟩:∃v,(Qz w a ep es)[i]?=Z v:=⟨(Qz w a ep es)[i]'(),by rw[Zp]⟩;refine LZ (slot:=0) (next:=0) (x:=v) st.1 st.2 (λ{A' E' Q'} hq=>Oj j st.2 (by rw[f];exact hq)) λh' l k=>?_;exact d v h' s.toks f ⟨l,st.2.keep λo e=>k a o m e⟩ λb o hb e=>k b o (λx=>hb (by simp[x])) e
 done:=λs Q E st d=>by
  have n:(Qz w a ep es).length=es.size:=by rw[Em.length_eq];simp
  refine JG (slot:=0) p st.1 st.2 (λ{A' E' Q'} hq=>Oj j st.2 (by rw[qV ()];exact hq)) λh' k=>?_;exact d h' s.toks λb o hb e=>k b o (λx=>hb (by simp[x])) e
 self:=λ_ _ _ _ st d=>Qy st.1 d
def ET(pl:O Nat)(es:Array (Int×A0)):O A0:=pl.filterMap λj=>es[j]?.map (·.2)
theorem UP(h:pl.Perm (cf es.size)):(ET pl es).Perm (es.toList.map (·.2)):=by
 refine(h.filterMap _).trans ?_;rw[show(cf es.size).filterMap (λj=>es[j]?.map (·.2))=((cf es.size).filterMap λj=>es[j]?).map (·.2) by rw[List.map_filterMap],filterMap_getElem?_range]
theorem TX:∀{pl:O Nat},(∀j∈pl,j<es.size)->∀(i:Nat) (j:Nat),pl[i]?=Z j->(ET pl es)[i]?=es[j]?.map (·.2)
 |[],_,_,_,h=>by simp at h
 |k::pl,hb,i,j,h=>by
  have a:=hb k (zg ..);have e:ET (k::pl) es=es[k].2::ET pl es:=by simp[ET,a]
  rw[e];cases i with
  |zero=>cases(show k=j by simpa using h);simp[a]
  |succ i=>rw[qf];exact TX (λj b=>hb j (zi _ b)) i j (by simpa using h)
theorem WY{tp:A1}(q:A.handled=U)(n:a≠it)(u:tp≠it)(hp:pl.Perm (cf es.size)):Walks prog w A it [it,a,tp] [it] es.size (λi v=>(ET pl es)[i]?=Z v)
  (λi h=>It h it a (.ref tp) i es.size ep/\Wk w h a es ep t/\∃d c,h.get? tp=Z d/\d.data=.seq (pl.map λ(k:Nat)=>rawInt (k:Int)).toArray c) where
 sub:=λb hb=>by simp at hb;simp[hb]
 frame:=λ_ _ _ st l=>⟨st.1.keep λo e=>l it (by simp) o e,st.2.1.keep λo e=>l a (by simp) o e,let ⟨d,c,e,r⟩:=st.2.2;⟨d,c,l tp (by simp) d e,r⟩⟩
 item:=λi s Q E hi st f=>by
  obtain⟨d,c,e1,e2⟩:=st.2.2;have p:pl.length=es.size:=by rw[hp.length_eq];simp
  have hb:∀j∈pl,j<es.size:=λj g=>List.mem_range.mp (hp.mem_iff.mp g);have g:pl[i]?=Z (pl[i]'()):=by rw[Zp]
  have hx:es[pl[i]'()]?=Z (es[pl[i]'()]'(hb _ (Y2 _))):=by rw[qi]
  refine cy st.1 st.2.1 e1 e2 g hx λh' m k=>?_;exact f _ h' s.toks (by rw[TX hb i _ g,hx];rfl) ⟨m,st.2.1.keep λo e=>k a o n e,d,c,k tp d u e1,e2⟩ λb o hb e=>k b o (λx=>hb (by simp[x])) e
 done:=λs Q E st f=>by
  obtain⟨d,c,e1,e2⟩:=st.2.2;have p:pl.length=es.size:=by rw[hp.length_eq];simp
  refine TV q st.1 st.2.1 e1 e2 (by rw[qV ()]) λh' k=>?_;exact f h' s.toks λb o hb e=>k b o (λx=>hb (by simp[x])) e
 self:=λ_ _ _ _ st f=>Qy st.1 f
def xY(t:SetTable)(i:Nat):Nat:=if i=0 then 0 else t.place.getD 0 0+1
theorem iO(j:Nat):bn #[j] 0=0:=by
 show bn.go #[j] 0 1 0 1=0;unfold bn.go;rw[zt ()];show(if #[j].getD 0 0<0 then _ else bn.go #[j] 0 0 0 0)=0;rw[zD (kX _)];rfl
theorem U'(j:Nat):bn #[j] (j+1)=1:=by
 show bn.go #[j] (j+1) 1 0 1=1;unfold bn.go;rw[zt ()];show(if j<j+1 then bn.go #[j] (j+1) 0 1 1 else _)=1;rw[zt (qa _)];rfl
theorem S3{P:Y (A0×Nat)->Prop}{r:Y (A0×Nat)}(hp:t.place.size=es.size)(c:es.size<=1)(hi:i<=es.size)
  (b:r=match es[bn t.place (xY t i)]?,t.place[bn t.place (xY t i)]? with
   |some (_,x),Z j=>Z (x,j+1)
   |_,_=>U) (h:P (((es.toList.map (·.2))[i]?).map λv=>(v,xY t (i+1)))):P r:=by
 subst b;by_cases h0:es.size=0
 ·have e:es=#[]:=fZ h0;subst e;simpa using h
 ·have h1:es.size=1:=by omega
  obtain⟨x,rfl⟩:=mu.mp h1;obtain⟨j,a⟩:=mu.mp (hp.trans h1);have hi:i=0\/i=1:=by omega
  rcases hi with rfl|rfl
  ·have e1:xY t 0=0:=rfl;have e2:xY t (0+1)=j+1:=by unfold xY;rw[a];rfl
   rw[e2]at h;rw[e1,a,iO];exact h
  ·have e2:xY t 1=j+1:=by unfold xY;rw[a];rfl
   rw[e2,a,U'];exact h
theorem JH{Q:Y (A0×Nat)->A2->Prop}(d:w.params.followText "set-order"=false)(b:Wk w s.heap a es ep t)(g:es.size<=1)(hi:i<=es.size)(h:Q (((es.toList.map (·.2))[i]?).map λv=>(v,xY t (i+1))) s):A7 (A8 prog w) A (setNext a (xY t i) i ep) Q E s:=by
 obtain⟨m,l,n,f⟩:=b.at_;have hp:t.place.size=es.size:=by
  have:=b.fit;simp only[q5,ZH,beq_iff_eq]at this;exact this.1
 unfold setNext;refine zd (Jn l f b.fit (zd (yW ?_)));rw[d];simp only[zr,↓reduceIte];split
 ·rename_i c;have c:(!t.plain&&decide (es.size>1))=true:=c;simp at c;omega
 ·have j:A7 (A8 prog w) A (if(!t.led&&!es.isEmpty)=true then unsupported "set:maker-not-led" else pure PUnit.unit) (λ_ s'=>s'=s) E s:=by
   rw[b.led d];exact zh rfl
  refine zd (QI j (λ_ s' e=>?_) λ_ _ x=>x);subst e;refine zh ?_;exact S3 (P:=λr=>Q r s') hp g hi S h
theorem TY(n:A.handled=U)(j:w.params.followText "set-order"=false)(g:es.size<=1)(m:a≠it):Walks prog w A it [it,a] [it] es.size (λi v=>(es.toList.map (·.2))[i]?=Z v) (λi h=>It h it a (.int (xY t i:Nat) 0) i es.size ep/\Wk w h a es ep t) where
 sub:=λb hb=>by simp at hb;simp[hb]
 frame:=λ_ _ _ st f=>⟨st.1.keep λo e=>f it (by simp) o e,st.2.keep λo e=>f a (by simp) o e⟩
 item:=λi s Q E hi st c=>by
  obtain⟨v,d⟩:∃v,(es.toList.map (·.2))[i]?=Z v:=⟨(es.toList.map (·.2))[i]'(by simpa using hi),by rw[Zp]⟩;refine LZ (x:=v) st.1 st.2 (λ{A' E' Q'} hq=>JH j st.2 g (j0 hi) (by rw[d];exact hq)) λh' l k=>?_;exact c v h' s.toks d ⟨l,st.2.keep λo e=>k a o m e⟩ λb o hb e=>k b o (λx=>hb (by simp[x])) e
 done:=λs Q E st c=>by
  refine JG n st.1 st.2 (λ{A' E' Q'} hq=>JH j st.2 g (zk _) (by rw[qV (by simp)];exact hq)) λh' k=>?_;exact c h' s.toks λb o hb e=>k b o (λx=>hb (by simp[x])) e
 self:=λ_ _ _ _ st c=>Qy st.1 c
theorem TB(c:Wk w s.heap a es ep t)(z:es.size<=AA){Q:B7}
  (h:∀(it:A1) (h':A6) (d:Drawn) (fp:O A1) (St:Nat->A6->Prop) (B:O A0),B.Perm (es.toList.map (·.2))->(∀n:A5,n.handled=U->Walks prog w n it fp [it] es.size (λi v=>B[i]?=Z v) St)->St 0 h'->s.heap.objs.size<=it->it<h'.objs.size →
   (∀b∈fp,b=a\/s.heap.objs.size<=b)->(∀b∈fp,b<h'.objs.size)->(∀b o,s.heap.get? b=Z o->h'.get? b=Z o)->Q (.ref it) { s with heap:=h',drawn:=d }):A7 (A8 prog w) A (pyIter (.ref a)) Q E s:=by
 obtain⟨I,f,H,l⟩:=id c.at_;have C:s.TypeIs (.ref a) "set":=⟨I,f,H⟩;have j:a<s.heap.objs.size:=zv f;refine wpAny_pyIter_slot C F.slot_set_iter (ky F.slot_set_iter C G4 ?_ (F.args_set_iter_1 _));show A7 _ _ (Builtin.Frozenset.sizeOf a >>= _) _ _ s;refine zd (m:=Builtin.Frozenset.sizeOf a) (zd (wpAny_setEntries_of f l c.fit (zh ?_)));have hd:A7 (A8 prog w) A.in1 (setDrawn a) (λb s'=>s'=s/\b=(!(w.params.followText "set-order")&&(!t.plain&&decide (es.size>1)))) E s:=by
  unfold setDrawn;exact zd (Jn f l c.fit (zd (yW (zh ⟨rfl,rfl⟩))))
 refine zd (QI hd (λb s' e=>?_) λ_ _ x=>x);obtain⟨rfl,rfl⟩:=e;dsimp only;by_cases g:w.params.followText "set-order"=true
 ·rw[g];simp only[k9,yT,zr,ZU];refine zd (zh ?_);refine zd (m:=setEpoch a) (wpAny_setEpoch_of f l c.fit ?_);refine zd (qo (zh ⟨_,rfl,"set_iterator", _,⟨_,zw _ rfl,rfl⟩,j7.lookup,?_⟩));have:=h s'.heap.objs.size (s'.heap.push { cls:=.type "set_iterator",data:=.fields #[.int 0 0,.int 0 0,.ref a,.int es.size 0,.int ep 0] }) s'.drawn [s'.heap.objs.size,a] _ _ Em (λn p=>WX p g (t:=t) (ep:=ep) (Zl j) z)
   ⟨⟨_,zw _ rfl,rfl,rfl⟩,c.keep λo e=>ze _ e⟩ (zk _) (by rw[qk];exact qa _) (λb hb=>by simp at hb;rcases hb with rfl|rfl;exact .inr (zk _);exact .inl S)
   (λb hb=>by simp at hb;rw[qk];rcases hb with rfl|rfl;exact qa _;exact qB j) λb o e=>ze _ e
  exact this
 ·have g:w.params.followText "set-order"=false:=by simpa using g
  rw[g];simp only[Kx,ix];by_cases K:es.size<=1
  ·rw[zD (by simp;omega)];refine zd (zh ?_);refine zd (m:=setEpoch a) (wpAny_setEpoch_of f l c.fit ?_);refine zd (qo (zh ⟨_,rfl,"set_iterator", _,⟨_,zw _ rfl,rfl⟩,j7.lookup,?_⟩));have:=h s'.heap.objs.size (s'.heap.push { cls:=.type "set_iterator",data:=.fields #[.int 0 0,.int 0 0,.ref a,.int es.size 0,.int ep 0] }) s'.drawn [s'.heap.objs.size,a] _ _ (List.Perm.refl _) (λn p=>TY p g K (t:=t) (ep:=ep) (Zl j))
    ⟨⟨_,zw _ rfl,rfl,rfl⟩,c.keep λo e=>ze _ e⟩ (zk _) (by rw[qk];exact qa _) (λb hb=>by simp at hb;rcases hb with rfl|rfl;exact .inr (zk _);exact .inl S)
    (λb hb=>by simp at hb;rw[qk];rcases hb with rfl|rfl;exact qa _;exact qB j) λb o e=>ze _ e
   exact this
  ·rw[zt (by rw[c.non ()];simp;omega)];refine zd (SE _ _ _ _ (by simp) λpl d hp=>?_);refine zd (wpAny_newTuple ?_ (by rw[zl,hp.length_eq,Kj];exact z));refine zd (m:=setEpoch a) (wpAny_setEpoch_of (ze _ f) l c.fit ?_);refine zd (qo (zh ⟨_,rfl,"set_iterator", _,⟨_,zw _ rfl,rfl⟩,j7.lookup,?_⟩));generalize u:s'.heap.push { cls:=.type "tuple",data:=.seq (pl.map λ(k:Nat)=>rawInt (k:Int)).toArray }=G;have q:G.objs.size=s'.heap.objs.size+1:=by rw[<-u,qk]
   have J:G.get? s'.heap.objs.size=Z { cls:=.type "tuple",data:=.seq (pl.map λ(k:Nat)=>rawInt (k:Int)).toArray }:=by rw[<-u];exact zw _ rfl
   have y:∀b o,s'.heap.get? b=Z o->G.get? b=Z o:=λb o e=>by rw[<-u];exact ze _ e
   have D:a<G.objs.size:=by rw[q];exact qB j
   have:=h G.objs.size (G.push { cls:=.type "set_iterator",data:=.fields #[.ref s'.heap.objs.size,.int 0 0,.ref a,.int es.size 0,.int ep 0] }) d [G.objs.size,a,s'.heap.objs.size] _ _ (UP hp) (λn p=>WY p (t:=t) (ep:=ep) (tp:=s'.heap.objs.size) (Zl D) (by rw[q];exact Zl (qa _)) hp)
    ⟨⟨_,zw _ rfl,rfl,rfl⟩,c.keep λo e=>ze _ (y _ _ e),_,0,ze _ J,rfl⟩ (by rw[q];exact Kn _) (by rw[qk];exact qa _)
    (λb hb=>by simp at hb;rcases hb with rfl|rfl|rfl;exact .inr (by rw[q];exact Kn _);exact .inl rfl;exact .inr (zk _))
    (λb hb=>by
     simp at hb;rw[qk];rcases hb with rfl|rfl|rfl
     ·exact qa _
     ·exact qB D
     ·exact qB (by rw[q];exact qa _)) λb o e=>ze _ (y _ _ e)
   exact this
end
end S6
namespace S6
open P1
section
variable{es:Array (Int×A0)}
theorem nv{b:O A0}{a:Array A0}(f:b.length=n)(h:ItemsOf (λi v=>b[i]?=Z v) a n):a.toList=b:=by
 apply i5;intro j;by_cases d:j<n
 ·have c:j<a.size:=by rw[h.1];exact d
  have e:a.toList[j]?=Z a[j]:=by simp[c]
  rw[e,h.2 j a[j] (by simp[c])]
 ·rw[qV (by rw[Qb,h.1];omega),qV ()]
theorem T3{Q:O A0->A2->Prop}(D:A.handled=none)(y:Wk w s.heap a es ep t)(v:es.size<=AA)
  (M:∀f h' d tk,f.Perm (es.toList.map (·.2))->s.heap.objs.size<=h'.objs.size->(∀b o,s.heap.get? b=Z o->h'.get? b=Z o)->Q f { s with heap:=h',drawn:=d,toks:=tk }):
  A7 (A8 prog w) A (collect (.ref a)) Q E s:=by
 obtain⟨i,h,n,a4⟩:=id y.at_;have hT:s.TypeIs (.ref a) "set":=⟨i,h,n⟩;have I:a<s.heap.objs.size:=zv h;unfold collect;refine zd (wpAny_runValue (ke F.entry_proto_collect ?_));rw[Around.under_plainId F.plain_proto_collect _];show A7 _ A.in1 (newList [] >>= λq=>again (.builtin "list.__iadd__" ⟨[q,.ref a],[]⟩)) _ _ s;refine zd (qo (zh ⟨plainId_quiet F.plain_list_iadd _,ke F.entry_list_iadd ?_⟩));rw[Around.under_plainId F.plain_list_iadd _];show A7 _ A.in1 (Builtin.List.listExtendWith (.ref s.heap.objs.size) (.ref a) (.ref s.heap.objs.size)) _ _ _;unfold Builtin.List.listExtendWith;generalize j:(s.heap.push { cls:=.type "list",data:=.seq ([]:O A0).toArray })=H;have g:∀b o,s.heap.get? b=Z o->H.get? b=Z o:=λb o e=>by rw[<-j];exact ze _ e
 have J:H.objs.size=s.heap.objs.size+1:=by rw[<-j,qk]
 have gH:H.get? s.heap.objs.size=Z (seqObj "list" #[] 0):=by rw[<-j];exact zw _ rfl
 have N:Wk w H a es ep t:=y.keep λo e=>g a o e;refine zd (jS (T :="set") ⟨i,g _ _ h,n⟩ ?_);have h1:Builtin.List.listSameRef (.ref s.heap.objs.size) (.ref a)=false:=by simp[Builtin.List.listSameRef];exact kQ I
 simp only[h1,show(Value.type "set"==Value.type "list")=false by decide,show(Value.type "set"==Value.type "tuple")=false by decide,nc,zr,ZU];refine zd (TB (s:={ s with heap:=H }) N v λit G d fp St f hp W a1 a0 a5 X a6 u=>?_);refine zd (QR ?_);unfold Builtin.List.listLengthHint;have m:Shared.TypeIs { s with heap:=G,drawn:=d } (.ref a) "set":=⟨i,u _ _ (g _ _ h),n⟩;refine zd (wpAny_specialOf (T :="set") m F.slot_set_len.lookup ?_)
 wp_delta
 refine zd (JO (T :="set") (b:=true) m (by rw[isSubtype_type];kernel_rfl) ?_);show A7 _ A.in1 (typeOf (Value.ref a) >>= _) _ _ _;refine zd (jS (T :="set") m (zh ?_));rw[zt ()];show A7 _ A.in1 (Builtin.List.listTouch (Value.ref s.heap.objs.size) >>= λ_=>again (Code.builtin "list.extend.loop" ⟨[Value.ref s.heap.objs.size,Value.ref it,Value.ref s.heap.objs.size],[]⟩)) _ _ _;have l:G.get? s.heap.objs.size=Z (seqObj "list" #[] 0):=u _ _ gH;unfold Builtin.List.listTouch;refine zd (zd (listUpdate_at l S (listUpdate_at (get?_update_seq l _) S ?_ (by show _<=_;decide) (by show _<=_;decide)) (by show _<=_;decide) (by show _<=_;decide)));have C:s.heap.objs.size∉fp:=λc=>by
  rcases X _ c with e|e
  ·exact kQ I e
  ·have e:H.objs.size<=s.heap.objs.size:=e;rw[J]at e;exact absurd e (Nat.not_succ_le_self _)
 have K:=get?_update_seq (get?_update_seq l (λx=>x.push Value.none)) (λx=>x.pop);generalize hU:(G.update s.heap.objs.size (Obj.mapSeq λx=>x.push Value.none)).update s.heap.objs.size (Obj.mapSeq λx=>x.pop)=U at K;have keep:∀b,b≠s.heap.objs.size->U.get? b=G.get? b:=λb hb=>by rw[<-hU,kq _ _ _ _ hb,kq _ _ _ _ hb]
 have a3:St 0 U:=(W A D).frame 0 G U a1 λb hb o e=>by rw[keep b λx=>C (x▸hb)];exact e
 show A7 _ A.in1 (again _) _ _ { s with heap:=U,drawn:=d };have ho:f.length=es.size:=by rw[hp.length_eq];simp
 refine zh ⟨plainId_quiet F.plain_extend_loop _,codeAny_extend_loopS (W A.in1 D).toS v s.heap.objs.size C _ es.size 0 { s with heap:=U,drawn:=d } #[] _ S (QP _) a3 K (ItemsOf.nil _) λs' a2 c' p B P=>?_⟩;show A7 _ A (load s.heap.objs.size >>= _) _ _ s';refine zd (yz B (zh ?_));show Q a2.toList s';rw[nv ho P];have z:=M f s'.heap s'.drawn s'.toks hp (j0 (zv B)) λb L e=>by
  have hb:=zv e;refine p.heap b L (λc=>?_) ((keep b (Zl hb)).trans (u _ _ (g _ _ e)));simp only[js,JP,or_false]at c;rcases c with c|c
  ·exact Zl hb c
  ·have:H.objs.size<=it:=a0;rw[J,<-c]at this;exact absurd hb (mZ.mpr (ol this))
 have e1:s'.gens=s.gens:=p.gens;have e2:s'.os=s.os:=p.os;rw[<-e1,<-e2]at z;exact z
end
theorem Ie{α:Type}[DecidableEq α]:∀{xs ys:O α},xs.Nodup->ys.Nodup->(∀z,z∈xs↔z∈ys)->xs.Perm ys
 |[],ys,_,_,h=>by
  have:ys=[]:=List.eq_nil_iff_forall_not_mem.mpr λz a=>by simpa using(h z).mpr a
  subst this;exact .refl _
 |x::xs,ys,hx,hy,h=>by
  have c:x∈ys:=(h x).mp (zg ..);have b:=cd.mp hx;refine((Ie b.2 (hy.erase x) λz=>?_).cons x).trans (yf c).symm;rw[hy.mem_erase_iff];constructor
  ·intro a;exact⟨λe=>b.1 (e▸a),(h z).mp (zi _ a)⟩
  ·intro⟨hn,a⟩;rcases List.mem_cons.mp ((h z).mpr a)with e|e
   ·exact absurd e hn
   ·exact e
theorem Gf{R:α->β->Prop}:∀{l l':O β},l'.Perm l->∀{ys:O α},AI R ys l->∃a,a.Perm ys/\AI R a l':=by
 intro l l' hp
 replace hp:=hp.symm
 induction hp with
 |nil=>intro ys h;exact⟨ys,.refl _,h⟩
 |cons x _ g=>intro ys h;cases h with|cons r t=>obtain⟨zs,z1,z2⟩:=g t;exact⟨_::zs,z1.cons _,.cons r z2⟩
 |swap x y l=>intro ys h;cases h with|cons r t=>cases t with|cons i f=>exact⟨_,List.Perm.swap _ _ _,.cons i (.cons r f)⟩
 |trans _ _ c e=>intro ys h;obtain⟨zs,z1,z2⟩:=c h;obtain⟨us,d,b⟩:=e z2;exact⟨us,d.trans z1,b⟩
theorem W0{R:α->β->Prop}{xs:O α}{us:O β}{ys:O α}{vs:O β}(h:AI R xs us)(k:AI R ys vs):AI R (xs++ys) (us++vs):=by
 induction h with
 |nil=>exact k
 |cons r _ a=>exact .cons r a
def BT(w:A4):AE:={ cls:=.type "set",dict:=U,data:=.set #[] 0 (.fresh 0 0 (!w.params.followText "set-order")) }
structure EL (prog:Program) (w:World) (S:Addr) (wr:List Addr) {κ:Type} (C:Heap->List κ->Prop) (P:Nat->Value->Prop) (val:Nat->κ) (n:Nat):Prop where
 keep:∀h h' ys,C h ys->(∀b o,b∉wr->h.get? b=some o->h'.get? b=some o)->C h' ys
 add:∀(A:Around) (E:B7) (s:Shared) (i:Nat) (v:Value) (ys:List κ) (Q:Bool->Shared->Prop),A.units<cLine->i<n->P i v->C s.heap ys->ys.length<=i →
  (∀b h' tk ys',Heap.SameBut S s.heap h'->C h' ys'->(∀z,z∈ys'↔z∈ys\/z=val i)->ys'.length<=i+1->s.toks<=tk->Q b { s with heap:=h',toks:=tk })->wpAny (model prog w) A (setAdd S v) Q E s
section
variable{R:Result->A2->Prop}{I:A1}{wr:O A1}{P:Nat->A0->Prop}{St:Nat->A2->Prop}{C:A6->O κ->Prop}{val:Nat->κ}
theorem d5(W:WalksS prog w A.in1 I fp wr (λa b=>b=a) n P St)(S:A1)(x:S∉fp)(ad:EL prog w S wr C P val n)(Q:A.units+1<cLine):
  ∀(k i:Nat) (s:A2) (ys:O κ),n-i=k->i<=n->St i s->C s.heap ys->(∀z,z∈ys↔∃j,j<i/\z=val j)->ys.length<=i →
   (∀s' d,Moved (S::wr) (λa b=>b=a) s s'->C s'.heap d->(∀z,z∈d↔∃j,j<n/\z=val j)->R (.ok (.ret .none)) s') →
   AF (A8 prog w) A (.builtin "set.update.loop" ⟨[.ref S,.ref I],[]⟩) R s:=by
 have sub:∀b,b∈wr->b∈S::wr:=λb q=>zi _ q;intro k
 induction k with
 |zero=>
  intro i s ys D hi st f g m l;have:i=n:=by omega
  subst this;refine ke F.entry_set_update_loop ?_;rw[Around.under_plainId xk _];show A7 _ A.in1 (pyNext (.ref I) >>= _) _ _ s;refine zd (W.done s _ _ st λs' c=>?_);show A7 _ A.in1 (ret Value.none) _ _ s';exact zh (l s' ys (c.mono sub) (ad.keep _ _ _ f c.heap) g)
 |succ k J=>
  intro i s ys D hi st f g m l;have h:i<n:=by omega
  refine ke F.entry_set_update_loop ?_;rw[Around.under_plainId xk _];show A7 _ A.in1 (pyNext (.ref I) >>= _) _ _ s;refine zd (W.item i s _ _ h st λv s' N y c=>?_);show A7 _ A.in1 (holding [v] (setAdd S v) >>= _) _ _ s';refine zd (QR (ad.add _ _ s' i v ys _ Q h N (ad.keep _ _ _ f c.heap) m λb h' tk d t E u K p=>?_));refine zh ⟨plainId_quiet xk _,J (i+1) _ d () h (W.frame _ s' _ _ y p λb hb o e=>?_) E (λz=>?_) K λB H M G X=>?_⟩
  ·rw[t.2 b λq=>x (q▸hb)];exact e
  ·rw[u z,g z];constructor
   ·rintro(⟨j,L,e⟩|e)
    ·exact⟨j,by omega,e⟩
    ·exact⟨i,by omega,e⟩
   ·rintro⟨j,L,e⟩;by_cases q:j=i
    ·exact .inr (q▸e)
    ·exact .inl ⟨j,by omega,e⟩
  ·refine l B H (Moved.trans W.gtrans ((c.mono sub).then_heap p λb o hb e=>?_) M) G X;rw[t.2 b λq=>hb (by rw[q];exact zg)];exact e
end
theorem W2(x:A0){Q₁:B7}(h:Q₁ (.ref s.heap.objs.size) { s with heap:=s.heap.push (BT w) }):
  AF (A8 prog w) A (.call (.builtin "set.__new__") ⟨[.type "set",x],[]⟩) (wants Q₁ E) s:=by
 refine codeAny_of_tree ?_;show A7 _ A.in1 (do checkBuiltinCall "set.__new__" ⟨[.type "set",x],[]⟩;again (.builtin "set.__new__" ⟨[.type "set",x],[]⟩)) _ _ s;refine zd (YE (F.newCall_set_1 x) (zh ⟨plainId_quiet F.plain_set_new _,ke F.entry_set_new ?_⟩));rw[Around.under_plainId F.plain_set_new _];unfold Builtin.«set.__new__» Builtin.Frozenset.newClass;have a:=sub_set_self;obtain⟨hp,g,d,tk,os⟩:=s;dsimp only
 wp_walk
 refine YV (zh ?_);dsimp only;simp only[newObj];refine zd (wpAny_alloc (zh ?_));exact zh h
theorem By:isSubtype (.type "tuple") (.type "set")=pure false:=by rw[isSubtype_type];kernel_rfl
theorem BI:isSubtype (.type "tuple") (.type "frozenset")=pure false:=by rw[isSubtype_type];kernel_rfl
theorem O3(hU:A.units+60<cLine){T:String}{o:AE}{C:A6->O κ->Prop}{P:Nat->A0->Prop}{val:Nat->κ}{Q:B7}(hh:A.handled=U)(ho:s.heap.get? l=Z o)(a6:o.cls=.type T)(x:T ="list" ∨ T ="tuple")(a3:∀(d:A5) (E':B7) (M:B7) (h0:A6),d.handled=U->(∀b a,s.heap.get? b=Z a->h0.get? b=Z a) →
   (∀(h':A6) (St:Nat->A6->Prop),(∀d,d.handled=U->Walks prog w d h0.objs.size [h0.objs.size,l] [h0.objs.size] n P St)->St 0 h'->(∀b a,h0.get? b=Z a->h'.get? b=Z a)->M (.ref h0.objs.size) { s with heap:=h' })->A7 (A8 prog w) d (pyIter (.ref l)) M E' { s with heap:=h0 })(ad:EL prog w s.heap.objs.size [s.heap.objs.size+1] C P val n)(a1:∀h',h'.get? s.heap.objs.size=Z (BT w)->(∀b a,s.heap.get? b=Z a->h'.get? b=Z a)->C h' [])(h:∀(h':A6) (tk:Nat) (ys:O κ),C h' ys->(∀z,z∈ys↔∃j,j<n/\z=val j)->(∀b a,s.heap.get? b=Z a->h'.get? b=Z a)->Q (.ref s.heap.objs.size) { s with heap:=h',toks:=tk }):
  A7 (A8 prog w) A (call (.type "set") [.ref l]) Q E s:=by
 obtain⟨c,tl,b0⟩:=F.called_set.mro;have a7:=F.called_set.made;have b4:=F.called_set.sub;have a2:l<s.heap.objs.size:=zv ho;refine wpAny_call (codeAny_of_tree ?_);show A7 _ _ (callAny (.type "set") _) _ _ _;refine zh ⟨Code.quiet_builtin _ (by decide +kernel),ke F.entry_type_call ?_⟩;rw[Around.under_plain (weight_type_call_type "set" [.ref l] []) rfl];have h1:=F.called_set.notType;have h2:=F.called_set.canCreate;have b3:=F.typeCall_set_1 (.ref l)
 repeat (any_goals (first|assumption|wp_step))
 refine codeAny_mono (W2 (.ref l) (E:=E) (Q₁:=λJ D=>J=.ref s.heap.objs.size/\D={ s with heap:=s.heap.push (BT w) }) ⟨rfl,rfl⟩) λr D t=>?_;cases r with
 |error e=>exact t
 |ok fl=>
  cases fl with
  |ret J=>
   obtain⟨rfl,rfl⟩:=t;generalize p:s.heap.push (BT w)=H;have I:H.objs.size=s.heap.objs.size+1:=by rw[<-p,qk]
   have v:H.get? s.heap.objs.size=Z (BT w):=by rw[<-p];exact zw _ rfl
   have g:∀b a,s.heap.get? b=Z a->H.get? b=Z a:=λb a e=>by rw[<-p];exact ze _ e
   have a0:Shared.TypeIs { s with heap:=H } (.ref s.heap.objs.size) "set":=⟨_,v,rfl⟩;have c6:=F.called_set.init.lookup;have b9:=F.called_set.init.bind (.ref s.heap.objs.size)
   repeat (any_goals (first|assumption|wp_step))
   refine codeAny_mono (codeAny_call_builtin (R:=wants (λr f=>r=.none/\∃h' tk ys,f={ s with heap:=h',toks:=tk }/\C h' ys/\(∀z,z∈ys↔∃j,j<n/\z=val j)/\(∀b a,s.heap.get? b=Z a->h'.get? b=Z a)) E) F.called_set.init.plain F.entry_set_init (check_set_init_1 a0 ?_)) λX f m=>?_
   ·have y:Shared.TypeIs { s with heap:=H } (.ref l) T:=⟨o,g _ _ ho,a6⟩;have i1:isSubtype (.type T) (.type "set")=pure false:=by rcases x with rfl|rfl;exact F.sub_list_set;exact By
    have i2:isSubtype (.type T) (.type "frozenset")=pure false:=by rcases x with rfl|rfl;exact F.sub_list_frozenset;exact BI
    have i3:(Value.type T==Value.type "dict")=false:=by rcases x with rfl|rfl<;>decide
    show A7 _ _ (Builtin.«set.__init__» ⟨[.ref s.heap.objs.size,.ref l],[]⟩) _ _ _;have K:∀d:A5,d.handled=U->d.units+4<cLine->A7 (A8 prog w) d (Builtin.Frozenset.updateFrom "set.__init__" s.heap.objs.size (.ref l)) (λ_ f=>∃h' tk ys,f={ s with heap:=h',toks:=tk }/\C h' ys/\(∀z,z∈ys↔∃j,j<n/\z=val j)/\(∀b a,s.heap.get? b=Z a->h'.get? b=Z a)) E { s with heap:=H }:=by
     intro d L c0;unfold Builtin.Frozenset.updateFrom Builtin.Frozenset.isAnySet;refine zd (zd (JO y i1 ?_));refine JO y i2 ?_;simp only[zr,ZU];refine zd (jS y ?_);simp only[i3,zr,ZU];refine zd (a3 d _ _ H L g λG St W a4 B=>?_);rw[I]at W;rw[I];have N:s.heap.objs.size∉[s.heap.objs.size+1,l]:=λq=>by
      simp only[js,JP,or_false]at q;rcases q with q|q
      ·exact Zl (qa _) q
      ·exact kQ a2 q
     refine zd (wpAny_runValue (d5 (W d.in1 L).toS s.heap.objs.size N ad () (n-0) 0 _ [] S (QP _) a4 (a1 G (B _ _ v) λb a e=>B _ _ (g _ _ e)) (λz=>⟨λq=>(by cases q),λ⟨j,q,_⟩=>absurd q (kX _)⟩) (zk _) λs' ys i c1 c2=>?_));refine zh ⟨s'.heap,s'.toks,ys,?_,c1,c2,λb a e=>?_⟩
     ·have e1:s'.gens=s.gens:=i.gens;have e2:s'.os=s.os:=i.os;have e3:s'.drawn=s.drawn:=i.drawn;rw[<-e1,<-e2,<-e3]
     ·have hb:=zv e;refine i.heap b a (λq=>?_) (B _ _ (g _ _ e));simp only[js,JP,or_false]at q;rcases q with q|q
      ·exact Zl hb q
      ·exact Zl (qB hb) q
    have hb:(BT w).data=.set #[] 0 (.fresh 0 0 (!w.params.followText "set-order")):=rfl;unfold Builtin.«set.__init__» noKeywords;generalize a8:Builtin.Frozenset.updateFrom=UF at K ⊢;unfold BT at v
    wp_walk
    refine QI (K _ (by simp[hh]) (by simp;omega)) (λu f q=>?_) λ_ _ q=>q;obtain⟨h',tk,ys,rfl,q⟩:=q;show A7 _ _ (ret Value.none) _ _ _;exact zh ⟨rfl,h',tk,ys,rfl,q⟩
   ·cases X with
    |error e=>exact m
    |ok a5=>
     cases a5 with
     |ret r=>
      obtain⟨rfl,h',tk,ys,rfl,c1,c2,c3⟩:=m
      repeat (any_goals (first|assumption|wp_step))
      exact h _ _ _ c1 c2 c3
     |_=>exact False.elim m
  |_=>exact False.elim t
end S6
namespace S6
open PySem
def W3(xs:Array Nat):Prop:=∀i j,i<j->j<xs.size->xs.getD i 0<xs.getD j 0
theorem DD{xs:Array Nat}{k a b:Nat}(h:k<xs.size):xs.getD k a=xs.getD k b:=by simp[je,h]
theorem WH{xs:Array Nat}{k a:Nat}(h:xs[k]?=Z j):k<xs.size/\xs.getD k a=j:=by
 have b:k<xs.size:=by
  by_cases q:k<xs.size
  ·exact q
  ·rw[KU ()]at h;cases h
 refine⟨b,?_⟩;rw[qi b]at h;cases h;simp[je,b]
theorem nN{xs:Array Nat}{k a:Nat}(b:k<xs.size)(h:xs.getD k a=j):xs[k]?=Z j:=by
 rw[qi b];simp[je,b]at h;rw[h]
theorem JK(xs:Array Nat)(j:Nat)(a:W3 xs):∀(fuel lo hi:Nat),lo<=hi->hi<=xs.size->hi-lo<=fuel->(∀k,k<lo->xs.getD k 0<j)->(∀k,hi<=k->k<xs.size->j<=xs.getD k 0) →
  bn.go xs j fuel lo hi<=xs.size/\(∀k,k<bn.go xs j fuel lo hi->xs.getD k 0<j)/\∀k,bn.go xs j fuel lo hi<=k->k<xs.size->j<=xs.getD k 0
 |0,lo,hi,h1,h2,h3,h4,h5=>by
  have e:lo=hi:=by omega
  subst e;unfold bn.go;exact⟨h2,h4,h5⟩
 |fuel+1,lo,hi,h1,h2,h3,h4,h5=>by
  unfold bn.go;by_cases d:lo<hi
  ·rw[zt d];dsimp only;have c:(lo+hi) / 2<xs.size:=by omega
   rw[DD (b:=0) c];by_cases q:xs.getD ((lo+hi) / 2) 0<j
   ·rw[zt q];refine JK xs j a fuel _ hi () h2 () (λk f=>?_) h5;by_cases e:k=(lo+hi) / 2
    ·rw[e];exact q
    ·exact fO (a k _ () c) q
   ·rw[zD q];refine JK xs j a fuel lo _ () () () h4 λk f hs=>?_;by_cases e:k=(lo+hi) / 2
    ·rw[e];omega
    ·have:=a _ k (by omega:(lo+hi) / 2<k) hs;omega
  ·rw[zD d];have e:lo=hi:=by omega
   subst e;exact⟨h2,h4,h5⟩
theorem BY{xs:Array Nat}(a:W3 xs)(j:Nat):bn xs j<=xs.size/\(∀k,k<bn xs j->xs.getD k 0<j)/\∀k,bn xs j<=k->k<xs.size->j<=xs.getD k 0:=
 JK xs j a xs.size 0 xs.size (QP _) (zk _) () (λk h=>absurd h (kX _)) λk h h'=>absurd h' ()
theorem JL{xs:Array Nat}(b:W3 xs)(h:xs[i]?=Z j):bn xs j=i:=by
 obtain⟨h1,h2,c⟩:=BY b j;obtain⟨hi,e⟩:=WH (a:=0) h;rcases jd (bn xs j) i with q|q|q
 ·have:=c _ (zk _) ();have:=b _ _ q hi;omega
 ·exact q
 ·have:=h2 _ q;omega
theorem Y8(j:Nat):rc #[] j=false:=by
 unfold rc;simp
structure Tb (t:SetTable):Prop where
 mask:t.mask=7\/t.mask=31\/t.mask=127
 dum:t.dummies=#[]
 rise:W3 t.place
 bd:∀j:Nat,j∈t.place->j<=t.mask
 full:t.place.size<=t.mask
theorem Eo(h:Tb t)(e:t.place[i]?=Z j):t.slot j=.live i:=by
 unfold q7;simp only[JL h.rise e,e,beq_self_eq_true,QU]
theorem mf(h:Tb t)(e:j∉t.place):t.slot j=.empty:=by
 unfold q7;have:(t.place[bn t.place j]?==Z j)=false:=by
  cases q:t.place[bn t.place j]? with
  |none=>rfl
  |some x=>
   by_cases hx:x=j
   ·subst hx;exact absurd (mv q) e
   ·simp[hx]
 simp only[this,zr,ZU,h.dum,Y8]
def Mr(mask:Nat)(p:SetTable.Probe):SetTable.Probe:=
 if p.more>0 then { p with j:=p.j+1,more:=p.more-1 }else
 { p with j:=(dv mask p.i p.perturb).1,more:=cH mask (dv mask p.i p.perturb).1-(dv mask p.i p.perturb).1,i:=(dv mask p.i p.perturb).1,perturb:=(dv mask p.i p.perturb).2 }
theorem N2(t:SetTable)(p:SetTable.Probe):t.advance p=Mr t.mask p:=rfl
def EM(mask i perturb:Nat):SetTable.Probe:={ j:=i,more:=cH mask i-i,i,perturb,dummy:=U }
def jh(mask:Nat)(h:Int):Nat->SetTable.Probe
 |0=>EM mask (cD h%(mask+1)) (cD h)
 |n+1=>Mr mask (jh mask h n)
theorem Y9(mask:Nat)(h:Int):∀n,(jh mask h n).dummy=U
 |0=>rfl
 |n+1=>by
  have:=Y9 mask h n;unfold jh Mr;split<;>exact this
theorem T4{t:SetTable}(b:Tb t)(a:Nat->Int)(h:Int):∀(d fuel n:Nat),d<fuel->(∀m,n<=m->m<n+d->∃i,t.place[i]?=Z (jh t.mask h m).j/\a i≠h) →
  ((jh t.mask h (n+d)).j∉t.place->dw.go t a h fuel (jh t.mask h n)=Z (.empty (jh t.mask h (n+d)).j U)) ∧
  ∀i,t.place[i]?=Z (jh t.mask h (n+d)).j->a i=h->dw.go t a h fuel (jh t.mask h n)=Z (.candidate (jh t.mask h (n+d)).j i (jh t.mask h (n+d+1)))
 |0,fuel+1,n,_,_=>by
  refine⟨λe=>?_,λi e1 e2=>?_⟩
  ·unfold dw.go;rw[n4]at e ⊢;rw[mf b e];simp only[Y9]
  ·unfold dw.go;rw[n4]at e1 ⊢;rw[Eo b e1];simp only[e2,beq_self_eq_true,QU,N2];rfl
 |d+1,fuel+1,n,hd,hp=>by
  obtain⟨i,e1,e2⟩:=hp n (zk _) ();have c:=T4 b a h d fuel (n+1) () λm h1 h2=>hp m () ();have e:dw.go t a h (fuel+1) (jh t.mask h n)=dw.go t a h fuel (jh t.mask h (n+1)):=by
   conv=>lhs;unfold dw.go
   rw[Eo b e1];simp only[beq_iff_eq,e2,ZU,N2];rfl
  rw[e,show n+(d+1)=n+1+d by omega];exact c
theorem W4:∀(xs ys:O Nat),xs.Nodup->(∀x,x∈xs->x∈ys)->xs.length<=ys.length
 |[],_,_,_=>QP _
 |x::xs,ys,hn,hs=>by
  have c:=cd.mp hn;have a:=hs x (zg ..);have:=W4 xs (ys.erase x) c.2 λz b=>(kK (λe:z=x=>c.1 (by rw[<-e];exact b))).mpr (hs z (zi _ b));have:=YU a;have:0<ys.length:=kR a;simp only[ZI];omega
def nx(M i:Nat):Nat:=(i*5+1)%M
def T5(M:Nat):Nat->Nat->Nat
 |0,i=>i
 |k+1,i=>T5 M k (nx M i)
theorem Ig(M:Nat):∀(a b i:Nat),T5 M (a+b) i=T5 M b (T5 M a i)
 |0,b,i=>by rw[yv];rfl
 |a+1,b,i=>by rw[Nat.succ_add];exact Ig M a b _
theorem WU:(∀r,r<8->∃k,k<8/\T5 8 k 0=r)/\T5 8 8 0=0:=by decide +kernel
theorem hJ:(∀r,r<32->∃k,k<32/\T5 32 k 0=r)/\T5 32 32 0=0:=by decide +kernel
theorem Sr:(∀r,r<128->∃k,k<128/\T5 128 k 0=r)/\T5 128 128 0=0:=by decide +kernel
theorem LF{M:Nat}(h:(∀r,r<M->∃k,k<M/\T5 M k 0=r)/\T5 M M 0=0){r:Nat}(hi:i<M)(c:r<M):∃k,k<M/\T5 M k i=r:=by
 obtain⟨a,d,rfl⟩:=h.1 i hi;obtain⟨b,hb,rfl⟩:=h.1 r c;by_cases q:a<=b
 ·exact⟨b-a,by omega,by rw[<-Ig,show a+(b-a)=b by omega]⟩
 ·exact⟨M-a+b,by omega,by rw[<-Ig,show a+(M-a+b)=M+b by omega,Ig,h.2]⟩
theorem oy(h:mask=7\/mask=31\/mask=127){r:Nat}(hi:i<mask+1)(a:r<mask+1):∃k,k<mask+1/\T5 (mask+1) k i=r:=by
 rcases h with rfl|rfl|rfl
 ·exact LF WU hi a
 ·exact LF hJ hi a
 ·exact LF Sr hi a
def lp(mask:Nat)(h:Int):Nat->Nat×Nat
 |0=>(cD h%(mask+1),cD h)
 |l+1=>dv mask (lp mask h l).1 (lp mask h l).2
theorem JM(mask i:Nat):i<=cH mask i/\cH mask i<=i+9:=by unfold cH;split<;>omega
theorem OW(h:i<=mask):cH mask i<=mask:=by unfold cH;split<;>omega
theorem Cd{mask:Nat}{h:Int}{s i p:Nat}(e:jh mask h s=EM mask i p):∀k,k<=cH mask i-i->jh mask h (s+k)={ EM mask i p with j:=i+k,more:=cH mask i-i-k }
 |0,_=>by rw[n4,e];rfl
 |k+1,hk=>by
  have a:=Cd e k ();show Mr mask (jh mask h (s+k))=_;rw[a];unfold Mr;rw[zt (by dsimp only;omega)];rfl
theorem T6{h:Int}{s p:Nat}(e:jh mask h s=EM mask i p):jh mask h (s+(cH mask i-i)+1)=EM mask (dv mask i p).1 (dv mask i p).2:=by
 show Mr mask (jh mask h (s+(cH mask i-i)))=_;rw[Cd e _ (zk _)];unfold Mr;rw[zD (by dsimp only;omega)];rfl
theorem MT(mask:Nat)(h:Int):∀l,∃s,s<=10*l/\jh mask h s=EM mask (lp mask h l).1 (lp mask h l).2
 |0=>⟨0,by omega,rfl⟩
 |l+1=>by
  obtain⟨s,hs,e⟩:=MT mask h l;have:=JM mask (lp mask h l).1;exact⟨_,by omega,T6 e⟩
theorem a9(mask:Nat)(h:Int):∀l,(lp mask h l).1<mask+1
 |0=>gi _ (kO _)
 |l+1=>gi _ (kO _)
theorem T7(mask:Nat)(h:Int):∀l,(lp mask h l).2*32 ^ l<=cD h
 |0=>by simp[lp]
 |l+1=>by
  have a:=T7 mask h l;show(lp mask h l).2 / 32*32 ^ (l+1)<=_;have h1:(lp mask h l).2 / 32*32<=(lp mask h l).2:=Nat.div_mul_le_self _ _;have h2:=m6 (32 ^ l) h1;rw[Nat.pow_succ,n0 (32 ^ l) 32,<-Nat.mul_assoc];exact Zs h2 a
theorem dA(h:Int):cD h<18446744073709551616:=by
 unfold cD;have h1:h%18446744073709551616<18446744073709551616:=h6 _ ();have h2:0<=h%18446744073709551616:=ll _ ();show(h%18446744073709551616).toNat<_;omega
theorem Za(mask:Nat)(h:Int):∀k,(lp mask h (12+k)).2<32
 |0=>by
  have h1:=T7 mask h 12;have h2:=dA h;rw[show(32:Nat) ^ 12=1152921504606846976 from rfl]at h1;show(lp mask h 12).2<32;omega
 |k+1=>by
  have:=Za mask h k;show(lp mask h (12+k)).2 / 32<32;omega
theorem io(mask:Nat)(h:Int):∀k,(lp mask h (12+k)).1=T5 (mask+1) k (lp mask h 12).1:=by
 have step:∀k,(lp mask h (12+k+1)).1=nx (mask+1) (lp mask h (12+k)).1:=λk=>by
  have:=Za mask h k;show((lp mask h (12+k)).1*5+1+(lp mask h (12+k)).2 / 32)%(mask+1)=_;rw[show(lp mask h (12+k)).2 / 32=0 by omega];rfl
 have b:∀k i,T5 (mask+1) k (nx (mask+1) i)=nx (mask+1) (T5 (mask+1) k i):=λk=>by
  induction k with
  |zero=>intro i;rfl
  |succ k a=>intro i;exact a _
 intro k
 induction k with
 |zero=>rfl
 |succ k a=>
  rw[show 12+(k+1)=12+k+1 by omega,step,a];exact(b k _).symm
theorem PZ(a:mask=7\/mask=31\/mask=127)(h:Int){r:Nat}(b:r<mask+1):∃l,l<mask+13/\(lp mask h l).1=r:=by
 obtain⟨k,c,e⟩:=oy a (a9 mask h 12) b;exact⟨12+k,by omega,by rw[io,e]⟩
theorem Su(h:Tb t):∃r,r<t.mask+1/\r∉t.place:=by
 by_cases q:∃r,r<t.mask+1/\r∉t.place
 ·exact q
 ·exfalso;have:=W4 (cf (t.mask+1)) t.place.toList Y1 λx hx=>by
   rw[yB]at hx;by_cases a:x∈t.place
   ·exact gB.mpr a
   ·exact absurd ⟨x,hx,a⟩ q
  rw[Kj,Qb]at this;have:=h.full;omega
theorem UI(a:Tb t)(h:Int):∃n,n<10*ci t.mask/\(jh t.mask h n).j∉t.place:=by
 obtain⟨r,b,c⟩:=Su a;obtain⟨l,d,e⟩:=PZ a.mask h b;obtain⟨s,hs,e'⟩:=MT t.mask h l;refine⟨s,by unfold ci;omega,?_⟩;rw[e'];show(lp t.mask h l).1∉_;rw[e];exact c
theorem W5(d:Tb t)(h:Int):∃n,n<10*ci t.mask/\(jh t.mask h n).j∉t.place/\∀m,m<n->(jh t.mask h m).j∈t.place:=by
 obtain⟨n,g,f⟩:=UI d h;have:∀k,(∃n,n<=k/\(jh t.mask h n).j∉t.place/\∀m,m<n->(jh t.mask h m).j∈t.place)\/∀m,m<=k->(jh t.mask h m).j∈t.place:=λk=>by
  induction k with
  |zero=>
   by_cases q:(jh t.mask h 0).j∈t.place
   ·exact .inr λm a=>by rw[show m=0 by omega];exact q
   ·exact .inl ⟨0,zk _,q,λm a=>absurd a (kX _)⟩
  |succ k b=>
   rcases b with⟨n,h1,h2⟩|b
   ·exact .inl ⟨n,by omega,h2⟩
   ·by_cases q:(jh t.mask h (k+1)).j∈t.place
    ·exact .inr λm a=>by
      by_cases e:m=k+1
      ·rw[e];exact q
      ·exact b m ()
    ·exact .inl ⟨k+1,zk _,q,λm a=>b m ()⟩
 rcases this n with⟨m,h1,h2,c⟩|q
 ·exact⟨m,by omega,h2,c⟩
 ·exact absurd (q n (zk _)) f
theorem gD(xs:Array α)(k:Nat)(a:α):xs.getD k a=xs[k]?.getD a:=by
 by_cases h:k<xs.size
 ·rw[qi h];simp[je,h]
 ·rw[KU ()];simp[je,h]
structure Tok (t:SetTable) (es:Array (Int×Value)):Prop extends Tb t where
 size:t.place.size=es.size
 reach:∀(i j:Nat) e,t.place[i]?=some j->es[i]?=some e->∃n,n<10*ci t.mask/\(jh t.mask e.1 n).j=j/\∀m,m<n->(jh t.mask e.1 m).j∈t.place
theorem Ce(xs:Array α)(p:Nat)(x:α):(bD xs p x).toList=xs.toList.take p++x::xs.toList.drop p:=by
 unfold bD;simp[Array.toList_extract,eu]
theorem Hx{xs:Array α}{p:Nat}(hp:p<=xs.size)(x:α)(i:Nat):(bD xs p x)[i]?=if i<p then xs[i]? else if i=p then Z x else xs[i-1]?:=by
 rw[<-QO,Ce,List.getElem?_append];have a:(xs.toList.take p).length=p:=by rw[kg,Qb];omega
 rw[a];by_cases h1:i<p
 ·rw[zt h1,zt h1,List.getElem?_take,zt h1,QO]
 ·rw[zD h1,zD h1];by_cases h2:i=p
  ·rw[zt h2,h2,Nat.sub_self];rfl
  ·rw[zD h2,show i-p=(i-p-1)+1 by omega,qf,List.getElem?_drop,QO,show p+(i-p-1)=i-1 by omega]
theorem xZ(xs:Array α)(p:Nat)(x:α):(bD xs p x).size=xs.size+1:=by
 rw[<-Qb,Ce,zC,ZI,kg,KF,Qb];omega
theorem Zb{xs:Array α}{p:Nat}{x y:α}:y∈bD xs p x↔y∈xs\/y=x:=by
 rw[<-gB,Ce,yi,js,<-gB];constructor
 ·rintro(h|h|h)
  ·exact .inl (gC h)
  ·exact .inr h
  ·exact .inl (m8 h)
 ·rintro(h|h)
  ·rw[<-KW p xs.toList,yi]at h;rcases h with h|h
   ·exact .inl h
   ·exact .inr (.inr h)
  ·exact .inr (.inl h)
theorem hV{xs:Array Nat}(c:W3 xs)(g:j∉xs):W3 (bD xs (bn xs j) j):=by
 obtain⟨h1,h2,e⟩:=BY c j;intro a b d hb;rw[xZ]at hb;have ga:∀i,i<xs.size+1->(bD xs (bn xs j) j).getD i 0=if i<bn xs j then xs.getD i 0 else if i=bn xs j then j else xs.getD (i-1) 0:=λi hi=>by
  rw[gD,Hx h1];by_cases q1:i<bn xs j
  ·rw[zt q1,zt q1,<-gD]
  ·rw[zD q1,zD q1];by_cases q2:i=bn xs j
   ·rw[zt q2,zt q2];rfl
   ·rw[zD q2,zD q2,<-gD]
 have gt:∀k,bn xs j<=k->k<xs.size->j<xs.getD k 0:=λk f hs=>by
  have q:=e k f hs;rcases Nat.lt_or_eq_of_le q with q|q
  ·exact q
  ·exact absurd (mv (nN hs q.symm)) g
 rw[ga a (),ga b hb];by_cases a1:a<bn xs j
 ·rw[zt a1];by_cases b1:b<bn xs j
  ·rw[zt b1];exact c a b d ()
  ·rw[zD b1];have:=h2 a a1;by_cases b2:b=bn xs j
   ·rw[zt b2];exact this
   ·rw[zD b2];exact fO this (gt _ () ())
 ·rw[zD a1];by_cases a2:a=bn xs j
  ·rw[zt a2,zD (),zD ()];exact gt _ () ()
  ·rw[zD a2,zD (),zD ()];exact c _ _ () ()
theorem eJ{es:Array (Int×A0)}(h:Tok t es){d:Int}{x:A0}(s:n<10*ci t.mask)(u:(jh t.mask d n).j∉t.place)(hp:∀m,m<n->(jh t.mask d m).j∈t.place)(p:(jh t.mask d n).j<=t.mask)(hs:es.size+1<=t.mask):
  Tok (t.put (jh t.mask d n).j).1 (bD es (t.put (jh t.mask d n).j).2 (d,x))/\(t.put (jh t.mask d n).j).1.led=t.led/\(t.put (jh t.mask d n).j).1.plain=t.plain/\(t.put (jh t.mask d n).j).1.mask=t.mask:=by
 have hd:=h.dum;have o:t.put (jh t.mask d n).j=({ t with place:=bD t.place (bn t.place (jh t.mask d n).j) (jh t.mask d n).j,dummies:=#[] },bn t.place (jh t.mask d n).j):=by
  unfold SetTable.put;rw[hd];simp only[Y8,zr,ZU]
 rw[o];have l:=h.size;have hb:=(BY h.rise (jh t.mask d n).j).1;refine⟨{ mask:=h.mask,dum:=rfl,rise:=hV h.rise u,bd:=λj w=>?_,full:=?_,size:=?_,reach:=λi j e h1 h2=>?_ },rfl,rfl,rfl⟩
 ·rcases Zb.mp w with q|q
  ·exact h.bd j q
  ·rw[q];exact p
 ·show(bD _ _ _).size<=t.mask;rw[xZ];omega
 ·show(bD _ _ _).size=_;rw[xZ,xZ,l]
 ·have h1:(bD t.place (bn t.place (jh t.mask d n).j) (jh t.mask d n).j)[i]?=Z j:=h1;rw[Hx hb]at h1;rw[Hx (by rw[<-l];exact hb)]at h2;have g:∀e':Int×A0,(∃n,n<10*ci t.mask/\(jh t.mask e'.1 n).j=j/\∀m,m<n->(jh t.mask e'.1 m).j∈t.place)->∃f,f<10*ci t.mask/\(jh t.mask e'.1 f).j=j/\∀m,m<f->(jh t.mask e'.1 m).j∈bD t.place (bn t.place (jh t.mask d n).j) (jh t.mask d n).j:=
   λe' ⟨n,a,b,c⟩=>⟨n,a,b,λm v=>Zb.mpr (.inl (c m v))⟩
  by_cases q1:i<bn t.place (jh t.mask d n).j
  ·rw[zt q1]at h1 h2;exact g e (h.reach i j e h1 h2)
  ·rw[zD q1]at h1 h2;by_cases q2:i=bn t.place (jh t.mask d n).j
   ·rw[zt q2]at h1 h2;cases h1;cases h2;exact g (d,x) ⟨n,s,rfl,hp⟩
   ·rw[zD q2]at h1 h2;exact g e (h.reach (i-1) j e h1 h2)
theorem OX{mask:Nat}(h:Int):∀n,(jh mask h n).j+(jh mask h n).more<=mask
 |0=>by
  have h1:cD h%(mask+1)<mask+1:=gi _ (kO _);have:=OW (mask:=mask) (i:=cD h%(mask+1)) ();have:=JM mask (cD h%(mask+1));show cD h%(mask+1)+(cH mask (cD h%(mask+1))-cD h%(mask+1))<=mask;omega
 |n+1=>by
  have b:=OX (mask:=mask) h n;show(Mr mask (jh mask h n)).j+(Mr mask (jh mask h n)).more<=mask;unfold Mr;split
  ·dsimp only;omega
  ·dsimp only;generalize a:(dv mask (jh mask h n).i (jh mask h n).perturb).1=i;have h1:i<mask+1:=by rw[<-a];exact gi _ (kO _)
   have:=OW (mask:=mask) (i:=i) ();have:=JM mask i;omega
theorem W6(h:Int)(n:Nat):(jh mask h n).j<=mask:=by have:=OX (mask:=mask) h n;omega
def W7(owner:Array (Y Nat))(j:Nat):Prop:=(owner.getD j (Z 0)).isNone=false
theorem Ol{mask:Nat}{h:Int}{owner:Array (Y Nat)}:∀(fuel l s j:Nat),jh mask h s=EM mask (lp mask h l).1 (lp mask h l).2->s<=10*l->(∀m,m<s->W7 owner (jh mask h m).j) →
  dc.free mask owner fuel (lp mask h l).1 (lp mask h l).2=Z j->∃n,n<10*(l+fuel)/\(jh mask h n).j=j/\(owner.getD j (Z 0)).isNone=true/\∀m,m<n->W7 owner (jh mask h m).j
 |0,l,s,j,_,_,_,e=>by unfold dc.free at e;cases e
 |fuel+1,l,s,j,hs,hl,ho,e=>by
  have i:=JM mask (lp mask h l).1;unfold dc.free at e;cases c:(cf (cH mask (lp mask h l).1+1-(lp mask h l).1)).find? λk=>(owner.getD ((lp mask h l).1+k) (Z 0)).isNone with
  |some k=>
   rw[c]at e;cases e;obtain⟨h1,h2,d⟩:=List.find?_range_eq_some.mp c;rw[yB]at h2;refine⟨s+k,by omega,?_,h1,λm g=>?_⟩
   ·rw[Cd hs k ()]
   ·by_cases q:m<s
    ·exact ho m q
    ·have f:=d (m-s) ();rw[show m=s+(m-s) by omega,Cd hs (m-s) ()];simpa[W7]using f
  |none=>
   rw[c]at e;have d:=k0.mp c;obtain⟨n,a,b⟩:=Ol fuel (l+1) _ j (T6 hs) () (λm g=>by
    by_cases q:m<s
    ·exact ho m q
    ·have f:=d (m-s) ();rw[show m=s+(m-s) by omega,Cd hs (m-s) ()];simpa[W7]using f) e
   exact⟨n,by omega,b⟩
theorem Om{mask:Nat}{h:Int}{owner:Array (Y Nat)}:∀(fuel l:Nat),dc.free mask owner fuel (lp mask h l).1 (lp mask h l).2=U->∀l',l<=l'->l'<l+fuel->W7 owner (lp mask h l').1
 |0,l,_,l',h1,h2=>by omega
 |fuel+1,l,e,l',h1,h2=>by
  have d:=JM mask (lp mask h l).1;unfold dc.free at e;cases a:(cf (cH mask (lp mask h l).1+1-(lp mask h l).1)).find? λk=>(owner.getD ((lp mask h l).1+k) (Z 0)).isNone with
  |some k=>rw[a]at e;cases e
  |none=>
   rw[a]at e;have b:=k0.mp a;by_cases q:l'=l
   ·subst q;have c:=b 0 ();simpa[W7]using c
   ·exact Om fuel (l+1) e l' () ()
structure Ow (mask:Nat) (hs:List Int) (owner:Array (Option Nat)):Prop where
 size:owner.size=mask+1
 lt:∀(j idx:Nat),owner[j]?=some (some idx)->idx<hs.length
 all:∀(idx:Nat) h,hs[idx]?=some h->∃j,owner[j]?=some (some idx)/\∃n,n<10*ci mask/\(jh mask h n).j=j/\∀m,m<n->W7 owner (jh mask h m).j
 inj:∀(j j' idx:Nat),owner[j]?=some (some idx)->owner[j']?=some (some idx)->j=j'
theorem OQ(o:Ow mask hs owner)(c:j<=mask):W7 owner j↔∃a,owner[j]?=Z (Z a):=by
 unfold W7;have b:j<owner.size:=by rw[o.size];omega
 rw[gD,qi b];cases owner[j]with
 |none=>simp
 |some i=>simp
theorem l7{f:Nat->Nat}:∀{xs:O Nat},xs.Nodup->(∀x∈xs,∀y∈xs,f x=f y->x=y)->(xs.map f).Nodup:=λ{xs} hn hi=>
 List.pairwise_map.mpr (JI (λa hb b e=>b (hi _ a _ hb e)) hn)
theorem uB(o:Ow mask hs owner)(g:hs.length<=mask):∃r,r<mask+1/\¬ W7 owner r:=by
 by_cases q:∃r,r<mask+1/\¬ W7 owner r
 ·exact q
 ·exfalso;have all:∀r,r<mask+1->∃c,owner[r]?=Z (Z c):=λr a=>by
   by_cases d:W7 owner r
   ·exact(OQ o ()).mp d
   ·exact absurd ⟨r,a,d⟩ q
  have f:∀r,r<mask+1->owner[r]?=Z (Z ((owner[r]?.getD U).getD 0)):=λr a=>by
   obtain⟨c,e⟩:=all r a;rw[e];rfl
  have:=W4 ((cf (mask+1)).map λr=>(owner[r]?.getD U).getD 0) (cf hs.length) (l7 Y1 λx hx y b e=>by
   rw[yB]at hx b;have e1:=f x hx;have e2:=f y b;rw[e]at e1;exact o.inj x y _ e1 e2) λx hx=>by
    obtain⟨r,a,rfl⟩:=List.mem_map.mp hx;rw[yB]at a;exact List.mem_range.mpr (o.lt r _ (f r a))
  rw[zl,Kj,Kj]at this;omega
theorem tN(f:mask=7\/mask=31\/mask=127)(o:Ow mask hs owner)(x:hs.length<=mask)(h:Int):
  ∃j,dc.free mask owner (ci mask) (cD h%(mask+1)) (cD h)=Z j/\Ow mask (hs++[h]) (owner.setIfInBounds j (Z hs.length)):=by
 obtain⟨r,u,w⟩:=uB o x;cases s:dc.free mask owner (ci mask) (cD h%(mask+1)) (cD h)with
 |none=>
  obtain⟨l,A,e⟩:=PZ f h u;have:=Om (h:=h) (owner:=owner) (ci mask) 0 s l (QP _) (by unfold ci;omega);rw[e]at this;exact absurd this w
 |some j=>
  obtain⟨n,h1,h2,i,z⟩:=Ol (h:=h) (owner:=owner) (ci mask) 0 0 j S (zk _) (λm f=>absurd f (kX _)) s;rw[yv]at h1;have B:j<=mask:=by rw[<-h2];exact W6 h n
  have v:j<owner.size:=by rw[o.size];omega
  have get:∀k:Nat,(owner.setIfInBounds j (Z hs.length))[k]?=if k=j then Z (Z hs.length)else owner[k]?:=λk=>by
   rw[Array.getElem?_setIfInBounds];by_cases q:k=j
   ·rw[zt q,zt q.symm,zt v]
   ·rw[zD q,zD (λe=>q e.symm)]
  have old:∀k d:Nat,owner[k]?=Z (Z d)->k≠j:=λk d e q=>by
   subst q;rw[gD,e]at i;cases i
  have p:∀k,W7 owner k->W7 (owner.setIfInBounds j (Z hs.length)) k:=λk q=>by
   unfold W7 at q ⊢;rw[gD]at q ⊢;rw[get];by_cases e:k=j
   ·rw[zt e];rfl
   ·rw[zD e];exact q
  refine⟨j,rfl,⟨by rw[Array.size_setIfInBounds];exact o.size,λk d e=>?_,λd g e=>?_,λa b d e1 e2=>?_⟩⟩
  ·rw[get]at e;rw[zC];by_cases q:k=j
   ·rw[zt q]at e;cases e;simp
   ·rw[zD q]at e;have:=o.lt k d e;simp;omega
  ·by_cases q:d<hs.length
   ·rw[ZY q]at e;obtain⟨k,e1,t,a,b,c⟩:=o.all d g e;exact⟨k,by rw[get,zD (old k d e1)];exact e1,t,a,b,λm f=>p _ (c m f)⟩
   ·rw[QN ()]at e;have:d-hs.length=0:=by
     by_cases y:d-hs.length=0
     ·exact y
     ·rw[qV (by simp;omega)]at e;cases e
    rw[this]at e;cases e;have:d=hs.length:=by omega
    subst this;exact⟨j,by rw[get,zt rfl],n,h1,h2,λm f=>p _ (z m f)⟩
  ·rw[get]at e1 e2;by_cases q1:a=j
   ·by_cases q2:b=j
    ·rw[q1,q2]
    ·rw[zt q1]at e1;rw[zD q2]at e2;cases e1;have:=o.lt b _ e2;omega
   ·by_cases q2:b=j
    ·rw[zD q1]at e1;rw[zt q2]at e2;cases e2;have:=o.lt a _ e1;omega
    ·rw[zD q1]at e1;rw[zD q2]at e2;exact o.inj a b d e1 e2
theorem lL(mask:Nat):Ow mask [] (qK (mask+1) U):=by
 have no:∀(j a:Nat),(qK (mask+1) (U:Y Nat))[j]?≠Z (Z a):=λj a e=>by
  rw[Array.getElem?_replicate]at e;split at e<;>cases e
 exact⟨Array.size_replicate,λj a e=>absurd e (no j a),λa h e=>by simp at e,λj b a e=>absurd e (no j a)⟩
theorem VA(g:mask=7\/mask=31\/mask=127)(hs:O Int)(a:hs.length<=mask):∃owner,dc mask hs.toArray=Z owner/\Ow mask hs owner:=by
 have d:∀(ys xs:O Int) (owner:Array (Y Nat)),Ow mask xs owner->xs.length+ys.length<=mask->∃c,ys.foldl (λ(f:Y (Array (Y Nat)×Nat)) h=>do
   let (owner,k) <-f
   let j <-dc.free mask owner (ci mask) (cD h%(mask+1)) (cD h)
   pure (owner.setIfInBounds j (Z k),k+1)) (Z (owner,xs.length))=Z (c,xs.length+ys.length)/\Ow mask (xs++ys) c:=by
  intro ys
  induction ys with
  |nil=>intro xs owner o _;exact⟨owner,rfl,by rw[qv];exact o⟩
  |cons y ys i=>
   intro xs owner o a;rw[ZI]at a;obtain⟨j,e,o'⟩:=tN g o () y;obtain⟨ow,e2,b⟩:=i (xs++[y]) _ o' (by simp;omega);refine⟨ow,?_,by rw[ZT]at b;exact b⟩;rw[qr];simp only[Option.bind_eq_bind,kG,e,pure];rw[show(xs++[y]).length=xs.length+1 by simp]at e2;rw[ZI,show xs.length+(ys.length+1)=xs.length+1+ys.length by omega];exact e2
 obtain⟨ow,e,o⟩:=d hs [] _ (lL mask) (by simpa using a);refine⟨ow,?_,by simpa using o⟩;unfold dc;rw[List.foldl_toArray];exact congrArg (Option.map (·.1)) e
theorem Qo{α β:Type}{f:α->Y β}{g:α->β}:∀{xs:O α},(∀x∈xs,f x=Z (g x))->xs.filterMap f=xs.map g
 |[],_=>rfl
 |x::xs,h=>by
  rw[KG,h x (zg ..),zo,Qo λy a=>h y (zi _ a)]
theorem UE{xs:O Nat}(h:xs.Pairwise (· < ·)):W3 xs.toArray:=by
 intro i j c b;have a:j<xs.length:=by simpa using b
 rw[gD,gD,K2,K2,Zp a,Zp ()];exact dI.mp h i j () a c
theorem b8{es:Array (Int×A0)}{wanted:Nat}(C:da wanted-1=7\/da wanted-1=31\/da wanted-1=127)(H:es.size<=da wanted-1):
  ∃t' B,t.relaid (es.map (·.1)) wanted=Z (t',B)/\(B.filterMap (es[·]?)).toList.Perm es.toList/\Tok t' (B.filterMap (es[·]?))/\t'.led=t.led/\t'.plain=t.plain/\t'.mask=da wanted-1:=by
 generalize I:da wanted-1=mask at C H ⊢;have hs:(es.toList.map (·.1)).length=es.size:=by simp
 obtain⟨ow,e,o⟩:=VA C (es.toList.map (·.1)) ();have ea:es.map (·.1)=(es.toList.map (·.1)).toArray:=by
  apply Array.ext';simp
 let L:O (Nat×Nat):=(cf (mask+1)).filterMap λj=>(ow.getD j U).map λk=>(j,k)
 have d:∀j k,(j,k)∈L↔ow[j]?=Z (Z k):=λj k=>by
  show(j,k)∈List.filterMap _ _↔_;rw[hO];constructor
  ·rintro⟨a,f,q⟩;rw[gD]at q;cases h1:ow[a]? with
   |none=>rw[h1]at q;cases q
   |some x=>
    rw[h1]at q;cases x with
    |none=>cases q
    |some y=>cases q;exact h1
  ·intro q;refine⟨j,List.mem_range.mpr ?_,?_⟩
   ·by_cases h:j<ow.size
    ·rw[<-o.size];exact h
    ·rw[KU ()]at q;cases q
   ·rw[gD,q];rfl
 have E:L.Pairwise λa b=>a.1<b.1:=by
  refine List.pairwise_filterMap.mpr (List.pairwise_lt_range.imp λ{a b} hab x hx y hy=>?_);cases h1:ow.getD a U with
  |none=>rw[h1]at hx;cases hx
  |some u=>
   cases h2:ow.getD b U with
   |none=>rw[h2]at hy;cases hy
   |some v=>rw[h1]at hx;rw[h2]at hy;cases hx;cases hy;exact hab
 have K:(L.map (·.2)).Nodup:=by
  refine List.pairwise_map.mpr (JI (λ{a b} f hb hab e=>?_) E);have h1:=(d a.1 a.2).mp f;have h2:=(d b.1 b.2).mp hb;rw[e]at h1;have:=o.inj _ _ _ h1 h2;omega
 have s:(L.map (·.2)).Perm (cf es.size):=Ie K Y1 λz=>by
  rw[KB,yB];constructor
  ·rintro⟨a,f,rfl⟩;have:=o.lt _ _ ((d a.1 a.2).mp f);omega
  ·intro M;obtain⟨j,h1,_⟩:=o.all z ((es.toList.map (·.1))[z]'()) (Zp ());exact⟨(j,z),(d j z).mpr h1,rfl⟩
 let g:Nat->Int×A0:=λk=>es.getD k (0,.none)
 have w:∀k,k<es.size->es[k]?=Z (g k):=λk l=>by
  show _=Z (es.getD k _);rw[gD,qi l];rfl
 have D:(L.map (·.2)).filterMap (λk=>es[k]?)=(L.map (·.2)).map g:=Qo λk l=>w k (List.mem_range.mp (s.mem_iff.mp l));have eL:((L.map (·.2)).toArray.filterMap (λk=>es[k]?)).toList=L.map λp=>g p.2:=by
  rw[mo,D,Q2];rfl
 refine⟨{ mask:=mask,place:=(L.map (·.1)).toArray,dummies:=#[],finger:=t.finger,led:=t.led,moves:=t.movedTo mask,plain:=t.plain },(L.map (·.2)).toArray,?_,?_,?_,rfl,rfl,rfl⟩
 ·unfold SetTable.relaid SetTable.laid;rw[I,ea,e];rfl
 ·rw[mo,D];refine(s.map g).trans ?_;have:(cf es.size).map g=es.toList:=by
   apply i5;intro i;rw[ZE];by_cases h:i<es.size
   ·rw[kN h,QO,w i h];rfl
   ·rw[qV (by simp;omega),qV (by simp;omega)];rfl
  rw[this]
 ·have sz:L.length=es.size:=by
   have:=s.length_eq;rw[zl,Kj]at this;exact this
  refine { mask:=C,dum:=rfl,rise:=UE (List.pairwise_map.mpr E),bd:=λj A=>?_,full:=?_,size:=?_,reach:=λi j x h1 h2=>?_ }
  ·have A:j∈L.map (·.1):=by simpa using A
   obtain⟨a,f,rfl⟩:=List.mem_map.mp A;have q:=(d a.1 a.2).mp f;have:a.1<ow.size:=by
    by_cases h:a.1<ow.size
    ·exact h
    ·rw[KU ()]at q;cases q
   have:=o.size;show a.1<=mask;omega
  ·show(L.map (·.1)).toArray.size<=mask;simp only[zI,zl];omega
  ·rw[<-Qb (xs:=Array.filterMap _ _),eL];simp
  ·have h1:(L.map (·.1)).toArray[i]?=Z j:=h1;rw[K2,ZE]at h1;rw[<-QO,eL,ZE]at h2;cases hi:L[i]? with
   |none=>rw[hi]at h1;cases h1
   |some p=>
    rw[hi]at h1 h2;cases h1;cases h2;have hp:(p.1,p.2)∈L:=Q1 hi;have q:=(d p.1 p.2).mp hp;have l:p.2<es.size:=List.mem_range.mp (s.mem_iff.mp (List.mem_map.mpr ⟨p,hp,rfl⟩));have J:(es.toList.map (·.1))[p.2]?=Z (g p.2).1:=by
     rw[ZE,QO,w _ l];rfl
    obtain⟨F,q1,n,a,b,c⟩:=o.all _ _ J;have:F=p.1:=o.inj _ _ _ q1 q;subst this;refine⟨n,a,b,λm G=>?_⟩;obtain⟨k,q2⟩:=(OQ o (W6 _ _)).mp (c m G);show _∈(L.map (·.1)).toArray;rw[List.mem_toArray];exact List.mem_map.mpr ⟨(_,k),(d _ _).mpr q2,rfl⟩
end S6
namespace S6
open P1 L2
abbrev cR(prog:A3)(w:A4)(ks:O AY):Int:=tupleKeyHash (bw prog w) ks
def TE(prog:A3)(w:A4)(h:A6)(z:O AY×A1)(e:Int×A0):Prop:=e=(cR prog w z.1,.ref z.2)/\IsTupleKey (bw prog w) h z.1 z.2
structure GL (prog:Program) (w:World) (h:Heap) (zs:List (List AY×Addr)) (es:Array (Int×Value)) (t:SetTable):Prop where
 rel:Paired (TE prog w h) zs es.toList
 nd:(zs.map (·.1)).Nodup
 tok:Tok t es
 load:es.size*5<t.mask*3
 led:w.params.followText "set-order"=false->t.led=true
 non:0<es.size->t.plain=false
def Tu(prog:A3)(w:A4)(h:A6)(a:A1)(zs:O (O AY×A1)):Prop:=∃o es ep t,h.get? a=Z o/\o.ExactSet/\o.data=.set es ep t/\GL prog w h zs es t
theorem Zc{h':A6}{b:A1}(x:IsTupleKey (bw prog w) h ks b)(k:∀o,h.get? b=Z o->o.cls=.type "tuple" → h'.get? b=Z o):IsTupleKey (bw prog w) h' ks b:=
 let ⟨o,AQ,n,e,c,r⟩:=x;⟨o,AQ,n,k o e c,c,r⟩
theorem T8{h':A6}{l:O (Int×A0)}(k:∀b o,h.get? b=Z o->o.cls=.type "tuple" → h'.get? b=Z o)(r:AI (TE prog w h) zs l):AI (TE prog w h') zs l:=by
 induction r with
 |nil=>exact .nil
 |cons q _ a=>exact .cons ⟨q.1,Zc q.2 λo e c=>k _ o e c⟩ a
theorem GL.size{es:Array (Int×A0)}(x:GL prog w h zs es t):es.size=zs.length:=by rw[x.rel.length];simp
theorem Tok.fits{t:SetTable}{es:Array (Int×A0)}(h:Tok t es):t.fits es.size=true:=by
 unfold q5 ra;have h1:=h.full;have h2:=h.size;rw[h.dum];simp[h2];omega
theorem Tok.odd{es:Array (Int×A0)}(h:Tok t es):t.gaveWay=false:=by
 unfold SetTable.gaveWay;rcases h.mask with e|e|e<;>rw[e]<;>rfl
theorem Oo{d:Nat}{b:A1}{Q:Bool->A2->Prop}(e:IsTupleKey (bw prog w) s.heap ks b)(h:Q false s):A7 (A8 prog w) A (ofAClassStatement (d+1) (.ref b)) Q E s:=by
 have i:=e.typeIs;obtain⟨o,items,n,ho,_,hd,hi⟩:=e;unfold ofAClassStatement;refine zd (jS i ?_);dsimp only;refine zd (zh ?_);simp only[k9,zr,ZU];refine zd (yA ho hd ?_);dsimp only;refine zd ?_;rw[<-n7];refine wpAny_forIn_list _ (λAS r s'=>r.1=U/\s'=s/\∀v∈AS,carriedByValue v=true) _ ?_ ?_ _ _ ⟨rfl,rfl,hi.byValue⟩
 ·rintro v AS r s' ⟨c,rfl,f⟩;have g:ofAClassStatement d v=pure false:=by
   have:=f v zg;cases v with
   |ref a=>simp[carriedByValue]at this
   |_=>unfold ofAClassStatement;rfl
  rw[g];refine zd (zh ?_);simp only[zr,ZU];exact zh ⟨rfl,rfl,λu j=>f u (zi _ j)⟩
 ·rintro⟨m,l⟩ s' ⟨c,rfl,_⟩;simp only at c;subst c;exact zh h
theorem bS{b:A1}{Q:Bool->A2->Prop}(g:IsTupleKey (bw prog w) s.heap ks b)(vs:O A0)(l:∀v∈vs,∃c a,v=.ref c/\IsTupleKey (bw prog w) s.heap a c)(h:Q false s):A7 (A8 prog w) A (searchCouldBeSeen (.ref b) vs) Q E s:=by
 unfold searchCouldBeSeen;refine zd ?_;refine wpAny_forIn_list _ (λAS r s'=>r.1=U/\s'=s/\∀v∈AS,∃c a,v=.ref c/\IsTupleKey (bw prog w) s.heap a c) _ ?_ ?_ _ _ ⟨rfl,rfl,l⟩
 ·rintro v AS r s' ⟨d,rfl,i⟩;obtain⟨c,a,rfl,f⟩:=i v zg;have e:∀v∈AS,∃c a,v=.ref c/\IsTupleKey (bw prog w) s'.heap a c:=λu j=>i u (zi _ j);dsimp only;split
  ·exact zh ⟨rfl,rfl,e⟩
  ·refine zd (wpAny_eqIsQuiet_tuple g ?_);simp only[k9,zr,ZU];refine zd (wpAny_eqIsQuiet_tuple f ?_);simp only[k9,zr,ZU];refine zd (Oo g ?_);simp only[zr,ZU];refine zd (Oo f ?_);simp only[zr,ZU];exact zh ⟨rfl,rfl,e⟩
 ·rintro⟨n,m⟩ s' ⟨d,rfl,_⟩;simp only at d;subst d;exact zh h
theorem QC{h:A6}:∀{zs:O (O AY×A1)} {l:O (Int×A0)},AI (TE prog w h) zs l->∀{i:Nat} {e},l[i]?=Z e->∃z,zs[i]?=Z z/\TE prog w h z e
 |_,_,.nil,i,e,q=>by simp at q
 |_,_,.cons r _,0,e,q=>by simp at q;subst q;exact⟨_,rfl,r⟩
 |_,_,.cons _ t,i+1,e,q=>by
  rw[qf]at q;obtain⟨z,z1,z2⟩:=QC t q;exact⟨z,by rw[qf];exact z1,z2⟩
theorem Cg{h:A6}:∀{zs:O (O AY×A1)} {l:O (Int×A0)},AI (TE prog w h) zs l->∀{i:Nat} {z},zs[i]?=Z z->∃e,l[i]?=Z e/\TE prog w h z e
 |_,_,.nil,i,e,q=>by simp at q
 |_,_,.cons r _,0,e,q=>by simp at q;subst q;exact⟨_,rfl,r⟩
 |_,_,.cons _ t,i+1,e,q=>by
  rw[qf]at q;obtain⟨z,z1,z2⟩:=Cg t q;exact⟨z,by rw[qf];exact z1,z2⟩
theorem EC(p:Nat->Prop):∀(k n:Nat),p (n+k)->∃d,d<=k/\p (n+d)/\∀m,n<=m->m<n+d->¬ p m
 |0,n,h=>⟨0,zk _,h,λm h1 h2=>absurd h2 ()⟩
 |k+1,n,h=>by
  by_cases q:p n
  ·exact⟨0,QP _,q,λm h1 h2=>absurd h2 ()⟩
  ·obtain⟨d,h1,h2,c⟩:=EC p k (n+1) (by rw[show n+1+k=n+(k+1) by omega];exact h);refine⟨d+1,by omega,by rw[show n+(d+1)=n+1+d by omega];exact h2,λm a b=>?_⟩;by_cases e:m=n
   ·rw[e];exact q
   ·exact c m () ()
theorem EH{o:AE}{es:Array (Int×A0)}{b:A1}(X:A.units<cLine)(ho:s.heap.get? a=Z o)(hd:o.data=.set es ep t)(x:GL prog w s.heap zs es t)(J:IsTupleKey (bw prog w) s.heap ks b){N:Nat}(hN:N<10*ci t.mask)(h:(jh t.mask (cR prog w ks) N).j∉t.place)(hp:∀m,m<N->(jh t.mask (cR prog w ks) m).j∈t.place){Q:SetFound->A2->Prop}(h1:ks∈zs.map (·.1)->Q (.there U) s)(h2:ks∉zs.map (·.1)->Q (.free (jh t.mask (cR prog w ks) N).j false) s):
  ∀(k n fuel:Nat) (G:Y SetTable.Probe),n+k=N->k<fuel->G.getD (t.probeStart (cR prog w ks))=jh t.mask (cR prog w ks) n->(∀m,m<n->∀i:Nat,t.place[i]?=Z (jh t.mask (cR prog w ks) m).j->∀z:O AY×A1,zs[i]?=Z z->z.1≠ks) →
   A7 (A8 prog w) A (setSearchFrom a (.ref b) (cR prog w ks) true fuel G) Q E s:=by
 have get:∀{i:Nat} {e},es[i]?=Z e->∃z,zs[i]?=Z z/\TE prog w s.heap z e:=λ{i e} q=>QC x.rel (by rw[QO];exact q);have M:=x.tok.fits;intro k
 induction k using Nat.strongRecOn with
 |ind k ih=>
  intro n fuel G hn a3 a0 hb;cases fuel with
  |zero=>omega
  |succ fuel=>
  unfold setSearchFrom;refine zd (Jn ho hd M ?_);dsimp only;rw[zD (by rw[x.tok.odd];decide)];refine zd (zh ?_);rw[a0];obtain⟨d,d1,d2,F⟩:=EC (λm=>m=N\/∃i:Nat,t.place[i]?=Z (jh t.mask (cR prog w ks) m).j/\∃e:Int×A0,es[i]?=Z e/\e.1=cR prog w ks) k n (.inl hn);have live:∀m,m<N->∃i:Nat,t.place[i]?=Z (jh t.mask (cR prog w ks) m).j/\∃e,es[i]?=Z e:=λm p=>by
   obtain⟨i,hi,e⟩:=Array.getElem_of_mem (hp m p);have f:i<es.size:=by rw[<-x.tok.size];exact hi
   exact⟨i,by rw[qi hi,e],es[i],qi f⟩
  have pr:=T4 x.tok.toTb (λi=>(es[i]?.map (·.1)).getD 0) (cR prog w ks) d (10*ci t.mask) n () λm a1 a2=>by
   have q:=F m a1 a2;obtain⟨i,e1,e,e2⟩:=live m ();refine⟨i,e1,λq'=>q (.inr ⟨i,e1,e,e2,?_⟩)⟩;simpa[e2]using q'
  have P:t.probe (λi=>(es[i]?.map (·.1)).getD 0) (cR prog w ks) (jh t.mask (cR prog w ks) n)=dw.go t (λi=>(es[i]?.map (·.1)).getD 0) (cR prog w ks) (10*ci t.mask) (jh t.mask (cR prog w ks) n):=rfl;by_cases I:n+d=N
  ·have p1:=pr.1 (by rw[I];exact h);rw[I]at p1;show A7 _ _ (match t.probe (λi=>(es[i]?.map (·.1)).getD 0) (cR prog w ks) (jh t.mask (cR prog w ks) n)with|some met=>_|_=>_) _ _ _;rw[P,p1];dsimp only;refine zh (h2 λp=>?_);obtain⟨z,hz,D⟩:=List.mem_map.mp p;obtain⟨i,hi,e⟩:=kc hz;obtain⟨l,e1,e2⟩:=Cg x.rel (show zs[i]?=Z z by rw[Zp hi,e]);rw[QO]at e1;have f:i<t.place.size:=by rw[x.tok.size,x.size];exact hi
   obtain⟨g,b1,b2,K⟩:=x.tok.reach i _ l (qi f) e1;rw[e2.1,D]at b2 K;have lt:g<N:=by
    rcases jd g N with q|q|q
    ·exact q
    ·exfalso;rw[<-q]at h;rw[b2]at h;exact h (Array.getElem_mem f)
    ·exact absurd (K N q) h
   by_cases q:g<n
   ·exact hb g q i (by rw[b2];exact qi f) z (by rw[Zp hi,e]) D
   ·exact F g () () (.inr ⟨i,by rw[b2];exact qi f,l,e1,by rw[e2.1,D]⟩)
  ·rcases d2 with q|⟨i,i1,e,i2,i3⟩
   ·exact absurd q I
   ·have p2:=pr.2 i i1 (by simpa[i2]using i3);show A7 _ _ (match t.probe (λi=>(es[i]?.map (·.1)).getD 0) (cR prog w ks) (jh t.mask (cR prog w ks) n)with|some met=>_|_=>_) _ _ _;rw[P,p2];dsimp only;obtain⟨z,z1,z2⟩:=get i2;have C:∀v∈((es.filter (·.1==cR prog w ks)).toList.map (·.2)),∃c ls,v=.ref c/\IsTupleKey (bw prog w) s.heap ls c:=λv C=>by
     obtain⟨u,L,rfl⟩:=List.mem_map.mp C;rw[Array.toList_filter,QQ]at L;obtain⟨jj,hj,ej⟩:=kc L.1;obtain⟨y,y1,y2⟩:=QC x.rel (show es.toList[jj]?=Z u by rw[Zp hj,ej]);exact⟨y.2,y.1,by rw[y2.1],y2.2⟩
    have W:A7 (A8 prog w) A (do
      let Z (_,y):=es[i]?|unsupported "internal:set-entry"
      let equal <-holding [y] (eqBool y (.ref b))
      let (es',_,t') <-setState a
      if(true&&equal)=true then return SetFound.there U
      let Z same:=t'.sameMemory t.moves t.mask|unsupported "set.changed-during-lookup:is-the-new-block-at-the-old-address"
      let still <-match (if same then t'.slot (jh t.mask (cR prog w ks) (n+d)).j else .empty)with
       |.live i'=>match es'[i']? with
        |some (_,y')=>do pure (if <-isSame y' y then Z i' else U)
        |none=>pure U
       |_=>pure U
      match still with
      |none=>rule "set.search.anew"; setSearchFrom a (.ref b) (cR prog w ks) true fuel U
      |some i'=>if equal then return .there (Z i')else setSearchFrom a (.ref b) (cR prog w ks) true fuel (Z (jh t.mask (cR prog w ks) (n+d+1)))) Q E s:=by
     rw[i2,z2.1];dsimp only;refine zd (QR (wpAny_eqBool_tuple X z2.2 J ?_));refine zd (Jn ho hd M ?_);dsimp only;by_cases B:z.1=ks
     ·rw[ZA B];simp only[Bool.and_self,QU];exact zh (h1 (List.mem_map.mpr ⟨z,Q1 z1,B⟩))
     ·rw[ZN B];simp only[yY,zr,ZU];have sm:t.sameMemory t.moves t.mask=Z true:=by unfold SetTable.sameMemory;simp
      rw[sm];dsimp only;simp only[QU];rw[Eo x.tok.toTb i1];dsimp only;rw[i2,z2.1];dsimp only;refine zd (wpAny_isSame_ref_self (zd (zh ?_)));simp only[QU];refine ih (N-(n+d+1)) () (n+d+1) fuel _ () () S λm p i' H y y1=>?_;by_cases c1:m<n
      ·exact hb m c1 i' H y y1
      ·by_cases c2:m=n+d
       ·subst c2;have:i'=i:=by
         have s1:=JL x.tok.rise H;have s2:=JL x.tok.rise i1;omega
        subst this;rw[z1]at y1;cases y1;exact B
       ·have q:=F m () ();intro e';obtain⟨l,e1,e2⟩:=Cg x.rel y1;rw[QO]at e1;exact q (.inr ⟨i',H,l,e1,by rw[e2.1,e']⟩)
    split
    ·refine zd (bS J _ C ?_);simp only[zr,ZU];exact W
    ·exact W
def EZ(ks:O AY):Prop:=∃x:AJ,(Sum.inr x:AY)∈ks
theorem lb{b:A1}{Q:Bool->A2->Prop}(c:IsTupleKey (bw prog w) s.heap ks b)(hx:EZ ks)(h:Q false s):A7 (A8 prog w) A (hashByValue 8 (.ref b)) Q E s:=by
 have j:=c.typeIs;obtain⟨o,items,n,ho,_,hd,hi⟩:=c;unfold hashByValue;refine zd (wpAny_specialOf j F.slot_tuple_hash.lookup ?_);dsimp only;refine zd (yA ho hd ?_);show A7 _ _ (forIn items _ _ >>= _) _ _ s;refine zd ?_;rw[<-n7];refine wpAny_forIn_list _ (λAS r s'=>r.1=U/\s'=s/\∃left,ItemsAre (bw prog w) left AS/\EZ left) _ ?_ ?_ _ _ ⟨rfl,rfl,ks,hi,hx⟩
 ·rintro v AS r s' ⟨g,rfl,left,a,x,hx⟩;cases a with
  |@cons k _ f _ h1 d=>
   rcases bZ h1 with⟨i,t,rfl,rfl⟩|⟨y,t,rfl,rfl⟩
   ·have e:hashByValue 7 (.int i t)=pure true:=by unfold hashByValue;rfl
    rw[e];refine zd (zh ?_);simp only[k9,zr,ZU];refine zh ⟨rfl,rfl,f,d,x,?_⟩;rcases List.mem_cons.mp hx with q|q
    ·cases q
    ·exact q
   ·have e:hashByValue 7 (.str y t)=pure false:=by unfold hashByValue;rfl
    rw[e];refine zd (zh ?_);simp only[Kx,QU];exact zh (zh h)
 ·rintro⟨m,l⟩ s' ⟨g,rfl,left,a,x,hx⟩;cases a;cases hx
theorem gT{es:Array (Int×A0)}(h:Tok t es):Tok { t with plain:=false } es:={ mask:=h.mask,dum:=h.dum,rise:=h.rise,bd:=h.bd,full:=h.full,size:=h.size,reach:=h.reach }
theorem de{b:A1}{Q:Bool->A2->Prop}(hu:A.units<cLine)(hS:Tu prog w s.heap a zs)(M:IsTupleKey (bw prog w) s.heap ks b)(hx:EZ ks)(c6:zs.length+1<=70)(h:∀r h' X,Heap.SameBut a s.heap h'->Tu prog w h' a X->(∀z,z∈X↔z∈zs\/(z=(ks,b)/\ks∉zs.map (·.1)))->X.length<=zs.length+1->Q r { s with heap:=h' }):A7 (A8 prog w) A (setAddHashed a (.ref b) (cR prog w ks)) Q E s:=by
 obtain⟨o,es,ep,t,ho,W,hd,x⟩:=id hS;have d0:=x.size;have a5:=x.tok.fits;have a4:=x.load;have c0:o.cls≠.type "tuple":=by rw[W.1];decide
 obtain⟨N,n,n2,n3⟩:=W5 x.tok.toTb (cR prog w ks);have c8:10*ci t.mask<100000:=by
  unfold ci;rcases x.tok.mask with e|e|e<;>rw[e]<;>decide
 unfold setAddHashed setAddHashedIn;refine QR (zd (Jn ho hd a5 ?_));dsimp only;have hb:byScan (.ref b) es=false:=by unfold byScan;rfl
 rw[hb];simp only[zr,ZU];unfold setSearch;refine zd (EH hu ho hd x M n n2 n3 (λf=>?_) (λf=>?_) N 0 100000 U () () S λm f=>absurd f (kX _))
 ·dsimp only;exact zh (h _ s.heap zs (Heap.SameBut.refl a s.heap) hS (λz=>⟨.inl,λq=>q.elim id λq=>absurd f q.2⟩) (Kn _))
 ·dsimp only;refine zd (Jn ho hd a5 ?_);dsimp only;have hj:=W6 (mask:=t.mask) (cR prog w ks) N;have b0:es.size+1<=t.mask:=by rcases x.tok.mask with e|e|e<;>rw[e]at a4 ⊢<;>omega
  obtain⟨pt,pl,pp,L⟩:=eJ (x:=.ref b) x.tok n n2 n3 hj b0;generalize hP:t.put (jh t.mask (cR prog w ks) N).j=P at pt pl pp L ⊢;obtain⟨t1,p⟩:=P;dsimp only at pt pl pp L ⊢;have b9:(bD es p (cR prog w ks,.ref b)).toList.Perm (es.toList++[(cR prog w ks,.ref b)]):=by
   rw[Ce];refine(List.perm_middle).trans ?_;rw[KW];exact(List.perm_append_singleton _ _).symm
  have r0:AI (TE prog w s.heap) (zs++[(ks,b)]) (es.toList++[(cR prog w ks,.ref b)]):=W0 x.rel (.cons ⟨rfl,M⟩ .nil);obtain⟨G,q1,r1⟩:=Gf b9 r0;have a2:(G.map (·.1)).Nodup:=(q1.map (·.1)).nodup_iff.mpr (by
   rw[qh];exact List.nodup_append.mpr ⟨x.nd,by simp,λu b4 v hv=>by simp at hv;subst hv;exact λe=>f (e▸b4)⟩)
  have m1:∀z,z∈G↔z∈zs\/(z=(ks,b)/\ks∉zs.map (·.1)):=λz=>by
   rw[q1.mem_iff,yi,ba];exact⟨λq=>q.imp id λe=>⟨e,f⟩,λq=>q.imp id λe=>e.1⟩
  have l1:G.length=zs.length+1:=by rw[q1.length_eq];simp
  have y:(bD es p (cR prog w ks,Value.ref b)).size=es.size+1:=xZ _ _ _;have up:∀(hp:A6) (C:AE) (e1 e2:Array (Int×A0)) (n:Nat) (u1 l:SetTable),hp.get? a=Z C->C.data=.set e1 n u1->(hp.update a (Obj.putSet e2 l)).get? a=Z { C with data:=.set e2 (n+1) l }:=λhp C e1 e2 n u1 l g q=>by
   have:=kA (Obj.putSet e2 l) g (by rw[putSet_of e2 l q];rfl);rw[putSet_of e2 l q]at this;exact this
  have kp:∀{h':A6},Heap.SameBut a s.heap h'->∀c D,s.heap.get? c=Z D->D.cls=.type "tuple" → h'.get? c=Z D:=λsb c D e ec=>by
   rw[sb.2 c λq=>by subst q;rw[ho]at e;cases e;exact c0 ec];exact e
  have a8:∀t2:SetTable,Tok t2 (bD es p (cR prog w ks,.ref b))->t2.led=t1.led->t2.plain=false->t2.mask=t1.mask->A7 (A8 prog w) A (do
    storeSet a (bD es p (cR prog w ks,.ref b)) t2
    if(!false&&t2.tooFull)=true then setRelay a (dq (es.size+1))
    pure true) Q E s:=by
   intro t2 H l2 p2 m2;have g1:=up s.heap o es (bD es p (cR prog w ks,.ref b)) ep t t2 ho hd;refine zd (wpAny_storeSet_of ho hd ?_ (fits_of_scanBound (by rw[y];have:scanBound=4096:=rfl;omega)));have K:Heap.SameBut a s.heap (s.heap.update a (Obj.putSet (bD es p (cR prog w ks,.ref b)) t2)):=Heap.SameBut.update ..;have a3:t2.fill=es.size+1:=by unfold ra;rw[H.dum,H.size,y];rfl
   have a0:w.params.followText "set-order"=false->t2.led=true:=λq=>l2.trans (pl.trans (x.led q));by_cases d:t2.tooFull=true
   ·rw[d];simp only[Kx,Bool.and_self,QU];have hf:t2.fill*5>=t2.mask*3:=by unfold pf at d;simpa using d
    rw[a3,m2,L]at hf;have hg:dq (es.size+1)=(es.size+1)*4:=by unfold dq;rw[zD ()]
    have a1:(es.size=4/\t.mask=7)\/(es.size=18/\t.mask=31):=by
     rcases x.tok.mask with e|e|e<;>rw[e]at hf a4
     ·exact .inl ⟨by omega,e⟩
     ·exact .inr ⟨by omega,e⟩
     ·omega
    have F:(es.size=4->da (dq (es.size+1))=32)/\(es.size=18->da (dq (es.size+1))=128):=by
     rw[hg];exact⟨λe=>by rw[e];decide,λe=>by rw[e];decide⟩
    have J:da (dq (es.size+1))-1=31/\es.size=4\/da (dq (es.size+1))-1=127/\es.size=18:=by
     rcases a1 with⟨e,_⟩|⟨e,_⟩
     ·exact .inl ⟨by rw[F.1 e],e⟩
     ·exact .inr ⟨by rw[F.2 e],e⟩
    obtain⟨t3,B,e3,a7,k3,l3,p3,m3⟩:=b8 (t:=t2) (es:=bD es p (cR prog w ks,.ref b)) (wanted:=dq (es.size+1)) (by rcases J with⟨e,_⟩|⟨e,_⟩<;>rw[e]<;>simp) (by rw[y];rcases J with⟨e,e'⟩|⟨e,e'⟩<;>rw[e,e']<;>decide);unfold setRelay;refine zd (zd (Jn g1 S H.fits ?_));dsimp only;have c3:¬ (da (dq (es.size+1))>AA):=by
     rcases a1 with⟨e,_⟩|⟨e,_⟩
     ·rw[F.1 e];decide
     ·rw[F.2 e];decide
    rw[zD c3];have I:(B.filterMap (λi=>(bD es p (cR prog w ks,Value.ref b))[i]?)).size=(bD es p (cR prog w ks,Value.ref b)).size:=by
     rw[<-Qb,a7.length_eq,Qb]
    rw[e3];refine zd ?_;show A7 _ _ (if((B.filterMap (λi=>(bD es p (cR prog w ks,Value.ref b))[i]?)).size !=(bD es p (cR prog w ks,Value.ref b)).size)=true then _ else pure (B.filterMap (λi=>(bD es p (cR prog w ks,Value.ref b))[i]?),t3)) _ _ _;rw[zD (by rw[I];simp)];refine zh ?_;dsimp only;refine wpAny_storeSet_of g1 S ?_ (fits_of_scanBound (by rw[I,y];have:scanBound=4096:=rfl;omega));have g2:=up _ _ (bD es p (cR prog w ks,.ref b)) (B.filterMap (λi=>(bD es p (cR prog w ks,Value.ref b))[i]?)) _ t2 t3 g1 rfl;have a6:Heap.SameBut a s.heap ((s.heap.update a (Obj.putSet (bD es p (cR prog w ks,.ref b)) t2)).update a (Obj.putSet (B.filterMap (λi=>(bD es p (cR prog w ks,Value.ref b))[i]?)) t3)):=K.trans (Heap.SameBut.update ..);obtain⟨b3,q2,r2⟩:=Gf a7 r1;refine zh (h _ _ b3 a6 ⟨_,_,_,t3,g2,W,rfl,⟨T8 (kp a6) r2,(q2.map (·.1)).nodup_iff.mpr a2,k3,?_,λq=>l3.trans (a0 q),λ_=>p3.trans p2⟩⟩ (λz=>by rw[q2.mem_iff];exact m1 z) (by rw[q2.length_eq];omega));rw[I,y,m3];rcases J with⟨e,e'⟩|⟨e,e'⟩<;>rw[e,e']<;>decide
   ·have d:t2.tooFull=false:=by simpa using d
    rw[d];simp only[yY,zr,ZU];refine zd (zh ?_);refine zh (h _ _ G K ⟨_,_,_,t2,g1,W,rfl,⟨T8 (kp K) r1,a2,H,?_,a0,λ_=>p2⟩⟩ m1 ());unfold pf at d;rw[a3]at d;rw[y];simpa using d
  split
  ·refine zd (lb M hx ?_);simp only[zr,ZU];exact a8 { t1 with plain:=false } (gT pt) S S rfl
  ·rename_i hp;refine zd (zh ?_);simp only[QU];exact a8 t1 pt S (by simpa using hp) rfl
end S6
namespace S1
open L2
theorem W8{x:A0}(G:O A0->Prop)(kd:SortKind)(rk:O A0->A0->Nat){Q:B7}(y:∀(g:B7) (j:O A0->A2->Prop),(∀vs h' d tk,G vs->s.heap.objs.size<=h'.objs.size->(∀c o,s.heap.get? c=Z o->h'.get? c=Z o)->j vs { s with heap:=h',drawn:=d,toks:=tk })->A7 (A8 prog w) A.in1 (collect x) j g s)
  (t:∀vs,G vs->2<=vs.length->∀(g:B7) (f:A5) (s':A2),(∀c o,s.heap.get? c=Z o->s'.heap.get? c=Z o)->∀Q:SortKind->A2->Prop,Q kd s'->A7 (A8 prog w) f (keyKind' vs.toArray) Q g s') (p:∀vs,G vs->∀(f:A5) (s':A2),(∀c o,s.heap.get? c=Z o->s'.heap.get? c=Z o)->D4 prog w f s' kd (rk vs) (pairsOf vs)) (i:∀vs,G vs->vs.length<64)
  (h:∀vs,G vs->∀(l:A1) (h':A6) (d:Drawn) (tk n:Nat) (st:SortSt),(AM st).Perm (pairsOf vs)->Up (rk vs) (AM st) (pairsOf vs).size->s.heap.objs.size<=l->(∀c o,s.heap.get? c=Z o->h'.get? c=Z o)->h'.get? l=Z (seqObj "list" ((AM st).map (·.2)) n)->Q (.ref l) { s with heap:=h',drawn:=d,toks:=tk }):
  A7 (A8 prog w) A (call (.builtin "sorted") [x]) Q E s:=by
 refine YA kind_sorted plain_sorted entry_sorted (args_sorted1 _) ?_;unfold Builtin.«sorted»;refine zd (m:=checkCount "sorted" 1 1 _) (zh (zd (y _ _ λvs h1 d tk a v ext=>?_)));have z:=i vs a;refine zd (YO ?_);have b:(h1.push (seqObj "list" vs.toArray 0)).get? h1.objs.size=Z (seqObj "list" vs.toArray 0):=zw _ rfl;have old:∀s':A2,Fm h1.objs.size { s with heap:=h1.push (seqObj "list" vs.toArray 0),drawn:=d,toks:=tk } s'->∀c o,s.heap.get? c=Z o->s'.heap.get? c=Z o:=λs' q c o e=>
  q c o (Zl (zv (ext c o e))) (ze _ (ext c o e))
 refine zd (QR (ky slot_list_sort ⟨_,b,rfl⟩ entry_list_sort (N0 b (λq s' o=>t vs a q _ _ s' (old s' o)) (λs' o=>p vs a _ s' (old s' o)) (i vs a) λst q1 q2=>⟨_,rfl,zh ⟨_,rfl,?_⟩⟩) (args_list_sort _)));obtain⟨n,u⟩:=sortedHeap_at (out:=(AM st).map (·.2)) b;refine h vs a h1.objs.size _ d tk n st q1 q2 v (λc o e=>?_) u;have hb:=zv (ext c o e);rw[sortedHeap_old (Zl hb) (by rw[qk];exact qB hb)];exact ze _ (ext c o e)
end S1
namespace P1
open L2 S6
section
theorem gg{d:Drawn}(I:AU X AN σ H s):AU X AN σ H { s with drawn:=d }:=⟨I.ok,I.os,I.bare,I.base,I.loc,I.cell,I.free,I.rO,I.pin,I.hok,I.len⟩
variable{fs:Ev->Y AZ}{p:Pos}
end
section
variable{xs:AZ}
end
section
variable{xs:AZ}
variable{fs:Ev->Y AZ}{p':Pos}
end
end P1
namespace P1
open L2 S1 S6
def Ts(prog:A3)(w:A4)(h:A6)(a:A1)(zs:O (O AY×A1)):Prop:=∃o es ep t,h.get? a=Z o/\o.ExactSet/\o.data=.set es ep t/\es.toList=zs.map (λz=>(cR prog w z.1,(.ref z.2:A0)))/\t.fits es.size=true/\(w.params.followText "set-order"=false->t.led=true)/\(0<es.size->t.plain=false)
theorem T9{prog:A3}{w:A4}{h:A6}:∀{zs:O (O AY×A1)} {l:O (Int×A0)},AI (TE prog w h) zs l->l=zs.map (λz=>(cR prog w z.1,(.ref z.2:A0)))
 |_,_,.nil=>rfl
 |_,_,.cons r t=>by rw[zo,<-T9 t,r.1]
theorem Ts.of(x:Tu prog w h a zs):Ts prog w h a zs:=
 let ⟨o,es,ep,t,e,r,d,q⟩:=x;⟨o,es,ep,t,e,r,d,T9 q.rel,q.tok.fits,q.led,q.non⟩
theorem Ts.keep{h':A6}(x:Ts prog w h a zs)(k:∀o,h.get? a=Z o->h'.get? a=Z o):Ts prog w h' a zs:=
 let ⟨o,es,ep,t,e,r⟩:=x;⟨o,es,ep,t,k o e,r⟩
def FE(X:Cx)(a:A1)(zs:O (O AY×A1)):HO:=.ext λh=>Ts X.prog X.w h a zs
theorem XB(X:Cx)(h:Ks ks us):ItemsAre (bw X.prog X.w) ks us:=by
 induction h with
 |nil=>exact .nil
 |cons r _ a=>exact .cons r a
theorem Z'(X:Cx)(h:ItemsAre (bw X.prog X.w) ks us):Ks ks us:=by
 induction h with
 |nil=>exact .nil
 |cons r _ a=>exact .cons r a
theorem Ua(X:Cx){v:A0}(q:lJ h ks v):∃b,v=.ref b/\IsTupleKey (bw X.prog X.w) h ks b:=by
 obtain⟨a,o,AQ,n,e,g,c,d,p⟩:=q;exact⟨a,e,o,AQ.toArray,n,g,c,d,by simpa using XB X p⟩
theorem Sf(X:Cx){b:A1}(q:IsTupleKey (bw X.prog X.w) h ks b):lJ h ks (.ref b):=by
 obtain⟨o,AQ,n,g,c,d,p⟩:=q;exact⟨b,o,AQ.toList,n,rfl,g,c,by simpa using d,Z' X p⟩
def om(X:Cx):O V->Hp->VK->Prop:=λxs H Q=>∃v b ds cY,xs=[v]/\aX X.K H b v/\wY b=Z ds/\vA ds=Z cY/\cY.length<=64/\(∀k∈cY,EZ k) ∧
 ∀a zs H',AV H H'->H' a=Z (FE X a zs)->(∀k,k∈zs.map (·.1)↔k∈cY)->(zs.map (·.1)).Nodup->(∀z∈zs,AW X.K H' (BD z.1) (.ref z.2))->Q (.ref a) H'
def CU(X:Cx)(S:A1)(AQ:O A0)(h:A6)(ys:O (O AY)):Prop:=∃zs,zs.map (·.1)=ys/\Tu X.prog X.w h S zs/\∀z∈zs,(.ref z.2:A0)∈AQ
theorem Cj{h:A6}:∀{cY:O (O AY)} {vs:O A0},AI (lJ h) cY vs->∀{i:Nat} {v:A0},vs[i]?=Z v->∃k,cY[i]?=Z k/\lJ h k v
 |_,_,.nil,i,v,q=>by simp at q
 |_,_,.cons r _,0,v,q=>by simp at q;subst q;exact⟨_,rfl,r⟩
 |_,_,.cons _ t,i+1,v,q=>by
  rw[qf]at q;obtain⟨z,z1,z2⟩:=Cj t q;exact⟨z,by rw[qf];exact z1,z2⟩
theorem Ub{h0:A6}{S:A1}(hs:AI (lJ h0) cY AQ)(hl:cY.length<=64)(hx:∀k∈cY,EZ k)(x:h0.objs.size=S):EL X.prog X.w S [S+1] (λh zs=>(∀b o,h0.get? b=Z o->h.get? b=Z o)/\CU X S AQ h zs) (λi v=>AQ.toArray[i]?=Z v) (λi=>cY.getD i []) AQ.length where
 keep:=λh h' ys t k=>by
  obtain⟨n,zs,e,t,m⟩:=t;have B:∀b o,(b=S\/b<S)->h.get? b=Z o->h'.get? b=Z o:=λb o hb e=>k b o (by
   simp only[js,JP,or_false];rcases hb with rfl|hb
   ·exact Zl (qa _)
   ·exact Zl (qB hb)) e
  have old:∀b o,h0.get? b=Z o->h'.get? b=Z o:=λb o e=>B b o (.inr (by rw[<-x];exact zv e)) (n b o e);refine⟨old,zs,e,?_,m⟩;obtain⟨o,es,ep,M,g,r,d,q⟩:=t;refine⟨o,es,ep,M,B S o (.inl rfl) g,r,d,⟨?_,q.nd,q.tok,q.load,q.led,q.non⟩⟩;have I:∀{zs:O (O AY×A1)} {l:O (Int×A0)},AI (TE X.prog X.w h) zs l->(∀z∈zs,(.ref z.2:A0)∈AQ)->AI (TE X.prog X.w h') zs l:=by
   intro zs l r
   induction r with
   |nil=>intro _;exact .nil
   |cons q _ P=>
    intro m;refine .cons ⟨q.1,Zc q.2 λo e c=>?_⟩ (P λz j=>m z (zi _ j));obtain⟨i,hi,L⟩:=kc (m _ (zg ..));obtain⟨kk,_,tv⟩:=Cj hs (show AQ[i]?=Z _ by rw[Zp hi,L]);obtain⟨b,eb,⟨ob,_,_,gb,_⟩⟩:=Ua X tv;cases eb;exact B _ o (.inr (by rw[<-x];exact zv gb)) e
  exact I q.rel m
 add:=λA E s i v ys Q C hi p N j h=>by
  obtain⟨n,zs,e,t,m⟩:=N;have p:AQ[i]?=Z v:=by simpa using p
  obtain⟨ks,e1,tv⟩:=Cj hs p;have K:=tv.keep n;obtain⟨b,rfl,D⟩:=Ua X K;have H:cY.getD i []=ks:=by simp[hQ,e1]
  have a1:AQ.length=cY.length:=hs.length.symm;have a0:zs.length=ys.length:=by rw[<-e,zl]
  unfold setAdd;refine QR (zd (wpAny_pyHash_tuple C D ?_));refine de (s:={ s with toks:=s.toks+(ks.length+1) }) C t D (hx ks (Q1 e1)) () λr h' F G W a l=>?_;refine h r h' _ (F.map (·.1)) G ⟨λc o g=>?_,F,rfl,W,λz j=>?_⟩ (λz=>?_) (by rw[zl];omega) (kr _ _)
  ·rw[G.2 c λq=>by subst q;have:=zv g;rw[x]at this;exact Q3 _ this];exact n c o g
  ·rcases(a z).mp j with q|⟨q,_⟩
   ·exact m z q
   ·subst q;exact Q1 p
  ·rw[H,<-e,KB,KB];constructor
   ·rintro⟨y,f,rfl⟩;rcases(a y).mp f with q|⟨q,_⟩
    ·exact .inl ⟨y,q,rfl⟩
    ·exact .inr (congrArg Prod.fst q)
   ·rintro(⟨y,f,u⟩|J)
    ·exact⟨y,(a y).mpr (.inl f),u⟩
    ·rw[J];by_cases q:ks∈zs.map (·.1)
     ·obtain⟨y,f,u⟩:=List.mem_map.mp q;exact⟨y,(a y).mpr (.inl f),u⟩
     ·exact⟨(ks,b),(a _).mpr (.inr ⟨rfl,q⟩),rfl⟩
theorem sB(hc:X.calm=true)(W:X.A.units+100<cLine):iz X (.type "set") (om X):=by
 intro AN s σ H xs us Q I r h;obtain⟨v,b,ds,cY,rfl,rb,ed,ek,hl,hx,q⟩:=h;obtain⟨u,rfl,ru⟩:=BA r;obtain⟨p,vs,rfl,sq,D⟩:=Ia rb ed;have a7:=Ej ek;subst a7;cases ru;have hh:=I.ok.hd hc;have a6:∀(h':A6) (tk:Nat) (ys:O (O AY)) (AQ:O A0),AX vs AQ->((∀b o,s.heap.get? b=Z o->h'.get? b=Z o)/\CU X s.heap.objs.size AQ h' ys)->(∀z,z∈ys↔∃j,j<AQ.length/\z=cY.getD j [])->(∀b F,s.heap.get? b=Z F->h'.get? b=Z F)->EP X AN σ Q (.ref s.heap.objs.size) { s with heap:=h',toks:=tk }:=by
  intro h' tk ys AQ M cu C k;obtain⟨_,zs,e,t,m⟩:=cu;have a3:=I.hok.fresh (zk s.heap.objs.size);have a5:AQ.length=cY.length:=by rw[<-M.length,D.length,zl]
  have tv:=tL I D M;refine⟨.ref s.heap.objs.size,_,I.laid (t':=tk) (a:=s.heap.objs.size) (o:=FE X s.heap.objs.size zs) k (zk _) ?_,rfl,q _ zs _ (bO a3) aV (λz=>?_) ?_ λz l=>?_⟩
  ·obtain⟨o,es,ep,t',ho,_⟩:=id t;exact⟨Ts.of t,⟨o,ho⟩,λh1 h2 t1 k1=>Ts.keep t1 k1⟩
  ·rw[e,C z];constructor
   ·rintro⟨j,f,rfl⟩;rw[a5]at f;simp[hQ,f]
   ·intro l;obtain⟨j,f,e⟩:=kc l;exact⟨j,by rw[a5];exact f,by simp[hQ,f,e]⟩
  ·obtain⟨o,es,ep,t',ho,_,_,x⟩:=t;exact x.nd
  ·obtain⟨o,es,ep,t',ho,_,_,x⟩:=t;obtain⟨i,hi,ei⟩:=kc l;obtain⟨ee,_,te⟩:=Cg x.rel (show zs[i]?=Z z by rw[Zp hi,ei]);have tz:=Sf X te.2;have a1:=m z l;obtain⟨j,f,ej⟩:=kc a1;obtain⟨kk,_,a4⟩:=Cj tv (show AQ[j]?=Z (.ref z.2) by rw[Zp f,ej]);have ek:kk=z.1:=(a4.keep k).inj tz;obtain⟨w1,J,r2⟩:=Ek I D M (lss:=[kk]) (out:=[.ref z.2]) (.cons a4 .nil) (λu W=>by cases ba.mp W;exact a1);cases J with
   |@cons w0 _ _ _ r0 J=>
    cases J;simp only[zo,kD,aK]at r2;obtain⟨v0,B,ev,G,_⟩:=r2;simp only[kC]at ev;rw[<-ev.1]at G;have hw:w0=V.ref z.2:=by
     have q1:=G;simp only[BD,AW]at q1;obtain⟨a0,ws,e0,_⟩:=q1;subst e0;cases r0;rfl
    rw[<-ek,<-hw];exact G.kp (.of (bO a3))
 have a2:∀h':A6,h'.get? s.heap.objs.size=Z (BT X.w)->∀AQ:O A0,CU X s.heap.objs.size AQ h' []:=λh' e AQ=>
  ⟨[],rfl,⟨_,#[],0,_,e,⟨rfl,rfl,rfl⟩,rfl,⟨.nil,JE,{ mask:=.inl rfl,dum:=rfl,rise:=λi j _ f=>absurd f (kX _),bd:=λj f=>by simp[mT]at f,full:=QP _,size:=rfl,reach:=λi j e h1=>by simp[mT]at h1 },(show 0*5<7*3 by decide),λq=>by simp[mT,q],λq=>absurd q (Q3 _)⟩⟩,λz l=>by cases l⟩
 rcases sq with sq|sq
 ·obtain⟨AQ,B,pl,l⟩:=I.list sq;obtain⟨o,g,c,n,d⟩:=pl.isList;refine O3 () (T :="list") hh g c (.inl S) (P:=λi v=>AQ.toArray[i]?=Z v) (n:=AQ.length) (λN E' Q' h0 E y K=>?_) (Ub (tL I D B) hl hx S) (λh' e k=>⟨k,a2 h' e AQ⟩) λh' tk zs tx C k=>a6 h' tk zs AQ B tx C k;refine KP (items:=AQ.toArray) ⟨o,y _ _ g,c,n,d⟩ ?_;have L:p≠h0.objs.size:=Zl (zv (y _ _ g));refine K _ (λi h=>h.IsListIter h0.objs.size p i/\h.IsList p AQ.toArray) (λN E=>by have:=Walks.list (prog:=X.prog) (w:=X.w) E h0.objs.size p L AQ.toArray;rw[zI]at this;exact this) ⟨⟨_,zw _ rfl,rfl,rfl⟩,⟨o,ze _ (y _ _ g),c,n,d⟩⟩ λb F e=>ze _ e
 ·obtain⟨AQ,B,pl,l⟩:=I.tuple sq;obtain⟨o,g,c,n,d⟩:=id pl;refine O3 () (T :="tuple") hh g c (.inr S) (P:=λi v=>AQ.toArray[i]?=Z v) (n:=AQ.length) (λN E' Q' h0 E y K=>?_) (Ub (tL I D B) hl hx S) (λh' e k=>⟨k,a2 h' e AQ⟩) λh' tk zs tx C k=>a6 h' tk zs AQ B tx C k;refine wpAny_pyIter_tuple (items:=AQ.toArray) ⟨o,y _ _ g,c,n,d⟩ ?_;have L:p≠h0.objs.size:=Zl (zv (y _ _ g));refine K _ (λi h=>h.IsTupleIter h0.objs.size p i/\h.IsTuple p AQ.toArray) (λN E=>by have:=Walks.tuple (prog:=X.prog) (w:=X.w) E h0.objs.size p L AQ.toArray;rw[zI]at this;exact this) ⟨⟨_,zw _ rfl,rfl,rfl⟩,⟨o,ze _ (y _ _ g),c,n,d⟩⟩ λb F e=>ze _ e
theorem SZ(I:AU X AN σ H s)(h:H a=Z (FE X a zs)):Ts X.prog X.w s.heap a zs:=(I.hok _ _ h).1
def oe(X:Cx):O V->Hp->VK->Prop:=λxs H Q=>∃a zs,xs=[.ref a]/\H a=Z (FE X a zs)/\El (zs.map (·.1))=true/\(∀z∈zs,AW X.K H (BD z.1) (.ref z.2))/\∀l H' us,AV H H'->H l=U->H' l=Z (.lst us)->aK X.K H' ((nj (zs.map (·.1))).map BD) us->Q (.ref l) H'
theorem fA(hc:X.calm=true):iz X (.builtin "sorted") (oe X):=by
 intro AN s σ H xs us Q I r h;obtain⟨a,zs,rfl,ha,hs,B,q⟩:=h;obtain⟨u,rfl,ru⟩:=BA r;cases ru;simp only[El,ZH,zz,qc,QY]at hs;obtain⟨E,W,G⟩:=hs;rw[zl]at E;obtain⟨o,es,ep,t,ho,a8,hd,L,ft,a7,P⟩:=SZ I ha;have f:es.size=zs.length:=by rw[<-Qb,L,zl]
 have wk:Wk X.w s.heap a es ep t:=⟨⟨o,ho,a8.1,hd⟩,ft,a7,λq=>P ()⟩;have a2:aK X.K H ((zs.map (·.1)).map BD) (zs.map λz=>(V.ref z.2))/\AX (zs.map λz=>(V.ref z.2)) (zs.map λz=>(.ref z.2:A0)):=by
  clear L ha q E W G f wk P
  induction zs with
  |nil=>exact⟨aK.nil,.nil⟩
  |cons z zs p=>
   obtain⟨i1,i2⟩:=p λy hy=>B y (zi _ hy);exact⟨aK.cons (B z (zg ..)) i1,.cons S i2⟩
 have b3:=tL I a2.1 a2.2;have tz:∀z∈zs,lJ s.heap z.1 (.ref z.2):=λz g=>by
  have:=tL I (cY:=[z.1]) (vs:=[V.ref z.2]) (AQ:=[.ref z.2]) (aK.cons (B z g) aK.nil) (.cons S .nil);cases this with
  |cons q' _=>exact q'
 refine W8 (λvs=>∃ys:O (O AY×A1),ys.Perm zs/\vs=ys.map λz=>(.ref z.2:A0)) (tuples' true) (λvs v=>CM (vs.map λu=>BC (zs.map (·.1)) (zs.map λz=>(.ref z.2:A0)) u) (BC (vs.map λu=>BC (zs.map (·.1)) (zs.map λz=>(.ref z.2:A0)) u) vs v))
  (λE' Q' M=>T3 (by exact I.ok.hd hc) wk (by rw[f,sizeLine_eq];omega) λx h1 d tk hp a5 ext=>M x h1 d tk ?_ a5 ext) ?_ ?_ ?_ ?_
 ·rw[L,Q2]at hp;have:∀{x vs:O A0},x.Perm vs->∀zs:O (O AY×A1),vs=zs.map (λz=>(.ref z.2:A0))->∃ys:O (O AY×A1),ys.Perm zs/\x=ys.map λz=>(.ref z.2:A0):=by
   intro x vs hp
   induction hp with
   |nil=>intro zs e;cases zs with|nil=>exact⟨[],.refl _,rfl⟩|cons _ _=>cases e
   |cons y _ p=>
    intro zs e;cases zs with
    |nil=>cases e
    |cons z zs=>
     rw[zo]at e;injection e with e1 e2;obtain⟨ys,p1,p2⟩:=p zs e2;exact⟨z::ys,p1.cons _,by rw[zo,e1,p2]⟩
   |swap y1 y2 l=>
    intro zs e
    match zs,e with
    |z1::z2::zs,e=>
     simp only[zo,kC]at e;exact⟨z2::z1::zs,List.Perm.swap _ _ _,by simp only[zo];rw[e.1,e.2.1,e.2.2]⟩
    |[_],e=>simp at e
    |[],e=>cases e
   |trans _ _ b4 a6=>
    intro zs e;obtain⟨ys,p1,p2⟩:=a6 zs e;obtain⟨us,q1,q2⟩:=b4 ys p2;exact⟨us,q1.trans p1,q2⟩
  exact this hp zs rfl
 all_goals
  intro vs hG;obtain⟨ys,py,rfl⟩:=hG;have hm:∀v∈(ys.map λz=>(.ref z.2:A0)),v∈(zs.map λz=>(.ref z.2:A0)):=λv C=>((py.map _).mem_iff).mp C;have a1:∀v∈(ys.map λz=>(.ref z.2:A0)),lJ s.heap (BC (zs.map (·.1)) (zs.map λz=>(.ref z.2:A0)) v) v:=λv C=>(oN b3 v (hm v C)).2;have tv:=Aa a1;have a0:(ys.map λz=>(.ref z.2:A0)).map (λu=>BC (zs.map (·.1)) (zs.map λz=>(.ref z.2:A0)) u)=ys.map (·.1):=by
   rw[Q2];refine qA λz f=>?_;have g:=py.mem_iff.mp f;exact(a1 (.ref z.2) (List.mem_map.mpr ⟨z,f,rfl⟩)).inj (tz z g)
  have mk:∀k∈(ys.map λz=>(.ref z.2:A0)).map (λu=>BC (zs.map (·.1)) (zs.map λz=>(.ref z.2:A0)) u),k∈zs.map (·.1):=λk b=>by
   rw[a0]at b;exact((py.map _).mem_iff).mp b
 ·intro h2 E' A' s' k Q' M;exact Oh (Paired.imp' (λ_ _ z=>lJ.keep z k) tv) (λk b=>by have:=W k (mk k b);cases k with|nil=>cases this|cons _ _=>exact kJ _ _) (λk b l i=>JF (G k (mk k b) l (mk l i))) () M
 ·intro A' s' k;exact Tz (Paired.imp' (λ_ _ z=>lJ.keep z k) tv) λk b l i=>JF (G k (mk k b) l (mk l i))
 ·rw[zl,py.length_eq];exact E
 ·intro l h' d tk n st hp up i ext hL;have j:=TF tv hp up;have mem:∀u∈((AM st).map (·.2)).toList,u∈(ys.map λz=>(.ref z.2:A0)):=λu A=>by
   rw[kH]at A;obtain⟨pr,a3,rfl⟩:=List.mem_map.mp A;have b0:pr∈(ys.map λz=>(.ref z.2:A0)).zip (ys.map λz=>(.ref z.2:A0)):=by rw[<-pairsOf_toList];exact(dz.mp hp).mem_iff.mp a3
   have:=mem_zip_self b0;rw[<-this.1];exact this.2
  have D:H l=U:=I.hok.fresh i;have back:∀{J:O (O AY)} {j:O A0},AI (lJ s.heap) J j->(∀u∈j,u∈(ys.map λz=>(.ref z.2:A0)))->∃c,AX c j/\aK X.K H (J.map BD) c:=by
   intro J j pr
   induction pr with
   |nil=>intro _;exact⟨[],.nil,aK.nil⟩
   |cons q0 _ p=>
    intro N;obtain⟨c,F,m⟩:=p λu A=>N u (zi _ A);obtain⟨z,f,ez⟩:=List.mem_map.mp (N _ (zg ..));subst ez;have g:=py.mem_iff.mp f;have ek:=q0.inj (tz z g);refine⟨.ref z.2::c,.cons S F,?_⟩;rw[zo,ek];exact aK.cons (B z g) m
  obtain⟨c,F,m⟩:=back j mem;rw[a0]at m;have es:nj (ys.map (·.1))=nj (zs.map (·.1)):=uM ((mL _).trans (py.map _)) (xX _);rw[es]at m;have a4:c.length=zs.length:=by rw[m.length,zl,(mL _).length_eq,zl]
  refine⟨.ref l,_,gg (d:=d) (I.laid (t':=tk) (a:=l) (o:=.lst c) ext i ⟨by rw[a4,sizeLine_eq];omega,_,n,F,?_⟩),rfl,q _ _ c (bO D) D aV (m.kp (.of (bO D)))⟩;rw[hL]
def Ms{α:Type}[DecidableEq α]:O α->O α
 |[]=>[]
 |y::ys=>if y∈ys then Ms ys else y::Ms ys
section
variable [DecidableEq α]
theorem tM:∀{ys:O α} {z:α},z∈Ms ys↔z∈ys
 |[],z=>by simp[Ms]
 |y::ys,z=>by
  unfold Ms;split
  ·rename_i h;rw[tM,js];exact⟨.inr,λq=>q.elim (λe=>e▸h) id⟩
  ·rw[js,js,tM]
theorem JN:∀(ys:O α),(Ms ys).Nodup
 |[]=>JE
 |y::ys=>by
  unfold Ms;split
  ·exact JN ys
  ·rename_i h;exact cd.mpr ⟨λq=>h (tM.mp q),JN ys⟩
theorem Ih:∀(ys:O α),(Ms ys).length<=ys.length
 |[]=>zk _
 |y::ys=>by
  have:=Ih ys;unfold Ms;split<;>simp<;>omega
theorem QD{β:Type}[DecidableEq β]{f:α->β}(hi:∀a b,f a=f b->a=b):∀(ys:O α),Ms (ys.map f)=(Ms ys).map f
 |[]=>rfl
 |y::ys=>by
  have c:f y∈ys.map f↔y∈ys:=⟨λq=>by obtain⟨z,d,e⟩:=List.mem_map.mp q;rw[<-hi _ _ e];exact d,λq=>List.mem_map.mpr ⟨y,q,rfl⟩⟩;rw[zo];unfold Ms;by_cases q:y∈ys
  ·rw[zt q,zt (c.mpr q),QD hi ys]
  ·rw[zD q,zD λh=>q (c.mp h),zo,QD hi ys]
end
section
def Uc(ks:O AY):Bool:=ks.any λk=>k.isRight
theorem eM(h:Uc ks=true):EZ ks:=by
 unfold Uc at h;rw[kz]at h;obtain⟨k,a,e⟩:=h;cases k with
 |inl i=>cases e
 |inr x=>exact⟨x,a⟩
def tU(X:Cx)(f:Ev->Y (O (O AY))):L2.TE:=λσ H Q=>∃H0 ρ cY,bI X.K H0 H σ ρ/\f ρ=Z cY/\∀a zs H',AV H H'->H' a=Z (FE X a zs)->(∀k,k∈zs.map (·.1)↔k∈cY)->(zs.map (·.1)).Nodup->(∀z∈zs,AW X.K H' (BD z.1) (.ref z.2))->Q (.ref a) H'
def Uf(X:Cx)(e:Expr)(f:Ev->Y (O (O AY))):Prop:=PE X e (tU X f)
structure NF (X:Cx) (e:Expr) (f:Ev->Option (List (List AY))):Prop where
 run:Uf X e f
def OY(b:Bx):Y (O (O AY)):=(wY b).bind λds=>(vA ds).bind λcY=>if cY.length<=64/\cY.all Uc=true then Z cY else U
def W9(f:Ev->Y Bx):Ev->Y (O (O AY)):=λρ=>(f ρ).bind OY
def JQ(fs:Ev->Y (O (O AY))):Ev->Y Bx:=λρ=>(fs ρ).bind λcY=>if El cY=true then Z (.o ((nj (Ms cY)).map BD))else U
variable{fs:Ev->Y (O (O AY))}{p:Pos}
theorem Zd(n:X.calm=true)(l:X.A.units+100<cLine)(g:Gl X "set")(x:X.mg "set"=U)(o:QV X e f)(he:A9 (e::[]) X.env=(false,eval e X.env)::A9 [] X.env:=by rfl):NF X (.Call (.Name "set" p) [e] [] pos) (W9 f):=by
 refine⟨HD (NK (T :="set") (sB n l) g x S (gR o.run rP he) (he:=he)) λσ H Q h=>?_⟩;obtain⟨H0,ρ,cY,E,c,q⟩:=h;obtain⟨b,eb,c⟩:=AT c;obtain⟨ds,j,c⟩:=AT c;obtain⟨y,ek,c⟩:=AT c;split at c
 ·rename_i d;cases c;rw[qc]at d;exact⟨H0,ρ,b,E,eb,λv H1 u z w=>⟨v,b,ds,cY,rfl,w,j,ek,d.1,λk s=>eM (d.2 k s),λa zs H2 t e2 m nd i=>q a zs H2 (u.trans t) e2 m nd i⟩⟩
 ·cases c
theorem rS{lss:O (O AY)}(h:El cY=true)(d:lss.length<=cY.length)(a:∀k∈lss,k∈cY):El lss=true:=by
 simp only[El,ZH,zz,qc,QY]at h ⊢;exact⟨by omega,λk b=>h.2.1 k (a k b),λk b l c=>h.2.2 k (a k b) l (a l c)⟩
theorem Ze(n:X.calm=true)(g:Gl X "sorted")(x:X.mg "sorted"=U)(s:NF X e fs)(he:A9 (e::[]) X.env=(false,eval e X.env)::A9 [] X.env:=by rfl):QV X (.Call (.Name "sorted" p) [e] [] pos) (JQ fs):=by
 refine⟨HD (uH (id :="sorted") (fA n) g x S (gR s.run rP he) (he:=he)) λσ H Q h=>?_⟩;obtain⟨H0,ρ,b,E,c,q⟩:=h;obtain⟨cY,v,c⟩:=AT c;split at c
 ·rename_i w;cases c;refine⟨H0,ρ,cY,E,v,λa zs H1 d e1 m nd j=>⟨a,zs,rfl,e1,?_,j,λl H2 us u i e2 f=>?_⟩⟩
  ·have e3:=(Ie nd (JN cY) λz=>by rw[m z,tM]).length_eq;have:=Ih cY;exact rS w () λk t=>(m k).mp t
  ·have o:=Ie nd (JN cY) λz=>by rw[m z,tM]
   have es:nj (zs.map (·.1))=nj (Ms cY):=uM ((mL _).trans o) (xX _);rw[es]at f;exact q _ H2 (d.trans u) (λa ea=>by cases ea;exact d.free i) ⟨l,us,rfl,e2,f⟩
 ·cases c
end
end P1
namespace P1
open L2
def Ck:Bx->Bx->Y Bx
 |.z (.str k),.z d=>Z (.z (.tup [.str k,d]))
 |_,_=>U
theorem Xa{a:Bx}{y:Dt}(h:Ck a b=Z (.z y)):∃k d,a=.z (.str k)/\b=.z d/\y=.tup [.str k,d]:=by
 unfold Ck at h;split at h
 ·cases h;exact⟨_,_,rfl,rfl,rfl⟩
 ·cases h
def LU(AO:O (AY×Dt)):Dt->O (AY×Dt)
 |.tup [.str k,d]=>Qs AO (.inr k) d
 |_=>AO
def dictOf(out:O Dt):O (AY×Dt):=out.foldl LU []
theorem Ud(out:O Dt)(k:AJ)(d:Dt):dictOf (out++[.tup [.str k,d]])=Qs (dictOf out) (.inr k) d:=by
 unfold dictOf;rw[YN];rfl
theorem dt{AO:O (AY×V)}{k:AY}{r:A0}{Q:Unit->A2->Prop}(I:L2.AU X AN σ H s)(e:H a=Z (.dK AO))(l:AO.length<AA)(j:As (kV k) u)(i:As v r)(h:∀s',L2.AU X AN σ (B4 H a (.dK (BB AO k v))) s'->Q r9 s'):
  A7 (ri X) A (dictSet a u r) Q E s:=by
 obtain⟨z,hd,vs,b,d⟩:=K' I.hok e;have f:vs.length<=AA:=by rw[<-b.length];exact z
 have m:(BB AO k v).length<=AA:=by have:=pR AO k v;omega
 refine wpAny_dictSet_pairs (hsz:=f) (Jc j) d λh' c hs=>h _ ?_;have g:∃q,h'.get? a=Z q:=let ⟨q,_,_,hq,_⟩:=c;⟨q,hq⟩;exact Hz I (by rw[e];exact True.intro) hs g (Wj m hd (b.put k i) c)
section
variable{kx vx:Expr}{xs:AZ}
def D2(K:B1)(_:A1)(H:Hp)(o1:O Dt)(o:HO):Prop:=∃us,o=.dK us/\gK K H (dictOf o1) us/\us.length<=o1.length
theorem D2.kp{K:B1}{D:A1}{H H':Hp}{o1:O Dt}{o:HO}(k:Kp H H'):D2 K D H o1 o->D2 K D H' o1 o:=λ⟨us,e,r,z⟩=>⟨us,e,r.kp k,z⟩
theorem Zf(C:PV X kx fk)(u:PV X vx fv):Wv X (λD env=>do let g <-eval kx env;let vv <-holding [g] (eval vx env);standAt { kx.pos with endLine:=vx.pos.endLine,endCol:=vx.pos.endCol };holding [g,vv] (dictSet D g vv)) (Ww (b2 Ck fk fv)) (D2 X.K) 999 n:=by
 refine PQ λAN s σ H H0 ρ D o o1 ys I En eb hD ⟨us,e,r4,hl⟩ hi=>?_;subst e;obtain⟨b,e0,e1⟩:=AT eb;obtain⟨y,rfl,rfl⟩:=Eb e1;obtain⟨bk,L,eb⟩:=AT e0;obtain⟨W,t,eb⟩:=AT eb;obtain⟨c,G,rfl,rfl,rfl⟩:=Xa eb;refine zd (QI (C AN s σ H (λv a=>AV H a/\aX X.K a (.z (.str c)) v) I ⟨H0,ρ,_,En,L,λv a f _ d=>⟨f,d⟩⟩) (λg B i=>?_) λ_ _ z=>z);obtain⟨N,l,A,rk,p,M⟩:=i;refine zd (QR (QI (u AN B σ l (λv a=>AV l a/\AW X.K a G v) A ⟨H0,ρ,_,En.grow p,t,λv a f _ d=>⟨f,d⟩⟩) (λv f i=>?_) λ_ _ z=>z));obtain⟨j,a,q,J,F,d⟩:=i;have h:=p.trans F;have m:a D=Z (.dK us):=h _ _ hD;obtain⟨rfl,P⟩:N=.str c/\c.length<=AA:=by simpa only[aX,AW]using M
 have kp:Kp a (B4 a D (.dK (BB us (Sum.inr c) j))):=.dk m;refine zd (KI (QR ?_));simp only[mr]at hi;refine dt q m (by have:(1000:Nat)<AA:=();omega) (k:=Sum.inr c) rk J λQ w=>?_;have E:=((r4.kp (.of h)).put (x:=Sum.inr c) d P).kp kp;exact⟨a,_,w,h,kp,BB us (Sum.inr c) j,rfl,by rw[Ud];exact E,by have:=pR us (Sum.inr c) j;simp;omega⟩
def Zg(fi:Ev->Y (O Dt))(gt:Dt->Ev->Y Ev)(p:Ev->Y Bool)(fk fv:Ev->Y Bx)(is:O Nat)(n:Nat):Ev->Y Bx:=λρ=>(fi ρ).bind λds=>
 if ds.length<1000 then(FN gt p (b2 Ck fk fv) (lH is ρ++bb n U) ds).bind λa=>Z (.m (dictOf a) U)else U
theorem XT(hu:X.A.units+100<cLine)(ts:AZ)(O:ur X scope cl xs is)(l:X.calm=true)(hi:EE X tgt iter fi)
  (L:∀C d c fp,Cf (zG X (xs++ts) scope cl C d c fp) tgt gt) (z:∀C d c fp,xK (zG X (xs++ts) scope cl C d c fp) ifs p) (j:∀C d c fp,QV (zG X (xs++ts) scope cl C d c fp) kx fk) (n:∀C d c fp,QV (zG X (xs++ts) scope cl C d c fp) vx fv) (P:CL is.length (is.length+ts.length) gt)
  (hs:∀x,foldedSetIterable iter X.env x=pure x:=by intro _;rfl):QV X (.DictComp kx vx [⟨tgt,iter,ifs,0⟩] scope pos) (Zg fi gt p fk fv is ts.length):=⟨λAN s σ H Q I h=>by
 obtain⟨H0,ρ,b,E,e,q⟩:=h;obtain⟨ds,ed,e⟩:=AT e;split at e
 ·rename_i a2;obtain⟨a3,g,e⟩:=AT e;cases e;rw[arm_eval_DictComp];refine ki (use:=U) S hs O.clos O.kind O.names ?_;refine jE (hi.run AN s σ H (λJ H'=>AV H H'/\B0 X.K J ds H') I ⟨H0,ρ,ds,E,ed,λJ H' s' y=>⟨s',y⟩⟩) λv s1 h1=>jE h1 λa4 F h2=>?_;obtain⟨it,fp,tn,J,H2,rfl,i,T,st,hf,f,Y⟩:=h2;refine yP (B:=Bo) (Ac:=D2 X.K) (O0:=.dK []) (N:=999) (RR:=λa0 C=>compPost (ri X) X.A X.xe U (EP X AN σ Q) a0 C) (ts:=ts) (xs:=xs) O l (λC d c fp=>(L C d c fp).run) (λC d c fp=>(z C d c fp).run) (λC d c fp=>Zf (j C d c fp).run (n C d c fp).run) P (kr ..) i ((E.grow f).caps is ts.length) (FP T) st hf Y g (Zs (yO g) (oC a2)) ?_
   qo (λ_=>Jd F.heap i.big) (λ_=>⟨[],rfl,gK.nil,zk _⟩) D2.kp (λ_ _ _=>S) codeAny_compStart_dict λh=>h
  rintro D C s' H' o hD u M ⟨m,G⟩ t a1 ⟨us,rfl,rm,_⟩;refine⟨m,G,λh' sb=>⟨.ref D,H',?_,rfl,q (.ref D) H' (f.trans t) (λa ea=>by cases ea;exact f.free hD) ⟨D,us,rfl,a1,rm,λb hb=>by cases hb⟩⟩⟩;obtain⟨f0,f1,f2,f3,f4,W⟩:=M;exact u.turned (t':=s'.toks) (λb o hb e=>(sb.2 b hb).trans e) f0 f1 f3 f4 W
 ·cases e⟩
end
section
variable{ks:O (AY×V)}{o:AE}
theorem Ue(hb:∀f u,X.H₀ a≠Z (.n6 f u))(I:L2.AU X AN σ H s)(e:H a=Z (.n6 o (.dK ks))):L2.AU X AN σ (B4 H a (.dK ks)) s:=by
 have g:∀{b:A1} {u:HO},H b=Z u->u≠.n6 o (.dK ks)->b≠a:=λq n z=>by subst z;rw[e]at q;cases q;exact n rfl
 have h:∀{b:A1},H b=U->b≠a:=λq z=>by subst z;rw[e]at q;cases q
 refine⟨I.ok,I.os,I.bare,⟨I.base.keep,I.base.slot,λb f q n hx=>?_,I.base.there,λb xs q=>?_,λb f u q=>?_,λb ps q=>?_⟩,I.loc,I.cell,?_,λx c q=>?_,λp hp=>?_,λb f q=>?_,I.len⟩
 ·have:=I.base.free b f q n hx;rw[aQ (h this)];exact this
 ·have:=I.base.tups b xs q;rw[aQ (g this λz=>by cases z)];exact this
 ·have:=I.base.Aw b f u q;rw[aQ (λz=>by subst z;exact hb _ _ q)];exact this
 ·obtain⟨m,this⟩:=I.base.Iv b ps q;exact⟨m,by rw[aQ (g this λz=>by cases z)];exact this⟩
 ·have:=I.free;rw[aQ (h this)];exact this
 ·have:=I.rO x c q;rw[aQ (h this)];exact this
 ·obtain⟨p1,p2,p3⟩:=I.pin p hp;exact⟨p1,by rw[aQ (h p2)];exact p2,p3⟩
 ·have st:∀{c:A1} {w:HO},iw X.prog X.w H s.heap c w->iw X.prog X.w (B4 H a (.dK ks)) s.heap c w:=λx=>
   x.stay (λ_ _ _ r=>r) (λd r=>by rw[aQ (g r λz=>by cases z)];exact r) λd xs r=>by rw[aQ (g r λz=>by cases z)];exact r
  by_cases i:b=a
  ·subst i;rw[aV]at q;cases q;exact st (I.hok _ _ e).2
  ·rw[aQ i]at q;exact st (I.hok _ _ q)
theorem eP(I:L2.AU X AN σ H s)(e:H a=Z (.dK ks))(ho:s.heap.get? a=Z o):L2.AU X AN σ (B4 H a (.n6 o (.dK ks))) s:=by
 have:=I.write (t':=s.toks) (h':=s.heap) (x:=a) (e:=a) (o:=.n6 o (.dK ks)) (by rw[e];exact True.intro) (.inl S) (λ_ _ _ z=>z) ⟨o,ho⟩ ⟨ho,(I.hok _ _ e).stay (λ_ _ _ r=>r) (λd r=>by rw[aQ (qH r e (by intro z;cases z))];exact r) λd xs r=>by rw[aQ (qH r e (by intro z;cases z))];exact r⟩;exact this
theorem mM(I:L2.AU X AN σ H s)(e:H a=Z (.dK ks)):∀b u,X.H₀ a≠Z (.n6 b u):=λb u q=>by
 have:=I.base.Aw a b u q;rw[e]at this;cases this
mutual
theorem AW.Ue{K:B1}(e:H a=Z (.n6 o (.dK ks)))(f:ks≠[]):∀{d:Dt} {v:V},AW K H d v->AW K (B4 H a (.dK ks)) d v
 |.non,_,h=>by simpa only[AW]using h
 |.bl _,_,h=>by simpa only[AW]using h
 |.int _,_,h=>by simpa only[AW]using h
 |.str _,_,h=>by simpa only[AW]using h
 |.tup ds,_,h=>by
  simp only[AW]at h ⊢;obtain⟨b,vs,e1,q,r⟩:=h;refine⟨b,vs,e1,?_,aK.Ue e f r⟩;rcases q with (q|⟨c,q⟩)|q
  ·exact .inl (.inl (by rw[aQ (λz=>by subst z;rw[e]at q;cases q)];exact q))
  ·exact .inl (.inr ⟨c,by rw[aQ (λz=>by subst z;rw[e]at q;cases q)];exact q⟩)
  ·exact .inr q
 |.lst ds,_,h=>by
  simp only[AW]at h ⊢;obtain⟨b,vs,e1,q,r⟩:=h;refine⟨b,vs,e1,?_,aK.Ue e f r⟩;rcases q with⟨c,q⟩|q
  ·exact .inl ⟨c,by rw[aQ (λz=>by subst z;rw[e]at q;cases q)];exact q⟩
  ·exact .inr q
 |.emp,_,h=>by
  simp only[AW]at h ⊢;obtain⟨b,c,e1,q⟩:=h;exact⟨b,c,e1,by rw[aQ (λz=>by subst z;rw[e]at q;cases q;exact f S)];exact q⟩
theorem aK.Ue{K:B1}(e:H a=Z (.n6 o (.dK ks)))(b:ks≠[]):∀{ds:O Dt} {vs:O V},aK K H ds vs->aK K (B4 H a (.dK ks)) ds vs
 |[],_,h=>by simpa only[aK]using h
 |d::ds,_,h=>by
  simp only[aK]at h ⊢;obtain⟨v,r,e1,q,t⟩:=h;exact⟨v,r,e1,AW.Ue e b q,aK.Ue e b t⟩
end
def NC(a:A1)(o:AE)(ks:O (AY×V)):It:=
 ⟨λi H=>H a=Z (.n6 o (.dK ks))/\i<ks.length,λi H x H'=>H'=H/\(ks.map λk=>kV k.1)[i]?=Z x,λi H=>H a=Z (.n6 o (.dK ks))/\ks.length<=i⟩
theorem Zh(x:iw P w H h a (.n6 o (.dK ks))){es:Array DictEntry}(hd:o.data=.dict es ep):∃vs,KV ks vs/\h.DictAt (bw P w) a vs ep:=by
 obtain⟨e,_,_,vs,b,f,g,i,e2,c,d,r⟩:=x;rw[e]at e2;cases e2;rw[hd]at d;cases d;exact⟨vs,b,o,es,e,c,hd,r⟩
theorem NN:∀{ks:O (AY×V)} {vs:O (AY×A0)},KV ks vs->∀{i:Nat} {p},ks[i]?=Z p->∃x,vs[i]?=Z (p.1,x)
 |_,_,.nil,i,p,q=>by simp at q
 |_,_,.cons h _,0,p,q=>by simp at q;subst q;exact⟨_,by rw[List.getElem?_cons_zero,h.1]⟩
 |_,_,.cons _ t,i+1,p,q=>by
  rw[qf]at q;obtain⟨x,hx⟩:=NN t q;exact⟨x,by rw[qf];exact hx⟩
theorem Oq(it:A1){es:Array DictEntry}(hd:o.data=.dict es ep)(W:a≠it):C5 P w K tg (NC a o ks) [it] it (λi h=>h.IsKeyIter it a i ks.length ep) where
 mem:=by simp
 obj:=λi h st b hb=>by
  have e:b=it:=by simpa using hb
  subst e;obtain⟨f,e,c,d⟩:=st;exact⟨f,e,λv z=>by rw[d]at z;cases z⟩
 keep:=λi h h' st k=>st.at λf e=>k it (by simp) f e
 item:=by
  intro X F n u G i AN s σ H E I m st y;subst F n u;obtain⟨B,hi⟩:=y;obtain⟨vs,l,A⟩:=Zh (I.hok _ _ B) hd;have g:ks.length=vs.length:=l.length;obtain⟨x,hx⟩:=NN l (show ks[i]?=Z ks[i] by simp[hi]);obtain⟨f0,f1,f2,D,C,q⟩:=m it (by simp);rw[g]at st;refine wpAny_pyNext_dict_item st A hx λJ h' L p Q=>?_;rw[<-g]at p;have N:L2.AU X AN σ H { s with heap:=h' }:=I.turned (t':=s.toks) (λb f hb e=>(Q.2 b hb).trans e) f0 f1 D C q;obtain⟨f,e,c,d⟩:=id p;refine⟨J,rfl,Nu (s:={ s with heap:=h' }) e c d () ⟨kV (ks[i]).1,H,N,?_,⟨rfl,by rw[ZE,Zp hi];rfl⟩,p,λb hb=>(m b hb).1⟩⟩;have M:m7 (ks[i]).1 J=true:=L;rcases bZ M with⟨j,t,e2,e3⟩|⟨z,t,e2,e3⟩
  ·rw[e2,e3];exact⟨t,rfl⟩
  ·rw[e2,e3];exact⟨t,rfl⟩
 done:=by
  intro X F n u G i AN s σ H E I m st y;subst F n u;obtain⟨B,hi⟩:=y;obtain⟨vs,l,A⟩:=Zh (I.hok _ _ B) hd;have g:ks.length=vs.length:=l.length;obtain⟨f0,f1,f2,D,C,q⟩:=m it (by simp);rw[g]at st;exact wpAny_pyNext_dict_end (I.ok.hd G) st A (qV ()) λh' eb=>⟨rfl,I.turned (t':=s.toks) (λb f hb e=>eb b f hb e) f0 f1 D C q⟩
 self:=λ_ _ _ _ _ st h=>wpAny_pyIter_keyiter st h
def Xb:AY->Dt
 |.inl i=>.int i
 |.inr x=>.str x
theorem gz{k:AY}(h:E6 k):AW K H (Xb k) (kV k):=by
 cases k with
 |inl i=>unfold Xb AW;rfl
 |inr x=>unfold Xb AW;exact⟨rfl,h⟩
def DL:Bx->Y (O Dt)
 |.n AO=>Z (AO.map λp=>Xb p.1)
 |_=>U
theorem U1(h:DL b=Z ds):∃AO,b=.n AO/\ds=AO.map λp=>Xb p.1:=by
 unfold DL at h;split at h
 ·cases h;exact⟨_,rfl,rfl⟩
 ·cases h
theorem Gg(c:Hs a=Z (.n6 o (.dK ks)))(b:gK K Hs AO ks):B0 K (NC a o ks) (AO.map λp=>Xb p.1) Hs:=.of λi H s=>by
 have g:=b.len;refine⟨λd e=>?_,λe=>⟨s _ _ c,by rw[zl]at e;omega⟩⟩;rw[ZE]at e;cases hp:AO[i]? with
 |none=>rw[hp]at e;cases e
 |some p=>
  rw[hp]at e;cases e;have hi:i<AO.length:=(bv.mp hp).1;refine⟨⟨s _ _ c,by omega⟩,λx H' y=>?_⟩;obtain⟨y1,y2⟩:=y;refine⟨y1,?_⟩;have h1:(ks.map (·.1))[i]?=Z p.1:=by rw[b.1,ZE,hp];rfl
  rw[ZE]at h1 y2;cases f:ks[i]? with
  |none=>rw[f]at h1;cases h1
  |some q=>
   rw[f]at h1 y2;cases y2;have:q.1=p.1:=by simpa using h1
   show AW K H (Xb p.1) (kV q.1);rw[this];exact gz (b.2.2 p (Q1 hp))
theorem Xc{H1:Hp}(e:H1 a=Z (.dK ks))(E:bI K H1 H1 (zX is σ++bb n U) (lH is ρ++bb n U)):bI K (B4 H1 a (.n6 o (.dK ks))) (B4 H1 a (.n6 o (.dK ks))) (zX is σ++bb n U) (lH is ρ++bb n U):=by
 have kp:Kp H1 (B4 H1 a (.n6 o (.dK ks))):=.dk e;have g:∀(j:Nat) c,(lH is ρ++bb n U)[j]?=Z (Z c)->u5 c=false:=λj c e=>by
  by_cases p:j<is.length
  ·rw[ZY (by simp[lH];omega)]at e;unfold lH at e;rw[ZE]at e;cases q:is[j]? with
   |none=>rw[q]at e;cases e
   |some i=>
    rw[q]at e;have:pW ρ i=Z c:=by simpa using e
    exact Bg this
  ·rw[QN (by simp[lH];omega),Q4]at e;split at e<;>cases e
 refine⟨E.len,λj b eb=>?_,λj k c a b e h=>absurd h (by rw[g j c e];exact ZO),AV.refl _,λj c a e h=>absurd h (by rw[g j c e];exact ZO)⟩;obtain⟨v,ev,r⟩:=E.val j b eb;refine⟨v,ev,?_⟩;cases b with
 |z d=>exact AW.kp kp r
 |o ds=>have:=g j _ eb;cases this
 |m ds _=>have:=g j _ eb;cases this
 |l ds=>
  obtain⟨b,vs,e1,q,r⟩:=r;refine⟨b,vs,e1,?_,r.kp kp⟩;rcases q with q|⟨f,q⟩
  ·exact .inl (by rw[aQ (qH q e (by intro z;cases z))];exact q)
  ·exact .inr ⟨f,by rw[aQ (qH q e (by intro z;cases z))];exact q⟩
 |n ds=>
  obtain⟨b,vs,e1,q,r⟩:=r;refine⟨b,vs,e1,?_,r.kp kp⟩;by_cases hb:b=a
  ·subst hb;rcases q with q|⟨f,q⟩
   ·rw[e]at q;cases q;exact .inr ⟨o,aV⟩
   ·rw[e]at q;cases q
  ·rcases q with q|⟨f,q⟩
   ·exact .inl (by rw[aQ hb];exact q)
   ·exact .inr ⟨f,by rw[aQ hb];exact q⟩
end
section
variable{fd:Ev->Y Bx}{xs:AZ}
def Ug(fd:Ev->Y Bx):Ev->Y (O Dt):=λρ=>(fd ρ).bind DL
theorem aa(ρ:Ev):FN gt p fe ρ []=Z []:=rfl
theorem Uh(ts:AZ)(O:ur X scope cl xs is)(a0:X.calm=true)(hi:QV X iter fd)
  (N5:∀C d c fp,Cf (zG X (xs++ts) scope cl C d c fp) tgt gt) (a3:∀C d c fp,xK (zG X (xs++ts) scope cl C d c fp) ifs p) (a7:∀C d c fp,QV (zG X (xs++ts) scope cl C d c fp) elt fe) (a5:CL is.length (is.length+ts.length) gt)
  (hs:∀x,foldedSetIterable iter X.env x=pure x:=by intro _;rfl):QV X (.ListComp elt [⟨tgt,iter,ifs,0⟩] scope pos) (dR (Ug fd) gt p fe is ts.length):=⟨λAN s σ H Q I h=>by
 obtain⟨H0,ρ,b,E,e,q⟩:=h;obtain⟨ds,W,e⟩:=AT e;split at e
 ·rename_i b0;obtain⟨b4,t,e⟩:=AT e;cases e;obtain⟨bd,c6,W⟩:=AT W;obtain⟨AO,rfl,rfl⟩:=U1 W;rw[eval_ListComp];refine ki (use:=U) S hs O.clos O.kind O.names ?_;refine jE (hi.run AN s σ H (λv H1=>AV H H1/\aX X.K H1 (.n AO) v) I ⟨H0,ρ,_,E,c6,λv H1 f _ F=>⟨f,F⟩⟩) λv f ⟨v',H1,I1,rv,s01,F⟩=>?_;obtain⟨a,ks,rfl,g,rm⟩:=F;cases rv;obtain⟨_,b3,vs,kv,l,es,ep,P⟩:=wQ I1.hok g;have M:=P.1;have a4:=P.2.2.1;refine wpAny_pyIter_dict b3 (⟨l,es,P⟩:f.heap.DictAt (bw X.prog X.w) a vs ep) ?_;have a2:a<f.heap.objs.size:=zv M;have hl:ks.length=vs.length:=kv.length;have a8:∀{H':Hp},L2.AU X AN σ H' f->∀b∈[f.heap.objs.size],uq X AN H' b:=λi b hb=>by
   have e:b=f.heap.objs.size:=by simpa using hb
   subst e;exact i.R9 (zk _) (i.hok.fresh (zk _))
  have a6:Heap.IsKeyIter (f.heap.push { cls:=.type "dict_keyiterator",data:=.fields #[.ref a,.int 0 0,.int vs.length 0,.int ep 0] }) f.heap.objs.size a 0 ks.length ep:=⟨_,zw _ rfl,rfl,by rw[hl];rfl⟩;rcases g with g|⟨o',g⟩
  ·
   have I2:=eP I1 g M;have L:L2.AU X AN σ (B4 H1 a (.n6 l (.dK ks))) { f with heap:=f.heap.push { cls:=.type "dict_keyiterator",data:=.fields #[.ref a,.int 0 0,.int vs.length 0,.int ep 0] } }:=I2.kept (t':=f.toks) λb o e=>ze _ e;have c8:gK X.K (B4 H1 a (.n6 l (.dK ks))) AO ks:=rm.kp (.dk g);refine Bp (B:=Bo) (RR:=λN C=>compPost (ri X) X.A X.xe U (EP X AN σ Q) N C) (ts:=ts) (xs:=xs) O a0 (λC d c fp=>(N5 C d c fp).run) (λC d c fp=>(a3 C d c fp).run) (λC d c fp=>(a7 C d c fp).run) a5 L (Xc g ((E.grow s01).caps is ts.length)) (FP (Oq f.heap.objs.size a4 (Zl a2))) a6 (a8 I2) (Gg aV c8) b0 t ?_;intro D C s' H' us j i G ⟨m,hn⟩ s2' hD' r';have y:H' a=Z (.n6 l (.dK ks)):=s2' _ _ aV;have a1:D≠a:=λz=>by subst z;rw[aV]at j;cases j
   have c0:H1 D=U:=by rw[aQ a1]at j;exact j
   have sm:AV H1 (B4 H' a (.dK ks)):=λb u e=>by
    by_cases hb:b=a
    ·subst hb;rw[g]at e;cases e;exact aV
    ·rw[aQ hb];exact s2' b u (by rw[aQ hb];exact e)
   have rr:aK X.K (B4 H' a (.dK ks)) b4 us:=by
    by_cases hk:ks=[]
    ·have:AO=[]:=by have:=rm.len;rw[hk]at this;exact en.mp (by simpa using this.symm)
     subst this;simp only[kD]at t;rw[aa]at t;cases t;simpa only[aK]using r'
    ·exact aK.Ue y hk r'
   refine⟨m,hn,λh' sb=>⟨.ref D,B4 H' a (.dK ks),?_,rfl,q _ _ (s01.trans sm) (λa ea=>by cases ea;exact s01.free c0) ⟨D,us,rfl,by rw[aQ a1];exact hD',rr⟩⟩⟩;obtain⟨f0,f1,f2,f3,f4,J⟩:=G;have c3:C≠a:=λz=>by subst z;rw[y]at f0;cases f0
   exact(Ue (mM I1 g) i y).turned (t':=s'.toks) (λb o hb e=>(sb.2 b hb).trans e) (by rw[aQ c3];exact f0) f1 f3 f4 J
  ·have b9:o'=l:=by
    have:=(I1.hok _ _ g).1;rw[M]at this;cases this;rfl
   subst b9;have L:L2.AU X AN σ H1 { f with heap:=f.heap.push { cls:=.type "dict_keyiterator",data:=.fields #[.ref a,.int 0 0,.int vs.length 0,.int ep 0] } }:=I1.kept (t':=f.toks) λb o e=>ze _ e;refine Bp (B:=Bo) (RR:=λN C=>compPost (ri X) X.A X.xe U (EP X AN σ Q) N C) (ts:=ts) (xs:=xs) O a0 (λC d c fp=>(N5 C d c fp).run) (λC d c fp=>(a3 C d c fp).run) (λC d c fp=>(a7 C d c fp).run) a5 L ((E.grow s01).caps is ts.length) (FP (Oq f.heap.objs.size a4 (Zl a2))) a6 (a8 I1) (Gg g rm) b0 t ?_;intro D C s' H' us j i G ⟨m,hn⟩ s2' hD' r';refine⟨m,hn,λh' sb=>⟨.ref D,H',?_,rfl,q _ _ (s01.trans s2') (λa ea=>by cases ea;exact s01.free j) ⟨D,us,rfl,hD',r'⟩⟩⟩;obtain⟨f0,f1,f2,f3,f4,J⟩:=G;exact i.turned (t':=s'.toks) (λb o hb e=>(sb.2 b hb).trans e) f0 f1 f3 f4 J
 ·cases e⟩
end
theorem Ui{R:Result->A2->Prop}{d:A1}{AO:O (AY×A0)}(H:A.handled=none)(hd:(d==sysModules)=false)(g:s.heap.DictAt (bw prog w) d AO ep)(K:AO.length<=AA)(S:A1)(p:d≠S)(m:A0)(t:Nat)(q:s.heap.get? S=Z { cls:=.type "list",data:=.seq #[] t })(M:∀h' tk j a,(∀b o,b≠S->s.heap.get? b=Z o->h'.get? b=Z o)->h'.get? S=Z { cls:=.type "list",dict:=none,data:=.seq j a,slots:=#[] } →
   ItemsOf (λi v=>∃k x,AO[i]?=Z (k,x)/\(bw prog w).is k v=true) j AO.length->R (.ok (.ret m)) { s with heap:=h',toks:=tk }):
  A7 (A8 prog w) A.in1 (Builtin.List.listExtendWith (.ref S) (.ref d) m)
   (λW s'=>match W with|.done f=>R (.ok f) s'|.again a=>a.quiet=true/\AF (A8 prog w) A a R s') (λe s'=>R (.error e) s') s:=by
 have I:d<s.heap.objs.size:=by obtain⟨o,_,ho,_⟩:=g;exact zv ho
 have N:S<s.heap.objs.size:=zv q;unfold Builtin.List.listExtendWith;refine zd (jS (T :="dict") g.dictOf.typeIs ?_);have h1:Builtin.List.listSameRef (.ref S) (.ref d)=false:=by simp[Builtin.List.listSameRef];exact λe=>p e.symm
 simp only[h1,show(Value.type "dict"==Value.type "list")=false by decide,show(Value.type "dict"==Value.type "tuple")=false by decide,nc,zr,ZU];refine zd (wpAny_pyIter_dict hd g ?_);refine zd (QR ?_);have c:=g.at' (h':=s.heap.push { cls:=.type "dict_keyiterator",data:=.fields #[.ref d,.int 0 0,.int AO.length 0,.int ep 0] }) λo e=>ze _ e;unfold Builtin.List.listLengthHint;refine zd (wpAny_specialOf (T :="dict") c.dictOf.typeIs F.slot_dict_len.lookup ?_)
 wp_delta
 refine zd (JO (T :="dict") (b:=true) c.dictOf.typeIs (by rw[isSubtype_type];kernel_rfl) ?_);show A7 _ A.in1 (typeOf (Value.ref d) >>= _) _ _ _;refine zd (jS (T :="dict") c.dictOf.typeIs (zh ?_));rw[zt ()];show A7 _ A.in1 (Builtin.List.listTouch (Value.ref S) >>= λ_=>again (Code.builtin "list.extend.loop" ⟨[Value.ref S,Value.ref s.heap.objs.size,m],[]⟩)) _ _ _;generalize l:s.heap.push { cls:=.type "dict_keyiterator",data:=.fields #[.ref d,.int 0 0,.int AO.length 0,.int ep 0] }=G at c ⊢;have n:G.get? S=Z { cls:=.type "list",data:=.seq #[] t }:=by
  rw[<-l];exact ze _ q
 have J:G.get? s.heap.objs.size=Z { cls:=.type "dict_keyiterator",data:=.fields #[.ref d,.int 0 0,.int AO.length 0,.int ep 0] }:=by
  rw[<-l];exact zw _ rfl
 unfold Builtin.List.listTouch;refine zd (zd (listUpdate_at n rfl (listUpdate_at (get?_update_seq n _) rfl ?_ (by show _<=_;decide) (by show _<=_;decide)) (by show _<=_;decide) (by show _<=_;decide)));have u:s.heap.objs.size≠S:=kQ N;have y:=get?_update_seq (get?_update_seq n (λx=>x.push Value.none)) (λx=>x.pop);generalize Q:(G.update S (Obj.mapSeq λx=>x.push Value.none)).update S (Obj.mapSeq λx=>x.pop)=U at y;have keep:∀b,b≠S->U.get? b=G.get? b:=λb hb=>by rw[<-Q,kq _ _ _ _ hb,kq _ _ _ _ hb]
 have P:U.IsKeyIter s.heap.objs.size d 0 AO.length ep/\U.DictAt (bw prog w) d AO ep:=⟨⟨_,(keep _ u).trans J,rfl,rfl⟩,c.at' λo e=>(keep d p).trans e⟩;show A7 _ A.in1 (again _) _ _ { s with heap:=U };have E:S∉[s.heap.objs.size,d]:=λh=>by
  simp only[js,JP,or_false]at h;rcases h with h|h
  ·exact u h.symm
  ·exact p h.symm
 refine zh ⟨plainId_quiet F.plain_extend_loop _,codeAny_extend_loopS (Walks.dictKeys (A:=A.in1) H s.heap.objs.size d (Zl I) AO ep).toS K S E _ AO.length 0 { s with heap:=U } #[] _ rfl (QP _) P y (ItemsOf.nil _) λs' j a z D L=>?_⟩;rw[Moved.eq_with z];refine M s'.heap s'.toks j a (λb C hb e=>?_) D L;have B:=zv e;refine z.heap b C (λh=>?_) ((keep b hb).trans ?_)
 ·simp only[js,JP,or_false]at h;rcases h with h|h
  ·exact hb h
  ·exact Zl B h
 ·rw[<-l];exact ze _ e
theorem JR{Q:B7}{d:A1}{AO:O (AY×A0)}(D:A.handled=U)(hd:(d==sysModules)=false)(m:s.heap.DictAt (bw prog w) d AO ep)(y:AO.length<=AA)(p:∀h' tk c f,(∀b o,s.heap.get? b=Z o->h'.get? b=Z o) →
   h'.get? s.heap.objs.size=Z { cls:=.type "list",dict:=U,data:=.seq c f,slots:=#[] }->ItemsOf (λi v=>∃k x,AO[i]?=Z (k,x)/\(bw prog w).is k v=true) c AO.length->Q (.ref s.heap.objs.size) { s with heap:=h',toks:=tk }):
  A7 (A8 prog w) A (call (.type "list") [.ref d]) Q E s:=by
 have g:d<s.heap.objs.size:=by obtain⟨o,_,ho,_⟩:=m;exact zv ho
 refine callType_codes (Q₁:=λj h=>j=.ref s.heap.objs.size/\h={ s with heap:=s.heap.push { cls:=.type "list",data:=.seq #[] } }) F.called_list (F.typeCall_list_1 _) F.entry_list_init
  (code_list_new _ ⟨rfl,rfl⟩) λj h B=>?_
 obtain⟨rfl,rfl⟩:=B;have a:(s.heap.push { cls:=.type "list",data:=.seq #[] }).get? s.heap.objs.size=Z { cls:=.type "list",data:=.seq #[] }:=zw _ rfl;have n:=m.at' (h':=s.heap.push { cls:=.type "list",data:=.seq #[] }) λo e=>ze _ e;refine⟨⟨_,a,rfl⟩,F.args_list_init_2 _ _,?_⟩;generalize z:s.heap.push { cls:=.type "list",data:=.seq #[] }=H at a n ⊢;show A7 _ _ (do let old <-Builtin.List.listItems (.ref s.heap.objs.size);Builtin.List.listUpdate (.ref s.heap.objs.size) (λ_=>#[]);letGo old.toList.reverse;Builtin.List.listExtendWith (.ref s.heap.objs.size) (.ref d) .none) _ _ { s with heap:=H };refine zd ?_;unfold Builtin.List.listItems;refine zd (yA a S (zh ?_));show A7 _ _ (updateSeq s.heap.objs.size (λ_=>#[]) >>= λ_=>letGo (#[]:Array A0).toList.reverse >>= λ_=>Builtin.List.listExtendWith (.ref s.heap.objs.size) (.ref d) .none) _ _ _;refine zd (wpAny_updateSeq a S ?_);have C:=kA (Obj.mapSeq (λ_=>(#[]:Array A0))) a rfl;have l:∀b o,b≠s.heap.objs.size->H.get? b=Z o->(H.update s.heap.objs.size (Obj.mapSeq (λ_=>(#[]:Array A0)))).get? b=Z o:=
  λb o hb e=>(ku _ _ (ka hb)).trans e
 refine zd (wpAny_letGo ?_);refine Ui (A:=A.in1) D hd (n.at' λo e=>l d o (Zl g) e) y s.heap.objs.size (Zl g) .none _ C λh' tk c f t u q=>?_;exact⟨rfl,p h' tk c f (λb o e=>t b o (Zl (zv e)) (l b o (Zl (zv e)) (by rw[<-z];exact ze _ e))) u q⟩
theorem i9{P:Nat->A0->Prop}(val:Nat->AJ)(a:∀i v,P i v->∃t,v=.str (val i) t):CmpOf prog w A .Lt P (λi j=>decide ((val i).cps.toList<(val j).cps.toList)):=λi j d b s Q E hi c h=>by
 obtain⟨t,rfl⟩:=a i d hi;obtain⟨u,rfl⟩:=a j b c;exact richCompare_gives (op:=.Lt) (typeIs_str s _ t) (typeIs_str s _ u) F.slot_str_lt F.entry_str_lt (F.args_str_lt_2 _ _) (gives_str_lt _ _ t u) (λx=>nomatch x) h
def two(a b:AJ)(i:Nat):AJ:=if i=0 then a else b
theorem TU{a b:AJ}{t u:Tok}(i:Nat)(v:A0)(h:(#[Value.str a t,Value.str b u])[i]?=Z v):∃t',v=.str (two a b i) t':=by
 match i,h with
 |0,h=>cases h;exact⟨t,rfl⟩
 |1,h=>cases h;exact⟨u,rfl⟩
 |_+2,h=>simp at h
theorem cK{a b:AJ}{t u:Tok}{Q:B7}{d:Nat->Nat->Bool}(B:A.handled=U)(f:CmpOf prog w A.in1 op (λi v=>(#[Value.str a t,Value.str b u])[i]?=Z v) d)(h:∀h' tk,(∀c o,s.heap.get? c=Z o->h'.get? c=Z o)->Q (if d 1 0=true then .str b u else .str a t) { s with heap:=h',toks:=tk }):
  A7 (A8 prog w) A.in1 (pyIter (.ref s.heap.objs.size)) (λit j=>∃I fp wr n P St d,it=.ref I/\Walks prog w A.in1 I fp wr n P St/\St 0 j.heap/\(∀b∈fp,b<j.heap.objs.size)/\0<n/\CmpOf prog w A.in1 op P d ∧
   ∀v h' tk,P (argBest d (n-1)) v->(∀b o,b∉wr->j.heap.get? b=Z o->h'.get? b=Z o)->Q v { j with heap:=h',toks:=tk }) E
   { s with heap:=s.heap.push { cls:=.type "tuple",data:=.seq #[.str a t,.str b u] } }:=by
 have q:(s.heap.push { cls:=.type "tuple",data:=.seq #[.str a t,.str b u] }).IsTuple s.heap.objs.size #[.str a t,.str b u]:=⟨_,zw _ rfl,rfl,0,rfl⟩;refine wpAny_pyIter_tuple q ?_;have l:(s.heap.push { cls:=.type "tuple",data:=.seq #[.str a t,.str b u] }).objs.size=s.heap.objs.size+1:=qk ..;refine⟨_,[_,s.heap.objs.size],[_],_,_,_,d,rfl,Walks.tuple (A:=A.in1) B _ s.heap.objs.size (by rw[l];exact Zl (qa _)) #[.str a t,.str b u],
  ⟨⟨_,zw _ rfl,rfl,rfl⟩,q.push _⟩,λc f=>?_,by simp,f,λv h' tk z y=>?_⟩
 ·show c<((s.heap.push _).push _).objs.size;rw[qk,l];rcases List.mem_cons.mp f with rfl|f
  ·rw[l];exact qa _
  ·rcases List.mem_cons.mp f with rfl|f
   ·exact qB (qa _)
   ·cases f
 ·have hold:∀c o,s.heap.get? c=Z o->h'.get? c=Z o:=λc o e=>by
   refine y c o (λm=>?_) (ze _ (ze _ e));rcases List.mem_cons.mp m with e1|m
   ·have:=zv e;rw[e1,l]at this;exact Q3 _ (Nat.lt_of_succ_lt this)
   ·cases m
  have:=h h' tk hold;have x:v=if d 1 0=true then Value.str b u else Value.str a t:=by
   have g:(#[Value.str a t,Value.str b u])[argBest d 1]?=Z v:=z;unfold argBest argBest at g;by_cases p:d 1 0=true
   ·rw[zt p]at g ⊢;exact(by simpa using g.symm)
   ·rw[zD p]at g ⊢;exact(by simpa using g.symm)
  rw[x];exact this
def JT:O Bx->Y Bx
 |[.z (.str a),.z (.str b)]=>Z (.z (.str (if ajg b a=true then b else a)))
 |_=>U
where ajg (x y:AJ):Bool:=decide (x.cps.toList<y.cps.toList)
theorem oz(j:X.calm=true):pU X (.builtin "min") JT:=by
 intro AN s σ H xs us Q I r h;obtain⟨bs,c,i,e,q⟩:=h;unfold JT at e;split at e
 ·rename_i a b;cases e;obtain⟨v,w,rfl,f,d⟩:=L0 i;obtain⟨rfl,h1⟩:=Cc f;obtain⟨rfl,h2⟩:=Cc d;obtain⟨u,m,rfl,g,l⟩:=AX.two r;obtain⟨t,rfl⟩:=g;obtain⟨n,rfl⟩:=l;refine call_min_two (cK (I.ok.hd j) (i9 (two a b) TU) λh' tk kp=>?_);show EP X AN σ Q (if JT.ajg b a=true then _ else _) _;by_cases hb:JT.ajg b a=true
  ·rw[zt hb]at q ⊢;exact⟨.str b,H,I.kept kp,⟨_,rfl⟩,q _ H (AV.refl H) trivial d⟩
  ·rw[zD hb]at q ⊢;exact⟨.str a,H,I.kept kp,⟨_,rfl⟩,q _ H (AV.refl H) trivial f⟩
 ·cases e
def JV:O Bx->Y Bx
 |[.n AO]=>(Eg AO).bind λys=>Z (.o (ys.map Dt.str))
 |_=>U
theorem lc(i:X.calm=true):pU X (.type "list") JV:=by
 intro AN s σ H xs us Q I r h;obtain⟨bs,c,B,e,q⟩:=h;unfold JV at e;split at e
 ·rename_i AO;obtain⟨ys,b,e⟩:=AT e;cases e;have D:AO.length=ys.length:=by have:=congrArg dV (yV b);simpa using this
  obtain⟨v,rfl,j⟩:=BG B;obtain⟨a,ks,rfl,z,d⟩:=j;obtain⟨u,rfl,m⟩:=BA r;cases m;obtain⟨n,l,vs,g,o,es,ep,A⟩:=wQ I.hok z;have p:vs.map (·.1)=ys.map Sum.inr:=by rw[YX g,d.1];exact yV b
  have F:ks.length=vs.length:=g.length;refine JR (I.ok.hd i) l ⟨o,es,A⟩ () λh' tk w t ext E x=>?_;have z1:=WT p x;have C:∀y∈ys,y.length<=AA:=XU b d.2.2;have f:=I.hok.fresh (zk s.heap.objs.size);refine⟨.ref s.heap.objs.size,_,I.laid (t':=tk) (a:=s.heap.objs.size) (o:=.lst (ys.map V.str)) ext (zk _) ?_,rfl,q _ _ (bO f) (λa ea=>by cases ea;exact f) ⟨_,_,rfl,aV,BL C⟩⟩;refine⟨by rw[zl,<-D,<-d.len];exact n,w.toList,t,yS z1,?_⟩;rw[E]
 ·cases e
def Cb(H:Hp)(a:A1):Hp:=λb=>if b=a then U else H b
theorem Zi{b:A1}(h:b≠a):Cb H a b=H b:=zD h
theorem Zj:Cb H a a=U:=zt rfl
def Do:Bx->Bool
 |.z _=>true
 |_=>false
def GS(K:B1)(n:Nat)(G:A1->O (AY×Dt)->O Bx->Y (O (AY×Dt))):Sp:=λvs H Q _=>vs.length=n+1/\∃a ks AO AS bs b,vs=.ref a::AS/\H a=Z (.dK ks)/\gK K H AO ks/\tu K H bs AS/\bs.all Do=true/\G a AO bs=Z b/\∀H' c,AV (Cb H a) H'->H' a=Z (.dK c)->gK K H' b c->Q .non H'
def Uj(n:Nat)(g:Ev->Y Ap):A1->O (AY×Dt)->O Bx->Y (O (AY×Dt)):=λa AO bs=>(g ((Bx.m AO (Z a)::bs).map Z++bb (n-(bs.length+1)) U)).bind λr=>match r with
 |.nx ρ=>match ρ[0]? with
  |some (Z (Bx.m kvs' (Z b)))=>if b=a then Z kvs' else U
  |_=>U
 |_=>U
theorem Xd{c:O (AY×Dt)}{bs:O Bx}(h:Uj n g a AO bs=Z c):∃ ρ,g ((Bx.m AO (Z a)::bs).map Z++bb (n-(bs.length+1)) U)=Z (.nx ρ)/\ρ[0]?=Z (Z (.m c (Z a))):=by
 obtain⟨r,er,h⟩:=AT h;cases r with
 |nx ρ=>
  dsimp only at h;split at h
  ·rename_i k b e;split at h
   ·rename_i hb;cases h;subst hb;exact⟨ρ,er,e⟩
   ·cases h
  ·cases h
 |rt _=>cases h
 |bk _=>cases h
 |ct _=>cases h
theorem Xe{R:α->β->Prop}:∀{xs:O α} {ys:O β},AI R xs ys->∀{i:Nat} {x:α},xs[i]?=Z x->∃y,ys[i]?=Z y/\R x y:=by
 intro xs ys h
 induction h with
 |nil=>intro i x q;simp at q
 |cons r _ a=>
  intro i x q;cases i with
  |zero=>simp at q;subst q;exact⟨_,rfl,r⟩
  |succ i=>
   rw[qf]at q;obtain⟨y,y1,y2⟩:=a q;exact⟨y,by rw[qf];exact y1,y2⟩
theorem bI.startM{bs:O Bx}{AS:O V}{ks:O (AY×V)}(p:H a=Z (.dK ks))(w:gK K H AO ks)(r:tu K H bs AS)(l:bs.all Do=true):bI K (Cb H a) H (L2.start N (.ref a::AS)) ((Bx.m AO (Z a)::bs).map Z++bb (N.length-(bs.length+1)) U):=by
 have t:bs.length=AS.length:=Paired.length r;have n:tu K H (.m AO (Z a)::bs) (.ref a::AS):=.cons ⟨a,ks,rfl,p,w,λb h=>by cases h;rfl⟩ r;have get:∀(i:Nat) b,((Bx.m AO (Z a)::bs).map Z++bb (N.length-(bs.length+1)) U)[i]?=Z (Z b)->(Bx.m AO (Z a)::bs)[i]?=Z b:=λi b e=>by
  by_cases hi:i<(Bx.m AO (Z a)::bs).length
  ·rw[ZY (by simpa using hi),ZE]at e;cases q:(Bx.m AO (Z a)::bs)[i]? with
   |none=>rw[q]at e;cases e
   |some y=>rw[q]at e;simpa using e
  ·rw[QN (by simp at hi ⊢;omega),Q4]at e;split at e<;>cases e
 have s:∀(i:Nat) b,((Bx.m AO (Z a)::bs).map Z++bb (N.length-(bs.length+1)) U)[i]?=Z (Z b)->i≠0->loose b=false:=λi b e hi=>by
  have e2:=get i b e;cases i with
  |zero=>exact absurd S hi
  |succ j=>
   rw[qf]at e2;have:=List.all_eq_true.mp l b (Q1 e2);cases b<;>first|rfl|cases this
 have g:∀c,u5 c=true->loose c=true:=λc d=>by cases c<;>first|rfl|cases d
 have zero:∀(i:Nat) c,((Bx.m AO (Z a)::bs).map Z++bb (N.length-(bs.length+1)) U)[i]?=Z (Z c)->loose c=true->i=0:=λi c e d=>by
  by_cases hi:i=0
  ·exact hi
  ·rw[s i c e hi]at d;cases d
 have st:∀i v,(Value.ref a=Value.ref a)->(V.ref a::AS)[i]?=Z v->(L2.start N (.ref a::AS))[i]?=Z (Z v):=λi v _ e=>by
  have hi:i<(V.ref a::AS).length:=(bv.mp e).1;unfold L2.start;rw[ZY (by simpa using hi),ZE,e];rfl
 refine⟨by unfold L2.start;simp[t],λi b e=>?_,λi j c x b e1 f _ e3 hb _=>?_,λb o e=>?_,λi c x e f e2=>?_⟩
 ·obtain⟨v,e1,u⟩:=Xe n (get i b e);exact⟨v,st i v S e1,u⟩
 ·rw[zero i c e1 (g c f),zero j b e3 hb]
 ·by_cases hb:b=a
  ·subst hb;rw[Zj]at e;cases e
  ·rw[Zi hb]at e;exact e
 ·have hi:=zero i c e (g c f);subst hi;rw[st 0 (.ref a) S rfl]at e2;cases e2;exact Zj
theorem ul{st:AB}{f:A1}{k m:Nat}(F:D6 K x qual st f fd)(S:bG N ps (aR st))(y:N.length=n)(B:ps.length=m+1)(l:∀(c:A0) (A:A5) (outer:O Env) (s:A2) (H:Hp) (E:XK),nZ k (A.deeper (AK qual (aR st) s.heap.objs.size f c))->Qe (GP FJ P w K mg base N qual (aR st) f c A outer s H E).nox (jG st) g):
  rQ P w K mg base FJ (k+1) f fd ps (GS K m (Uj n g)):=by
 subst y;refine F.ok S (λvs H Q E h=>by rw[B];exact h.1) λc A outer s H vs Q E u h=>?_;obtain⟨G,a,ks,AO,AS,bs,D,rfl,p,C,j,i,e,q⟩:=h;refine⟨_,(l c A outer s H E u).run,?_⟩;obtain⟨ρ,er,e0⟩:=Xd e;refine⟨Cb H a,_,_,bI.startM p C j i,er,?_⟩;intro σ' H' d;obtain⟨v,ev,b,t,rfl,hb,o,z⟩:=d.val 0 _ e0;have:=z a rfl;subst this;exact q H' t d.base hb o
open Classical in
noncomputable def JW(i n:Nat)(G:A1->O (AY×Dt)->O Bx->Y (O (AY×Dt)))(fs:Ev->Y (O Bx)):Ev->Y Ap:=λρ=>match ρ[i]? with
 |some (Z (.m AO w))=>(fs ρ).bind λbs=>if h:bs.length=n/\bs.all Do=true/\∃b,∀a,G a AO bs=Z b then Z (.nx (ρ.set i (Z (.m (Classical.choose h.2.2) w))))else U
 |_=>U
theorem Xf{fs:Ev->Y (O Bx)}{r:Ap}(h:JW i n G fs ρ=Z r):∃AO w bs c,ρ[i]?=Z (Z (.m AO w))/\fs ρ=Z bs/\bs.length=n/\bs.all Do=true/\(∀a,G a AO bs=Z c)/\r=.nx (ρ.set i (Z (.m c w))):=by
 unfold JW at h;split at h
 ·rename_i AO w e;obtain⟨bs,eb,h⟩:=AT h;split at h
  ·rename_i b;cases h;exact⟨AO,w,bs,_,e,eb,b.1,b.2.1,Classical.choose_spec b.2.2,rfl⟩
  ·cases h
 ·cases h
theorem my{fs:Ev->Y (O Bx)}{b:O (AY×Dt)}{w:Y A1}{bs:O Bx}(e:ρ[i]?=Z (Z (.m AO w)))(eb:fs ρ=Z bs)(h:bs.length=n)(g:bs.all Do=true)(c:∀a,G a AO bs=Z b):JW i n G fs ρ=Z (.nx (ρ.set i (Z (.m b w)))):=by
 unfold JW;rw[e];simp only[eb,anC];have d:bs.length=n/\bs.all Do=true/\∃b,∀a,G a AO bs=Z b:=⟨h,g,b,c⟩;rw[dif_pos d];have:=Classical.choose_spec d.2.2 0;rw[c 0]at this;injection this with this;rw[<-this]
where anC {α β:Type} (a:α) (f:α->Y β):(Z a).bind f=f a:=rfl
theorem bI.alB{H':Hp}{F:O (AY×Dt)}{w:Y A1}{ks I:O (AY×V)}(E:bI K H0 H σ ρ)(h:ρ[i]?=Z (Z (.m AO w)))(hs:σ[i]?=Z (Z (.ref a)))(J:H a=Z (.dK ks))(Q:AV (Cb H a) H')(L:H' a=Z (.dK I))(rm:gK K H' F I)(a0:∀b,w=Z b->b=a):
  bI K H0 H' σ (ρ.set i (Z (.m F w))):=by
 have hi:i<ρ.length:=(bv.mp h).1;have hb:H0 a=U:=E.new i _ a h S hs;have g:∀b u,b≠a->H b=Z u->H' b=Z u:=λb u D e=>Q b u (by rw[Zi D];exact e);have kp:Kp H H':=⟨λb xs e=>g b _ (qH e J (by intro z;cases z)) e,λb ob u e=>g b _ (qH e J (by intro z;cases z)) e⟩;refine⟨by rw[jv];exact E.len,λj B e=>?_,λj W c f B e1 G e2 e3 e4 X=>?_,λc o e=>?_,λj c f e1 G e2=>?_⟩
 ·rcases B5 e with⟨rfl,e',_⟩|⟨D,e'⟩
  ·cases e';exact⟨_,hs,a,I,rfl,L,rm,a0⟩
  ·obtain⟨v,e1,y⟩:=E.val j B e';refine⟨v,e1,?_⟩;have A:∀f,v=.ref f->loose B=true->f≠a:=λf ev M z=>by
    subst z;exact D (E.own i j _ _ _ h S hs e' M (by rw[e1,ev])).symm
   cases B with
   |z d=>exact AW.kp kp y
   |l C=>
    obtain⟨f,s,rfl,q,p⟩:=y;have t:=A f S rfl;exact⟨f,s,rfl,q.imp (g _ _ t) λ⟨o,q⟩=>⟨o,g _ _ t q⟩,p.kp kp⟩
   |o C=>
    obtain⟨f,s,rfl,q,p⟩:=y;exact⟨f,s,rfl,g _ _ (A f S S) q,p.kp kp⟩
   |n C=>
    obtain⟨f,s,rfl,q,p⟩:=y;have t:=A f S rfl;exact⟨f,s,rfl,q.imp (g _ _ t) λ⟨o,q⟩=>⟨o,g _ _ t q⟩,p.kp kp⟩
   |m C _=>
    obtain⟨f,s,rfl,q,p,N⟩:=y;exact⟨f,s,rfl,g _ _ (A f S S) q,p.kp kp,N⟩
 ·have back:∀{j:Nat} {c:Bx},(ρ.set i (Z (.m F w)))[j]?=Z (Z c)->∃x,ρ[j]?=Z (Z x)/\(u5 c=true->u5 x=true)/\(loose c=true->loose x=true):=λ{j c} e=>by
   rcases B5 e with⟨rfl,e',_⟩|⟨_,e'⟩
   ·exact⟨_,h,λ_=>S,λ_=>S⟩
   ·exact⟨c,e',id,id⟩
  obtain⟨x,p1,p2,_⟩:=back e1;obtain⟨b2,q1,_,P⟩:=back e3;exact E.own j W x f b2 p1 (p2 G) e2 q1 (P e4) X
 ·have e2:=E.base c o e;exact g c o (λz=>by subst z;rw[hb]at e;cases e) e2
 ·rcases B5 e1 with⟨rfl,e',_⟩|⟨_,e'⟩
  ·exact E.new _ _ f h S e2
  ·exact E.new j c f e' G e2
section
variable{fs:Ev->Y (O Bx)}{p px spos:Pos}{k:Nat}{f:A1}
theorem WA(i:Nat)(F:rQ X.prog X.w X.K X.mg X.base FJ k f fd ps (GS X.K n G))(B:nZ k X.A)(P:Gl X x)(o:X.mg x=Z (.ref f))(u:keepIn X.K (.ref f)=true)(hb:BQ X.K fd ps [])
  (ha:YD X es fs) (z:X.N[i]?=Z y:=by rfl) (j:V4 X.env.scope y:=by first|exact jI rfl|exact QE (jI S)|exact QE (QE S)) (hd:re y:=by decide)
  (M:(y==("__classdict__":AJ))=false:=by decide) (C:re x:=by decide) (he:A9 (.Name y px::es) X.env=(false,eval (.Name y px) X.env)::A9 es X.env:=by rfl) (Q:(AD pos (A9 es X.env)).any (·.1)=false:=by rfl) (hs:swapsWith (.Call (.Name x p) (.Name y px::es) [] pos) U spos.line X.env=pure false:=by rfl):
  Mh X (.Expr (.Call (.Name x p) (.Name y px::es) [] pos) spos) (JW i n G fs):=⟨YF (Hw (Px F B P o u hb .nil Ic (gR (ou (i:=i) z j hd M) ha.run he) C he Q) hs) λD σ H h=>by
 obtain⟨H0,ρ,r,E,e,q⟩:=h;obtain⟨AO,w,bs,I,g,eb,m,s,t,rfl⟩:=Xf e;obtain⟨v,e1,a,ks,rfl,l,rm,a0⟩:=E.val i _ g;refine⟨_,e1,H0,ρ,bs,E,eb,λvs H1 b c=>?_⟩;have d:=b _ _ l;refine⟨by simp only[qv,ZI];rw[<-Paired.length c,m],a,ks,AO,vs,bs,I,by simp,d,rm.kp (.of b),c,s,t a,λH' a1 J L W=>?_⟩;exact q σ H' ((E.grow b).alB g e1 d J L W a0)⟩
end
def DV:Y Bool->Bool
 |some true=>true
 |_=>false
def Ff(x:Dt)(ys:O Dt):Y Bool:=if(ys.all λy=>(GZ y x).isSome&&decide (min (Br y) (Br x)<=60))=true then Z (ys.any λy=>DV (GZ y x))else U
def Uk(a b:Bx):Y Bx:=match a with
 |.z d=>(wY b).bind λys=>(Ff d ys).bind λk=>Z (.z (.bl (!k)))
 |_=>U
theorem MQ(I:L2.AU X AN σ H s)(F:X.A.units+100<cLine){x:V}(D:AW X.K H d x)(B:As x u){ys:O Dt}(rs:aK X.K H ys vs)(n:AX vs AQ){k:Bool}(f:Ff d ys=Z k):
  ∃e:A0->Bool,(∀y,y∈AQ->SeqAt.EqAt X.A.in1 s y u (e y))/\AQ.any e=k:=by
 unfold Ff at f;split at f
 ·rename_i p;injection f with f;rw[qc]at p;have at_:∀(i:Nat) y,AQ[i]?=Z y->∃c,ys[i]?=Z c/\SeqAt.EqAt X.A.in1 s y u (DV (GZ c d)):=λi y l=>by
   have w:=n.length;have C:=rs.length;have hi:i<AQ.length:=(bv.mp l).1;have a:i<ys.length:=by omega
   obtain⟨v,ev,z⟩:=rs.get (show ys[i]?=Z ys[i] by simp[a]);obtain⟨J,o,t⟩:=n.get ev;rw[l]at o;cases o;refine⟨ys[i],by simp[a],?_⟩;have g:=p ys[i] (Y2 a);rw[ZH]at g;obtain⟨b,hb⟩:=ef.mp g.1;have:=ND I 60 (A:=X.A.in1) (QA g.2) (by rw[units_in1];omega) z D t B hb;rw[hb];cases b<;>exact this
  classical
  refine⟨λy=>decide (∃(i:Nat) (c:Dt),AQ[i]?=Z y/\ys[i]?=Z c/\DV (GZ c d)=true),λy l=>?_,?_⟩
  ·dsimp only;by_cases q:∃(i:Nat) (c:Dt),AQ[i]?=Z y/\ys[i]?=Z c/\DV (GZ c d)=true
   ·rw[ZA q];obtain⟨i,c,h1,h2,j⟩:=q;obtain⟨G,e1,e2⟩:=at_ i y h1;rw[h2]at e1;cases e1;rw[j]at e2;exact e2
   ·rw[ZN q];obtain⟨i,hi,m⟩:=kc l;have h1:AQ[i]?=Z y:=by rw[Zp hi,m]
    obtain⟨c,e1,e2⟩:=at_ i y h1;have:DV (GZ c d)=false:=by
     cases E:DV (GZ c d)with
     |false=>rfl
     |true=>exact absurd ⟨i,c,h1,e1,E⟩ q
    rw[this]at e2;exact e2
  ·rw[<-f,JJ,kz,kz];constructor
   ·rintro⟨y,l,h⟩;obtain⟨i,c,h1,h2,j⟩:=QA h;exact⟨c,Q1 h2,j⟩
   ·rintro⟨c,g,j⟩;obtain⟨i,hi,m⟩:=kc g;have w:=n.length;have C:=rs.length;have a:i<AQ.length:=by omega
    exact⟨AQ[i],Y2 a,ZA ⟨i,c,by simp[a],by rw[Zp hi,m],j⟩⟩
 ·cases f
theorem Ii(j:X.A.units+100<cLine):NT X (AG .NotIn) Uk:=by
 intro AN s σ H x y v u Q I l B h;obtain⟨a,b,c,n,t,e,q⟩:=h;unfold Uk at e;split at e
 ·rename_i d;obtain⟨ys,z,e⟩:=AT e;obtain⟨k,ek,e⟩:=AT e;cases e;obtain⟨p,vs,rfl,sq,m⟩:=Ia t z;cases B;rcases sq with sq|sq
  ·obtain⟨AQ,i,pl,o⟩:=I.list sq;obtain⟨f,f1,f2⟩:=MQ I j n l m i ek;refine SeqAt.notIn_listAt f pl.isList (λw g=>f1 w (by simpa using g)) ⟨.bl (!k),H,I,by rw[show AQ.toArray.any f=AQ.any f by simp,f2];rfl,q _ H (AV.refl H) trivial (by simp only[aX,AW])⟩
  ·obtain⟨AQ,i,pl,o⟩:=I.tuple sq;obtain⟨f,f1,f2⟩:=MQ I j n l m i ek;refine SeqAt.notIn_tupleAt f pl (λw g=>f1 w (by simpa using g)) ⟨.bl (!k),H,I,by rw[show AQ.toArray.any f=AQ.any f by simp,f2];rfl,q _ H (AV.refl H) trivial (by simp only[aX,AW])⟩
 ·cases e
section
variable{st:O AB}
def FO(i:Nat)(ρ:Ev):Y Ev:=match ρ[i]? with
 |some (Z (.o ds))=>Z (ρ.set i (Z (.z (.lst ds))))
 |_=>U
def EQ(i:Nat)(g:Ev->Y Ap):Ev->Y Ap:=λρ=>(FO i ρ).bind g
theorem Wp(h:V9 X st g):V9 X st (EQ i g):=by
 intro AN s σ H D I q;obtain⟨H0,ρ,r,E,e,f⟩:=q;obtain⟨m,e1,e2⟩:=AT e;unfold FO at e1;split at e1
 ·rename_i ds c;cases e1;obtain⟨v,j,a,vs,rfl,b,l⟩:=E.val i _ c;obtain⟨o,d⟩:=zV I b;have kp:Kp H (B4 H a (.n6 o (.lst vs))):=.lst b;refine h AN s σ _ D d ⟨H0,_,r,E.afe c S j kp ?_,e2,f⟩;simp only[aX,AW];exact⟨a,vs,rfl,.inl ⟨o,aV⟩,l.kp kp⟩
 ·cases e1
theorem nz(h:Qe X st g):Qe X st (EQ i g):=⟨Wp h.run⟩
end
open AutoSeq1 (wpAny_loadPart')
open SeqAt
section
variable{o:Expr}{fx:Ev->Y Bx}
end
section
variable{t:Ev->Y Bool}
def CI(t:Ev->Y Bool)(g:Ev->Y Ap):Nat->Ev->Y Ap
 |0,_=>U
 |n+1,ρ=>(t ρ).bind λb=>if b=true then(g ρ).bind λr=>match r with
  |.nx ρ'=>CI t g n ρ'
  |.ct ρ'=>CI t g n ρ'
  |.bk ρ'=>Z (.nx ρ')
  |.rt b=>Z (.rt b)
  else Z (.nx ρ)
theorem rL(n:Nat)(hp:PassesOwn (ri X) X.A X.env X.xe)(l:PB X c t)(hb:V9 X body g):IJ X (.While c body [] pos) (CI t g n):=
 YF (sA hp l hb) λD σ H q=>by
  obtain⟨H0,ρ,r,E,e,f⟩:=q;refine⟨λm σ H=>∃H0 ρ r,bI X.K H0 H σ ρ/\CI t g m ρ=Z r/\SM X.K H0 D r,⟨n,H0,ρ,r,E,e,f⟩,?_⟩;rintro m σ H ⟨H0,ρ,r,E,e,f⟩;cases m with
  |zero=>cases e
  |succ m=>
   obtain⟨b,eb,e⟩:=AT e;refine⟨H0,ρ,b,E,eb,λH1 i=>?_⟩;cases b with
   |false=>
    rw[zD ()]at e ⊢;cases e;exact f σ H1 (E.grow i)
   |true=>
    rw[zt rfl]at e ⊢;obtain⟨j,er,e⟩:=AT e;refine⟨λσ' H'=>∃h,h<m+1/\∃H0 ρ r,bI X.K H0 H' σ' ρ/\CI t g h ρ=Z r/\SM X.K H0 D r,λσ' H' z=>z,H0,ρ,j,E.grow i,er,?_⟩;cases j with
    |nx d=>exact λσ' H' a=>⟨m,qa m,H0,d,r,a,e,f⟩
    |ct d=>exact λσ' H' a=>⟨m,qa m,H0,d,r,a,e,f⟩
    |bk d=>cases e;exact λσ' H' a=>f σ' H' a
    |rt b=>cases e;exact f
theorem Ul(n:Nat)(hp:PassesOwn (ri X) X.A X.env X.xe)(a:QB X c t)(hb:Qe X body g):Mh X (.While c body [] pos) (CI t g n):=⟨rL n hp a.run hb.run⟩
end
section
variable{h':A6}
theorem ie{t':Nat}{e:A1}(I:L2.AU X AN σ H s)(k:∀b o,b≠e->b≠it->s.heap.get? b=Z o->h'.get? b=Z o)(fe:uq X AN H e)(fi:uq X AN H it)(he:∃o,h'.get? e=Z o)(hi:∃o,h'.get? it=Z o)(new:iw X.prog X.w (B4 H s.heap.objs.size (.tup xs)) h' s.heap.objs.size (.tup xs)):L2.AU X AN σ (B4 H s.heap.objs.size (.tup xs)) { s with heap:=h',toks:=t' }:=by
 have g:H s.heap.objs.size=U:=I.hok.fresh (zk _);have nd:∀b u,H b=Z u->b≠s.heap.objs.size:=λb u q z=>by rw[z,g]at q;cases q
 have f:∀b u,H b=Z u->b≠e/\b≠it:=λb u q=>⟨λz=>(by rw[z,fe.1]at q;cases q),λz=>(by rw[z,fi.1]at q;cases q)⟩;have d:∀b,b∉[e,it]->b≠e/\b≠it:=λb hb=>⟨λz=>hb (by simp[z]),λz=>hb (by simp[z])⟩;refine I.step (g':=s.gens) (d':=s.drawn) (ch:=[e,it]) (λb hb=>?_) (λb o _ _ a q _=>k b o (d b a).1 (d b a).2 q) (λb o _ _ a q _=>⟨o.slots,k b o (d b a).1 (d b a).2 q⟩) (λb o _ q n=>?_)
  (λb o a q=>⟨o,k b o (d b a).1 (d b a).2 q⟩) (λb ys q=>?_) (λb o u q=>?_) (λb ps q=>⟨#[],?_⟩) (λm h=>?_) (λb u q=>?_) I.bare
 ·rcases List.mem_cons.mp hb with rfl|hb
  ·exact⟨fe.2.2.2.1,fe.2.1,fe.2.2.2.2.1,fe.2.2.2.2.2⟩
  ·cases ba.mp hb;exact⟨fi.2.2.2.1,fi.2.1,fi.2.2.2.2.1,fi.2.2.2.2.2⟩
 ·rw[aQ (Zl (zv q))];exact n
 ·rw[aQ (nd b _ q)];exact q
 ·rw[aQ (nd b _ q)];exact q
 ·rw[aQ (nd b _ q),q];simp
 ·obtain⟨o,es,ep,ho,r⟩:=h;exact⟨o,es,ep,k _ o (ka fe.2.1) (ka fi.2.1) ho,r⟩
 ·by_cases hb:b=s.heap.objs.size
  ·subst hb;rw[aV]at q;cases q;exact new
  ·rw[aQ hb]at q;refine(I.hok b u q).stay (λc v a w=>k c v ?_ ?_ w) (λc w=>?_) λc ys w=>?_
   ·rcases a with rfl|z
    ·exact(f _ _ q).1
    ·exact(f _ _ z).1
   ·rcases a with rfl|z
    ·exact(f _ _ q).2
    ·exact(f _ _ z).2
   ·rw[aQ (nd c _ w)];exact w
   ·rw[aQ (nd c _ w)];exact w
end
def IG(K:B1)(l:A1):It:=
 ⟨λi H=>∃xs x,uG K H l xs/\xs[i]?=Z x,λi H v H'=>∃p x,H p=U/\(∀xs,uG K H l xs->xs[i]?=Z x)/\v=.ref p/\H'=B4 H p (.tup [.int i,x]),λi H=>∃xs,uG K H l xs/\xs.length<=i⟩
theorem dm(l e it:A1)(A:e≠it):
  C5 P w K (.Tuple elts x1 tpos) (IG K l) [e,it] e (λi h=>(∃old,IsEnum h e it i old)/\h.IsListIter it l i) where
 mem:=by simp
 obj:=λi h st b hb=>by
  obtain⟨⟨old,h1⟩,o,h2,_,h3⟩:=st;rcases List.mem_cons.mp hb with rfl|hb
  ·exact⟨_,h1,λv z=>by cases z⟩
  ·cases ba.mp hb;exact⟨o,h2,λv z=>by rw[h3]at z;cases z⟩
 keep:=λi h h' st k=>by
  obtain⟨⟨old,h1⟩,h2⟩:=st;exact⟨⟨old,k e (by simp) _ h1⟩,h2.at λo q=>k it (by simp) o q⟩
 item:=by
  intro X n d j t i AN s σ H E I a st m;subst n d j;obtain⟨⟨old,h1⟩,h2⟩:=st;obtain⟨xs,x,c,hx⟩:=m;obtain⟨AQ,f,p,M⟩:=I.list c;obtain⟨u,F,L⟩:=f.get hx;have fe:=a e (by simp);have fi:=a it (by simp);refine wpAny_pyNext_enum_item h1 h2 p.isList (x:=u) (by simpa using F) A λa2 ho J hT a1 N=>⟨_,rfl,?_⟩;refine wpAny_letOwnedTupleGo_enum ho λy B g=>?_;have elt:e<s.heap.objs.size:=zv h1;have Q:it<s.heap.objs.size:=by obtain⟨_,q,_⟩:=h2;exact zv q
  have a0:y.get? s.heap.objs.size=Z { cls:=.type "tuple",data:=.seq #[.int i s.toks,u] }:=(g.2 _ (kQ elt)).trans hT;have C:y.IsListIter it l (i+1):=J.at λo q=>(g.2 it (ka A)).trans q;refine⟨.ref s.heap.objs.size,B4 H s.heap.objs.size (.tup [.int i,x]),ie (t':=s.toks+1) I (λb o D G q=>(g.2 b D).trans (N b o D G q)) fe fi ⟨_,B⟩ (by obtain⟨o,q,_⟩:=C;exact⟨o,q⟩) ?_,rfl,⟨_,x,I.hok.fresh (zk _),λys hy=>by rw[I.IK hy c];exact hx,rfl,rfl⟩,⟨⟨_,by simpa using B⟩,C⟩,λb hb=>?_⟩
  ·exact⟨by show 2<=AA;decide,[.int i s.toks,u],.cons ⟨_,rfl⟩ (.cons L .nil),_,a0,rfl,⟨_,rfl⟩,rfl⟩
  ·rcases List.mem_cons.mp hb with rfl|hb
   ·rw[aQ (Zl elt)];exact fe.1
   ·cases ba.mp hb;rw[aQ (Zl Q)];exact fi.1
 done:=by
  intro X n d j t i AN s σ H E I a st m;subst n d j;obtain⟨⟨old,h1⟩,h2⟩:=st;obtain⟨xs,c,hx⟩:=m;obtain⟨AQ,f,p,M⟩:=I.list c;obtain⟨f0,f1,f2,f3,f4,W⟩:=a it (by simp);have hl:=f.length;exact wpAny_pyNext_enum_end (I.ok.hd t) h1 h2 p.isList (by simp;omega) λh' eb=>⟨rfl,I.turned (t':=s.toks) (λb o hb e=>eb b o hb e) f0 f1 f3 f4 W⟩
 self:=λ_ _ _ _ _ st h=>by
  obtain⟨⟨old,h1⟩,_⟩:=st;exact wpAny_pyIter_enum h1 h
def Gh(ds:O Dt):O Dt:=(cf ds.length).zipWith (λk d=>.tup [.int (k:Nat),d]) ds
theorem Ot(ds:O Dt):(Gh ds).length=ds.length:=by simp[Gh]
theorem dC(h:(Gh ds)[i]?=Z d):∃c,ds[i]?=Z c/\d=.tup [.int (i:Nat),c]:=by
 have hi:i<ds.length:=by
  have:=(bv.mp h).1;rwa [Ot]at this
 refine⟨ds[i],by simp[hi],?_⟩;unfold Gh at h;rw[K0]at h;simp[hi]at h;exact h.symm
theorem B0.enum(h:uG K Hs l vs)(r:aK K Hs ds vs):B0 K (IG K l) (Gh ds) Hs:=λi H s=>by
 have h':=s.seq h;have m:=r.kp (.of s);refine⟨λd e=>?_,λe=>⟨vs,h',by rw[Ot]at e;rw[r.length];exact e⟩⟩;obtain⟨c,g,rfl⟩:=dC e;obtain⟨v,ev,f⟩:=m.get g;refine⟨⟨vs,v,h',ev⟩,λx H' y=>?_⟩;obtain⟨p,n,hp,j,rfl,rfl⟩:=y;have:=j vs h';rw[ev]at this;cases this;have a:AV H (B4 H p (.tup [.int (i:Nat),v])):=λb o q=>by rw[aQ (dO q hp)];exact q
 refine⟨a,?_⟩;simp only[AW];exact⟨p,_,rfl,.inl (.inl aV),aK.cons (by simp only[AW]) (aK.cons (AW.kp (.of a) f) aK.nil)⟩
section
variable{p:Pos}{fs:Ev->Y (O Bx)}
def sf(K:B1)(ta:TA):TI:=λσ H R=>ta σ H λvs H1=>∃l,vs=[.ref l]/\(∃xs,uG K H1 l xs)/\R (IG K l) H1
theorem T1{ta:TA}(d:Gl X "enumerate")(j:X.mg "enumerate"=U)(f:PA X [e] ta)(hs:A9 [e] X.env=[(false,eval e X.env)]:=by rfl):PI X (.Tuple elts x1 tpos) (.Call (.Name "enumerate" p) [e] [] pos) (sf X.K ta):=by
 intro AN s σ H R I h;refine Call_ (Iz I d j boot_enumerate (PyProof.Rows.callWith_type1 (jE (f pos AN s σ H _ I h) λus s1 ⟨vs,H1,I1,r1,q1⟩=>?_) hs S));obtain⟨l,rfl,⟨xs,m⟩,q⟩:=q1;obtain⟨u,rfl,c⟩:=BA r1;cases c;obtain⟨AQ,o,p,n⟩:=I1.list m;refine call_enumerate_list p.isList λh' a i t g=>?_;refine wpAny_pyIter_enum a ?_;refine⟨s1.heap.objs.size+1,[s1.heap.objs.size+1,s1.heap.objs.size],_,_,H1,rfl,I1.kept (t':=s1.toks) g,dm l _ _ (kQ (qa _)),⟨⟨_,a⟩,i⟩,λb hb=>?_,q⟩;rcases List.mem_cons.mp hb with rfl|hb
 ·exact I1.R9 (Kn _) (I1.hok.fresh (Kn _))
 ·cases ba.mp hb;exact I1.R9 (zk _) (I1.hok.fresh (zk _))
def Um:O Bx->Y (O Dt)
 |[b]=>(qj b).bind λds=>Z (Gh ds)
 |_=>U
theorem nL(c:Gl X "enumerate")(m:X.mg "enumerate"=U)(g:FX X [e] fs)(hs:A9 [e] X.env=[(false,eval e X.env)]:=by rfl):OM X (.Tuple elts x1 tpos) (.Call (.Name "enumerate" p) [e] [] pos) (λρ=>(fs ρ).bind Um):=λAN s σ H R I q=>by
 refine T1 c m g hs AN s σ H R I ?_;obtain⟨H0,ρ,ds,E,e,q⟩:=q;obtain⟨bs,eb,e⟩:=AT e;refine⟨H0,ρ,bs,E,eb,λvs H1 i l=>?_⟩;unfold Um at e;split at e
 ·rename_i b;obtain⟨n,f,e⟩:=AT e;cases e;obtain⟨v,rfl,d⟩:=BG l;obtain⟨a,h,rfl,sq,j⟩:=d.HB f;exact⟨a,rfl,⟨h,sq⟩,q _ _ i (.enum sq j)⟩
 ·cases e
theorem tS(b:Gl X "enumerate")(a:X.mg "enumerate"=U)(c:YD X [e] fs)(hs:A9 [e] X.env=[(false,eval e X.env)]:=by rfl):EE X (.Tuple elts x1 tpos) (.Call (.Name "enumerate" p) [e] [] pos) (λρ=>(fs ρ).bind Um):=⟨nL b a c.run hs⟩
end
def GA(j i:Nat)(f:Ev->Y Bx):Ev->Y Ap:=λρ=>(f ρ).bind λb=>match b with
 |.z (.int k)=>match ρ[i]? with
  |some (Z (.o ds))=>if -(2 ^ 62)<=k/\k<2 ^ 62 then(seqIndex? k ds.length).bind λm=>(ds[m]?).bind λd=>(EW (ρ.set i (Z (.o (ds.eraseIdx m)))) j (.z d)).bind λa=>Z (.nx a)else U
  |_=>U
 |_=>U
theorem JX{K:B1}{H:Hp}:∀(m:Nat) {ds:O Dt} {vs:O V},aK K H ds vs->aK K H (ds.eraseIdx m) (vs.eraseIdx m)
 |m,[],vs,h=>by
  cases vs with
  |nil=>exact h
  |cons v vs=>have:=h.length;simp at this
 |m,d::ds,vs,h=>by
  cases vs with
  |nil=>have:=h.length;simp at this
  |cons v vs=>
   obtain⟨a,r,e,q,t⟩:∃a r,v::vs=a::r/\AW K H d a/\aK K H ds r:=by
    simpa only[aK]using h
   cases e;cases m with
   |zero=>exact t
   |succ m=>exact aK.cons q (JX m t)
theorem UQ(j i:Nat){p:Pos}(nd:X.N.Nodup)(he:PV X e f)(K:X.N[i]?=Z x:=by rfl)(B:V4 X.env.scope x:=by first|exact jI rfl|exact QE (jI S)|exact QE (QE S))(hd:re x:=by decide)(W:(x==("__classdict__":AJ))=false:=by decide)(s:A9 [e] X.env=[(false,eval e X.env)]:=by rfl)(I:attributeBase (.Name x p) "pop" X.env (eval (.Name x p) X.env)=eval (.Name x p) X.env:=by rfl)(P:((AD cpos (A9 [e] X.env)).all (λx=>!x.1)&&(backToKw cpos (keywordEach [] X.env)).all (λx=>x.1.isSome)
   && decide ([e].length+([]:O AC).length+(if([]:O AC).isEmpty then 0 else 1)<30))=true:=by rfl)(a0:(apos.endLine==cpos.line)=true:=by rfl)(hj:X.N[j]?=Z y:=by rfl)(hy:CD X.env.scope y:=by first|exact jI rfl|exact QE S)(hs:swapsWith (.Call (.Attribute (.Name x p) "pop" apos) [e] [] cpos) (Z (.Name y p2)) pos.line X.env=pure false:=by rfl)(hf:X.fn y=true\/X.env.scope.names.lookup y=Z .local:=by first|exact .inl rfl|exact .inr S):
  IJ X (.Assign [.Name y p2] (.Call (.Attribute (.Name x p) "pop" apos) [e] [] cpos) pos) (GA j i f):=
 YF (Pu nd hj hy (Yy xb PySem.F.slot_list_pop PySem.F.type_list_pop TL (ou (i:=i) K B hd W) (gR he rP (by rw[s]<;>rfl)) I P a0 (by rw[s]<;>rfl) S) hs hf) λD σ H h=>by
  obtain⟨H0,ρ,r,E,e,q⟩:=h;obtain⟨b,eb,e⟩:=AT e;split at e
  ·rename_i k;split at e
   ·rename_i ds n;split at e
    ·rename_i hb;obtain⟨m,C,e⟩:=AT e;obtain⟨d,ed,e⟩:=AT e;obtain⟨a1,L,e⟩:=AT e;cases e;obtain⟨v,e1,a,vs,rfl,t,l⟩:=E.val i _ n;refine⟨_,e1,.inl ⟨rfl,vs,.inl (.inl t)⟩,H0,ρ,_,E,eb,λu H1 g n1 G=>?_⟩;have Q:=E.grow g;have o:=l.kp (.of g);obtain⟨w,ew,M⟩:=o.get ed;have A:u=.int k:=by simpa only[aX,AW]using G
     subst A;have c:=g _ _ t;refine⟨a,vs,k,m,w,rfl,rfl,c,by omega,by omega,by rw[l.length];exact C,ew,?_⟩;have J:=Q.abQ n e1 c (JX m o);have kp:Kp H1 (B4 H1 a (.lst (vs.eraseIdx m))):=.lst c;exact q _ _ (YH J (AV.refl _) (b:=.z d) (by simp only[aX];exact AW.kp kp M) trivial L)
    ·cases e
   ·cases e
  ·cases e
theorem gf(j i:Nat){p:Pos}(nd:X.N.Nodup)(he:QV X e f)(g:X.N[i]?=Z x:=by rfl)(c:V4 X.env.scope x:=by first|exact jI rfl|exact QE (jI S)|exact QE (QE S))(hd:re x:=by decide)(m:(x==("__classdict__":AJ))=false:=by decide)(d:A9 [e] X.env=[(false,eval e X.env)]:=by rfl)(a:attributeBase (.Name x p) "pop" X.env (eval (.Name x p) X.env)=eval (.Name x p) X.env:=by rfl)(o:((AD cpos (A9 [e] X.env)).all (λx=>!x.1)&&(backToKw cpos (keywordEach [] X.env)).all (λx=>x.1.isSome)
   && decide ([e].length+([]:O AC).length+(if([]:O AC).isEmpty then 0 else 1)<30))=true:=by rfl)(n:(apos.endLine==cpos.line)=true:=by rfl)(h:X.N[j]?=Z y:=by rfl)(b:CD X.env.scope y:=by first|exact jI rfl|exact QE S)(hs:swapsWith (.Call (.Attribute (.Name x p) "pop" apos) [e] [] cpos) (Z (.Name y p2)) pos.line X.env=pure false:=by rfl)(l:X.fn y=true\/X.env.scope.names.lookup y=Z .local:=by first|exact .inl rfl|exact .inr S):
  Mh X (.Assign [.Name y p2] (.Call (.Attribute (.Name x p) "pop" apos) [e] [] cpos) pos) (GA j i f):=
 ⟨UQ j i nd he.run g c hd m d a o n h b hs l⟩
def Ou:O Dt->Y B9
 |[]=>Z []
 |.int k::r=>(Ou r).bind λks=>Z (k::ks)
 |_=>U
def Uo(ks:O Int):Bool:=decide (ks.length<=1000)&&ks.all λk=>decide (-1000000000000<=k/\k<=1000000000000)
def JZ:O Bx->Y Bx
 |[b]=>(qj b).bind λds=>(Ou ds).bind λks=>if Uo ks=true then Z (.z (.int ks.sum))else U
 |_=>U
theorem J0{K:B1}{H:Hp}:∀{ds:O Dt} {ks:O Int} {vs:O V} {AQ:O A0},Ou ds=Z ks->aK K H ds vs->AX vs AQ->AQ.length=ks.length/\∀i v,AQ[i]?=Z v->∃t,v=Value.int (ks.getD i 0) t
 |[],ks,vs,AQ,e,r,w=>by
  cases e;simp only[aK]at r;subst r;cases w;exact⟨rfl,λi v h=>by simp at h⟩
 |d::ds,ks,vs,AQ,e,r,w=>by
  cases d with
  |int k=>
   simp only[Ou]at e;obtain⟨n,e1,e2⟩:=AT e;cases e2;obtain⟨a,b,rfl,q,t⟩:∃a b,vs=a::b/\AW K H (.int k) a/\aK K H ds b:=by
    simpa only[aK]using r
   have l:a=.int k:=by simpa only[AW]using q
   subst l;cases w with
   |cons j g=>
    obtain⟨f,rfl⟩:=j;obtain⟨c,m⟩:=J0 e1 t g;refine⟨by simp[c],λi v h=>?_⟩;cases i with
    |zero=>simp at h;exact⟨f,h.symm⟩
    |succ i=>simpa using m i v (by simpa using h)
  |_=>cases e
theorem Be(ks:O Int):∀n,n<=ks.length->preSum (λi=>ks.getD i 0) n=(ks.take n).sum
 |0,_=>by simp[preSum]
 |n+1,h=>by
  have a:n<ks.length:=by omega
  rw[preSum,Be ks n (),ey a,List.sum_append];simp[a]
theorem NW:∀(ks:O Int),(∀k∈ks,-1000000000000<=k/\k<=1000000000000) → -(1000000000000*(ks.length:Int))<=ks.sum/\ks.sum<=1000000000000*(ks.length:Int)
 |[],_=>by simp
 |k::ks,h=>by
  have h1:=h k (zg ..);have h2:=NW ks λx hx=>h x (zi _ hx);rw[JY,ZI]
  push_cast
  omega
theorem Ep(m:X.calm=true):pU X (.builtin "sum") JZ:=by
 intro AN s σ H xs us Q I r h;obtain⟨bs,c,F,e,q⟩:=h;unfold JZ at e;split at e
 ·obtain⟨ds,G,e⟩:=AT e;obtain⟨ks,ek,e⟩:=AT e;split at e
  ·rename_i d;cases e;obtain⟨v,rfl,t⟩:=BG F;obtain⟨a,vs,rfl,sq,E⟩:=t.HB G;obtain⟨u,rfl,y⟩:=BA r;cases y;obtain⟨AQ,w,pl,N⟩:=I.list sq;obtain⟨f,p⟩:=J0 ek E w;unfold Uo at d;rw[ZH,zz,qc]at d;have l:∀k∈ks,-1000000000000<=k/\k<=1000000000000:=λk z=>QA (d.2 k z);have g:a<s.heap.objs.size:=by obtain⟨o,n,e,_⟩:=pl;exact zv e
   refine call_sum_walk (KP pl.isList ?_);refine⟨s.heap.objs.size,_,_,_,_,_,λi=>ks.getD i 0,rfl,Walks.list (by show X.A.handled=U;exact I.ok.hd m) s.heap.objs.size a (Zl g) AQ.toArray,⟨⟨_,zw _ rfl,rfl,rfl⟩,pl.isList.push _⟩,?_,λi v hp=>?_,λj W=>?_,λh' tk t' k=>?_⟩
   ·intro b hb;have M:(s.heap.push { cls:=.type "list_iterator",data:=.fields #[.ref a,.int 0 0] }).objs.size=s.heap.objs.size+1:=qk ..;simp only[js,JP,or_false]at hb;show b<(s.heap.push { cls:=.type "list_iterator",data:=.fields #[.ref a,.int 0 0] }).objs.size;rw[M];rcases hb with rfl|rfl
    ·exact qa _
    ·exact qB g
   ·exact p i v (by simpa using hp)
   ·have D:j<ks.length:=by
     have:AQ.toArray.size=ks.length:=by simpa using f
     omega
    have b1:=l (ks.getD j 0) (by simp[D]);have b2:=NW (ks.take (j+1)) λx hx=>l x (gC hx);have P:(ks.take (j+1)).length<=1000:=by rw[kg];omega
    rw[Be ks (j+1) ()];unfold InLong;dsimp only;refine⟨⟨by omega,by omega⟩,by omega,by omega⟩
   ·have B:AQ.toArray.size=ks.length:=by simpa using f
    rw[B,Be ks ks.length (zk _),pg];have J:L2.AU X AN σ H { s with heap:=s.heap.push { cls:=.type "list_iterator",data:=.fields #[.ref a,.int 0 0] } }:=I.kept (t':=s.toks) λb o e=>ze _ e;refine⟨.int _,H,?_,⟨_,rfl⟩,q _ H (AV.refl H) trivial (by simp only[aX,AW])⟩;obtain⟨f0,f1,f2,L,K,C⟩:=I.R9 (b:=s.heap.objs.size) (H':=H) (zk _) (I.hok.fresh (zk _));exact J.turned (it:=s.heap.objs.size) (λb o hb e=>k b o (by simpa using hb) e) f0 f1 L K C
  ·cases e
 ·cases e
section
variable{ek ev:Expr}{st:AB}
def II:Ev->Y Ap:=λ_=>U
theorem bp:Mh X st II:=⟨λD AN s σ H I q=>by
 obtain⟨H0,ρ,r,E,e,q⟩:=q;cases e⟩
def Uq(f:Ev->Y Bx):Ev->Y Ap:=λρ=>(f ρ).bind λ_=>Z (.nx ρ)
theorem Zk(he:QV X e f)(hs:swapsWith e U pos.line X.env=pure false:=by rfl):Mh X (.Expr e pos) (Uq f):=⟨YF (Hw he.run hs) λD σ H h=>by
 obtain⟨H0,ρ,r,E,e,q⟩:=h;obtain⟨b,eb,e⟩:=AT e;cases e;exact⟨H0,ρ,b,E,eb,λv H1 a c d=>q _ _ (E.grow a)⟩⟩
def Ov:Bx->Bx->Y Bx
 |.z (.str x),.z d=>Z (.m [(.inr x,d)] U)
 |_,_=>U
theorem Xg{a c:Bx}(h:Ov a b=Z c):∃x d,a=.z (.str x)/\b=.z d/\c=.m [(.inr x,d)] U:=by
 unfold Ov at h;split at h
 ·cases h;exact⟨_,_,rfl,rfl,rfl⟩
 ·cases h
theorem uu(n:QV X ek fk)(m:QV X ev fv):QV X (.Dict [Z ek] [ev] pos) (b2 Ov fk fv):=⟨HD (ca (ar n.run m.run ff) S S (by simp) (z4 S)) λσ H Q h=>by
 obtain⟨H0,ρ,c,E,e,q⟩:=h;obtain⟨a,ea,e⟩:=AT e;obtain⟨b,eb,e⟩:=AT e;intro p hp;have f:AV H (B4 H p (.dK [])):=bO hp;refine⟨H0,ρ,a,E.grow f,ea,λv H1 g y s=>⟨H0,ρ,b,(E.grow f).grow g,eb,λw H2 i u l=>?_⟩⟩;obtain⟨x,d,rfl,rfl,rfl⟩:=Xg e;obtain⟨rfl,hx⟩:v=.str x/\x.length<=AA:=by simpa only[aX,AW]using s
 have j:H2 p=Z (.dK []):=i _ _ (g _ _ aV);have kp:Kp H2 (B4 H2 p (.dK (DY [] [(Sum.inr x,w)]))):=.dk j;refine⟨j,[(Sum.inr x,w)],rfl,z4 rfl,q _ _ ?_ (λa ea=>by cases ea;exact hp) ⟨p,_,rfl,aV,?_,λb h=>by cases h⟩⟩
 ·intro b o hb;have t:b≠p:=λz=>by rw[z,hp]at hb;cases hb
  rw[aQ t];exact i _ _ (g _ _ (f _ _ hb))
 ·exact gK.cons (p:=(Sum.inr x,d)) (AW.kp kp l) hx gK.nil⟩
def Gc(AO:O (AY×α))(x:AY):Bool:=AO.any λa=>decide (a.1=x)
def F8(a:Bx):Bx->Y Bx
 |.n AO=>(DB a).bind λx=>Z (.z (.bl (!Gc AO x)))
 |_=>U
theorem gK.anE{p:A1}{ks:O (AY×V)}(a:Rd H p (.dK ks))(b:gK K H AO ks)(x:AY):∃o,FH H p (kV x) o/\o.isSome=Gc AO x:=by
 refine⟨DW ks x,.inl ⟨ks,x,a,rfl,rfl⟩,?_⟩;unfold Gc DW;rw[<-b.any,i4,JJ,List.find?_isSome,kz]
theorem Zm(t:X.A.units+100<cLine):NT X (AG .NotIn) F8:=by
 intro AN s σ H x y v u Q I i j h;obtain⟨a,b,c,l,f,e,q⟩:=h;unfold F8 at e;split at e
 ·rename_i AO;obtain⟨k,ek,e⟩:=AT e;cases e;obtain⟨p,ks,rfl,m,n⟩:=f;obtain⟨rfl,_⟩:=Qt ek l;cases j;obtain⟨o,g,ho⟩:=n.anE m k;exact vF () I g i λs' d=>⟨.bl (!o.isSome),H,d,rfl,q _ H (AV.refl H) trivial (by simp only[aX,AW];rw[ho])⟩
 ·cases e
end
section
variable{st:Expr}{fs:Ev->Y Bx}
def FA(a b:Bx):Y Bx:=(qj a).bind λds=>match b with
 |.z (.int i)=>if i = -1 then Z (.o ds.reverse)else U
 |_=>U
theorem nt{a c:Bx}(h:FA a b=Z c):∃ds,qj a=Z ds/\b=.z (.int (-1))/\c=.o ds.reverse:=by
 unfold FA at h;obtain⟨ds,d,h'⟩:=AT h;clear h;split at h'
 ·split at h'
  ·rename_i hi;subst hi;injection h' with h';exact⟨ds,d,rfl,h'.symm⟩
  ·cases h'
 ·cases h'
theorem af0(he:QV X e f)(J:QV X st fs)(G:∀v i:A0,subscripted (.Slice U U (Z st) p2) false v i=operate [v,i] (getItem v i):=by intro _ _;with_unfolding_all rfl):QV X (.Subscript e (.Slice U U (Z st) p2) pos) (b2 FA f fs):=by
 refine⟨?_⟩;intro AN s σ H Q I h;obtain⟨H0,ρ,c,E,g,q⟩:=h;obtain⟨a,ea,g⟩:=AT g;obtain⟨b,eb,g⟩:=AT g;refine Subscript_ (jE (he.run AN s σ H (λx H1=>AV H H1/\aX X.K H1 a x) I ⟨H0,ρ,a,E,ea,λv H1 m N t=>⟨m,t⟩⟩) λv m ⟨x,H1,I1,t,sm1,BG⟩=>?_);refine wpAny_Slice ?_;rw[evalPart_none];refine zh ?_;refine zh ?_;rw[evalPart_some];refine jE (J.run AN m σ H1 (λy H2=>AV H1 H2/\aX X.K H2 b y) I1 ⟨H0,ρ,b,E.grow sm1,eb,λv H2 d M j=>⟨d,j⟩⟩) λvk d ⟨y,H2,I2,j,sm2,EG⟩=>?_;obtain⟨ds,D,rfl,rfl⟩:=nt g;have C:y=.int (-1):=by simpa only[aX,AW]using EG
 subst C;obtain⟨tk,rfl⟩:=j;obtain⟨p,vs,rfl,sq,L⟩:=(BG.same sm2).HB D;cases t;have l:L2.AU X AN σ H2 { d with heap:=d.heap.push { cls:=.type "slice",data:=.fields #[.none,.none,.int (-1) tk] } }:=I2.kept (t':=d.toks) λb F q=>ze _ q;obtain⟨AQ,r,B,u⟩:=l.list sq;show A7 (ri X) X.A (subscriptTail e (.Slice U U (Z st) p2) (.ref p) (.ref d.heap.objs.size)) (EP X AN σ Q) X.xe { d with heap:=d.heap.push { cls:=.type "slice",data:=.fields #[.none,.none,.int (-1) tk] } };refine tail_any (ops:=[.ref p,.ref d.heap.objs.size]) B.isList.typeIs list_getitem_lookup (wpAny_getItem_list_slice B.isList (Heap.IsSliceOf.new ..) .none .none (.int _ _) () ?_ (by rw[zI,<-r.length];exact u)) (G _ _);rw[PySem.W.krv_pick];have n:=l.hok.fresh (zk _);refine⟨.ref _,_,l.laid (t':=d.toks) (o:=.lst vs.reverse) (λb F q=>ze _ q) (zk _) ?_,rfl,q _ _ ((sm1.trans sm2).trans (bO n)) (λa z=>by cases z;exact(sm1.trans sm2).free n) ?_⟩
 ·exact⟨by rw[List.length_reverse];exact u,AQ.reverse,0,r.reverse,zw _ rfl⟩
 ·exact⟨_,_,rfl,aV,(aK.rev L).kp (.of (bO n))⟩
end
theorem ad{a b:Nat}(h:a≠b):@Ne A1 a b:=h
section
variable{K:Type} [DecidableEq K] {knd:KeyKind prog w K}
end
section
variable{ea eb:Expr}{p1 pos1 pos2:Pos}
end
theorem mz(xs:AZ)(is:O Nat)(e:closureFor scope X.env=pure cl:=by with_unfolding_all rfl)(c:scope.kind=.function:=by rfl)(d:scope.names.all (λy=>decide (y.2≠.cell)||(cl.lookup y.1).isNone)=true:=by rfl)(a:scope.names.all (λy=>decide (y.2=.local->scope.names.lookup y.1=Z .local))=true:=by decide +kernel)(sub:CB X.env.cells cl:=by repeat (first|exact trivial|refine⟨rfl,?_⟩))(has:(relabel scope X.env).names.all (λy=>!(y.2==.cell||y.2==.free)||(cl.lookup y.1).isSome||scope.names.contains (y.1,.cell))=true:=by rfl)(b:Mi X scope cl xs is:=by repeat (first|exact vS|refine cz S (by first|exact .inl rfl|exact .inr S) (by first|exact .inl rfl|exact .inr S) ⟨_,rfl⟩ ?_)):ur X scope cl xs is:=iN e c d a sub has b
theorem lK{a:Scope}(h1:a.kind=.function:=by rfl)(h2:a.isCoroutine=false:=by rfl)(c:a.isGenerator=false:=by rfl)(e:N.Nodup:=by decide +kernel)(d:N.take ps.length=ps:=by rfl)(f:∀x∈ps,a.names.lookup x=Z .local\/a.names.lookup x=Z .cell:=by decide +kernel)(b:∀y∈a.names,y.2≠.free:=by decide +kernel):bG N ps a:=⟨h1,h2,c,e,d,f,b⟩
instance:Inhabited Dt:=⟨.non⟩
theorem At(a:α)(f:α->Y β):(Z a).bind f=f a:=(kG a f).trans (Eq.refl _)
def hold:Y Prop->Prop
 |none=>True
 |some p=>p
def bA:Y Prop->Y Prop->Y Prop
 |none,q=>q
 |some p,U=>Z p
 |some p,Z q=>Z (p/\q)
def G5(c:Prop):Y Prop->Y Prop
 |none=>U
 |some p=>Z (c->p)
theorem aB{p q:Y Prop}(h:hold (bA p q)):hold p/\hold q:=by
 cases p with
 |none=>exact⟨trivial,h⟩
 |some p=>cases q with
  |none=>exact⟨h,trivial⟩
  |some q=>exact h
theorem lM{c:Prop}{p:Y Prop}(h:hold (G5 c p))(a:c):hold p:=by
 cases p with
 |none=>trivial
 |some p=>exact h a
structure R {α β:Type} (f:Ev->Option β) (ρ:Ev) (c:α->β) where
 v:α
 D:Option Prop
 ok:hold D->f ρ=some (c v)
abbrev zE(e:α->Dt):α->Bx:=λa=>.z (e a)
abbrev oE(e:α->Dt):O α->Bx:=λxs=>.o (xs.map e)
abbrev lE(e:α->Dt):O α->Bx:=λxs=>.l (xs.map e)
abbrev tE:Bool->Bool:=λb=>b
abbrev iE(e:α->Dt):O α->O Dt:=λxs=>xs.map e
abbrev eI:Int->Dt:=Dt.int
abbrev eB:Bool->Dt:=Dt.bl
abbrev eS:AJ->Dt:=Dt.str
abbrev eD:Dt->Dt:=λd=>d
abbrev eN:Unit->Dt:=λ_=>.non
abbrev eL(e:α->Dt):O α->Dt:=λxs=>.lst (xs.map e)
abbrev eT(e:α->Dt):O α->Dt:=λxs=>.tup (xs.map e)
abbrev eO(e:α->Dt):Y α->Dt:=λo=>match o with|none=>.non|some a=>e a
abbrev OC(a:α->Dt):α->Dt:=λx=>.tup [a x]
abbrev Zn(a:α->Dt)(b:β->Dt):α×β->Dt:=λx=>.tup [a x.1,b x.2]
abbrev DH(a:α->Dt)(b:β->Dt)(c:γ->Dt):α×β×γ->Dt:=λx=>.tup [a x.1,b x.2.1,c x.2.2]
abbrev DZ(a:α->Dt)(b:β->Dt)(c:γ->Dt)(d:δ->Dt):α×β×γ×δ->Dt:=λx=>.tup [a x.1,b x.2.1,c x.2.2.1,d x.2.2.2]
structure RL {α:Type} (f:Ev->Option Bx) (ρ:Ev) (e:α->Dt) where
 v:List α
 D:Option Prop
 b:Bx
 lk:qj b=some (v.map e)
 ok:hold D->f ρ=some b
section
variable{fc:Ev->Y Bx}{fs:Ev->Y (O Bx)}{e:α->Dt}{e':β->Dt}
def d7(a:R f ρ (oE e)):RL f ρ e:=⟨a.v,a.D,_,rfl,a.ok⟩
def iU(a:R f ρ (lE e)):RL f ρ e:=⟨a.v,a.D,_,rfl,a.ok⟩
def jt(a:R f ρ (zE (eL e))):RL f ρ e:=⟨a.v,a.D,_,rfl,a.ok⟩
def Lp(b:Bx)(ds:O Dt):Prop:=b=.z (.lst ds)\/b=.l ds
theorem Lp.HB(h:Lp b ds):qj b=Z ds:=by rcases h with rfl|rfl<;>rfl
theorem Lp.get{b:Bx}{ds:O Dt}{i:Nat}(h:Lp b ds)(hi:ρ[i]?=Z (Z b)):pW ρ i=Z b:=by
 rcases h with rfl|rfl<;>(unfold pW;rw[hi])
theorem lN(h:qj b=Z ds):Lp (P1.lend b) ds:=by
 cases b with
 |z d=>cases d<;>cases h;exact .inl rfl
 |l d=>cases h;exact .inr rfl
 |o d=>cases h;exact .inr rfl
 |n d=>cases h
 |m d _=>cases h
def ao(i:Nat)(c:α->Bx)(a:α)(h:pW ρ i=Z (c a)):R (gv i) ρ c:=⟨a,U,λ_=>h⟩
def gU(i:Nat)(e:α->Dt)(a:O α)(h:Lp b (a.map e))(hi:ρ[i]?=Z (Z b)):RL (gv i) ρ e:=⟨a,U,b,h.HB,λ_=>h.get hi⟩
def Cp(d:Dt)(e:α->Dt)(a:α)(h:d=e a):R (cB d) ρ (zE e):=⟨a,U,λ_=>by rw[h];rfl⟩
def PP(a:R f ρ (zE e)):R f ρ (zE eD):=⟨e a.v,a.D,a.ok⟩
def J1(a:R f ρ (zE e)):R f ρ (zE (eO e)):=⟨Z a.v,a.D,a.ok⟩
def QF:R (cB .non) ρ (zE (eO e)):=⟨U,U,λ_=>S⟩
def yc[Inhabited α](a:R f ρ (zE (eO e))):R f ρ (zE e):=⟨a.v.getD default,bA a.D (Z (a.v.isSome=true)),λh=>by
 obtain⟨h1,h2⟩:=aB h;rw[a.ok h1];have h2:a.v.isSome=true:=h2;cases b:a.v with
 |none=>rw[b]at h2;cases h2
 |some x=>rfl⟩
def yd(a:R f ρ (oE e)):R (b1 uY f) ρ (zE (eL e)):=⟨a.v,a.D,λh=>by simp only[b1,a.ok h,At,uY]⟩
def nq(a:R f ρ (zE e)):R (b1 uY f) ρ (zE e):=⟨a.v,a.D,λh=>by simp only[b1,a.ok h,At,uY]⟩
def lD(a:R fa ρ (zE eI))(b:R fb ρ (zE eI)):R (b2 gZ fa fb) ρ (zE eI):=⟨a.v+b.v,bA a.D b.D,λh=>by
 obtain⟨h1,h2⟩:=aB h;simp only[b2,a.ok h1,b.ok h2,At,gZ]⟩
def Zo(a:R fa ρ (zE eI))(b:R fb ρ (zE eI)):R (b2 C7 fa fb) ρ (zE eI):=⟨a.v-b.v,bA a.D b.D,λh=>by
 obtain⟨h1,h2⟩:=aB h;simp only[b2,a.ok h1,b.ok h2,At,i2]⟩
def Hm(a b:Int):Prop:=(-18446744073709551616<a/\a<18446744073709551616)\/(-18446744073709551616<b/\b<18446744073709551616)
def Pm(a:R fa ρ (zE eI))(b:R fb ρ (zE eI)):R (b2 Bu fa fb) ρ (zE eI):=⟨a.v*b.v,bA (bA a.D b.D) (Z (Hm a.v b.v)),λh=>by
 obtain⟨h,c⟩:=aB h;obtain⟨h1,h2⟩:=aB h;simp only[b2,a.ok h1,b.ok h2,At];exact zt c⟩
def Xh(n:Int)(a : -18446744073709551616<n/\n<18446744073709551616)(b:R fb ρ (zE eI)):R (b2 Bu (cB (.int n)) fb) ρ (zE eI):=⟨n*b.v,b.D,λh=>by
 simp only[b2,b.ok h,At,cB];exact zt (.inl a)⟩
def Zq(a:R fa ρ (zE eI))(n:Int)(b : -18446744073709551616<n/\n<18446744073709551616):R (b2 Bu fa (cB (.int n))) ρ (zE eI):=⟨a.v*n,a.D,λh=>by
 simp only[b2,a.ok h,At,cB];exact zt (.inr b)⟩
def Ij(a:R fa ρ (zE eI))(n:Int)(b:0<n/\n<1073741824):R (b2 Oa fa (cB (.int n))) ρ (zE eI):=⟨a.v / n,a.D,λh=>by
 simp only[b2,a.ok h,At,i2,cB,zt b]⟩
def Ur(a:R fa ρ (zE eI))(b:R fb ρ (zE eI)):R (b2 lZ fa fb) ρ (zE eI):=⟨a.v%b.v,bA (bA a.D b.D) (Z (0<b.v)),λh=>by
 obtain⟨h,c⟩:=aB h;obtain⟨h1,h2⟩:=aB h;have c:0<b.v:=c;simp only[b2,a.ok h1,b.ok h2,At,i2,zt c]⟩
def ig(a:R fa ρ (zE eI))(n:Int)(b:0<n):R (b2 lZ fa (cB (.int n))) ρ (zE eI):=⟨a.v%n,a.D,λh=>by
 simp only[b2,a.ok h,At,i2,cB,zt b]⟩
def ro(a b:Int)(n:Nat)(h:0<=b/\b<=1000/\a.natAbs<18446744073709551616)(hb:b.toNat=n):R (b2 IT (cB (.int a)) (cB (.int b))) ρ (zE eI):=⟨a ^ n,U,λ_=>by
 simp only[b2,At,cB];show((if 0<=b/\b<=1000/\a.natAbs<2 ^ 64 then Z (Dt.int (a ^ b.toNat))else U).bind λd=>Z (Bx.z d))=_;rw[zt h,hb];rfl⟩
def G'(a:R fa ρ (zE eI))(b:R fb ρ (zE eI)):R (b2 EV fa fb) ρ (zE eB):=⟨decide (b.v<a.v),bA a.D b.D,λh=>by
 obtain⟨h1,h2⟩:=aB h;simp only[b2,a.ok h1,b.ok h2,At,i2]⟩
def FB(a:R fa ρ (zE eI))(b:R fb ρ (zE eI)):R (b2 HM fa fb) ρ (zE eB):=⟨decide (b.v<=a.v),bA a.D b.D,λh=>by
 obtain⟨h1,h2⟩:=aB h;simp only[b2,a.ok h1,b.ok h2,At,i2]⟩
def Oy(a:R fa ρ (zE eI))(b:R fb ρ (zE eI)):R (b2 ER fa fb) ρ (zE eB):=⟨decide (a.v<b.v),bA a.D b.D,λh=>by
 obtain⟨h1,h2⟩:=aB h;simp only[b2,a.ok h1,b.ok h2,At,ER]⟩
def Gi(x y:AJ):Bool:=decide (x.cps.toList<y.cps.toList)
end
class B8 {α:Type} [DecidableEq α] (e:α->Dt) (n:outParam Nat):Prop where
 eq:∀a b,GZ (e a) (e b)=some (decide (a=b))
 dp:∀a,Br (e a)<=n
class Ch {α:Type} (e:α->Dt):Prop where
 l:∀a,GZ .non (e a)=some false
 r:∀a,GZ (e a) .non=some false
instance:B8 eI 1:=⟨λa b=>rfl,λa=>by simp[Br]⟩
instance:B8 eB 1:=⟨λa b=>rfl,λa=>by simp[Br]⟩
instance:B8 eS 1:=⟨λa b=>rfl,λa=>by simp[Br]⟩
instance:Ch eI:=⟨λa=>rfl,λa=>rfl⟩
instance:Ch eB:=⟨λa=>rfl,λa=>rfl⟩
instance:Ch eS:=⟨λa=>rfl,λa=>rfl⟩
section
variable [DecidableEq α] [DecidableEq β] [DecidableEq γ] [DecidableEq δ] {e:α->Dt}{e':β->Dt}{e'':γ->Dt}{e3:δ->Dt}{m k l:Nat}
theorem J2[B8 e n]:∀xs ys:O α,oG (xs.map e) (ys.map e)=Z (decide (xs=ys))
 |[],[]=>by simp[oG]
 |[],y::ys=>by simp[oG]
 |x::xs,[]=>by simp[oG]
 |x::xs,y::ys=>by
  simp only[zo,oG,B8.eq,J2 xs ys];congr 1;by_cases h:x=y<;>by_cases h':xs=ys<;>simp[h,h']
theorem J3[B8 e n]:∀xs:O α,Bt (xs.map e)<=n
 |[]=>by simp[Bt]
 |x::xs=>by
  have:=B8.dp (e:=e) x;have:=J3 xs;simp only[zo,Bt];omega
instance [B8 e n]:B8 (eL e) (n+1):=⟨λa b=>J2 a b,λa=>by simp only[Br];have:=J3 (e:=e) a;omega⟩
instance [B8 e n]:B8 (eT e) (n+1):=⟨λa b=>J2 a b,λa=>by simp only[Br];have:=J3 (e:=e) a;omega⟩
instance:Ch (eL e):=⟨λa=>rfl,λa=>rfl⟩
instance:Ch (eT e):=⟨λa=>rfl,λa=>rfl⟩
instance:Ch (OC e):=⟨λa=>rfl,λa=>rfl⟩
instance:Ch (Zn e e'):=⟨λa=>rfl,λa=>rfl⟩
instance:Ch (DH e e' e''):=⟨λa=>rfl,λa=>rfl⟩
instance:Ch (DZ e e' e'' e3):=⟨λa=>rfl,λa=>rfl⟩
instance [B8 e n]:B8 (OC e) (n+1):=⟨λa b=>by
 simp only[HN,oG,B8.eq,ya],λa=>by
 have:=B8.dp (e:=e) a;simp only[Br,Bt];omega⟩
theorem F3{a b:Nat}(h:a<=n)(h':b<=m):max a b<=max n m:=Nat.max_le.mpr ⟨Zs h (Nat.le_max_left ..),Zs h' (Nat.le_max_right ..)⟩
theorem IE{a:Nat}(h:a<=n):max a 0<=n:=Nat.max_le.mpr ⟨h,QP _⟩
instance [B8 e n] [B8 e' m]:B8 (Zn e e') (max n m+1):=⟨λa b=>by
 obtain⟨a,a'⟩:=a;obtain⟨b,b'⟩:=b;simp only[HN,oG,B8.eq,Prod.mk.injEq,lr,ya],λa=>YY (F3 (B8.dp (e:=e) a.1) (IE (B8.dp (e:=e') a.2)))⟩
instance [B8 e n] [B8 e' m] [B8 e'' k]:B8 (DH e e' e'') (max n (max m k)+1):=⟨λa b=>by
 obtain⟨a,a',a2⟩:=a;obtain⟨b,b',b2⟩:=b;simp only[HN,oG,B8.eq,Prod.mk.injEq,lr,ya],λa=>YY (F3 (B8.dp (e:=e) a.1) (F3 (B8.dp (e:=e') a.2.1) (IE (B8.dp (e:=e'') a.2.2))))⟩
instance [B8 e n] [B8 e' m] [B8 e'' k] [B8 e3 l]:B8 (DZ e e' e'' e3) (max n (max m (max k l))+1):=⟨λa b=>by
 obtain⟨a,a',a2,a3⟩:=a;obtain⟨b,b',b2,b3⟩:=b;simp only[HN,oG,B8.eq,Prod.mk.injEq,lr,ya],λa=>YY (F3 (B8.dp (e:=e) a.1) (F3 (B8.dp (e:=e') a.2.1) (F3 (B8.dp (e:=e'') a.2.2.1) (IE (B8.dp (e:=e3) a.2.2.2)))))⟩
instance [B8 e n] [Ch e]:B8 (eO e) (n+1):=⟨λa b=>by
 cases a with
 |none=>cases b with
  |none=>exact rfl
  |some b=>exact(Ch.l (e:=e) b).trans (by simp)
 |some a=>cases b with
  |none=>exact(Ch.r (e:=e) a).trans (by simp)
  |some b=>exact(B8.eq (e:=e) a b).trans (by simp),λa=>by
 cases a with
 |none=>show Br .non<=n+1;simp[Br]
 |some a=>exact Nat.le_succ_of_le (B8.dp (e:=e) a)⟩
end
section
variable{fc:Ev->Y Bx}{fs:Ev->Y (O Bx)}{e:α->Dt}{e':β->Dt}
def BU[DecidableEq α][B8 e n](c:n<=100)(a:R fa ρ (zE e))(b:R fb ρ (zE e)):R (b2 Bn fa fb) ρ (zE eB):=⟨decide (a.v=b.v),bA a.D b.D,λh=>by
 obtain⟨h1,h2⟩:=aB h;have:=B8.dp (e:=e) a.v;simp only[b2,a.ok h1,b.ok h2,At,Bn,oH,toD,zr,or_self,ZU,B8.eq];rw[zt ()]⟩
def Xi[DecidableEq α][B8 e n](c:n<=100)(a:R fa ρ (zE e))(b:R fb ρ (zE e)):R (b2 V6 fa fb) ρ (zE eB):=⟨!decide (a.v=b.v),bA a.D b.D,λh=>by
 obtain⟨h1,h2⟩:=aB h;have:=B8.dp (e:=e) a.v;simp only[b2,a.ok h1,b.ok h2,At,V6,oH,toD,zr,or_self,ZU,B8.eq];rw[zt ()]⟩
theorem qO(h:qj b=Z ds):toD b=.lst ds/\oH b=false:=by
 cases b with
 |z d=>cases d<;>cases h;exact⟨rfl,rfl⟩
 |l d=>cases h;exact⟨rfl,rfl⟩
 |o d=>cases h;exact⟨rfl,rfl⟩
 |n d=>cases h
 |m d _=>cases h
def IF[DecidableEq α][B8 e n](c:n+1<=100)(a:RL fa ρ e)(b:RL fb ρ e):R (b2 Bn fa fb) ρ (zE eB):=⟨decide (a.v=b.v),bA a.D b.D,λh=>by
 obtain⟨h1,h2⟩:=aB h;have:=B8.dp (e:=eL e) a.v;simp only[b2,a.ok h1,b.ok h2,At,Bn,(qO a.lk).1,(qO a.lk).2,(qO b.lk).1,(qO b.lk).2,zr,or_self,ZU];have e1:=B8.eq (e:=eL e) a.v b.v;rw[zt (Zs (Nat.min_le_left _ _) (Zs (B8.dp (e:=eL e) a.v) c)),e1,At]⟩
def Zr[DecidableEq α][B8 e n](c:n+1<=100)(a:RL fa ρ e)(b:RL fb ρ e):R (b2 V6 fa fb) ρ (zE eB):=⟨!decide (a.v=b.v),bA a.D b.D,λh=>by
 obtain⟨h1,h2⟩:=aB h;simp only[b2,a.ok h1,b.ok h2,At,V6,(qO a.lk).1,(qO a.lk).2,(qO b.lk).1,(qO b.lk).2,zr,or_self,ZU];have e1:=B8.eq (e:=eL e) a.v b.v;rw[zt (Zs (Nat.min_le_left _ _) (Zs (B8.dp (e:=eL e) a.v) c)),e1,At]⟩
def rn(a:R fa ρ (zE (eO e)))(b:∀x,Ju (.z (e x))=false):R (b2 Dx fa (cB .non)) ρ (zE eB):=⟨a.v.isNone,a.D,λh=>by
 simp only[b2,a.ok h,At,cB,Dx];cases c:a.v with
 |none=>rfl
 |some x=>simp only[Option.isNone_some,b]⟩
def QG(a:R fa ρ (zE (eO e)))(b:∀x,Ju (.z (e x))=false):R (b2 Jv fa (cB .non)) ρ (zE eB):=⟨a.v.isSome,a.D,λh=>by
 simp only[b2,a.ok h,At,cB,Jv];cases c:a.v with
 |none=>rfl
 |some x=>simp only[y8,b,Kx]⟩
def LA(a:R fa ρ (zE eB))(b:R fb ρ (zE eB)):R (Qc fa fb) ρ (zE eB):=⟨a.v&&b.v,bA a.D (G5 (a.v=true) b.D),λh=>by
 obtain⟨h1,h2⟩:=aB h;simp only[Qc,a.ok h1,At,Qa];cases c:a.v with
 |true=>simp only[QU,ix];exact b.ok (lM h2 c)
 |false=>simp only[zr,ZU,yT]⟩
def oT(a:R fa ρ (zE eB)):R (GG fa) ρ (zE eB):=⟨!a.v,a.D,λh=>by simp only[GG,a.ok h,At,Qa]⟩
def Us(a:R fa ρ (zE eB)):R (tV fa) ρ tE:=⟨a.v,a.D,λh=>by simp only[tV,a.ok h,At,F0]⟩
def bq(a:R fa ρ (zE (eT e))):R (tV fa) ρ tE:=⟨!a.v.isEmpty,a.D,λh=>by
 simp only[tV,a.ok h,At,F0,ph]⟩
def Pv(a:RL fa ρ e):R (tV fa) ρ tE:=⟨!a.v.isEmpty,a.D,λh=>by
 have:F0 a.b=Z (!(a.v.map e).isEmpty):=by
  have:=a.lk;generalize a.v.map e=ds at this
  revert this
  generalize a.b=b;intro this;cases b with
  |z d=>cases d<;>cases this;rfl
  |l d=>cases this;rfl
  |o d=>cases this;rfl
  |n d=>cases this
  |m d _=>cases this
 simp only[tV,a.ok h,At,this,ph]⟩
def cI{g:Bx->Bx->Y Bx}(a:R (b2 g fa fb) ρ (zE eB)):R (rZ g fa fb) ρ tE:=⟨a.v,a.D,λh=>by simp only[rZ,a.ok h,At,Qa]⟩
def J4(a:R p ρ tE)(b:R q ρ tE):R (Sy p q) ρ tE:=⟨a.v&&b.v,bA a.D (G5 (a.v=true) b.D),λh=>by
 obtain⟨h1,h2⟩:=aB h;simp only[Sy,a.ok h1,At];cases c:a.v with
 |true=>simp only[QU,ix];exact b.ok (lM h2 c)
 |false=>simp only[zr,ZU,yT]⟩
def J5(a:R p ρ tE)(b:R q ρ tE):R (Wo p q) ρ tE:=⟨a.v||b.v,bA a.D (G5 (a.v=false) b.D),λh=>by
 obtain⟨h1,h2⟩:=aB h;simp only[Wo,a.ok h1,At];cases c:a.v with
 |true=>simp only[QU,Bool.true_or]
 |false=>simp only[zr,ZU,il];exact b.ok (lM h2 c)⟩
def Gj(a:R p ρ tE):R (Jj p) ρ tE:=⟨!a.v,a.D,λh=>by simp only[Jj,a.ok h,At]⟩
def TD{c:α->Bx}(t:R p ρ tE)(a:R fa ρ c)(b:R fb ρ c):R (HC p fa fb) ρ c:=⟨if t.v=true then a.v else b.v,bA t.D (bA (G5 (t.v=true) a.D) (G5 (t.v=false) b.D)),λh=>by
 obtain⟨h1,h2⟩:=aB h;obtain⟨h2,e⟩:=aB h2;simp only[HC,t.ok h1,At];cases d:t.v with
 |true=>simp only[QU];exact a.ok (lM h2 d)
 |false=>simp only[zr,ZU];exact b.ok (lM e d)⟩
end
section
variable{ε:Type}{fc fd:Ev->Y Bx}{fs:Ev->Y (O Bx)}{e:α->Dt}{e':β->Dt}{e'':γ->Dt}{e3:δ->Dt}
def OR(a:R fa ρ (zE e))(b:R fb ρ (zE e')):R (cN qL (aq fa (aq fb aG))) ρ (zE (Zn e e')):=⟨(a.v,b.v),bA a.D b.D,λh=>by
 obtain⟨h1,h2⟩:=aB h;simp only[cN,aq,aG,a.ok h1,b.ok h2,At];rfl⟩
def J6(a:R fa ρ (zE e))(b:R fb ρ (zE e'))(c:R fc ρ (zE e'')):R (cN qL (aq fa (aq fb (aq fc aG)))) ρ (zE (DH e e' e'')):=⟨(a.v,b.v,c.v),bA a.D (bA b.D c.D),λh=>by
 obtain⟨h1,h⟩:=aB h;obtain⟨h2,d⟩:=aB h;simp only[cN,aq,aG,a.ok h1,b.ok h2,c.ok d,At];rfl⟩
def RY(a:R fa ρ (zE e))(b:R fb ρ (zE e'))(c:R fc ρ (zE e''))(d:R fd ρ (zE e3)):R (cN qL (aq fa (aq fb (aq fc (aq fd aG))))) ρ (zE (DZ e e' e'' e3)):=⟨(a.v,b.v,c.v,d.v),bA a.D (bA b.D (bA c.D d.D)),λh=>by
 obtain⟨h1,h⟩:=aB h;obtain⟨h2,h⟩:=aB h;obtain⟨f,g⟩:=aB h;simp only[cN,aq,aG,a.ok h1,b.ok h2,c.ok f,d.ok g,At];rfl⟩
def eX(e:α->Dt):R aG ρ (λxs:O α=>xs.map (zE e)):=⟨[],U,λ_=>S⟩
def dY(a:R fa ρ (zE e))(t:R fs ρ (λxs:O α=>xs.map (zE e))):R (aq fa fs) ρ (λxs:O α=>xs.map (zE e)):=⟨a.v::t.v,bA a.D t.D,λh=>by
 obtain⟨h1,h2⟩:=aB h;simp only[aq,a.ok h1,t.ok h2,At,zo]⟩
theorem J7:∀xs:O α,Qd (xs.map (zE e))=Z (xs.map e)
 |[]=>rfl
 |x::xs=>by simp only[zo,Qd,J7 xs,At]
def ji(t:R fs ρ (λxs:O α=>xs.map (zE e)))(a:t.v.length<=1000):R (cN jZ fs) ρ (oE e):=⟨t.v,t.D,λh=>by
 simp only[cN,t.ok h,At,jZ,zl,zt a,J7]⟩
def Lm(t:R fs ρ (λxs:O α=>xs.map (zE e)))(a:t.v.length<=1000):R (cN qL fs) ρ (zE (eT e)):=⟨t.v,t.D,λh=>by
 simp only[cN,t.ok h,At,qL,zl,zt a,J7]⟩
def at'[Inhabited α](xs:O α)(i:Int):α:=(Ma xs i).getD default
def In(n:Nat)(i:Int):Prop:=-(n:Int)<=i/\i<n
theorem QH{xs:O α}{i:Int}(h:In xs.length i):∃x,Ma xs i=Z x:=by
 obtain⟨h1,h2⟩:=h;unfold Ma ES;by_cases h0:0<=i
 ·rw[zt h0,zt h2];exact⟨xs[i.toNat]'(),Zp ()⟩
 ·rw[zD h0,zt h1];exact⟨xs[(i+xs.length).toNat]'(),Zp ()⟩
theorem S0{xs:O α}{i:Int}{x:α}(h:Ma xs i=Z x):Ma (xs.map e) i=Z (e x):=by
 unfold Ma at h ⊢;rw[zl];obtain⟨j,a,h⟩:=AT h;rw[a,At,ZE,h];rfl
theorem pz[Inhabited α]{xs:O α}{i:Int}(h:In xs.length i):Ma (xs.map e) i=Z (e (at' xs i)):=by
 obtain⟨x,hx⟩:=QH h;rw[S0 hx];unfold at';rw[hx];rfl
theorem g0{i:Int}(h:qj b=Z ds):jD b (.z (.int i))=(Ma ds i).bind λd=>Z (.z d):=by
 cases b with
 |z d=>cases d<;>cases h;rfl
 |l d=>cases h;rfl
 |o d=>cases h;rfl
 |n d=>cases h
 |m d _=>cases h
def lF[Inhabited α](a:RL fa ρ e)(b:R fb ρ (zE eI)):R (b2 jD fa fb) ρ (zE e):=⟨at' a.v b.v,bA (bA a.D b.D) (Z (In a.v.length b.v)),λh=>by
 obtain⟨h,c⟩:=aB h;obtain⟨h1,h2⟩:=aB h;simp only[b2,a.ok h1,b.ok h2,At,g0 a.lk,pz (show In a.v.length b.v from c)]⟩
def ch(x:AJ)(i:Int):AJ:=⟨#[(Ma x.cps.toList i).getD 0]⟩
def IY(a:R fa ρ (zE eS))(b:R fb ρ (zE eI)):R (b2 jD fa fb) ρ (zE eS):=⟨ch a.v b.v,bA (bA a.D b.D) (Z (In a.v.length b.v)),λh=>by
 obtain⟨h,c⟩:=aB h;obtain⟨h1,h2⟩:=aB h;obtain⟨x,hx⟩:=QH (xs:=a.v.cps.toList) (i:=b.v) (show In a.v.length b.v from c);simp only[b2,a.ok h1,b.ok h2,At,jD,hx,ch,Option.getD_some]⟩
def gW(a:R fa ρ (zE e))(g:α->β)(e':β->Dt)(i:Int)(h:∀x,jD (.z (e x)) (.z (.int i))=Z (.z (e' (g x)))):R (b2 jD fa (cB (.int i))) ρ (zE e'):=⟨g a.v,a.D,λhd=>by
 simp only[b2,a.ok hd,At,cB,h]⟩
def yg(a:R fa ρ (zE e))(g:α->β)(e':β->Dt)(i:Int)(h:∀x,jD (.z (e x)) (.z (.int (-i)))=Z (.z (e' (g x)))):R (b2 jD fa (b1 Qj (cB (.int i)))) ρ (zE e'):=⟨g a.v,a.D,λhd=>by
 simp only[b2,b1,a.ok hd,At,cB,Qj,h]⟩
def BM(xs:O α)(lo hi:Y Int):O α:=(xs.drop (HT.jK xs.length 0 lo)).take (HT.jK xs.length xs.length hi-HT.jK xs.length 0 lo)
theorem S2(xs:O α)(lo hi:Y Int):C1 (xs.map e) lo hi=(BM xs lo hi).map e:=by
 unfold C1 BM;rw[zl,List.map_take,List.map_drop]
abbrev pE:Y Int->Y Int:=λo=>o
def Xj:R oJ ρ pE:=⟨U,U,λ_=>S⟩
def Xk(a:R fa ρ (zE eI)):R (tH fa) ρ pE:=⟨Z a.v,a.D,λh=>by simp only[tH,a.ok h,At,LB]⟩
variable{fl fh:Ev->Y (Y Int)}
theorem mx(h:qj b=Z ds):Ee b lo hi=Z (.o (C1 ds lo hi)):=by
 cases b with
 |z d=>cases d<;>cases h;rfl
 |l d=>cases h;rfl
 |o d=>cases h;rfl
 |n d=>cases h
 |m d _=>cases h
def G0(a:RL fa ρ e)(l:R fl ρ pE)(u:R fh ρ pE):R (R3 fa fl fh) ρ (oE e):=⟨BM a.v l.v u.v,bA a.D (bA l.D u.D),λh=>by
 obtain⟨h1,h⟩:=aB h;obtain⟨h2,b⟩:=aB h;simp only[R3,a.ok h1,l.ok h2,u.ok b,At,mx a.lk,S2]⟩
def Pe(a:R fa ρ (zE eS))(l:R fl ρ pE)(u:R fh ρ pE):R (R3 fa fl fh) ρ (zE eS):=⟨Txt.slice a.v l.v u.v,bA a.D (bA l.D u.D),λh=>by
 obtain⟨h1,h⟩:=aB h;obtain⟨h2,b⟩:=aB h;simp only[R3,a.ok h1,l.ok h2,u.ok b,At,Ee]⟩
def Ar(n:Nat):Prop:=n<=1000000
def Nd(a:R fa ρ (zE eS))(b:R fb ρ (zE eS)):R (b2 gZ fa fb) ρ (zE eS):=⟨a.v++b.v,bA (bA a.D b.D) (Z (Ar (a.v.length+b.v.length))),λh=>by
 obtain⟨h,c⟩:=aB h;obtain⟨h1,h2⟩:=aB h;simp only[b2,a.ok h1,b.ok h2,At,gZ,zt (show a.v.length+b.v.length<=WD from c)]⟩
def hX(a:R fa ρ (zE (eT e)))(b:R fb ρ (zE (eT e))):R (b2 gZ fa fb) ρ (zE (eT e)):=⟨a.v++b.v,bA (bA a.D b.D) (Z (Ar (a.v.length+b.v.length))),λh=>by
 obtain⟨h,c⟩:=aB h;obtain⟨h1,h2⟩:=aB h;simp only[b2,a.ok h1,b.ok h2,At,gZ,zl,zt (show a.v.length+b.v.length<=WD from c),zE,eT,qh]⟩
theorem Sz{e:Bx}{f:O Dt}(h:qj b=Z ds)(h':qj e=Z f)(c:ds.length+f.length<=WD):gZ b e=Z (.o (ds++f)):=by
 cases b with
 |z d=>
  cases d<;>cases h;cases e with
  |z a=>cases a<;>cases h';exact zt c
  |l a=>cases h';exact zt c
  |o a=>cases h';exact zt c
  |n a=>cases h'
  |m a=>cases h'
 |l d=>
  cases h;cases e with
  |z a=>cases a<;>cases h';exact zt c
  |l a=>cases h';exact zt c
  |o a=>cases h';exact zt c
  |n a=>cases h'
  |m a=>cases h'
 |o d=>
  cases h;cases e with
  |z a=>cases a<;>cases h';exact zt c
  |l a=>cases h';exact zt c
  |o a=>cases h';exact zt c
  |n a=>cases h'
  |m a=>cases h'
 |n d=>cases h
 |m d _=>cases h
def vC(a:RL fa ρ e)(b:RL fb ρ e):R (b2 gZ fa fb) ρ (oE e):=⟨a.v++b.v,bA (bA a.D b.D) (Z (Ar (a.v.length+b.v.length))),λh=>by
 obtain⟨h,c⟩:=aB h;obtain⟨h1,h2⟩:=aB h;simp only[b2,a.ok h1,b.ok h2,At];rw[Sz a.lk b.lk (by rw[zl,zl];exact c)];simp only[oE,qh]⟩
def lP(a:R fa ρ (zE eS))(b:R fb ρ (zE eI)):R (b2 Bu fa fb) ρ (zE eS):=⟨Txt.mul a.v b.v,bA (bA a.D b.D) (Z (b.v<=1000 ∧ -1000<=b.v/\a.v.length<=1000)),λh=>by
 obtain⟨h,c⟩:=aB h;obtain⟨h1,h2⟩:=aB h;simp only[b2,a.ok h1,b.ok h2,At];exact zt c⟩
theorem X'(h:qj b=Z ds):u6 [b]=Z (.z (.int ds.length)):=by
 cases b with
 |z d=>cases d<;>cases h;rfl
 |l d=>cases h;rfl
 |o d=>cases h;rfl
 |n d=>cases h
 |m d _=>cases h
theorem TW(h:qj b=Z ds):wY b=Z ds:=by
 cases b with
 |z d=>cases d<;>cases h;rfl
 |l d=>cases h;rfl
 |o d=>cases h;rfl
 |n d=>cases h
 |m d _=>cases h
def D5(a:RL fa ρ e):R (cN u6 (aq fa aG)) ρ (zE eI):=⟨(a.v.length:Int),a.D,λh=>by
 simp only[cN,aq,aG,a.ok h,At,X' a.lk,zl]⟩
def Xl(a:R fa ρ (zE (eT e))):R (cN u6 (aq fa aG)) ρ (zE eI):=⟨(a.v.length:Int),a.D,λh=>by
 simp only[cN,aq,aG,a.ok h,At,u6,wY,zl]⟩
def g5(a:R fa ρ (zE eS)):R (cN u6 (aq fa aG)) ρ (zE eI):=⟨(a.v.length:Int),a.D,λh=>by
 simp only[cN,aq,aG,a.ok h,At,u6]⟩
def qP(a:RL fa ρ e):R (cN mj (aq fa aG)) ρ (zE (eT e)):=⟨a.v,a.D,λh=>by
 simp only[cN,aq,aG,a.ok h,At,mj,TW a.lk]⟩
def ng(a:R fa ρ (zE (eT e))):R (cN Tn (aq fa aG)) ρ (oE e):=⟨a.v,a.D,λh=>by
 simp only[cN,aq,aG,a.ok h,At,Tn,wY]⟩
def vT(a:R fa ρ (zE eI)):R (cN Fs (aq fa aG)) ρ (zE eI):=⟨if a.v<0 then -a.v else a.v,a.D,λh=>by
 simp only[cN,aq,aG,a.ok h,At,Fs]⟩
def bu(a:R fa ρ (zE eB)):R (cN Fh (aq fa aG)) ρ (zE eI):=⟨if a.v=true then 1 else 0,a.D,λh=>by
 simp only[cN,aq,aG,a.ok h,At,Fh]⟩
theorem Ox:∀l:O Bool,Od (l.map eB)=Z l
 |[]=>rfl
 |a::l=>by simp only[zo,Od,Ox l,At]
def OF(a:RL fa ρ eB):R (cN CS (aq fa aG)) ρ (zE eB):=⟨a.v.all id,a.D,λh=>by
 simp only[cN,aq,aG,a.ok h,At,CS,a.lk,Ox]⟩
def J8(a:R fa ρ (zE eI))(b:R fb ρ (zE eI)):R (cN Jy (aq fa (aq fb aG))) ρ (zE eI):=⟨if b.v>a.v then b.v else a.v,bA a.D b.D,λh=>by
 obtain⟨h1,h2⟩:=aB h;simp only[cN,aq,aG,a.ok h1,b.ok h2,At,Jy]⟩
def Mk(a:R fa ρ (zE eI))(b:R fb ρ (zE eI)):R (cN EX (aq fa (aq fb aG))) ρ (zE eI):=⟨if b.v<a.v then b.v else a.v,bA a.D b.D,λh=>by
 obtain⟨h1,h2⟩:=aB h;simp only[cN,aq,aG,a.ok h1,b.ok h2,At,EX]⟩
def Zt(P:Dt->Bool)(a:R fa ρ (zE e)):R (BK P fa) ρ (zE eB):=⟨P (e a.v),a.D,λh=>by
 simp only[BK,b1,a.ok h,At,oH,toD,zr,ZU]⟩
def X2(P:Dt->Bool)(a:RL fa ρ e)(k:Bool)(b:∀ds,P (.lst ds)=k):R (BK P fa) ρ (zE eB):=⟨k,a.D,λh=>by
 simp only[BK,b1,a.ok h,At,qO a.lk,zr,ZU,b]⟩
theorem BO:∀l:AZ,FW (l.map eS)=Z l
 |[]=>rfl
 |a::l=>by simp only[zo,FW,BO l,At]
def aT(s:AJ)(a:RL fa ρ eS):R (b1 (Tt s) fa) ρ (zE eS):=⟨Txt.join s a.v,bA a.D (Z ((a.v.map (·.length)).sum+a.v.length*s.length<=100000)),λh=>by
 obtain⟨h,b⟩:=aB h;simp only[b1,a.ok h,At,Tt,a.lk,BO];exact zt b⟩
def Ik(a:RL fa ρ eS):R (cN FZ (aq fa aG)) ρ (oE eS):=⟨iT a.v,bA a.D (Z (a.v.length<64)),λh=>by
 obtain⟨h,b⟩:=aB h;simp only[cN,aq,aG,a.ok h,At,FZ,a.lk,BO];exact zt b⟩
def ln(a:R fa ρ (zE e))(g:α->β)(e':β->Dt)(lo hi:Y Int)(c:fl ρ=Z lo)(b:fh ρ=Z hi)(h:∀x,Ee (.z (e x)) lo hi=Z (.z (e' (g x)))):R (R3 fa fl fh) ρ (zE e'):=⟨g a.v,a.D,λhd=>by
 simp only[R3,a.ok hd,c,b,At,h]⟩
def F2:Dt->Int
 |.int i=>i
 |_=>0
def To(a:R f ρ (zE eD))(g:Dt->α)(e:α->Dt):R f ρ (zE e):=⟨g a.v,bA a.D (Z (a.v=e (g a.v))),λhd=>by
 obtain⟨h1,h2⟩:=aB hd;have h2:a.v=e (g a.v):=h2;rw[a.ok h1];show Z (Bx.z a.v)=Z (Bx.z (e (g a.v)));rw[<-h2]⟩
class C4 {α:Type} (e:α->Dt):Prop where
 f:∀a,Bv (e a)=true
instance:C4 eI:=⟨λ_=>rfl⟩
instance:C4 eB:=⟨λ_=>rfl⟩
instance:C4 eS:=⟨λ_=>rfl⟩
theorem Ut[DecidableEq α][B8 e n][C4 e](x:α)(ys:O α):CH (e x) (ys.map e)=Z (decide (x∈ys)):=by
 unfold CH;rw[zt ⟨C4.f x,by rw[kE];exact List.all_eq_true.mpr λy _=>C4.f y⟩,k4];congr 1;rw[JJ,kz,decide_eq_true_iff];constructor
 ·rintro⟨y,a,h⟩;simp only[Function.comp,B8.eq]at h;by_cases e1:y=x
  ·rw[<-e1];exact a
  ·simp only[e1,KA]at h;cases h
 ·intro h;exact⟨x,h,by simp only[Function.comp,B8.eq,yb]⟩
theorem mN(h:qj b=Z ds):FG (.z d) b=CH d ds:=by
 cases b with
 |z a=>cases a<;>cases h;cases d<;>rfl
 |l a=>cases h;cases d<;>rfl
 |o a=>cases h;cases d<;>rfl
 |n a=>cases h
 |m a=>cases h
theorem V':FG (.z d) (.z (.tup ds))=CH d ds:=by cases d<;>rfl
def Ha[DecidableEq α][B8 e n][C4 e](a:R fa ρ (zE e))(b:RL fb ρ e):R (b2 Cs fa fb) ρ (zE eB):=⟨decide (a.v∈b.v),bA a.D b.D,λh=>by
 obtain⟨h1,h2⟩:=aB h;simp only[b2,a.ok h1,b.ok h2,At,Cs,mN b.lk,Ut]⟩
def yj[DecidableEq α][B8 e n][C4 e](a:R fa ρ (zE e))(b:R fb ρ (zE (eT e))):R (b2 Cs fa fb) ρ (zE eB):=⟨decide (a.v∈b.v),bA a.D b.D,λh=>by
 obtain⟨h1,h2⟩:=aB h;simp only[b2,a.ok h1,b.ok h2,At,Cs,V',Ut]⟩
end
structure AR {γ:Type} (cA:γ->List Bx->Prop) (fs:Ev->Option (List Bx)) (ρ:Ev) where
 v:γ
 D:Option Prop
 bs:List Bx
 h:cA v bs
 ok:hold D->fs ρ=some bs
section
variable{ε σ:Type}{fc fd:Ev->Y Bx}{fs:Ev->Y (O Bx)}{e:α->Dt}{e':β->Dt}{e'':γ->Dt}{e3:δ->Dt}
def aN:Unit->O Bx->Prop:=λ_ bs=>bs=[]
def aZ(e:α->Dt)(t:γ->O Bx->Prop):α×γ->O Bx->Prop:=λx bs=>∃r,bs=.z (e x.1)::r/\t x.2 r
def aL(e:α->Dt)(t:γ->O Bx->Prop):O α×γ->O Bx->Prop:=λx bs=>∃b r,bs=b::r/\qj b=Z (x.1.map e)/\t x.2 r
def aW:AR aN aG ρ:=⟨r9,U,[],rfl,λ_=>S⟩
def cJ{t:γ->O Bx->Prop}(a:R fa ρ (zE e))(r:AR t fs ρ):AR (aZ e t) (aq fa fs) ρ:=⟨(a.v,r.v),bA a.D r.D,_,⟨_,rfl,r.h⟩,λh=>by
 obtain⟨h1,h2⟩:=aB h;simp only[aq,a.ok h1,r.ok h2,At]⟩
def oO{t:γ->O Bx->Prop}(a:RL fa ρ e)(r:AR t fs ρ):AR (aL e t) (aq fa fs) ρ:=⟨(a.v,r.v),bA a.D r.D,_,⟨_,_,rfl,a.lk,r.h⟩,λh=>by
 obtain⟨h1,h2⟩:=aB h;simp only[aq,a.ok h1,r.ok h2,At]⟩
def An{b:γ->O Bx->Prop}{F:O Bx->Y Bx}{c:α->Bx}{T:γ->α}{d:γ->Y Prop}(S:∀v bs,b v bs->bs.length=n/\(hold (d v)->F (bs.map lend)=Z (c (T v))))(a:AR b fs ρ):R (bH n F fs) ρ c:=⟨T a.v,bA a.D (d a.v),λh=>by
 obtain⟨h1,h2⟩:=aB h;obtain⟨e,f⟩:=S a.v a.bs a.h;simp only[bH,a.ok h1,At,zt e,f h2]⟩
theorem On{bs:O Bx}{c:α->Bx}(x:R g (bs.map Z++bb (n-bs.length) U) (λr=>Ap.rt (c r)))(h:hold x.D):dN n g bs=Z (c x.v):=by
 unfold dN;rw[x.ok h];rfl
def HK(xs:O α)(P:α->Y Prop):Y Prop:=Z (∀x∈xs,hold (P x))
theorem J9{fs:Ev->Y (O Dt)}{b:Ev}{g:α->O Dt}{π:α->Bool}:∀xs:O α,(∀x∈xs,∃a,gt (e x) b=Z a/\p a=Z (π x)/\(π x=true->fs a=Z (g x)))->Ea gt p fs b (xs.map e)=Z ((xs.filter π).flatMap g)
 |[],_=>rfl
 |x::xs,h=>by
  obtain⟨a,h1,h2,d⟩:=h x (zg ..);have c:=J9 (g:=g) (π:=π) xs λy f=>h y (zi _ f);cases hp:π x with
  |true=>simp only[zo,Ea,h1,At,h2,hp,QU,d hp,c,pL,JA]
  |false=>simp only[zo,Ea,h1,At,h2,hp,c,pL,zr,ZU]
theorem Uu{g:α->β}:∀xs:O α,xs.flatMap (λx=>[e' (g x)])=(xs.map g).map e'
 |[]=>rfl
 |x::xs=>by rw[JA,Uu xs];rfl
theorem Ka{b:Ev}{g:α->β}{π:α->Bool}(xs:O α)(h:∀x∈xs,∃a,gt (e x) b=Z a/\p a=Z (π x)/\(π x=true->fe a=Z (.z (e' (g x))))):FN gt p fe b (xs.map e)=Z (((xs.filter π).map g).map e'):=by
 rw[<-Uu];exact J9 xs λx hx=>let ⟨a,h1,h2,h3⟩:=h x hx;⟨a,h1,h2,λhp=>by rw[h3 hp];rfl⟩
theorem Bi{b:Ev}{g:α->β}(xs:O α)(h:∀x∈xs,∃a,gt (e x) b=Z a/\fe a=Z (.z (e' (g x)))):FN gt oK fe b (xs.map e)=Z ((xs.map g).map e'):=
 (Ka (π:=λ_=>true) xs λx hx=>let ⟨a,h1,h2⟩:=h x hx;⟨a,h1,rfl,λ_=>h2⟩).trans (by rw[dg.mpr λ_ _=>S])
def Ab(it:R fi ρ (iE e))(a:α->Ev)(d:∀x,gt (e x) (lH is ρ++bb n U)=Z (a x))(b:∀x,R fe (a x) (zE e')):R (dR fi gt oK fe is n) ρ (oE e'):=⟨it.v.map λx=>(b x).v,bA (bA it.D (Z (it.v.length<=100000))) (HK it.v λx=>(b x).D),λh=>by
 obtain⟨h,c⟩:=aB h;obtain⟨h1,h2⟩:=aB h;have c:∀x∈it.v,hold (b x).D:=c;simp only[dR,it.ok h1,At,zl,zt (show it.v.length<=100000 from h2),Bi it.v λx hx=>⟨a x,d x,(b x).ok (c x hx)⟩]⟩
def jH(it:R fi ρ (iE e))(a:α->Ev)(c:∀x,gt (e x) (lH is ρ++bb n U)=Z (a x))(b:∀x,R fe (a x) (zE e'))(hb:∀x,(b x).D=U):R (dR fi gt oK fe is n) ρ (oE e'):=⟨it.v.map λx=>(b x).v,bA it.D (Z (it.v.length<=100000)),λh=>by
 obtain⟨h1,h2⟩:=aB h;simp only[dR,it.ok h1,At,zl,zt (show it.v.length<=100000 from h2),Bi it.v λx hx=>⟨a x,c x,(b x).ok (by rw[hb x];trivial)⟩]⟩
def Il(it:R fi ρ (iE e))(a:α->Ev)(d:∀x,gt (e x) (lH is ρ++bb n U)=Z (a x))(t:∀x,R p (a x) tE)(b:∀x,R fe (a x) (zE e')):R (dR fi gt p fe is n) ρ (oE e'):=⟨(it.v.filter λx=>(t x).v).map λx=>(b x).v,bA (bA it.D (Z (it.v.length<=100000))) (HK it.v λx=>bA (t x).D (G5 ((t x).v=true) (b x).D)),λh=>by
 obtain⟨h,c⟩:=aB h;obtain⟨h1,h2⟩:=aB h;have c:∀x∈it.v,hold (bA (t x).D (G5 ((t x).v=true) (b x).D)):=c;simp only[dR,it.ok h1,At,zl,zt (show it.v.length<=100000 from h2),Ka it.v λx hx=>⟨a x,d x,(t x).ok (aB (c x hx)).1,λf=>(b x).ok (lM (aB (c x hx)).2 f)⟩]⟩
def iB(it:R fi ρ (iE e))(a:α->Ev)(c:∀x,gt (e x) (lH is ρ++bb n U)=Z (a x))(t:∀x,R p (a x) tE)(b:∀x,R fe (a x) (zE e'))(d:∀x,(t x).D=U)(hb:∀x,(b x).D=U):R (dR fi gt p fe is n) ρ (oE e'):=⟨(it.v.filter λx=>(t x).v).map λx=>(b x).v,bA it.D (Z (it.v.length<=100000)),λh=>by
 obtain⟨h1,h2⟩:=aB h;simp only[dR,it.ok h1,At,zl,zt (show it.v.length<=100000 from h2),Ka it.v λx hx=>⟨a x,c x,(t x).ok (by rw[d x];trivial),λ_=>(b x).ok (by rw[hb x];trivial)⟩]⟩
def qm(a:RL fa ρ e):R (z6 fa) ρ (iE e):=⟨a.v,a.D,λh=>by
 have:HZ a.b=Z (a.v.map e):=by
  have:=a.lk
  revert this
  generalize a.b=b;generalize a.v.map e=ds;intro this;cases b with
  |z d=>cases d<;>cases this;rfl
  |l d=>cases this;rfl
  |o d=>cases this;rfl
  |n d=>cases this
  |m d _=>cases this
 simp only[z6,a.ok h,At,this]⟩
def Er(a:R fa ρ (zE (eT e))):R (z6 fa) ρ (iE e):=⟨a.v,a.D,λh=>by simp only[z6,a.ok h,At,HZ]⟩
def HH(a:R fa ρ (oE e)):R (DI fa) ρ (iE e):=⟨a.v,a.D,λh=>by simp only[DI,a.ok h,At,FK]⟩
def sN(a:R fa ρ (zE (eT e))):R (DI fa) ρ (iE e):=⟨a.v,a.D,λh=>by simp only[DI,a.ok h,At,FK]⟩
def rng(i:Int)(n:Nat):O Int:=(cf n).map λk:Nat=>i+(k:Int)
theorem e9(i:Int)(n:Nat):SQ i n=(rng i n).map eI:=by
 unfold SQ rng;rw[Q2];rfl
def Rg(j:Int):Prop:=-4611686018427387904<=j/\j<4611686018427387904
def Oz(a:R fa ρ (zE eI)):R (Co (aq fa aG)) ρ (iE eI):=⟨rng 0 a.v.toNat,bA a.D (Z (Rg a.v)),λh=>by
 obtain⟨h,b⟩:=aB h;simp only[Co,aq,aG,a.ok h,At];show(if -(2 ^ 62)<=a.v/\a.v<2 ^ 62 then Z (SQ 0 a.v.toNat)else U)=_;exact(zt b).trans (by rw[e9])⟩
end
section
variable{ε σ τ:Type}{fc fd:Ev->Y Bx}{fs:Ev->Y (O Bx)}{e:α->Dt}{e':β->Dt}{k:Ev->Y Ap}{cO:γ->Ap}
theorem nu{ρ':Ev}(h:g1 ρ=Z (.nx ρ')):aD g1 k ρ=k ρ':=by
 unfold aD;rw[h];rfl
def bC(x:R (aD g (aD g1 k)) ρ cO):R (aD (aD g g1) k) ρ cO:=⟨x.v,x.D,λh=>by
 rw[<-x.ok h];unfold aD;cases g ρ with
 |none=>rfl
 |some o=>cases o<;>rfl⟩
def bY(x:R k ρ cO):R (aD eY k) ρ cO:=⟨x.v,x.D,λh=>x.ok h⟩
def bx(x:γ)(h:cO x=.nx (kill is ρ)):R (cQ is) ρ cO:=⟨x,U,λ_=>by rw[h];rfl⟩
def cV{c:α->Bx}(inj:α->γ)(a:R f ρ c)(h:∀x,cO (inj x)=.rt (c x))(b:∀x,FS (c x)=Z (.rt (c x))):R (aD (gn f) k) ρ cO:=⟨inj a.v,a.D,λhd=>by
 have:gn f ρ=Z (.rt (c a.v)):=by unfold gn;rw[a.ok hd,At,b]
 unfold aD;rw[this,h];rfl⟩
def Es{c:α->Bx}(i:Nat)(inj:α->γ)(a:α)(hi:ρ[i]?=Z (Z (c a)))(h:∀x,cO (inj x)=.rt (c x))(b:∀x,FS (c x)=Z (.rt (c x))):R (aD (GX i) k) ρ cO:=⟨inj a,U,λhd=>by
 have:GX i ρ=Z (.rt (c a)):=by unfold GX;rw[hi];exact b a
 unfold aD;rw[this,h];rfl⟩
def bT{c:α->Bx}(i:Nat)(a:R f ρ c)(b:∀x,EW ρ i (c x)=Z (ρ.set i (Z (c x))))(K:∀x,R k (ρ.set i (Z (c x))) cO):R (aD (Au i f) k) ρ cO:=⟨(K a.v).v,bA a.D (K a.v).D,λhd=>by
 obtain⟨h1,h2⟩:=aB hd;rw[nu (ρ':=ρ.set i (Z (c a.v))) (by unfold Au;rw[a.ok h1,At,b,At])];exact(K a.v).ok h2⟩
def Kc(a:R f ρ (zE e))(b:α->Ev)(c:∀x,gt (e x) ρ=Z (b x))(K:∀x,R k (b x) cO):R (aD (Jx gt f) k) ρ cO:=⟨(K a.v).v,bA a.D (K a.v).D,λhd=>by
 obtain⟨h1,h2⟩:=aB hd;rw[nu (ρ':=b a.v) (by unfold Jx;rw[a.ok h1,At];simp only[c,At])];exact(K a.v).ok h2⟩
def Zu(i j:Nat)(a:R fa ρ (zE e))(b:R fb ρ (zE e'))(K:∀x y,R k ((ρ.set i (Z (.z (e x)))).set j (Z (.z (e' y)))) cO):R (aD (WM i j (aq fa (aq fb aG))) k) ρ cO:=⟨(K a.v b.v).v,bA (bA a.D b.D) (K a.v b.v).D,λhd=>by
 obtain⟨h1,c⟩:=aB hd;obtain⟨h1,h2⟩:=aB h1;rw[nu (ρ':=(ρ.set i (Z (.z (e a.v)))).set j (Z (.z (e' b.v)))) (by unfold WM;simp only[aq,aG,a.ok h1,b.ok h2,At,GW])];exact(K a.v b.v).ok c⟩
def Gk(i:Nat)(xs:O α)(hi:ρ[i]?=Z (Z (.o (xs.map e))))(a:R f ρ (zE e))(K:∀ys:O α,R k (ρ.set i (Z (.o (ys.map e)))) cO):R (aD (Ml i f) k) ρ cO:=⟨(K (xs++[a.v])).v,bA (bA a.D (Z (Ar xs.length))) (K (xs++[a.v])).D,λhd=>by
 obtain⟨h1,b⟩:=aB hd;obtain⟨h1,h2⟩:=aB h1;have h2:xs.length<=1000000:=h2;rw[nu (ρ':=ρ.set i (Z (.o ((xs++[a.v]).map e)))) (by
  unfold Ml;rw[a.ok h1,At];simp only[GN,hi,zl,qh,zo,kD];rw[zt (ja h2 ())])]
 exact(K _).ok b⟩
def qJ(t:R p ρ tE)(a:R (aD g1 k) ρ cO)(b:R (aD g2 k) ρ cO):R (aD (zx p g1 g2) k) ρ cO:=⟨if t.v=true then a.v else b.v,bA t.D (bA (G5 (t.v=true) a.D) (G5 (t.v=false) b.D)),λhd=>by
 obtain⟨h1,h2⟩:=aB hd;obtain⟨h2,e⟩:=aB h2;have e1:∀c,t.v=c->aD (zx p g1 g2) k ρ=aD (if c=true then g1 else g2) k ρ:=λc f=>by
  unfold aD zx;rw[t.ok h1,At,f];cases c<;>rfl
 cases d:t.v with
 |true=>rw[e1 true d];simp only[QU];exact a.ok (lM h2 d)
 |false=>rw[e1 false d];simp only[zr,ZU];exact b.ok (lM e d)⟩
def yq(E:σ->Ev)(t:R p ρ tE)(a:R g1 ρ (λs=>Ap.nx (E s)))(b:R g2 ρ (λs=>Ap.nx (E s)))(K:∀s,R k (E s) cO):R (aD (zx p g1 g2) k) ρ cO:=⟨(K (if t.v=true then a.v else b.v)).v,bA (bA t.D (bA (G5 (t.v=true) a.D) (G5 (t.v=false) b.D))) (K (if t.v=true then a.v else b.v)).D,λhd=>by
 obtain⟨h,e⟩:=aB hd;obtain⟨h1,h2⟩:=aB h;obtain⟨h2,d⟩:=aB h2;rw[nu (ρ':=E (if t.v=true then a.v else b.v)) (by
  unfold zx;rw[t.ok h1,At];cases c:t.v with
  |true=>simp only[QU];exact a.ok (lM h2 c)
  |false=>simp only[zr,ZU];exact b.ok (lM d c))]
 exact(K _).ok e⟩
def j8(step:σ->α->σ)(P:σ->α->Y Prop):O α->σ->Prop
 |[],_=>True
 |x::xs,s=>hold (P s x)/\j8 step P xs (step s x)
theorem Cq{gb:Ev->Y Ap}(E:σ->Ev)(a:σ->α->Ev)(b:∀s x,gt (e x) (E s)=Z (a s x))(body:∀s x,R gb (a s x) (λs=>Ap.nx (E s))):∀(xs:O α) (s:σ),j8 (λs x=>(body s x).v) (λs x=>(body s x).D) xs s->qM gt gb (xs.map e) (E s)=Z (.nx (E (xs.foldl (λs x=>(body s x).v) s)))
 |[],s,_=>rfl
 |x::xs,s,h=>by
  simp only[zo,qM,b,At,(body s x).ok h.1,qr];exact Cq E a b body xs _ h.2
def Kd(E:σ->Ev)(a:σ)(d:ρ=E a)(it:R fi ρ (iE e))(b:σ->α->Ev)(c:∀s x,gt (e x) (E s)=Z (b s x))(body:∀s x,R gb (b s x) (λs=>Ap.nx (E s)))(K:∀s,R k (E s) cO):R (aD (zy fi gt gb) k) ρ cO:=⟨(K (it.v.foldl (λs x=>(body s x).v) a)).v,bA (bA it.D (Z (j8 (λs x=>(body s x).v) (λs x=>(body s x).D) it.v a))) (K (it.v.foldl (λs x=>(body s x).v) a)).D,λhd=>by
 obtain⟨h,f⟩:=aB hd;obtain⟨h1,h2⟩:=aB h;rw[nu (ρ':=E (it.v.foldl (λs x=>(body s x).v) a)) (by
  unfold zy;rw[it.ok h1,At];subst d;exact Cq E b c body it.v a h2)]
 exact(K _).ok f⟩
def U2(E:σ->Ev)(a:σ)(d:ρ=E a)(it:R fi ρ (iE e))(b:σ->α->Ev)(c:∀s x,gt (e x) (E s)=Z (b s x))(body:∀s x,R gb (b s x) (λs=>Ap.nx (E s)))(hb:∀s x,(body s x).D=U)(K:∀s,R k (E s) cO):R (aD (zy fi gt gb) k) ρ cO:=⟨(K (it.v.foldl (λs x=>(body s x).v) a)).v,bA it.D (K (it.v.foldl (λs x=>(body s x).v) a)).D,λhd=>by
 obtain⟨h1,g⟩:=aB hd;have h2:∀(xs:O α) (s:σ),j8 (λs x=>(body s x).v) (λs x=>(body s x).D) xs s:=λxs=>by
  induction xs with
  |nil=>intro s;trivial
  |cons x xs f=>intro s;exact⟨by show hold (body s x).D;rw[hb s x];trivial,f _⟩
 rw[nu (ρ':=E (it.v.foldl (λs x=>(body s x).v) a)) (by
  unfold zy;rw[it.ok h1,At];subst d;exact Cq E b c body it.v a (h2 _ _))]
 exact(K _).ok g⟩
inductive qQ (σ τ:Type) where
 |nx (s:σ)|rt (r:τ)|bk (s:σ)|ct (s:σ)
def cC(E:σ->Ev)(c:τ->Bx):qQ σ τ->Ap
 |.nx s=>.nx (E s)
 |.rt r=>.rt (c r)
 |.bk s=>.bk (E s)
 |.ct s=>.ct (E s)
def sy(step:σ->α->qQ σ τ):O α->σ->qQ σ τ
 |[],s=>.nx s
 |x::xs,s=>match step s x with
  |.nx s'=>sy step xs s'
  |.ct s'=>sy step xs s'
  |.bk s'=>.nx s'
  |.rt r=>.rt r
def Gm(step:σ->α->qQ σ τ)(P:σ->α->Y Prop):O α->σ->Prop
 |[],_=>True
 |x::xs,s=>hold (P s x)/\match step s x with
  |.nx s'=>Gm step P xs s'
  |.ct s'=>Gm step P xs s'
  |.bk _=>True
  |.rt _=>True
theorem QJ{c:τ->Bx}(E:σ->Ev)(a:σ->α->Ev)(b:∀s x,gt (e x) (E s)=Z (a s x))(body:∀s x,R gb (a s x) (cC E c)):∀(xs:O α) (s:σ),Gm (λs x=>(body s x).v) (λs x=>(body s x).D) xs s->qM gt gb (xs.map e) (E s)=Z (cC E c (sy (λs x=>(body s x).v) xs s))
 |[],s,_=>rfl
 |x::xs,s,h=>by
  obtain⟨h1,h2⟩:=h;dsimp only at h2;simp only[zo,qM,b,At,(body s x).ok h1,sy]
  revert h2
  cases(body s x).v with
  |nx s'=>intro h2;exact QJ E a b body xs s' h2
  |ct s'=>intro h2;exact QJ E a b body xs s' h2
  |bk s'=>intro _;rfl
  |rt r=>intro _;rfl
theorem Ke(step:σ->α->qQ σ τ):∀(xs:O α) (s:σ),(∃s',sy step xs s=.nx s')\/∃r,sy step xs s=.rt r
 |[],s=>.inl ⟨s,rfl⟩
 |x::xs,s=>by
  unfold sy;cases step s x with
  |nx s'=>exact Ke step xs s'
  |ct s'=>exact Ke step xs s'
  |bk s'=>exact .inl ⟨s',rfl⟩
  |rt r=>exact .inr ⟨r,rfl⟩
def BN(r:qQ σ τ)(inj:τ->γ)(K:σ->γ):γ:=match r with
 |.rt r=>inj r
 |.nx s=>K s
 |.bk s=>K s
 |.ct s=>K s
def yX(r:qQ σ τ)(K:σ->Prop):Prop:=match r with
 |.rt _=>True
 |.nx s=>K s
 |.bk s=>K s
 |.ct s=>K s
def Zv(r:qQ σ τ)(K:σ->Y Prop):Y Prop:=Z (yX r λs=>hold (K s))
theorem Op(h:ρ[i]?=Z (Z (.o ds))):oF i gt gb ρ=qM gt gb ds (ρ.set i (Z (.l ds))):=by unfold oF;rw[h]
theorem b6(h:ρ[i]?=Z (Z (.l ds))):oF i gt gb ρ=qM gt gb ds ρ:=by unfold oF;rw[h]
theorem QK(h:ρ[i]?=Z (Z (.z (.tup ds)))):oF i gt gb ρ=qM gt gb ds ρ:=by unfold oF;rw[h];rfl
theorem uk(h:ρ[i]?=Z (Z (.z (.lst ds)))):oF i gt gb ρ=qM gt gb ds ρ:=by unfold oF;rw[h];rfl
theorem QL(hp:Lp b ds)(h:ρ[i]?=Z (Z b)):oF i gt gb ρ=qM gt gb ds ρ:=by
 rcases hp with rfl|rfl
 ·exact uk h
 ·exact b6 h
def yr(i:Nat){ρ':Ev}(xs:O α)(f:oF i gt gb ρ=qM gt gb (xs.map e) ρ')(E:σ->Ev)(a:σ)(d:ρ'=E a)(b:σ->α->Ev)(c:∀s x,gt (e x) (E s)=Z (b s x))(body:∀s x,R gb (b s x) (λs=>Ap.nx (E s)))(K:∀s,R k (E s) cO):R (aD (oF i gt gb) k) ρ cO:=⟨(K (xs.foldl (λs x=>(body s x).v) a)).v,bA (Z (j8 (λs x=>(body s x).v) (λs x=>(body s x).D) xs a)) (K (xs.foldl (λs x=>(body s x).v) a)).D,λhd=>by
 obtain⟨h2,g⟩:=aB hd;rw[nu (ρ':=E (xs.foldl (λs x=>(body s x).v) a)) (by
  rw[f,d];exact Cq E b c body xs a h2)]
 exact(K _).ok g⟩
def Zw{c:τ->Bx}(i:Nat){ρ':Ev}(xs:O α)(h:oF i gt gb ρ=qM gt gb (xs.map e) ρ')(E:σ->Ev)(a:σ)(g:ρ'=E a)(b:σ->α->Ev)(f:∀s x,gt (e x) (E s)=Z (b s x))(body:∀s x,R gb (b s x) (cC E c))(inj:τ->γ)(j:∀r,cO (inj r)=.rt (c r))(K:∀s,R k (E s) cO):R (aD (oF i gt gb) k) ρ cO:=⟨BN (sy (λs x=>(body s x).v) xs a) inj λs=>(K s).v,bA (Z (Gm (λs x=>(body s x).v) (λs x=>(body s x).D) xs a)) (Zv (sy (λs x=>(body s x).v) xs a) λs=>(K s).D),λhd=>by
 obtain⟨h2,d⟩:=aB hd;have e1:oF i gt gb ρ=Z (cC E c (sy (λs x=>(body s x).v) xs a)):=by
  rw[h,g];exact QJ E b f body xs a h2
 rcases Ke (λs x=>(body s x).v) xs a with⟨s',es⟩|⟨r,es⟩
 ·rw[es]at e1 d ⊢;rw[nu e1];exact(K s').ok d
 ·rw[es]at e1 ⊢;show aD (oF i gt gb) k ρ=Z (cO (inj r));unfold aD;rw[e1,j];rfl⟩
class Ky {κ:Type} (c:κ->AY):Prop where
 inj:∀a b,c a=c b->a=b
abbrev kS:AJ->AY:=Sum.inr
abbrev kI:Int->AY:=Sum.inl
instance:Ky kS:=⟨λ_ _ h=>by cases h;rfl⟩
instance:Ky kI:=⟨λ_ _ h=>by cases h;rfl⟩
abbrev mE(e:α->Dt):O (AJ×α)->Bx:=λm=>.m (m.map λq=>(kS q.1,e q.2)) U
abbrev nE(e:α->Dt):O (AJ×α)->Bx:=λm=>.n (m.map λq=>(kS q.1,e q.2))
section
variable [DecidableEq κ] {c:κ->AY}
def look[Inhabited α](m:O (κ×α))(x:κ):α:=((m.find? λq=>decide (q.1=x)).map (·.2)).getD default
def has(m:O (κ×α))(x:κ):Bool:=m.any λq=>decide (q.1=x)
def put(m:O (κ×α))(x:κ)(a:α):O (κ×α):=if has m x=true then m.map (λq=>if q.1=x then(q.1,a)else q)else m++[(x,a)]
theorem Hn[Ky c](a b:κ):decide (c a=c b)=decide (a=b):=by
 by_cases h:a=b
 ·rw[h];simp
 ·rw[ZN h,ZN λz=>h (Ky.inj (c:=c) _ _ z)]
theorem ax[Ky c](m:O (κ×α))(x:κ):Jz (m.map λq=>(c q.1,e q.2)) (c x)=((m.find? λq=>decide (q.1=x)).map (·.2)).map e:=by
 unfold Jz;rw[List.find?_map];simp only[q4,Function.comp_def,Hn]
theorem SY[Ky c][Inhabited α]{m:O (κ×α)}{x:κ}(h:has m x=true):Jz (m.map λq=>(c q.1,e q.2)) (c x)=Z (e (look m x)):=by
 rw[ax];unfold look;unfold has at h;rw[kz]at h;obtain⟨q,b,hx⟩:=h;cases a:m.find? λq=>decide (q.1=x)with
 |none=>exact absurd hx (by simpa using eh.mp a q b)
 |some q=>rfl
theorem Zx[Ky c](m:O (κ×α))(x:κ)(a:α):Qs (m.map λq=>(c q.1,e q.2)) (c x) (e a)=(put m x a).map λq=>(c q.1,e q.2):=by
 unfold Qs put has;rw[k4];simp only[Function.comp_def,Hn];by_cases h:(m.any λq=>decide (q.1=x))=true
 ·rw[zt h,zt h];rw[Q2,Q2];refine qA λq _=>?_;simp only[Function.comp];by_cases b:q.1=x
  ·simp[b]
  ·have h':¬ c q.1=c x:=λz=>b (Ky.inj (c:=c) _ _ z);simp[b,h']
 ·rw[zD h,zD h];simp
end
theorem Uv:∀m:O (AJ×α),Eg (m.map λq=>(kS q.1,e q.2))=Z (m.map (·.1))
 |[]=>rfl
 |q::m=>by rw[zo,Eg,Uv m,At];rfl
def mC[Inhabited α](a:R fa ρ (nE e))(b:R fb ρ (zE eS)):R (b2 oh fa fb) ρ (zE e):=⟨look a.v b.v,bA (bA a.D b.D) (Z (has a.v b.v=true)),λh=>by
 obtain⟨h,d⟩:=aB h;obtain⟨h1,h2⟩:=aB h;simp only[b2,a.ok h1,b.ok h2,At,oh,DB,SY (c:=kS) (show has a.v b.v=true from d)]⟩
end
section
variable{fs:Ev->Y AZ}{e:α->Dt}
theorem QM(h:qj b=Z ds):wY b=Z ds:=by
 cases b with
 |z d=>cases d<;>first|exact h|(cases h;done)
 |l _=>exact h
 |o _=>exact h
 |n _=>cases h
 |m _ _=>cases h
end
end P1
namespace P1
open L2 S1 S6
class tO {α:Type} (e:α->Dt) where
 k:α->AY
 ok:∀a,GY (e a)=some (k a)
 inj:∀a b,k a=k b->a=b
 same:∀a b,Y0 (k a) (k b)=true
instance:tO eI:=⟨λi=>.inl i,λ_=>rfl,λa b h=>by cases h;rfl,λ_ _=>rfl⟩
instance:tO eS:=⟨λi=>.inr i,λ_=>rfl,λa b h=>by cases h;rfl,λ_ _=>rfl⟩
class vD {α:Type} (e:α->Dt) where
 k:α->List AY
 ok:∀a,JD (e a)=some (k a)
 inj:∀a b,k a=k b->a=b
 shp:∀a b,Qu (k a) (k b)=true
 ne:∀a,(k a).isEmpty=false
class G1 {α:Type} (e:α->Dt) [vD e]:Prop where
 tx:∀a,Uc (vD.k e a)=true
section
variable{e:α->Dt}{e':β->Dt}{e'':γ->Dt}{e3:δ->Dt}
instance [tO e] [tO e']:vD (Zn e e'):=⟨λq=>[tO.k e q.1,tO.k e' q.2],λq=>by simp only[JD,Ge,tO.ok,At],λa b h=>by
 simp only[kC,and_true]at h;exact hH (tO.inj _ _ h.1) (tO.inj _ _ h.2),λa b=>by simp[Qu,tO.same],λ_=>rfl⟩
instance [tO e] [tO e'] [tO e'']:vD (DH e e' e''):=⟨λq=>[tO.k e q.1,tO.k e' q.2.1,tO.k e'' q.2.2],λq=>by simp only[JD,Ge,tO.ok,At],λa b h=>by
 simp only[kC,and_true]at h;exact hH (tO.inj _ _ h.1) (hH (tO.inj _ _ h.2.1) (tO.inj _ _ h.2.2)),λa b=>by simp[Qu,tO.same],λ_=>rfl⟩
instance [tO e] [tO e'] [tO e''] [tO e3]:vD (DZ e e' e'' e3):=⟨λq=>[tO.k e q.1,tO.k e' q.2.1,tO.k e'' q.2.2.1,tO.k e3 q.2.2.2],λq=>by simp only[JD,Ge,tO.ok,At],λa b h=>by
 simp only[kC,and_true]at h;exact hH (tO.inj _ _ h.1) (hH (tO.inj _ _ h.2.1) (hH (tO.inj _ _ h.2.2.1) (tO.inj _ _ h.2.2.2))),λa b=>by simp[Qu,tO.same],λ_=>rfl⟩
instance [tO e]:G1 (Zn e eS):=⟨λa=>by simp[vD.k,Uc,tO.k]⟩
instance [tO e] [tO e']:G1 (DH e eS e'):=⟨λa=>by simp[vD.k,Uc,tO.k]⟩
instance [tO e] [tO e'] [tO e'']:G1 (DZ e eS e' e''):=⟨λa=>by simp[vD.k,Uc,tO.k]⟩
variable{fs:Ev->Y (O (O AY))}
theorem Kf[vD e]:∀xs:O α,vA (xs.map e)=Z (xs.map (vD.k e))
 |[]=>rfl
 |x::xs=>by simp only[zo,vA,vD.ok,At,Kf xs]
def IH(e:α->Dt)[vD e](a b:α):Bool:=xW (vD.k e a) (vD.k e b)
def zK(e:α->Dt)[vD e](xs:O α):O α:=xs.mergeSort (IH e)
theorem mD[vD e](xs:O α):(zK e xs).Perm xs:=yo ..
theorem Xm[vD e](xs:O α):(zK e xs).Pairwise (λa b=>IH e a b=true):=KO (le:=IH e) (λa b c=>z8 (vD.k e a) (vD.k e b) (vD.k e c)) (λa b=>z9 (vD.k e a) (vD.k e b)) xs
theorem WF[vD e](xs:O α):nj (xs.map (vD.k e))=(zK e xs).map (vD.k e):=by
 refine(uM ((mD xs).map _) (List.pairwise_map.mpr (Xm xs))).symm
theorem Xs[vD e](xs:O α):(xs.map (vD.k e)).map BD=xs.map e:=by
 rw[Q2];exact qA λa _=>(TQ (vD.ok a)).symm
theorem bE[vD e](xs:O α)(h:xs.length<64):El (xs.map (vD.k e))=true:=by
 simp only[El,ZH,zz,qc,QY,zl,KB,forall_exists_index,and_imp,forall_apply_eq_imp_iff₂];exact⟨h,λa _=>vD.ne a,λa _ b _=>vD.shp a b⟩
abbrev uE(e:α->Dt)[vD e]:O α->O (O AY):=λxs=>xs.map (vD.k e)
def NU[vD e][G1 e](a:RL fa ρ e):R (W9 fa) ρ (uE e):=⟨a.v,bA a.D (Z (a.v.length<=64)),λh=>by
 obtain⟨h,b⟩:=aB h;have b:a.v.length<=64:=b;have c:(a.v.map (vD.k e)).all Uc=true:=by
  rw[kE,qc];exact λx _=>G1.tx x
 simp only[W9,a.ok h,At,OY,QM a.lk,Kf];rw[zt ⟨by rw[zl];exact b,c⟩]⟩
def RU[DecidableEq α][vD e](a:R fs ρ (uE e)):R (JQ fs) ρ (oE e):=⟨zK e (Ms a.v),bA a.D (Z (a.v.length<64)),λh=>by
 obtain⟨h,b⟩:=aB h;simp only[JQ,a.ok h,At,bE a.v b,QU,QD vD.inj,WF,Xs]⟩
end
end P1
namespace P1
open L2
section
variable{fd:Ev->Y Bx}{fs:Ev->Y (O Bx)}{e:α->Dt}{e':β->Dt}{k:Ev->Y Ap}{cO:γ->Ap}
abbrev mW(w:Y A1)(e:α->Dt):O (AJ×α)->Bx:=λm=>.m (m.map λq=>(kS q.1,e q.2)) w
def aM(e:α->Dt)(t:γ->O Bx->Prop):O (AJ×α)×γ->O Bx->Prop:=λx bs=>∃b r,bs=b::r/\(b=nE e x.1\/b=mE e x.1)/\t x.2 r
def N9{t:γ->O Bx->Prop}(a:R fa ρ (nE e))(r:AR t fs ρ):AR (aM e t) (aq fa fs) ρ:=⟨(a.v,r.v),bA a.D r.D,_,⟨_,_,rfl,.inl rfl,r.h⟩,λh=>by
 obtain⟨h1,h2⟩:=aB h;simp only[aq,a.ok h1,r.ok h2,At]⟩
def MG{t:γ->O Bx->Prop}(a:R fa ρ (mE e))(r:AR t fs ρ):AR (aM e t) (aq fa fs) ρ:=⟨(a.v,r.v),bA a.D r.D,_,⟨_,_,rfl,.inr rfl,r.h⟩,λh=>by
 obtain⟨h1,h2⟩:=aB h;simp only[aq,a.ok h1,r.ok h2,At]⟩
def Zy(w:Y A1)(i:Nat)(m:O (AJ×α))(hi:ρ[i]?=Z (Z (mW w e m)))(a:R fa ρ (zE e))(b:R fb ρ (zE eS))(K:∀d:O (AJ×α),R k (ρ.set i (Z (mW w e d))) cO):R (aD (YT i fa fb) k) ρ cO:=⟨(K (put m b.v a.v)).v,bA (bA (bA a.D b.D) (Z (m.length<1000))) (K (put m b.v a.v)).D,λhd=>by
 obtain⟨h,f⟩:=aB hd;obtain⟨h,c⟩:=aB h;obtain⟨h1,h2⟩:=aB h;rw[nu (ρ':=ρ.set i (Z (mW w e (put m b.v a.v)))) (by
  unfold YT;rw[a.ok h1,At,b.ok h2,At];simp only[Tv,DB,At,hi,mW,zl,zt (show m.length<1000 from c),Zx])]
 exact(K _).ok f⟩
def EJ(a:O (AJ×β)):O (AJ×β):=a.foldl (λm q=>put m q.1 q.2) []
theorem Kg(a:O (AJ×β)):dictOf (a.map (Zn eS e'))=(EJ a).map λq=>(kS q.1,e' q.2):=by
 unfold dictOf EJ;have:∀(a:O (AJ×β)) (m:O (AJ×β)),(a.map (Zn eS e')).foldl LU (m.map λq=>(kS q.1,e' q.2))=(a.foldl (λm q=>put m q.1 q.2) m).map λq=>(kS q.1,e' q.2):=by
  intro a
  induction a with
  |nil=>intro m;rfl
  |cons q a b=>
   intro m;rw[zo,qr,qr];show(a.map (Zn eS e')).foldl LU (Qs (m.map λq=>(kS q.1,e' q.2)) (kS q.1) (e' q.2))=_;rw[Zx (c:=kS)];exact b _
 exact this a []
def Zz(a:R fk ρ (zE eS))(b:R fv ρ (zE e)):R (b2 Ck fk fv) ρ (zE (Zn eS e)):=⟨(a.v,b.v),bA a.D b.D,λh=>by
 obtain⟨h1,h2⟩:=aB h;simp only[b2,a.ok h1,b.ok h2,At,Ck]⟩
def d4(i:R fi ρ (iE e))(a:R (dR fi gt p (b2 Ck fk fv) is n) ρ (oE (Zn eS e'))):R (Zg fi gt p fk fv is n) ρ (mE e'):=⟨EJ a.v,bA (bA i.D (Z (i.v.length<1000))) a.D,λh=>by
 obtain⟨h,d⟩:=aB h;obtain⟨h1,h2⟩:=aB h;have h2:i.v.length<1000:=h2;have b:=a.ok d;unfold dR at b;unfold Zg;rw[i.ok h1,At]at b ⊢;rw[zt (by rw[zl];omega)]at b;rw[zt (by rw[zl];exact h2)];obtain⟨f,c,b⟩:=AT b;rw[c,At];injection b with b;injection b with b;rw[b,Kg]⟩
def NG(a:R fd ρ (nE e)):R (Ug fd) ρ (iE eS):=⟨a.v.map (·.1),a.D,λh=>by
 simp only[Ug,a.ok h,At,DL,Q2];rfl⟩
def ck(a:R fa ρ (nE e)):R (cN JV (aq fa aG)) ρ (oE eS):=⟨a.v.map (·.1),a.D,λh=>by
 simp only[cN,aq,aG,a.ok h,At,JV,Uv]⟩
def ab(a:R fa ρ (zE eS))(b:R fb ρ (zE eS)):R (cN JT (aq fa (aq fb aG))) ρ (zE eS):=⟨if Gi b.v a.v=true then b.v else a.v,bA a.D b.D,λh=>by
 obtain⟨h1,h2⟩:=aB h;simp only[cN,aq,aG,a.ok h1,b.ok h2,At,JT];rfl⟩
theorem sL{bs:O Bx}{m:O (AJ×α)}{c:O (AJ×α)->Ev}(x:R g ((mW (Z a) e m::bs).map Z++bb (n-(bs.length+1)) U) (λb=>Ap.nx (c b)))(h:hold x.D)(h0:∀b,(c b)[0]?=Z (Z (mW (Z a) e b))):Uj n g a (m.map λq=>(kS q.1,e q.2)) bs=Z (x.v.map λq=>(kS q.1,e q.2)):=by
 unfold Uj;rw[x.ok h,At];simp only[h0,QU]
def OP{c:γ->O Bx->Prop}{cO:δ->Ap}{T:O (AJ×α)->γ->O (AJ×α)}{b:O (AJ×α)->γ->Y Prop}(w:Y A1)(i:Nat)(m:O (AJ×α))(hi:ρ[i]?=Z (Z (mW w e m)))(S:∀m v bs,c v bs->bs.length=n/\bs.all Do=true/\(hold (b m v)->∀a,G a (m.map λq=>(kS q.1,e q.2)) bs=Z ((T m v).map λq=>(kS q.1,e q.2))))(a:AR c fs ρ)(K:∀d:O (AJ×α),R k (ρ.set i (Z (mW w e d))) cO):R (aD (JW i n G fs) k) ρ cO:=⟨(K (T m a.v)).v,bA (bA a.D (b m a.v)) (K (T m a.v)).D,λhd=>by
 obtain⟨h,l⟩:=aB hd;obtain⟨h1,h2⟩:=aB h;obtain⟨f,g,j⟩:=S m a.v a.bs a.h;rw[nu (my hi (a.ok h1) f g (j h2))];exact(K _).ok l⟩
end
section
variable{e:α->Dt}
def lO[DecidableEq α](x:α)(ys:O α):Bool:=decide (x∈ys)
theorem jM[DecidableEq α]{x:α}{ys:O α}:lO x ys=true↔x∈ys:=by unfold lO;rw[zz]
theorem ik[DecidableEq α][B8 e n](b:n<=60)(x:α)(ys:O α):Ff (e x) (ys.map e)=Z (decide (x∈ys)):=by
 unfold Ff;rw[zt]
 ·congr 1;rw[k4,JJ,kz,zz];constructor
  ·rintro⟨y,a,h⟩;simp only[Function.comp,B8.eq]at h;by_cases q:y=x
   ·exact q▸a
   ·simp[q,DV]at h
  ·intro h;exact⟨x,h,by simp[Function.comp,B8.eq,DV]⟩
 ·rw[kE,qc];intro y _;have:=B8.dp (e:=e) y;simp only[Function.comp,B8.eq,y8,ix,zz];omega
def Kh[DecidableEq α][B8 e n](c:n<=60)(a:R fa ρ (zE e))(b:RL fb ρ e):R (b2 Uk fa fb) ρ (zE eB):=⟨!lO a.v b.v,bA a.D b.D,λh=>by
 obtain⟨h1,h2⟩:=aB h;simp only[b2,a.ok h1,b.ok h2,At,Uk,QM b.lk,ik c,lO]⟩
end
end P1
namespace P1
open L2 S1 S6
def kT(xs:AZ):O AY:=xs.map Sum.inr
theorem ZB{a b:AZ}(h:kT a=kT b):a=b:=by
 unfold kT at h
 induction a generalizing b with
 |nil=>cases b with|nil=>rfl|cons _ _=>simp at h
 |cons x a c=>cases b with
  |nil=>simp at h
  |cons y b=>
   simp only[zo,kC]at h;rw[Sum.inr.inj h.1,c h.2]
theorem Uw:∀(xs:AZ),Ge (xs.map eS)=Z (kT xs)
 |[]=>rfl
 |x::xs=>by simp only[zo,Ge,GY,At,Uw xs];rfl
theorem OD:∀(a:O AZ),vA (a.map (eT eS))=Z (a.map kT)
 |[]=>rfl
 |x::a=>by simp only[zo,vA,JD,eT,Uw,At,OD a]
def Mt(a b:AZ):Bool:=xW (kT a) (kT b)
def jN(a:O AZ):O AZ:=a.mergeSort Mt
theorem yw(xs:O AZ):(jN xs).Perm xs:=yo ..
theorem yx(xs:O AZ):(jN xs).Pairwise (λa b=>Mt a b=true):=KO (le:=Mt) (λa b c=>z8 (kT a) (kT b) (kT c)) (λa b=>z9 (kT a) (kT b)) xs
theorem OJ{a b:AZ}(h:Mt a b=true)(h':Mt b a=true):a=b:=ZB (Oe h h')
theorem O1{xs out:O AZ}(hp:out.Perm xs)(hs:out.Pairwise (λa b=>Mt a b=true)):out=jN xs:=tK (λ_ _=>OJ) (hp.trans (yw xs).symm) hs (yx xs)
theorem Xn(xs:O AZ):nj (xs.map kT)=(jN xs).map kT:=(uM ((yw xs).map _) (List.pairwise_map.mpr (yx xs))).symm
theorem fN(xs:O AZ):(xs.map kT).map BD=xs.map (eT eS):=by
 rw[Q2];refine qA λa _=>?_;show Dt.tup ((kT a).map dK)=Dt.tup (a.map eS);unfold kT;rw[Q2];rfl
theorem fE(a b:AZ):Qu (kT a) (kT b)=true:=by
 unfold Qu kT;rw[qc];rintro⟨x,y⟩ h;obtain⟨h1,h2⟩:=fz h;obtain⟨p,_,rfl⟩:=List.mem_map.mp h1;obtain⟨q,_,rfl⟩:=List.mem_map.mp h2;rfl
theorem cm(xs:O AZ)(h:xs.length<64)(c:∀x∈xs,x.isEmpty=false):El (xs.map kT)=true:=by
 simp only[El,ZH,zz,qc,QY,zl,KB,forall_exists_index,and_imp,forall_apply_eq_imp_iff₂];refine⟨h,λa d=>?_,λa _ b _=>fE a b⟩;have:=c a d;cases a with
 |nil=>cases this
 |cons _ _=>rfl
def Im(a:RL fa ρ (eT eS)):R (cN vB (aq fa aG)) ρ (oE (eT eS)):=⟨jN a.v,bA a.D (Z (a.v.length<64/\∀x∈a.v,x.isEmpty=false)),λh=>by
 obtain⟨h,b⟩:=aB h;obtain⟨b,c⟩:a.v.length<64/\∀x∈a.v,x.isEmpty=false:=b;simp only[cN,aq,aG,a.ok h,At,vB,QM a.lk,OD,cm a.v b c,QU,Xn,fN]⟩
section
variable{e:α->Dt}
theorem map_some(e:α->Dt)(xs:O α):(xs.map Z).map (eO e)=xs.map e:=by rw[Q2];rfl
end
end P1
namespace P1
open L2
section
variable{k:Ev->Y Ap}{cO:α->Ap}
def UN(i:Nat)(E:Ev)(a:FO i ρ=Z E)(K:R k E cO):R (EQ i k) ρ cO:=⟨K.v,K.D,λh=>by
 unfold EQ;rw[a];exact K.ok h⟩
end
section
variable{e:α->Dt}
end
section
variable{σ τ:Type}{k:Ev->Y Ap}{cO:γ->Ap}
def O2(a:σ->Bool)(step:σ->qQ σ τ):Nat->σ->qQ σ τ
 |0,s=>.nx s
 |n+1,s=>if a s=true then(match step s with
  |.nx s'=>O2 a step n s'
  |.ct s'=>O2 a step n s'
  |.bk s'=>.nx s'
  |.rt r=>.rt r)else .nx s
def Db(b:σ->Bool)(a:σ->Y Prop)(step:σ->qQ σ τ)(P:σ->Y Prop):Nat->σ->Prop
 |0,_=>False
 |n+1,s=>hold (a s)/\(b s=true->hold (P s)/\match step s with
  |.nx s'=>Db b a step P n s'
  |.ct s'=>Db b a step P n s'
  |.bk _=>True
  |.rt _=>True)
theorem QS(a:σ->Bool)(step:σ->qQ σ τ):∀(n:Nat) (s:σ),(∃s',O2 a step n s=.nx s')\/∃r,O2 a step n s=.rt r
 |0,s=>.inl ⟨s,rfl⟩
 |n+1,s=>by
  unfold O2;split
  ·cases step s with
   |nx s'=>exact QS a step n s'
   |ct s'=>exact QS a step n s'
   |bk s'=>exact .inl ⟨s',rfl⟩
   |rt r=>exact .inr ⟨r,rfl⟩
  ·exact .inl ⟨s,rfl⟩
theorem Xo{c:τ->Bx}(E:σ->Ev)(a:∀s,R p (E s) tE)(body:∀s,R gb (E s) (cC E c)):∀(n:Nat) (s:σ),Db (λs=>(a s).v) (λs=>(a s).D) (λs=>(body s).v) (λs=>(body s).D) n s->CI p gb n (E s)=Z (cC E c (O2 (λs=>(a s).v) (λs=>(body s).v) n s))
 |0,s,h=>absurd h id
 |n+1,s,h=>by
  obtain⟨h1,h2⟩:=h;have f:p (E s)=Z (a s).v:=(a s).ok h1;unfold CI O2;rw[f,At];cases e:(a s).v with
  |false=>rfl
  |true=>
   obtain⟨d,b⟩:=h2 e;rw[zt rfl,zt rfl,(body s).ok d,At];cases hb:(body s).v with
   |nx s'=>dsimp only at b;rw[hb]at b;exact Xo E a body n s' b
   |ct s'=>dsimp only at b;rw[hb]at b;exact Xo E a body n s' b
   |bk s'=>rfl
   |rt r=>rfl
def ZC{c:τ->Bx}(n:Nat)(E:σ->Ev)(a:σ)(e:ρ=E a)(b:∀s,R p (E s) tE)(body:∀s,R gb (E s) (cC E c))(inj:τ->γ)(f:∀r,cO (inj r)=.rt (c r))(K:∀s,R k (E s) cO):R (aD (CI p gb n) k) ρ cO:=
 ⟨BN (O2 (λs=>(b s).v) (λs=>(body s).v) n a) inj λs=>(K s).v,bA (Z (Db (λs=>(b s).v) (λs=>(b s).D) (λs=>(body s).v) (λs=>(body s).D) n a)) (Zv (O2 (λs=>(b s).v) (λs=>(body s).v) n a) λs=>(K s).D),λhd=>by
 obtain⟨h2,d⟩:=aB hd;have e1:CI p gb n ρ=Z (cC E c (O2 (λs=>(b s).v) (λs=>(body s).v) n a)):=by
  subst e;exact Xo E b body n a h2
 rcases QS (λs=>(b s).v) (λs=>(body s).v) n a with⟨s',es⟩|⟨r,es⟩
 ·rw[es]at e1 d ⊢;rw[nu e1];exact(K s').ok d
 ·rw[es]at e1 ⊢;show aD (CI p gb n) k ρ=Z (cO (inj r));unfold aD;rw[e1,f];rfl⟩
end
section
variable{e:α->Dt}
def IS(fs:Ev->Y (O Bx)):Ev->Y (O Dt):=λρ=>(fs ρ).bind Um
def yC(xs:O α):O (Int×α):=(cf xs.length).zipWith (λ(k:Nat) x=>((k:Int),x)) xs
theorem ti(xs:O α):Gh (xs.map e)=(yC xs).map (Zn eI e):=by
 unfold Gh yC;rw[zl,List.zipWith_map_right,List.map_zipWith]
def SW(a:RL fa ρ e):R (IS (aq fa aG)) ρ (iE (Zn eI e)):=⟨yC a.v,a.D,λh=>by
 simp only[IS,aq,aG,a.ok h,At,Um,a.lk,ti]⟩
end
section
variable{σ τ:Type}
theorem ZD{step:σ->α->σ}{P:σ->α->Y Prop}(I:Nat->σ->Prop):∀(xs:O α) (m:Nat) (a:σ),I m a->(∀k x s,xs[k]?=Z x->I (m+k) s->hold (P s x)/\I (m+k+1) (step s x))->j8 step P xs a/\I (m+xs.length) (xs.foldl step a)
 |[],m,a,h0,_=>⟨trivial,h0⟩
 |x::xs,m,a,h0,hs=>by
  obtain⟨h1,h2⟩:=hs 0 x a S h0;have:=ZD I xs (m+1) (step a x) h2 λk y s e h=>by
   have:=hs (k+1) y s (by simpa using e) (by rw[show m+(k+1)=m+1+k by omega];exact h);rw[show m+(k+1)+1=m+1+k+1 by omega]at this;exact this
  refine⟨⟨h1,this.1⟩,?_⟩;rw[ZI,show m+(xs.length+1)=m+1+xs.length by omega];exact this.2
theorem SR{i:Int}{k:Nat}{x:Int}(h:(rng i n)[k]?=Z x):x=i+k/\k<n:=by
 unfold rng at h;rw[ZE]at h;cases a:(cf n)[k]? with
 |none=>rw[a]at h;cases h
 |some j=>
  rw[a]at h;have b:k<n:=by simpa using(bv.mp a).1
  have:j=k:=by
   rw[kN b]at a;cases a;rfl
  subst this;cases h;exact⟨rfl,b⟩
theorem Cr(i:Int)(n:Nat):(rng i n).length=n:=by unfold rng;simp
theorem uO{step:σ->Int->σ}{P:σ->Int->Y Prop}(I:Nat->σ->Prop)(n:Nat)(a:σ)(h0:I 0 a)(hs:∀(k:Nat) s,k<n->I k s->hold (P s k)/\I (k+1) (step s k)):j8 step P (rng 0 n) a/\I n ((rng 0 n).foldl step a):=by
 have:=ZD (P:=P) I (rng 0 n) 0 a h0 λk x s e h=>by
  obtain⟨rfl,b⟩:=SR e;rw[yv]at h ⊢;rw[n9];exact hs k s b h
 rw[Cr,yv]at this;exact this
theorem Ux{step:Unit->α->qQ Unit Bool}{P:Unit->α->Y Prop}:∀xs:O α,(∀x∈xs,hold (P r9 x)/\(step r9 x=.nx r9\/step r9 x=.ct r9))->sy step xs r9=.nx r9/\Gm step P xs r9
 |[],_=>⟨rfl,trivial⟩
 |x::xs,h=>by
  obtain⟨h1,h2⟩:=h x (zg ..);have a:=Ux (P:=P) xs λy b=>h y (zi _ b);rcases h2 with h2|h2
  ·exact⟨by unfold sy;rw[h2];exact a.1,h1,by rw[h2];exact a.2⟩
  ·exact⟨by unfold sy;rw[h2];exact a.1,h1,by rw[h2];exact a.2⟩
theorem vG[Inhabited α]{xs:O α}{i:Int}(h:In xs.length i):at' xs i∈xs:=by
 obtain⟨x,hx⟩:=QH h;unfold at';rw[hx];unfold Ma at hx;obtain⟨j,_,hx⟩:=AT hx;exact Q1 hx
theorem P9[Inhabited α]{xs:O α}{k:Nat}{x:α}(h:xs[k]?=Z x):at' xs (k:Int)=x:=by
 have a:k<xs.length:=(bv.mp h).1;unfold at' Ma ES;rw[zt (),zt (),At,KS,h];rfl
theorem Et[Inhabited α](xs:O α)(k:Nat)(h:k<xs.length):at' xs (k:Int)=xs[k]:=P9 (Zp h)
theorem BE{i:Int}(h0:0<=i)(h1:i<n):In n i:=⟨by omega,h1⟩
theorem Kl{k:Nat}(h:k<n):In n (k:Int):=⟨by omega,by omega⟩
theorem Ad{x m:Int}(a:0<m)(h:m<=n):In n (x%m):=BE (ll _ ()) (Int.lt_of_lt_of_le (h6 _ a) h)
theorem jO(x:Int){m:Int}(a:0<m):0<=x%m/\x%m<m:=⟨ll _ (),h6 _ a⟩
theorem O4{j:Int}(h0:0<=j)(h1:j<=1000000):Rg j:=⟨by omega,by omega⟩
theorem Pd{a b:Int}(h0:0<=a)(h1:a<18446744073709551616):Hm a b:=.inl ⟨by omega,h1⟩
theorem Uy{xs:O α}{k:Nat}(h:k<=xs.length):BM xs (Z (k:Int)) U=xs.drop k:=by
 unfold BM;rw[HT.Yu,HT.Sh,Nat.min_eq_left h,eu (by simp)]
theorem Xp{xs:O α}{k:Nat}(h:k<=xs.length):BM xs U (Z (k:Int))=xs.take k:=by
 unfold BM;rw[HT.Yu,HT.Sh,Nat.min_eq_left h,Nat.sub_zero,List.drop_zero]
theorem yD(x y:AJ):(x++y).length=x.length+y.length:=by
 show(x.cps++y.cps).size=_;rw[Kk];rfl
theorem Km(x:AJ)(i:Int):(ch x i).length=1:=rfl
theorem slice_le(x:AJ)(l u:Y Int):(Txt.slice x l u).length<=x.length:=PyProof.Txt.length_slice_le x l u
end
section
variable [Inhabited α] {e:α->Dt}{k:Ev->Y Ap}{cO:γ->Ap}
def VQ(j i:Nat)(xs:O α)(hi:ρ[i]?=Z (Z (.o (xs.map e))))(a:R f ρ (zE eI))(K:∀(ys:O α) (y:α),R k ((ρ.set i (Z (.o (ys.map e)))).set j (Z (zE e y))) cO):R (aD (GA j i f) k) ρ cO:=
 ⟨(K (xs.drop 1) (at' xs 0)).v,bA (bA a.D (Z (a.v=0/\0<xs.length))) (K (xs.drop 1) (at' xs 0)).D,λhd=>by
 obtain⟨h1,b⟩:=aB hd;obtain⟨h1,h2⟩:=aB h1;obtain⟨h0,c⟩:a.v=0/\0<xs.length:=h2;rw[nu (ρ':=(ρ.set i (Z (.o ((xs.drop 1).map e)))).set j (Z (zE e (at' xs 0)))) (by
  unfold GA;rw[a.ok h1,At];show(match (Bx.z (Dt.int a.v))with|.z (.int k)=>_|_=>U)=_;dsimp only;rw[hi];dsimp only;rw[h0];cases xs with
  |nil=>simp at c
  |cons x xs=>
   have e1:at' (x::xs) 0=x:=P9 (xs:=x::xs) (k:=0) rfl;rw[e1,zt ()];have e2:seqIndex? 0 ((x::xs).map e).length=Z 0:=by
    rw[PySem.seqIndex_of () (by simp)];rfl
   rw[e2];rfl)]
 exact(K (xs.drop 1) (at' xs 0)).ok b⟩
end
theorem O5:∀xs:O Int,Ou (xs.map eI)=Z xs
 |[]=>rfl
 |x::xs=>by simp only[zo,eI,Ou,O5 xs,At]
def Cv(a:RL fa ρ eI):R (cN JZ (aq fa aG)) ρ (zE eI):=⟨a.v.sum,bA a.D (Z (Uo a.v=true)),λh=>by
 obtain⟨h1,h2⟩:=aB h;have h2:Uo a.v=true:=h2;simp only[cN,aq,aG,a.ok h1,At,JZ,a.lk,O5,h2,QU]⟩
section
variable{e:α->Dt}{k:Ev->Y Ap}{cO:γ->Ap}
end
section
variable{e:α->Dt}{k:Ev->Y Ap}{cO:γ->Ap}
def UB[Inhabited γ]:R (aD II k) ρ cO:=⟨default,Z False,λh=>absurd h id⟩
def Tk{c:α->Bx}(a:R f ρ c)(K:R k ρ cO):R (aD (Uq f) k) ρ cO:=⟨K.v,bA a.D K.D,λhd=>by
 obtain⟨h1,h2⟩:=aB hd;rw[nu (ρ':=ρ) (by unfold Uq;rw[a.ok h1,At])];exact K.ok h2⟩
def r8(a:R fa ρ (zE eS))(b:R fb ρ (zE e)):R (b2 Ov fa fb) ρ (mE e):=⟨[(a.v,b.v)],bA a.D b.D,λh=>by
 obtain⟨h1,h2⟩:=aB h;simp only[b2,a.ok h1,b.ok h2,At,Ov];rfl⟩
theorem sF[DecidableEq κ]{c:κ->AY}[Ky c](m:O (κ×α))(x:κ):Gc (m.map λq=>(c q.1,e q.2)) (c x)=has m x:=by
 unfold Gc has;rw[k4];simp only[Function.comp_def,Hn]
def OI(a:R fa ρ (zE eS))(b:R fb ρ (nE e)):R (b2 F8 fa fb) ρ (zE eB):=⟨!has b.v a.v,bA a.D b.D,λh=>by
 obtain⟨h1,h2⟩:=aB h;simp only[b2,a.ok h1,b.ok h2,At,F8,DB,nE,sF]⟩
theorem WS{bs:O Bx}{a:γ->Ev}(x:R g (bs.map Z++bb (n-bs.length) U) (λr=>Ap.nx (a r)))(h:hold x.D):dN n g bs=Z (.z .non):=by
 unfold dN;rw[x.ok h];rfl
end
section
variable{e:α->Dt}
def iA(a:RL fa ρ e):R (b2 FA fa (b1 Qj (cB (.int 1)))) ρ (oE e):=⟨a.v.reverse,a.D,λh=>by
 simp only[b2,b1,a.ok h,At,cB,Qj,FA,a.lk,QU,oE,List.map_reverse]⟩
def e7(a:R fa ρ (zE e))(n:Nat)(h:∀x,∃ds,e x=.tup ds/\ds.length=n):R (cN u6 (aq fa aG)) ρ (zE eI):=⟨(n:Int),a.D,λhd=>by
 obtain⟨ds,e1,e2⟩:=h a.v;simp only[cN,aq,aG,a.ok hd,At,zE,e1,u6,wY,e2]⟩
end
section
variable{e:α->Dt}{e':β->Dt}
end
def RP(f:Ev->Y β)(ρ:Ev)(c:α->β)(v:α)(D:Y Prop):Prop:=hold D->f ρ=Z (c v)
theorem R.tp{f:Ev->Y β}{c:α->β}{b:α}{a:Y Prop}(x:R f ρ c)(e:x.v=b:=by kernel_rfl)(d:x.D=a:=by kernel_rfl):RP f ρ c b a:=λh=>by
 subst e d;exact x.ok h
def RP.r{f:Ev->Y β}{c:α->β}{v:α}{D:Y Prop}(h:RP f ρ c v D):R f ρ c:=⟨v,D,h⟩
theorem LH{p:O α->Prop}(h:∀a,p [a]):∀us:O α,us.length=1->p us
 |[a],_=>h a
theorem L4{p:O α->Prop}(h:∀a b,p [a,b]):∀us:O α,us.length=2->p us
 |[a,b],_=>h a b
theorem gl{p:O α->Prop}(h:∀a b c,p [a,b,c]):∀us:O α,us.length=3->p us
 |[a,b,c],_=>h a b c
theorem g4{p:O α->Prop}(h:∀a b c d,p [a,b,c,d]):∀us:O α,us.length=4->p us
 |[a,b,c,d],_=>h a b c d
theorem WO{p:O α->Prop}(h:∀a b c d e,p [a,b,c,d,e]):∀us:O α,us.length=5->p us
 |[a,b,c,d,e],_=>h a b c d e
end P1
namespace P1
open L2 S1
theorem Xq{o:AE}{T:String}{vs:O A0}{Q:B7}(ho:s.heap.get? l=Z o)(f:o.cls=.type T)(j:T ="list" ∨ T ="tuple")(hd:o.data=.seq vs.toArray n)(a:StrsAre vs ys)(d:vs.length<64)(h:∀(l:A1) (h':A6) (tk:Nat) (out:Array A0) (zs:AZ) (n:Nat),s.heap.objs.size<=l->(∀b o,s.heap.get? b=Z o->h'.get? b=Z o)->h'.get? l=Z (seqObj "list" out n)->StrsAre out.toList zs->zs.Perm ys->sortedS zs=true->Q (.ref l) { s with heap:=h',toks:=tk }):
  A7 (A8 prog w) A (call (.builtin "sorted") [.ref l]) Q E s:=by
 refine YA kind_sorted plain_sorted entry_sorted (args_sorted1 _) ?_;unfold Builtin.«sorted»;refine zd (m:=checkCount "sorted" 1 1 _) (zh (zd (JC ho f j hd (Zs (j0 d) ()) λh1 tk i ext=>?_)));refine zd (YO ?_);have c:(h1.push (seqObj "list" vs.toArray 0)).get? h1.objs.size=Z (seqObj "list" vs.toArray 0):=zw _ rfl;refine zd (QR (ky slot_list_sort ⟨_,c,rfl⟩ entry_list_sort (list_sort_treeK strKind_oneLt c a.keysOf (λq t AS e=>keyKind_strs (by rw[<-e];exact a)) d λp a1 a2=>⟨_,rfl,zh ⟨_,rfl,?_⟩⟩) (args_list_sort _)));obtain⟨zs,z1,z2,z3⟩:=sorted_out_str a a1 a2;obtain⟨n,g⟩:=sortedHeap_at (out:=(AM p).map (·.2)) c;exact h h1.objs.size _ tk _ zs n i (λb o e=>by
  have e1:=ext b o e;have hb:=zv e1;rw[sortedHeap_old (Zl hb) (by rw[qk];exact qB hb)];exact ze _ e1) g z1 z2 z3
def Eu:O Bx->Y Bx
 |[b]=>(wY b).bind λds=>(FW ds).bind λys=>if ys.length<64 then Z (.o ((iT ys).map Dt.str))else U
 |_=>U
theorem Uz:pU X (.builtin "sorted") Eu:=by
 intro AN s σ H xs us Q I F h;obtain⟨bs,c,K,e,q⟩:=h;unfold Eu at e;split at e
 ·rename_i b;obtain⟨ds,L,e⟩:=AT e;obtain⟨ys,w,e⟩:=AT e;split at e
  ·rename_i z;cases e;obtain⟨v,rfl,A⟩:=BG K;obtain⟨p,vs,rfl,sq,G⟩:=Ia A L;obtain⟨u,rfl,B⟩:=BA F;cases B;obtain⟨rfl,M⟩:=yR G w;have E:∃(AQ:O A0) (o:AE) (T:String) (n:Nat),AX (ys.map V.str) AQ/\s.heap.get? p=Z o/\o.cls=.type T/\(T ="list" ∨ T ="tuple")/\o.data=.seq AQ.toArray n:=by
    rcases sq with sq|sq
    ·obtain⟨AQ,f,pl,D⟩:=I.list sq;obtain⟨o,g,c,n,d⟩:=pl.isList;exact⟨AQ,o,_,n,f,g,c,.inl rfl,d⟩
    ·obtain⟨AQ,f,⟨o,g,c,n,d⟩,D⟩:=I.tuple sq;exact⟨AQ,o,_,n,f,g,c,.inr rfl,d⟩
   obtain⟨AQ,o,T,n,f,g,m,J,hd⟩:=E;have x:=f.length;rw[zl]at x;refine Xq g m J hd (u9 f) () λl h' tk C zs n j ext N z1 z2 z3=>?_;have t:=Tq z2 z3;subst t;have i:=I.hok.fresh j;refine⟨.ref l,_,I.laid (t':=tk) (a:=l) (o:=.lst ((iT ys).map V.str)) ext j ?_,rfl,q _ _ (bO i) (λa ea=>by cases ea;exact i) ⟨l,_,rfl,aV,BL λy h=>M y ((fj ys).mem_iff.mp h)⟩⟩;refine⟨by rw[zl,(fj _).length_eq];exact Zs (j0 z) (),C.toList,n,yS z1,?_⟩;rw[N]
  ·cases e
 ·cases e
def UG(a:R fa ρ (zE (eT eS))):R (cN Eu (aq fa aG)) ρ (oE eS):=⟨iT a.v,bA a.D (Z (a.v.length<64)),λh=>by
 obtain⟨h,b⟩:=aB h;simp only[cN,aq,aG,a.ok h,At,Eu,wY,eT,BO];exact zt b⟩
end P1
namespace P1
open L2
def NR(g:Ev->Y Ap):Prop:=∀ ρ b,g ρ≠Z (.rt b)
section
variable{fs:Ev->Y (O Bx)}
theorem Xr:NR (Au i f):=λρ b h=>by
 obtain⟨x,_,h⟩:=AT h;obtain⟨y,_,h⟩:=AT h;cases h
theorem Si:NR (cQ is):=λρ b h=>by cases h
theorem UH:NR eY:=λρ b h=>by cases h
theorem Of(h1:NR g1)(h2:NR g2):NR (aD g1 g2):=λρ b h=>by
 obtain⟨r,e,h⟩:=AT h;cases r with
 |nx a=>exact h2 _ _ h
 |rt c=>exact h1 _ _ e
 |bk a=>cases h
 |ct a=>cases h
theorem Cw(hb:NR gb):∀(ds:O Dt),NR (qM gt gb ds)
 |[],ρ,b,h=>by cases h
 |d::ds,ρ,b,h=>by
  unfold qM at h;obtain⟨f,_,h⟩:=AT h;obtain⟨r,e,h⟩:=AT h;cases r with
  |nx a=>exact Cw hb ds _ _ h
  |ct a=>exact Cw hb ds _ _ h
  |bk a=>cases h
  |rt c=>exact hb _ _ e
theorem ZF(hb:NR gb):NR (oF i gt gb):=λρ b h=>by
 unfold oF at h;split at h
 ·exact Cw hb _ _ _ h
 ·exact Cw hb _ _ _ h
 ·obtain⟨ds,_,h⟩:=AT h;exact Cw hb _ _ _ h
 ·cases h
end
section
variable{st:AB}{AS:O AB}
end
section
variable{ks:O V}{o:AE}
theorem ii(hb:∀f u,X.H₀ a≠Z (.n6 f u))(I:L2.AU X AN σ H s)(e:H a=Z (.n6 o (.lst ks))):L2.AU X AN σ (B4 H a (.lst ks)) s:=by
 have g:∀{b:A1} {u:HO},H b=Z u->u≠.n6 o (.lst ks)->b≠a:=λq n z=>by subst z;rw[e]at q;cases q;exact n rfl
 have h:∀{b:A1},H b=U->b≠a:=λq z=>by subst z;rw[e]at q;cases q
 refine⟨I.ok,I.os,I.bare,⟨I.base.keep,I.base.slot,λb f q n hx=>?_,I.base.there,λb xs q=>?_,λb f u q=>?_,λb ps q=>?_⟩,I.loc,I.cell,?_,λx c q=>?_,λp hp=>?_,λb f q=>?_,I.len⟩
 ·have:=I.base.free b f q n hx;rw[aQ (h this)];exact this
 ·have:=I.base.tups b xs q;rw[aQ (g this λz=>by cases z)];exact this
 ·have:=I.base.Aw b f u q;rw[aQ (λz=>by subst z;exact hb _ _ q)];exact this
 ·obtain⟨m,this⟩:=I.base.Iv b ps q;exact⟨m,by rw[aQ (g this λz=>by cases z)];exact this⟩
 ·have:=I.free;rw[aQ (h this)];exact this
 ·have:=I.rO x c q;rw[aQ (h this)];exact this
 ·obtain⟨p1,p2,p3⟩:=I.pin p hp;exact⟨p1,by rw[aQ (h p2)];exact p2,p3⟩
 ·have st:∀{c:A1} {w:HO},iw X.prog X.w H s.heap c w->iw X.prog X.w (B4 H a (.lst ks)) s.heap c w:=λx=>
   x.stay (λ_ _ _ r=>r) (λd r=>by rw[aQ (g r λz=>by cases z)];exact r) λd xs r=>by rw[aQ (g r λz=>by cases z)];exact r
  by_cases i:b=a
  ·subst i;rw[aV]at q;cases q;exact st (I.hok _ _ e).2
  ·rw[aQ i]at q;exact st (I.hok _ _ q)
end
section
variable{M0 M1 M2 er:Expr}{f0 f2:Ev->Y Bx}{d0 d2:Dt}{z0 z1 z2 z3:Pos}
end
theorem bI.sl(E:bI K H0 H σ ρ)(h:∀c,ρ[i]?≠Z (Z c))(v:Y V):bI K H0 H (σ.set i v) ρ:=by
 have d:∀{j:Nat} {c:Bx},ρ[j]?=Z (Z c)->(σ.set i v)[j]?=σ[j]?:=λe=>JS (λz=>h _ (z▸e));exact⟨by rw[jv];exact E.len,λj b e=>by rw[d e];exact E.val j b e,λj k c a b e1 e2 e3 f g l=>E.own j k c a b e1 e2 (by rw[<-d e1];exact e3) f g (by rw[<-d f];exact l),E.base,λj c a e1 e2 e3=>E.new j c a e1 e2 (by rw[<-d e1];exact e3)⟩
section
variable{st:O AB}{fr:Ev->Y Bx}{i':Nat}{W:O Nat}{z:Pos}
theorem QT:∀(W:O Nat) (ρ:Ev) (j:Nat),(j∈W\/∀c,ρ[j]?≠Z (Z c))->∀c,(kill W ρ)[j]?≠Z (Z c)
 |[],ρ,j,h,c=>by
  rcases h with h|h
  ·cases h
  ·exact h c
 |w::W,ρ,j,h,c=>by
  refine QT W (ρ.set w U) j ?_ c;by_cases e:j=w
  ·subst e;right;intro c z;rcases B5 z with⟨_,z,_⟩|⟨z,_⟩
   ·cases z
   ·exact z rfl
  ·rcases h with h|h
   ·rcases List.mem_cons.mp h with h|h
    ·exact absurd h e
    ·exact .inl h
   ·right;intro c z;rw[JS (ka e)]at z;exact h c z
end
section
variable{a b c:Ev->Y Ap}{k:Nat}
end
end P1
namespace P1
open L2 S6
section
variable{kx vx t1 i1 t2 i2:Expr}{f1 f2:O Expr}{xs:AZ}{g1 g2:Dt->Ev->Y Ev}{p1 p2:Ev->Y Bool}{fi1 fi2:Ev->Y (O Dt)}{fs:Ev->Y (O Dt)}{N m:Nat}
def cls2(fi:Ev->Y (O Dt))(gt:Dt->Ev->Y Ev)(p:Ev->Y Bool)(fs:Ev->Y (O Dt))(is:O Nat)(n:Nat):Ev->Y (O Dt):=λρ=>(fi ρ).bind λds=>Ea gt p fs (lH is ρ++bb n U) ds
def QW(fi:Ev->Y (O Dt))(gt:Dt->Ev->Y Ev)(p:Ev->Y Bool)(fs:Ev->Y (O Dt))(is:O Nat)(n:Nat):Ev->Y Bx:=λρ=>(cls2 fi gt p fs is n ρ).bind λa=>if a.length<=100000 then Z (.o a)else U
structure FL (X:Cx) (ts:AZ) (m:Nat) (scope:Scope) (cl:List (Str×Addr)) (xs:AZ) (is:List Nat) (t1 i1:Expr) (f1:List Expr) (t2 i2:Expr) (f2:List Expr) (fi1 fi2:Ev->Option (List Dt)) (g1 g2:Dt->Ev->Option Ev) (p1 p2:Ev->Option Bool):Prop where
 ok:ur X scope cl xs is
 calm:X.calm=true
 it1:EE X t1 i1 fi1
 tg1:∀C s₀ H₀ fp,Cf (zG X (xs++ts) scope cl C s₀ H₀ fp) t1 g1
 c1:∀C s₀ H₀ fp,xK (zG X (xs++ts) scope cl C s₀ H₀ fp) f1 p1
 k1:CL is.length m g1
 it2:∀C s₀ H₀ fp,G2 (zG X (xs++ts) scope cl C s₀ H₀ fp) t2 i2 fi2
 tg2:∀C s₀ H₀ fp,Cf (zG X (xs++ts) scope cl C s₀ H₀ fp) t2 g2
 c2:∀C s₀ H₀ fp,xK (zG X (xs++ts) scope cl C s₀ H₀ fp) f2 p2
 k2:CL m (is.length+ts.length) g2
 hm:is.length<=m:=by decide
 hm2:m<=is.length+ts.length:=by decide
 hs:∀x,foldedSetIterable i1 X.env x=pure x:=by intro _;rfl
 hs2:∀C x,foldedSetIterable i2 (compEnvC scope (cellsFrom (C+1) scope.names cl) C X.env) x=pure x:=by intro _ _;rfl
theorem D3.no:D3 K D H o1 o->(∀a u,o≠.n6 a u)/\∀vs,o≠.tup vs:=λ⟨_,e,_⟩=>by subst e;exact⟨λ_ _ z=>(by cases z),λ_ z=>(by cases z)⟩
theorem UJ(ts:AZ)(W:FL X ts m scope cl xs is t1 i1 f1 t2 i2 f2 fi1 fi2 g1 g2 p1 p2)(he:∀C f c fp,QV (zG X (xs++ts) scope cl C f c fp) elt fe):
  QV X (.ListComp elt [⟨t1,i1,f1,0⟩,⟨t2,i2,f2,0⟩] scope pos) (QW fi1 g1 p1 (EK fi2 g2 p2 (Ww fe)) is ts.length):=⟨λAN s σ H Q I h=>by
 obtain⟨H0,ρ,b,E,e,q⟩:=h;obtain⟨a0,g,e⟩:=AT e;obtain⟨ds,L,g⟩:=AT g;split at e
 ·rename_i M;cases e;rw[eval_ListComp];refine ki (use:=U) S W.hs W.ok.clos W.ok.kind W.ok.names ?_;refine jE (W.it1.run AN s σ H (λJ H'=>AV H H'/\B0 X.K J ds H') I ⟨H0,ρ,ds,E,L,λJ H' s' y=>⟨s',y⟩⟩) λv s1 h1=>jE h1 λa1 s2 h2=>?_;obtain⟨it,fp,tn,J,H2,rfl,u,T,st,hf,i,Y⟩:=h2;refine yP (B:=Bo) (Ac:=D3 X.K) (O0:=.lst []) (N:=100000) (RR:=λx C=>compPost (ri X) X.A X.xe U (EP X AN σ Q) x C) (ts:=ts) (xs:=xs) W.ok W.calm (λC f c fp=>(W.tg1 C f c fp).run) (λC f c fp=>(W.c1 C f c fp).run)
   (λC f c fp=>SX (X:=zG X (xs++ts) scope cl C f c fp) (comp:=.ListComp elt [⟨t1,i1,f1,0⟩,⟨t2,i2,f2,0⟩] scope pos) (d:=1) W.calm S (W.it2 C f c fp).run (W.tg2 C f c fp).run (W.c2 C f c fp).run (YL (he C f c fp).run) W.k2 W.hm2 D3.kp D3.no (W.hs2 C) (λ_ _ _=>S) (N6 S λh=>h) λh=>h)
   W.k1 W.hm u ((E.grow i).caps is ts.length) (FP T) st hf Y g M ?_
   qo (λ_=>⟨QP _,[],0,.nil,zw _ rfl⟩) (λ_=>⟨[],rfl,aK.nil⟩) D3.kp (λ_ _ _=>by simp only[bind_assoc,pure_bind];rfl) codeAny_compStart_list λh=>h
  rintro D C s' H' o G l p ⟨m,n⟩ j z ⟨us,rfl,F⟩;refine⟨m,n,λh' sb=>⟨.ref D,H',?_,rfl,q _ _ (i.trans j) (λa ea=>by cases ea;exact i.free G) ⟨D,us,rfl,z,F⟩⟩⟩;obtain⟨f0,f1,f2,f3,P,t⟩:=p;exact l.turned (t':=s'.toks) (λb o hb e=>(sb.2 b hb).trans e) f0 f1 f3 P t
 ·cases e⟩
end
end P1
namespace P1
open L2
section
variable{e:α->Dt}{e':β->Dt}{fs:Ev->Y (O Dt)}
theorem UL{g:α->O β}:∀xs:O α,(xs.flatMap g).map e'=xs.flatMap λx=>(g x).map e'
 |[]=>rfl
 |x::xs=>by rw[JA,qh,UL xs];rfl
def Me(it:R fi ρ (iE e))(a:α->Ev)(c:∀x,gt (e x) (lH is ρ++bb n U)=Z (a x))(b:∀x,R fs (a x) (iE e')):R (cls2 fi gt oK fs is n) ρ (iE e'):=⟨it.v.flatMap λx=>(b x).v,bA it.D (HK it.v λx=>(b x).D),λh=>by
 obtain⟨h1,h2⟩:=aB h;have h2:∀x∈it.v,hold (b x).D:=h2;simp only[cls2,it.ok h1,At];rw[J9 (π:=λ_=>true) (g:=λx=>(b x).v.map e') it.v λx hx=>⟨a x,c x,rfl,λ_=>(b x).ok (h2 x hx)⟩,dg.mpr λ_ _=>S];rw[iE,UL]⟩
def MW(it:R fi ρ (iE e))(a:α->Ev)(c:∀x,gt (e x) ρ=Z (a x))(b:∀x,R fe (a x) (zE e')):R (EK fi gt oK (Ww fe)) ρ (iE e'):=⟨it.v.map λx=>(b x).v,bA it.D (HK it.v λx=>(b x).D),λh=>by
 obtain⟨h1,h2⟩:=aB h;have h2:∀x∈it.v,hold (b x).D:=h2;simp only[EK,it.ok h1,At];exact Bi it.v λx hx=>⟨a x,c x,(b x).ok (h2 x hx)⟩⟩
def gX(a:R (cls2 fi gt p fs is n) ρ (iE e)):R (QW fi gt p fs is n) ρ (oE e):=⟨a.v,bA a.D (Z (a.v.length<=100000)),λh=>by
 obtain⟨h1,h2⟩:=aB h;simp only[QW,a.ok h1,At,zl,zt (show a.v.length<=100000 from h2)]⟩
end
def hx(h:A6)(a:A1):HO:=.ext λh'=>h'.get? a=h.get? a
section
variable{H2:Hp}{as:O A1}
end
section
variable{gs:O (Int×A1×O Dt)}{k:Int}{x:Dt}{u:V}
end
section
variable{e1 e2 ev:Expr}{f2:Ev->Y Bx}{w:AJ}{pw py py2 py3 px p1 p3 p4 pl a1 a2 c1 c2:Pos}
end
end P1
namespace P1
open L2 S6
section
variable{kx vx t1 i1 t2 i2:Expr}{f1 f2:O Expr}{xs:AZ}{g1 g2:Dt->Ev->Y Ev}{p1 p2:Ev->Y Bool}{fi1 fi2:Ev->Y (O Dt)}{m:Nat}
def QX(fi:Ev->Y (O Dt))(gt:Dt->Ev->Y Ev)(p:Ev->Y Bool)(fs:Ev->Y (O Dt))(is:O Nat)(n:Nat):Ev->Y Bx:=λρ=>(cls2 fi gt p fs is n ρ).bind λa=>if a.length<1000 then Z (.m (dictOf a) U)else U
theorem D2.no:D2 K D H o1 o->(∀a u,o≠.n6 a u)/\∀vs,o≠.tup vs:=λ⟨_,e,_⟩=>by subst e;exact⟨λ_ _ z=>(by cases z),λ_ z=>(by cases z)⟩
theorem e8(ts:AZ)(W:FL X ts m scope cl xs is t1 i1 f1 t2 i2 f2 fi1 fi2 g1 g2 p1 p2)(l:∀C f c fp,QV (zG X (xs++ts) scope cl C f c fp) kx fk)(n:∀C f c fp,QV (zG X (xs++ts) scope cl C f c fp) vx fv):
  QV X (.DictComp kx vx [⟨t1,i1,f1,0⟩,⟨t2,i2,f2,0⟩] scope pos) (QX fi1 g1 p1 (EK fi2 g2 p2 (Ww (b2 Ck fk fv))) is ts.length):=⟨λAN s σ H Q I h=>by
 obtain⟨H0,ρ,b,E,e,q⟩:=h;obtain⟨a1,g,e⟩:=AT e;obtain⟨ds,P,g⟩:=AT g;split at e
 ·rename_i a0;cases e;rw[arm_eval_DictComp];refine ki (use:=U) S W.hs W.ok.clos W.ok.kind W.ok.names ?_;refine jE (W.it1.run AN s σ H (λJ H'=>AV H H'/\B0 X.K J ds H') I ⟨H0,ρ,ds,E,P,λJ H' s' y=>⟨s',y⟩⟩) λv s1 h1=>jE h1 λa2 u h2=>?_;obtain⟨it,fp,tn,J,H2,rfl,j,T,st,hf,i,Y⟩:=h2;refine yP (B:=Bo) (Ac:=D2 X.K) (O0:=.dK []) (N:=999) (RR:=λG C=>compPost (ri X) X.A X.xe U (EP X AN σ Q) G C) (ts:=ts) (xs:=xs) W.ok W.calm (λC f c fp=>(W.tg1 C f c fp).run) (λC f c fp=>(W.c1 C f c fp).run)
   (λC f c fp=>SX (X:=zG X (xs++ts) scope cl C f c fp) (comp:=.DictComp kx vx [⟨t1,i1,f1,0⟩,⟨t2,i2,f2,0⟩] scope pos) (d:=1) W.calm S (W.it2 C f c fp).run (W.tg2 C f c fp).run (W.c2 C f c fp).run (Zf (l C f c fp).run (n C f c fp).run) W.k2 W.hm2 D2.kp D2.no (W.hs2 C) (λ_ _ _=>S) (N6 S λh=>h) λh=>h)
   W.k1 W.hm j ((E.grow i).caps is ts.length) (FP T) st hf Y g (oC a0) ?_
   qo (λ_=>Jd u.heap j.big) (λ_=>⟨[],rfl,gK.nil,zk _⟩) D2.kp (λ_ _ _=>by simp only[bind_assoc,pure_bind];rfl) codeAny_compStart_dict λh=>h
  rintro D C s' H' o M t z ⟨m,x⟩ p L ⟨us,rfl,rm,_⟩;refine⟨m,x,λh' sb=>⟨.ref D,H',?_,rfl,q (.ref D) H' (i.trans p) (λa ea=>by cases ea;exact i.free M) ⟨D,us,rfl,L,rm,λb hb=>by cases hb⟩⟩⟩;obtain⟨f0,f1,f2,f3,f4,F⟩:=z;exact t.turned (t':=s'.toks) (λb o hb e=>(sb.2 b hb).trans e) f0 f1 f3 f4 F
 ·cases e⟩
end
end P1
namespace P1
open L2
section
variable{e:α->Dt}{e0:β->Dt}{fd f2:Ev->Y Bx}{kk:Ev->Y Ap}{cO:γ->Ap}
end
section
variable{e:α->Dt}{fs:Ev->Y (O Dt)}
def UY(a:R (cls2 fi gt p fs is n) ρ (iE (Zn eS e))):R (QX fi gt p fs is n) ρ (mE e):=⟨EJ a.v,bA a.D (Z (a.v.length<1000)),λh=>by
 obtain⟨h1,h2⟩:=aB h;simp only[QX,a.ok h1,At,iE,zl,zt (show a.v.length<1000 from h2),Kg]⟩
end
section
variable{a:Expr}
end
theorem bR{bs:O Bx}{c:α->Bx}{v:α}{D:Y Prop}(x:RP g (bs.map Z++bb (n-bs.length) U) (λr=>Ap.rt (c r)) v D)(h:hold D):dN n g bs=Z (c v):=On x.r h
section
variable{e:α->Dt}
end
open PySem.Builtin PySem.Builtin.Str
section
variable{o:Expr}{fx:Ev->Y Bx}
end
section
variable{g:Ev->Y AJ}
end
section
variable{e1 e2 e3:Expr}{gr:Ev->Y Ap}{fx:Ev->Y Dt}{tR tQ:TS}{xr xj y1 y2:AJ}{AS no:O AB}{kk:Nat}{p0 p00 p01 p02 q1 q2 pt pj pa px pb pif pf2 px3 a1 c1 pe1 pr a2 pj2 c2 pe2:Pos}
end
section
variable{e:α->Dt}{ea:β->Dt}{eb:δ->Dt}{kk:Ev->Y Ap}{cO:γ->Ap}
end
end P1
namespace P1
open L2 S1
section
variable{k:Nat}{f:A1}{F:O Bx->Y Bx}{p:Pos}
end
end P1
namespace P1
open L2 S1 S6
theorem IR{p:O α->Prop}(h:p []):∀us:O α,us.length=0->p us
 |[],_=>h
section
variable{e:α->Dt}{g:Ev->Y Bx}{c:α->Bx}
end
def B6(i:Int):R (cB (.int i)) ρ (zE eI):=Cp (.int i) eI i rfl
def VE(s:AJ):R (cB (.str s)) ρ (zE eS):=Cp (.str s) eS s rfl
abbrev Nn(K:B1)(n:AJ)(f:A1):Prop:=nsIn K mainGlobals n=Z (Z (.ref f))
abbrev Lk(K:B1)(f:A1)(n:AJ)(st:AB)(e:A0)(a:Y A1)(sl:Array (Y A0))(kV d c:A0)(g:Y A1)(b ct:A0):Prop:=K.lookup f=Z ⟨e,a,.func (fnOf n n (u0 st) (jG st) (aR st) .none kV d c g b ct),sl⟩
end P1
namespace P1
open L2
section
variable{e:α->Dt}
end
section
variable{Ex:B7}{outer:O Env}{L e T:A1}{C fl:A0}{dx:Y A1}{Q:Unit->A2->Prop}
end
section
variable{H':Hp}{h':A6}{ch:O A1}
end
section
variable{g:Array GenState}{d:Drawn}{t:Nat}{fI e:A1}{AS:O A0}{B:String}
end
section
variable{g:Array GenState}{d:Drawn}{t:Nat}{e:A1}
end
section
variable{g:Array GenState}{d:Drawn}{t:Nat}{e dx:A1}{v:A0}{vs:Array A0}{sl:Array (Y A0)}{m:AJ->Y A0}
end
section
variable{o value:Expr}{tv:TE}{f:AJ}{pos' p:Pos}{B:String}{t:TA}
end
section
variable{f:AJ}{p:Pos}{B:String}
end
section
variable{E:XK}
end
section
variable{Cn f:A1}{iv iy k:Nat}{n cn:AJ}{np hp p py pa:Pos}{b0:AB}{suite:O AB}{ts:A1->TS}{tf:TE}{t:TA}
end
section
variable{d:A1}{fs:O (AJ×V)}{f:AJ}{o:Expr}
end
section
variable{f:AJ}{E:XK}{gy:Ev->Y Dt}{p:Pos}{st:AB}{AS a b:O AB}{B:String}{pc:Ev->Y Bool}
end
section
variable{k:Nat}{f h:A1}{F:O Bx->Y Bx}{fs:Ev->Y (O Bx)}{p q:Pos}
end
end P1
namespace P1
open L2 S6
section
variable{xs:AZ}
end
section
variable{e2 se:Expr}{fS:Ev->Y AZ}{fx:Ev->Y Dt}{no AS:O AB}{tR tQ:TS}{p0 p02 px pb pif pk:Pos}{f:AJ}{E:XK}
end
end P1
namespace P1
open L2
section
variable{e1 e2 e3:Expr}{gr:Ev->Y Ap}{xr xj y1 y2:AJ}{AS no:O AB}{kk:Nat}{p0 p00 p01 p02 q1 q2 pt pj pa px pb pif pf2 px3 a1 c1 pe1 pr a2 pj2 c2 pe2:Pos}{fx:Ev->Y Dt}{f:AJ}{E:XK}
end
section
variable{Cn f:A1}{iv k:Nat}{n cn:AJ}{np hp p pa:Pos}{b0:AB}{suite:O AB}{ts:A1->TS}{tf:TE}{t:TA}
end
section
variable{fx:Ev->Y Bx}
end
section
variable{xs:Array A0}
end
theorem yL:∀{AQ:O A0} {a:O Int},IntsAre AQ a->AX (a.map V.int) AQ
 |_,_,.nil=>.nil
 |_,_,.cons y t h=>.cons ⟨t,rfl⟩ (yL h)
section
variable{e:α->Dt}
end
section
variable{e:α->Dt}{ea:β->Dt}{eb:δ->Dt}{fx:Ev->Y Dt}
end
section
variable{e:α->Dt}{g:Ev->Y β}{c:γ->β}
end
section
variable{E:XK}
end
section
variable{f:AJ}{E:XK}{fs:Ev->Y (O Bx)}{gy:Ev->Y Dt}{p p1 epos:Pos}{st:AB}{AS:O AB}
end
section
variable{o:Expr}
def Lv:Dt->Bool
 |.non=>true
 |.tup _=>true
 |_=>false
def RS:Dt->Bool
 |.non=>true
 |_=>false
end
section
variable{o l:Expr}{fs:Ev->Y (O Bx)}{z:AJ}
end
instance {σ τ:Type} [Inhabited σ]:Inhabited (qQ σ τ):=⟨.nx default⟩
section
variable{e:α->Dt}
theorem Po(a:∀x,∃ds,e x=.tup ds)(ys:O (Y α)):(ys.map (eO e)).all Lv=true/\(RS ∘ eO e)=Option.isNone:=by
 refine⟨?_,?_⟩
 ·rw[qc];intro d hd;obtain⟨o,_,rfl⟩:=List.mem_map.mp hd;cases o with
  |none=>rfl
  |some x=>obtain⟨ds,q⟩:=a x;show Lv (e x)=true;rw[q];rfl
 ·funext o;cases o with
  |none=>rfl
  |some x=>obtain⟨ds,q⟩:=a x;show RS (e x)=false;rw[q];rfl
end
section
variable{o e2:Expr}{fx fy:Ev->Y Bx}
end
section
variable{f:AJ}{E:XK}{gy:Ev->Y Dt}{st:AB}{sts AS:O AB}{p0 p00 p01 p02:Pos}
end
structure DQ (K:B1) (mg:Str->Option Value) (x:Str) (st:Stmt) (ps:AZ) where
 f:Addr
 fd:FuncData
 F:D6 K x x st f fd
 b:BQ K fd ps []
 m:mg x=some (.ref f)
 k:keepIn K (.ref f)=true
def lQ{st:AB}{f:A1}{g d:Y A1}{sl:Array (Y A0)}{j kV i b e ct:A0}(X:K.In h)(G:h.Ns mainGlobals mg)(a:Nn K x f)(l:Lk K f x st j g sl kV i b d e ct)(c:codeIn K e x=true)(k:keepIn K (.ref f)=true)(hb:∀(kV m b:A0) (d:Y A1) (n ct:A0) (us:O A0),us.length=ps.length->bindArgs (fnOf x x (u0 st) (jG st) (aR st) .none kV m b d n ct) ⟨us,[]⟩=pure (ps.zip us):=by intro _ _ _ _ _ _;first|exact P1.LH λ_=>S|exact P1.L4 λ_ _=>S|exact P1.gl λ_ _ _=>S|exact P1.g4 λ_ _ _ _=>S|exact P1.WO λ_ _ _ _ _=>S|exact P1.IR S):DQ K mg x st ps:=
 ⟨f,_,NV l c k,(NV l c k).binds hb,mg_of X G a,k⟩
theorem OV{v:Tok->A0}{tk:Tok}(X:K.In h)(G:h.Ns mainGlobals mg)(c:nsIn K mainGlobals x=Z (Z (v tk))):∃tk,mg x=Z (v tk):=⟨tk,mg_of X G c⟩
abbrev Ok(P:A3)(w:A4)(base:A6){st:AB}(d:DQ K mg x st ps)(k n:Nat)(F:O Bx->Y Bx):Prop:=rQ P w K mg base FJ k d.f d.fd ps (DA K n F)
theorem Av{st:AB}{k m:Nat}(d:DQ K mg x st ps)(S:bG N ps (aR st))(c:∀(a:A0) (A:A5) (outer:O Env) (s:A2) (H:Hp) (E:XK),nZ k (A.deeper (AK x (aR st) s.heap.objs.size d.f a))->(A.deeper (AK x (aR st) s.heap.objs.size d.f a)).units+100<cLine->N.Nodup->Qe (GP FJ P w K mg base N x (aR st) d.f a A outer s H E).nox (jG st) g)(e:N.length=n:=by rfl)(h:ps.length=m:=by rfl):Ok P w base d (k+1) m (dN n g):=PD d.F S e h λa A outer s H E b=>c a A outer s H E b (HY b) S.nd
section
variable{k m:Nat}{st:AB}{F:O Bx->Y Bx}{fs:Ev->Y (O Bx)}{p:Pos}
theorem cG(d:DQ X.K X.mg x st ps)(G:Ok X.prog X.w X.base d k n F)(h:nZ m X.A)(f:YD X (e::es) fs)(a:Gl X x:=by rfl)(i:k<=m:=by decide)(g:re x:=by decide)(he:A9 (e::es) X.env=(false,eval e X.env)::A9 es X.env:=by rfl)(c:(AD pos (A9 es X.env)).any (·.1)=false:=by rfl):QV X (.Call (.Name x p) (e::es) [] pos) (bH n F fs):=
 yQ G (h.mono i) a d.m d.k d.b f g he c
end
theorem FU{l:PySem.W.OpenLaw}{q:A3}{loose:AZ}{d:DefRec}{K:Params->B1}{T:B1->(AJ->Y A0)->Type}{k:Nat}{st:AB}{F_law:O Bx->Y Bx}(c:∀{K mg},T K mg->DQ K mg "law" st [x])(A:nZ k callerA)(hd:d.name ="law")(G:∀(w:A4) (mg:AJ->Y A0) (base:A6) (t:T (K w.params) mg),Ok l.prog w base (c t) k 1 F_law)(B:l.most=Z 63)(E:d.params.defaults=[])(h1:∀b:O Int,b.length<=63->F_law [.z (.lst (b.map .int))]=Z (.z (.bl true)))(h2:∀b:O Int,b.length<=63->F_law [.l (b.map .int)]=Z (.z (.bl true)))(hb:∀(kV j g:A0) (i:Y A1) (o ct u:A0),bindArgs (fnOf "law" "law" (u0 st) (jG st) (aR st) .none kV j g i o ct) ⟨[u],[]⟩=pure [(x,u)])(v:∀(w:A4) (h:A6),YP w h->(K w.params).In h)(F:∀(w:A4) (mg:AJ->Y A0) (h:A6),(K w.params).In h->h.Ns mainGlobals mg->T (K w.params) mg):
  PySem.W.WalkO q loose XP YP l.row.toRowW d [] (λf vs=>PySem.call f vs):=
 L2.li (n:=63) (k:=k) (x:=x) (CX:=FJ) (sp:=λK=>DA K 1 F_law) B () E A v (λw mg fa h X N e=>by
  have t:=F w mg h X N;have y:=(c t).m;rw[hd,y]at e;cases e;refine⟨(c t).fd,λs u=>?_,λbase _ _=>G w mg base t⟩;obtain⟨L,I,kV,j,g,i,o,ct,osl,e,J,M⟩:=(c t).F.ex;rw[e];exact .of_eq (hb kV j g i o ct u)) (λK H a b D C p=>XE h1 h2 K H a b D C p) λ_ _ _ _ z=>z
section
variable{k:Nat}{f:A1}{sp:A1->O V->Hp->VK->Prop}{p:Pos}{t:TA}
end
section
variable{p0 p1:Pos}{xs:AZ}{e:A1}{a:Expr}{ta:TA}
end
section
variable{f:AJ}{E:XK}{fs:Ev->Y (O Bx)}{p:Pos}
end
section
variable{g:Array GenState}{d:Drawn}{t:Nat}{AS:O A0}{B:String}
end
section
variable{E:XK}{p:Pos}{B:String}{k:Nat}{t:TA}
end
section
variable{p kp cp:Pos}{fs:Ev->Y (O Bx)}{j:Int}{kk:Nat}
end
section
variable{e:α->Dt}
end
section
variable{g:Ev->Y AJ}
variable{e:α->Dt}
end
section
variable{e:α->Dt}{σ' τ:Type}
def qE(e:α->Dt):Y (O α)->Bx
 |none=>.z .non
 |some l=>.o (l.map e)
def Fc(e:α->Dt):Y (O α)->Bx
 |none=>.z .non
 |some l=>.l (l.map e)
def ZG:R (cB .non) ρ (qE e):=⟨U,U,λ_=>S⟩
def cx(a:R fa ρ (oE e)):R fa ρ (qE e):=⟨Z a.v,a.D,λh=>a.ok h⟩
theorem i7{v:Y (O α)}(h:ρ[i]?=Z (Z (qE e v))):pW ρ i=Z (Fc e v):=by
 unfold pW;rw[h];cases v<;>rfl
def No(i:Nat)(e:α->Dt)(v:Y (O α))(h:ρ[i]?=Z (Z (qE e v))):R (gv i) ρ (Fc e):=⟨v,U,λ_=>i7 h⟩
class LG (c:Option (List α)->Bx) (e:outParam (α->Dt)):Prop where
 d:∀v,toD (c v)=eO (eL e) v/\oH (c v)=false
instance:LG (qE e) e:=⟨λv=>by cases v<;>exact⟨rfl,rfl⟩⟩
instance:LG (Fc e) e:=⟨λv=>by cases v<;>exact⟨rfl,rfl⟩⟩
instance:LG (zE (eO (eL e))) e:=⟨λv=>⟨rfl,rfl⟩⟩
def gN(a:R fa ρ (Fc e)):R (b2 Dx fa (cB .non)) ρ (zE eB):=⟨a.v.isNone,a.D,λh=>by
 simp only[b2,a.ok h,At,cB,Dx];cases a.v<;>rfl⟩
end
section
variable{p:Pos}{fs:Ev->Y (O Bx)}
end
section
variable{e:α->Dt}
end
section
variable{e:α->Dt}
end
section
variable{st:AB}{AS:O AB}{ga:Ev->Y Ap}
end
def NX(g:Ev->Y Ap):Prop:=∀ ρ a,g ρ≠Z (.nx a)
theorem QZ(h2:NX g2):NX (aD g1 g2):=λρ c h=>by
 obtain⟨r,e,h⟩:=AT h;cases r with
 |nx a=>exact h2 _ _ h
 |rt b=>cases h
 |bk a=>cases h
 |ct a=>cases h
theorem g7:NX (aD (gn f) eY):=λρ a h=>by
 obtain⟨r,e,h⟩:=AT h;obtain⟨b,eb,e⟩:=AT e;cases b<;>first|(cases e;done)|(cases e;cases h)
theorem RC(h:i≠j)(ρ:Ev)(b:Y Bx):gv j (ρ.set i b)=gv j ρ:=by
 show pW _ _=pW _ _;unfold pW;rw[JS h]
section
variable{k:Nat}{f:A1}{Fa Fb:O Bx->Y Bx}{p spos:Pos}{fs:Ev->Y (O Bx)}
end
section
variable{e:α->Dt}
end
end P1
namespace P1
open L2 S1 S6
section
variable{e:α->Dt}
def ir(a:R fa ρ (Fc e)):R fa ρ (lE e):=⟨a.v.getD [],bA a.D (Z (a.v.isSome=true)),λh=>by
 obtain⟨h1,h2⟩:=aB h;have h2:a.v.isSome=true:=h2;rw[a.ok h1];cases z:a.v with
 |none=>rw[z]at h2;cases h2
 |some l=>rfl⟩
end
end P1
namespace P1
open L2
section
variable{e:α->Dt}
end
def Cy(AQ:Nat->Array A0):Nat->Array A0
 |0=>#[]
 |j+1=>Cy AQ j++AQ j
theorem VI(a b:A0):argsOk "sum" ⟨[a,b],[]⟩:=by unfold argsOk;kernel_rfl
section
variable{R:Result->A2->Prop}{I:A1}{wr:O A1}{P:Nat->A0->Prop}{St:Nat->A6->Prop}
theorem Sj{b:A1}{AQ a:Array A0}{m:Nat}{Q:B7}(c:IsL s.heap l AQ m)(hb:PlainL s.heap b a)(e:AQ.size+a.size<=AA)(h:Q (.ref s.heap.objs.size) { s with heap:=s.heap.push { cls:=.type "list",data:=.seq (AQ++a) } }):A7 (A8 prog w) A (binaryOp .Add (.ref l) (.ref b)) Q E s:=by
 obtain⟨⟨cls2,j,i,f⟩,g,e2,c2,d2,d⟩:=hb;simp only at c2 d2 d;subst c2 d2 d;exact concat_meets ⟨_,c,rfl⟩ ⟨_,e2,rfl⟩ noFill_list_add seq_list_add PySem.F.slot_list_add PySem.F.entry_list_add (PySem.F.args_list_add_2 _ _) (list_addW l b AQ a m g U U #[] f e) ⟨c,e2,h⟩
theorem Xu{h':A6}{AQ:Array A0}(p:PlainL h a AQ)(k:∀o,h.get? a=Z o->h'.get? a=Z o):PlainL h' a AQ:=by
 obtain⟨o,m,e,c⟩:=p;exact⟨o,m,k o e,c⟩
theorem lS(W:Walks prog w A.in1 I fp wr n P St)(a:Nat->A1)(AQ:Nat->Array A0)(b0:∀i v,P i v->v=.ref (a i))(S T0:A1)(J:S∉fp)(h0:A6)(z0:Nat)(b4:∀i h,St i h->∀b∈wr,b<h.objs.size)(a7:∃b∈wr,z0<=b)
  (a5:∀i,i<n->a i∉wr/\a i≠S/\PlainL h0 (a i) (AQ i)) (hsz:∀j,j<n->(Cy AQ j).size+(AQ j).size<=AA):
  ∀(k i:Nat) (s:A2) (T:A1) (m c:Nat),n-i=k->i<=n->St i s.heap->s.heap.get? S=Z { cls:=.type "list",dict:=U,data:=.seq #[.ref T] c,slots:=#[] }->IsL s.heap T (Cy AQ i) m->T≠S->T∉wr->(i=0/\T=T0\/z0<=T) →
  (∀b o,b∉wr->b≠S->h0.get? b=Z o->s.heap.get? b=Z o) →
  (∀h' tk l m',(∀b o,b∉wr->b≠S->h0.get? b=Z o->h'.get? b=Z o)->IsL h' l (Cy AQ n) m'->(n=0/\l=T0\/z0<=l)->R (.ok (.ret (.ref l))) { s with heap:=h',toks:=tk }) →
  AF (A8 prog w) A (.builtin "sum.loop" ⟨[.ref I,.ref S,rawInt 2,rawInt 0],[]⟩) R s:=by
 have c6:S∉wr:=λh=>J (W.sub _ h);intro k
 induction k with
 |zero=>
  intro i s T m c hk hi D t B a8 C G p y;have a4:i=n:=by omega
  subst a4;refine ke F.entry_sum_loop ?_;rw[Around.under_plainId Y3 _];show A7 _ A.in1 (seqItems? (.ref S) >>= _) _ _ s;refine zd (yA t rfl ?_);show A7 _ A.in1 (tryCatch (pyNext (.ref I)) _ >>= _) _ _ s;refine zd (wpAny_tryCatch (W.done s _ _ D λh' tk d=>?_));exact zh (y h' tk T m (λb o f q e=>d b o f (p b o f q e)) (d _ _ C B) G)
 |succ k ih=>
  intro i s T m c hk hi D t B a8 C G p y;have g:i<n:=by omega
  refine ke F.entry_sum_loop ?_;rw[Around.under_plainId Y3 _];show A7 _ A.in1 (seqItems? (.ref S) >>= _) _ _ s;refine zd (yA t rfl ?_);show A7 _ A.in1 (tryCatch (pyNext (.ref I)) _ >>= _) _ _ s;refine zd (wpAny_tryCatch (W.item i s _ _ g D λv h' tk hP L d=>?_));have X:=b0 i v hP;subst X;obtain⟨H,l2,l3⟩:=a5 i g;have u:=d S _ c6 t;have c0:IsL h' T (Cy AQ i) m:=d _ _ C B;have c3:PlainL h' (a i) (AQ i):=Xu l3 λo e=>d _ _ H (p _ _ H l2 e);have E:=b4 _ _ L;have a6:z0<=h'.objs.size:=by
   obtain⟨b,hb,z⟩:=a7;exact j0 (ja z (E b hb))
  show A7 _ A.in1 ((holding [Value.ref (a i)] (binaryOp .Add (.ref T) (.ref (a i)))).attempt >>= _) _ _ _;refine zd (wpAny_attempt (QR (Sj c0 c3 (hsz i g) ?_)));have K:∀(o:AE),h'.get? S=Z o->(h'.push { cls:=.type "list",data:=.seq (Cy AQ i++AQ i) }).get? S=Z o:=λo e=>ze _ e;show A7 _ A.in1 (updateSeq S (λ_=>#[.ref h'.objs.size]) >>= _) _ _ _;refine zd ?_;refine wpAny_updateSeq (K _ u) rfl ?_;have N:=kA (Obj.mapSeq λ_=>#[Value.ref h'.objs.size]) (K _ u) rfl;refine zd (wpAny_letGo ?_);refine zd ?_;have x:h'.objs.size≠S:=kQ (zv u);have M:∀(b:A1) (o:AE),b≠S->h'.get? b=Z o->(((h'.push { cls:=.type "list",data:=.seq (Cy AQ i++AQ i) }).update S (Obj.mapSeq λ_=>#[Value.ref h'.objs.size])).update S (Obj.mapSeq λ_=>#[Value.ref h'.objs.size])).get? b=Z o:=λb o hb e=>(ku _ _ (ka hb)).trans ((ku _ _ (ka hb)).trans (ze _ e));refine wpAny_updateSeq N rfl (zh ⟨plainId_quiet Y3 _,ih (i+1) _ h'.objs.size 0 _ () g (W.frame _ _ _ L λb hb o e=>?_) (kA _ N rfl) ?_ x ?_ (.inr a6) (λb o f q e=>M b o q (d b o f (p b o f q e))) λQ a0 b9 b3 a1 a2 a3=>?_⟩)
  ·exact M b o (λh:b=S=>J (by rw[<-h];exact hb)) e
  ·exact(ku _ _ (ka x)).trans ((ku _ _ (ka x)).trans (zw _ rfl))
  ·exact λhb=>Q3 _ (E _ hb)
  ·exact y Q a0 b9 b3 a1 a2 a3
theorem XO:isSubtype (.type "list") (.type "str")=pure false:=by rw[isSubtype_type];kernel_rfl
theorem UW:isSubtype (.type "list") (.type "bytes")=pure false:=by rw[isSubtype_type];kernel_rfl
theorem G6:isSubtype (.type "list") (.type "bytearray")=pure false:=by rw[isSubtype_type];kernel_rfl
theorem VZ{x:A0}{T0 m0:Nat}{Q:B7}
  (h:A7 (A8 prog w) A.in1 (pyIter x) (λit a=>∃(I:A1) (fp wr:O A1) (n:Nat) (P:Nat->A0->Prop) (St:Nat->A6->Prop) (d:Nat->A1) (AQ:Nat->Array A0) (z0:Nat),it=.ref I/\Walks prog w A.in1 I fp wr n P St/\St 0 a.heap/\(∀b∈fp,b<a.heap.objs.size) ∧
   (∀i v,P i v->v=.ref (d i))/\(∀i h,St i h->∀b∈wr,b<h.objs.size)/\(∃b∈wr,z0<=b)/\(IsL a.heap T0 #[] m0/\T0∉wr) ∧
   (∀i,i<n->d i∉wr/\PlainL a.heap (d i) (AQ i))/\(∀j,j<n->(Cy AQ j).size+(AQ j).size<=AA) ∧
   ∀h' tk c g,(∀b o,b∉wr->a.heap.get? b=Z o->h'.get? b=Z o)->IsL h' c (Cy AQ n) g->(n=0/\c=T0\/z0<=c)->Q (.ref c) { a with heap:=h',toks:=tk }) E s):
  A7 (A8 prog w) A (call (.builtin "sum") [x,.ref T0]) Q E s:=by
 refine call_function_tree F.kind_sum F.plain_sum F.entry_sum (VI _ _) ?_;unfold Builtin.«sum»;simp only[ZI,fM];rw[zD ()];refine zd (YE (show Builtin.Builtins.bindParams "sum" ["start"] 0 ⟨[.ref T0],[]⟩=pure [Z (.ref T0)] from S) ?_);refine zd (QI h (λit a m=>?_) λ_ _ e=>e);obtain⟨I,fp,wr,n,P,St,d,AQ,z0,rfl,W,H,C,B,D,u,⟨l,G⟩,f,K,p⟩:=m;have ty:a.TypeIs (.ref T0) "list":=⟨_,l,rfl⟩;refine zd (zh ?_);simp only[List.forIn_cons,List.forIn_nil];refine zd (zd (zd (JO (T :="list") (b:=false) ty XO ?_)));simp only[zr,ZU];refine zh (zd (zd (JO (T :="list") (b:=false) ty UW ?_)));simp only[zr,ZU];refine zh (zd (zd (JO (T :="list") (b:=false) ty G6 ?_)));simp only[zr,ZU];refine zh (zh ?_);refine zd (qo ?_);have q:a.heap.objs.size∉fp:=λt=>Q3 _ (C _ t);refine zh ⟨plainId_quiet Y3 _,lS W d AQ B a.heap.objs.size T0 q a.heap z0 D u (λi hi=>⟨(f i hi).1,?_,(f i hi).2⟩) K n 0 _ T0 m0 0 S (QP _)
  (W.frame _ _ _ H λb _ o e=>ze _ e) (zw _ S) (ze _ l) (Zl (zv l)) G (.inl ⟨rfl,rfl⟩) (λb o _ _ e=>ze _ e) λh' tk c g y a2 z=>?_⟩
 ·obtain⟨o,_,e,_⟩:=(f i hi).2;exact Zl (zv e)
 ·exact p h' tk c g (λb o J e=>y b o J (Zl (zv e)) e) a2 z
end
def O6:O Dt->Y (O (O Dt))
 |[]=>Z []
 |.lst xs::r=>(O6 r).bind λks=>Z (xs::ks)
 |_=>U
def U0:O Bx->Y Bx
 |[b,.o []]=>(qj b).bind λds=>(O6 ds).bind λks=>if ks.length<=1000/\ks.flatten.length<=100000 then Z (.l ks.flatten)else U
 |_=>U
theorem Ko{AN:O (A1×AE)}{σ:L2.St}{H:Hp}{s:A2}(I:L2.AU X AN σ H s):∀{ds:O Dt} {ks:O (O Dt)} {vs:O V} {AQ:O A0},O6 ds=Z ks->aK X.K H ds vs->AX vs AQ →
  ∃(as:O A1) (c:O (O A0)) (us:O V),AQ=as.map Value.ref/\as.length=c.length/\as.length=ks.length/\aK X.K H ks.flatten us/\AX us c.flatten/\∀(i:Nat) (a:A1),as[i]?=Z a->∃it:O A0,c[i]?=Z it/\PlainL s.heap a it.toArray
 |[],ks,vs,AQ,e,r,w=>by
  cases e;simp only[aK]at r;subst r;cases w;exact⟨[],[],[],rfl,rfl,rfl,by simp only[k5,aK],.nil,λi a h=>by simp at h⟩
 |d::ds,ks,vs,AQ,e,r,w=>by
  cases d with
  |lst xs=>
   simp only[O6]at e;obtain⟨z,e1,e2⟩:=AT e;cases e2;obtain⟨f,g,rfl,q,t⟩:∃f g,vs=f::g/\AW X.K H (.lst xs) f/\aK X.K H ds g:=by
    simpa only[aK]using r
   simp only[AW]at q;obtain⟨a,v,rfl,j,p⟩:=q;cases w with
   |cons o n=>
    cases o;obtain⟨as,c,us,rfl,m,u,l,x,h2⟩:=Ko I e1 t n;obtain⟨it,y,pl,_⟩:=I.list j.sq;refine⟨a::as,it::c,v++us,rfl,by simp[m],by simp[u],?_,?_,λi b h=>?_⟩
    ·rw[qS];exact p.append l
    ·rw[qS];exact y.append x
    ·cases i with
     |zero=>simp at h;subst h;exact⟨it,rfl,pl⟩
     |succ i=>simpa using h2 i b (by simpa using h)
  |_=>cases e
theorem Kq(a:O (O A0)):∀n,n<=a.length->Cy (λi=>(a.getD i []).toArray) n=(a.take n).flatten.toArray
 |0,_=>by simp[Cy]
 |n+1,h=>by
  have b:n<a.length:=by omega
  have e:a.getD n []=a[n]:=by simp[b]
  rw[Cy,Kq a n (),e,ey b,kP];simp only[qS,k5,qv];exact List.append_toArray _ _
theorem nB(F:X.calm=true):pU X (.builtin "sum") U0:=by
 intro AN s σ H xs us Q I r h;obtain⟨bs,c,rb,e,q⟩:=h;unfold U0 at e;split at e
 ·obtain⟨ds,ed,e⟩:=AT e;obtain⟨ks,ek,e⟩:=AT e;split at e
  ·rename_i a4;cases e;obtain⟨v,v2,rfl,G,E⟩:=EG rb;obtain⟨a,vs,rfl,sq,W⟩:=G.HB ed;obtain⟨T0,a5,rfl,x,C⟩:=E;simp only[aK]at C;subst C;obtain⟨u,u2,rfl,K,a0⟩:=C2 r;cases K;cases a0;obtain⟨AQ,w,pl,hz⟩:=I.list sq;obtain⟨zT,a3,D,wT,lT,eT⟩:=I.aiC x;have a2:a3=[]:=by cases wT;rfl
   subst a2;obtain⟨as,d,f,rfl,t,l2,z,p,h3⟩:=Ko I ek W w;have y:a<s.heap.objs.size:=by obtain⟨o,n,e,_⟩:=pl;exact zv e
   have a6:d.flatten.length<=100000:=by
    have e1:f.length=ks.flatten.length:=z.length;have e2:f.length=d.flatten.length:=p.length;omega
   have av:∀(i:Nat) (v:A0),(as.map Value.ref).toArray[i]?=Z v->v=.ref (as.getD i 0):=λi v l=>by
    rw[K2,ZE]at l;rw[i0];cases h:as[i]? with
    |none=>rw[h]at l;cases l
    |some b=>rw[h]at l;cases l;rfl
   have sz:(as.map Value.ref).toArray.size=d.length:=by simp[t]
   refine VZ (T0:=T0) (m0:=D) (KP pl.isList ?_);refine⟨s.heap.objs.size,_,_,_,_,_,λi=>as.getD i 0,λi=>(d.getD i []).toArray,s.heap.objs.size,rfl,Walks.list (by show X.A.handled=U;exact I.ok.hd F) s.heap.objs.size a (Zl y) (as.map Value.ref).toArray,⟨⟨_,zw _ rfl,rfl,rfl⟩,pl.isList.push _⟩,?_,av,?_,⟨s.heap.objs.size,ba.mpr rfl,zk _⟩,⟨ze _ eT,?_⟩,λi hi=>?_,λj hj=>?_,λh' tk g N k e1 e2=>?_⟩
   ·intro b hb;have a1:(s.heap.push { cls:=.type "list_iterator",data:=.fields #[.ref a,.int 0 0] }).objs.size=s.heap.objs.size+1:=qk ..;simp only[js,JP,or_false]at hb;show b<(s.heap.push { cls:=.type "list_iterator",data:=.fields #[.ref a,.int 0 0] }).objs.size;rw[a1];rcases hb with rfl|rfl
    ·exact qa _
    ·exact qB y
   ·intro i h ⟨⟨o,ho,_⟩,_⟩ b hb;cases ba.mp hb;exact zv ho
   ·exact λhb=>Q3 _ (by have:=zv eT;rw[ba.mp hb]at this;exact this)
   ·rw[sz,<-t]at hi;obtain⟨it,e1,p1⟩:=h3 i as[i] (Zp hi);have ga:as.getD i 0=as[i]:=by simp[hi]
    have L:d.getD i []=it:=by rw[i0,e1];rfl
    dsimp only;rw[ga,L];obtain⟨o,m,e,c⟩:=p1;exact⟨λhb=>Q3 _ (by have:=zv e;rw[ba.mp hb]at this;exact this),o,m,ze _ e,c⟩
   ·rw[sz]at hj;have e1:=Kq d (j+1) ();have e2:((d.take (j+1)).flatten).length<=d.flatten.length:=by
     conv=>rhs;rw[<-KW (j+1) d]
     rw[kP,zC];omega
    have e3:(Cy (λi=>(d.getD i []).toArray) (j+1)).size<=100000:=by rw[e1,zI];omega
    rw[Cy,Kk]at e3;have:(100000:Nat)<=AA:=by decide
    dsimp only;omega
   ·rw[sz,Kq d d.length (zk _),pg]at e1;rw[sz]at e2;have keep:∀b o,s.heap.get? b=Z o->h'.get? b=Z o:=λb o e=>k b o (λhb=>Q3 _ (by have:=zv e;rw[ba.mp hb]at this;exact this)) (ze _ e);rcases e2 with⟨J,rfl⟩|e2
    ·have hi:d=[]:=en.mp J;have P:ks=[]:=en.mp ();subst P;refine⟨.ref g,H,I.kept (t':=tk) keep,rfl,q _ H (AV.refl H) trivial ⟨g,[],rfl,.inl x,by simp only[k5,aK]⟩⟩
    ·have hf:H g=U:=I.hok.fresh e2;have M:f.length<=AA:=by
      have:(100000:Nat)<=AA:=by decide
      have:=p.length;omega
     have B:AV H (B4 H g (.lst f)):=bO hf;exact⟨.ref g,_,I.laid (t':=tk) (o:=.lst f) keep e2 ⟨M,_,N,p,e1⟩,rfl,q _ _ B trivial ⟨g,f,rfl,.inl aV,z.kp (.of B)⟩⟩
  ·cases e
 ·cases e
section
variable{e:α->Dt}
theorem O7(e:α->Dt):∀xs:O (O α),O6 (xs.map (eL e))=Z (xs.map λl=>l.map e)
 |[]=>rfl
 |x::xs=>by simp only[zo,eL,O6,O7 e xs,At]
def WG(a:RL fa ρ (eL e)):R (cN U0 (aq fa (aq (cN jZ aG) aG))) ρ (lE e):=⟨a.v.flatten,bA a.D (Z (a.v.length<=1000/\a.v.flatten.length<=100000)),λh=>by
 obtain⟨h1,h2⟩:=aB h;obtain⟨h2,b⟩:a.v.length<=1000/\a.v.flatten.length<=100000:=h2;have e1:((a.v.map λl=>l.map e).flatten)=a.v.flatten.map e:=by rw[List.map_flatten]
 have e2:cN jZ aG ρ=Z (.o []):=rfl;simp only[cN,aq,aG,a.ok h1,At];have c:(a.v.map λl=>l.map e).length<=1000/\((a.v.map λl=>l.map e).flatten).length<=100000:=by
  rw[e1,zl,zl];exact⟨h2,b⟩
 have e3:jZ []=Z (.o []):=rfl;simp only[e3,At];simp only[U0,a.lk,At,O7];rw[zt c,e1]⟩
end
def GE{α:Type}:O α->O α
 |[]=>[]
 |x::xs=>x::GE (xs.drop 5)
termination_by l=>l.length
decreasing_by simp;omega
section
variable{st:Expr}{fs:Ev->Y Bx}
end
section
variable{e:α->Dt}
end
def U3(j:Nat):Ev->Y Bx:=λρ=>match ρ[j]? with
 |some (Z (.o ds))=>Z (.o ds)
 |_=>U
theorem bI.moveTo(E:bI K H0 H σ ρ)(A:i≠j)(hi:i<ρ.length)(t:ρ[j]?=Z (Z (.o ds)))(q:σ[j]?=Z (Z v)):bI K H0 H (σ.set i (Z v)) ((ρ.set i (Z (.o ds))).set j U):=by
 have f:∀(k:Nat) (b:Bx),((ρ.set i (Z (.o ds))).set j U)[k]?=Z (Z b)->∃d,ρ[d]?=Z (Z b)/\(σ.set i (Z v))[k]?=σ[d]?/\((k=i/\d=j)\/(k≠i/\k≠j/\d=k)):=λk b e=>by
  rcases B5 e with⟨_,e,_⟩|⟨m,e⟩
  ·cases e
  ·rcases B5 e with⟨rfl,e,_⟩|⟨g,e⟩
   ·cases e;exact⟨j,t,by rw[j3 (by rw[E.len];exact hi),q],.inl ⟨rfl,rfl⟩⟩
   ·exact⟨k,e,JS (ka g),.inr ⟨g,m,rfl⟩⟩
 refine⟨by rw[jv,jv,jv];exact E.len,λk b e=>?_,λk l c a b e1 h e2 e3 eb z=>?_,E.base,λk c a e1 h e2=>?_⟩
 ·obtain⟨d,e1,e2,_⟩:=f k b e;obtain⟨u,w,n⟩:=E.val d b e1;exact⟨u,by rw[e2];exact w,n⟩
 ·obtain⟨d,a1,a2,y⟩:=f k c e1;obtain⟨p,b1,b2,x⟩:=f l b e3;have:=E.own d p c a b a1 h (by rw[<-a2];exact e2) b1 eb (by rw[<-b2];exact z);rcases y with⟨rfl,rfl⟩|⟨m,g,rfl⟩<;>rcases x with⟨rfl,rfl⟩|⟨B,s,rfl⟩
  ·rfl
  ·exact absurd this.symm s
  ·exact absurd this g
  ·exact this
 ·obtain⟨d,a1,a2,_⟩:=f k c e1;exact E.new d c a a1 h (by rw[<-a2];exact e2)
theorem U4{j:Nat}:∀{W:O Nat} {ρ:Ev},j∈W->kill W (ρ.set j U)=kill W ρ
 |w::W,ρ,h=>by
  show kill W ((ρ.set j U).set w U)=kill W (ρ.set w U);by_cases e:w=j
  ·subst e;rw[List.set_set]
  ·rw[ic _ _ (ka e)];exact U4 ((List.mem_cons.mp h).resolve_left (ka e))
section
variable{st:AB}{AS:O AB}{W:O Nat}
theorem U5(h1:Mh X st g1)(h2:Qe X AS (aD g2 (cQ W))):Qe X (st::AS) (aD (aD g1 g2) (cQ W)):=by
 have e:aD (aD g1 g2) (cQ W)=aD g1 (aD g2 (cQ W)):=by
  funext ρ;unfold aD;cases g1 ρ with
  |none=>rfl
  |some r=>cases r<;>rfl
 rw[e];exact au h1 h2
theorem ua(i j:Nat){p q:Pos}(m:X.N.Nodup)(u:j∈W)(s:i≠j)(hi:X.N[i]?=Z x:=by rfl)(z:X.N[j]?=Z y:=by rfl)(hx:CD X.env.scope x:=by first|exact jI rfl|exact QE S)(g:V4 X.env.scope y:=by first|exact jI rfl|exact QE (jI S)|exact QE (QE S))(hd:re y:=by decide)(w:(y==("__classdict__":AJ))=false:=by decide)(hs:swapsWith (.Name y q) (Z (.Name x p)) pos.line X.env=pure false:=by rfl)(A:X.fn x=true\/X.env.scope.names.lookup x=Z .local:=by first|exact .inl rfl|exact .inr S):
  Qe X [.Assign [.Name x p] (.Name y q) pos] (aD (aD (Au i (U3 j)) eY) (cQ W)):=⟨Wn (lG (Pu (pos:=pos) (pos':=p) m hi hx (ou (pos:=q) z g hd w) hs A) yK) λD σ H h=>by
 obtain⟨H0,ρ,r,E,e,a⟩:=h;obtain⟨F,e1,e⟩:=AT e;obtain⟨C,e2,e1⟩:=AT e1;obtain⟨b,eb,e2⟩:=AT e2;obtain⟨I,t,e2⟩:=AT e2;unfold U3 at eb;split at eb
 ·rename_i ds d;cases eb;cases t;cases e2;cases e1;cases e;obtain⟨v,f,G⟩:=E.val j _ d;refine⟨v,f,?_⟩;by_cases l:i<ρ.length
  ·have c:=(E.moveTo s l d f).kill W;rw[U4 u]at c;exact a _ _ c
  ·have c:bI X.K H0 H σ ρ:=E;have n:σ.set i (Z v)=σ:=ld (by rw[E.len];omega);have B:ρ.set i (Z (.o ds))=ρ:=ld ();rw[B]at a;show D.nx (σ.set i (Z v)) H;rw[n];exact a _ _ (E.kill W)
 ·cases eb⟩
end
section
variable{e:α->Dt}
def WI(j:Nat)(xs:O α)(h:ρ[j]?=Z (Z (oE e xs))):R (U3 j) ρ (oE e):=⟨xs,U,λ_=>by unfold U3;rw[h]⟩
end
def P8(K:B1)(H0 H:Hp)(b:Bx)(v:V):Prop:=∃(t p:A1) (a:O V) (e:AE) (d0:O Dt) (c1 c2:Dt) (c d:V),b=.z (.tup [.lst d0,c1,c2])/\v=.ref t/\H t=Z (.tup [.ref p,c,d])/\H p=Z (.n6 e (.lst a))/\(aK K H d0 a/\AW K H c1 c/\AW K H c2 d)/\H0 p=U
def FC(K:B1)(n:Nat)(F:O Bx->Y Bx):Sp:=λvs H Q _=>vs.length=n/\∃bs r,tu K H bs vs/\bs.all (λb=>!w9 b)=true/\F bs=Z r/\∀v H',AV H H'->aX K H' r v->P8 K H H' r v->Q v H'
def FD(K:B1)(Hb:Hp)(L i:Nat)(d H:Hp)(σ:L2.St)(ρ:Ev):Prop:=σ.length=L/\∃(t p:A1) (a:O V) (b:AE) (d0:O Dt) (m n:Int),ρ[i]?=Z (Z (.z (.tup [.lst d0,.int m,.int n])))/\d0.length<1000/\σ[i]?=Z (Z (.ref t))/\H t=Z (.tup [.ref p,.int m,.int n])/\H p=Z (.n6 b (.lst a))/\aK K H d0 a/\d p=U/\∀c u,Hb p≠Z (.n6 c u)
def FR(K:B1)(Hb:Hp)(j:Nat)(d H:Hp)(σ:L2.St)(ρ:Ev):Prop:=∃(p:A1) (a:O V) (b:AE),a.length<1000/\σ[j]?=Z (Z (.ref p))/\H p=Z (.n6 b (.lst a))/\d p=U/\∀c u,Hb p≠Z (.n6 c u)
theorem FD.grow{L:Nat}{a H':Hp}(h:FD K Hb L i a H σ ρ)(s:AV H H'):FD K Hb L i a H' σ ρ:=by
 obtain⟨f,t,p,d,e,d0,m,n,a1,a2,g,l,j,b,c⟩:=h;exact⟨f,t,p,d,e,d0,m,n,a1,a2,g,s _ _ l,s _ _ j,b.kp (.of s),c⟩
theorem FR.grow{a H':Hp}(h:FR K Hb j a H σ ρ)(s:AV H H'):FR K Hb j a H' σ ρ:=by
 obtain⟨p,b,c,a1,a2,d,e⟩:=h;exact⟨p,b,c,a1,a2,s _ _ d,e⟩
def SD(K:B1)(Φ:Hp->Hp->L2.St->Ev->Prop)(W:O Nat)(g:Ev->Y Ap):TS:=λD σ H=>∃H0 a ρ r,bI K H0 H σ ρ/\bI K H0 a σ (kill W ρ)/\AV a H/\Φ a H σ ρ/\g ρ=Z r/\SM K H0 D r
structure F5 (X:Cx) (Φ:Hp->Hp->L2.St->Ev->Prop) (W:List Nat) (st:List Stmt) (g:Ev->Option Ap):Prop where
 run:R8 X st (SD X.K Φ W g)
theorem Kr{i:Nat}{x:Y Bx}:∀{W:O Nat} {ρ:Ev},i∈W->kill W (ρ.set i x)=kill W ρ
 |w::W,ρ,h=>by
  show kill W ((ρ.set i x).set w U)=kill W (ρ.set w U);by_cases e:w=i
  ·subst e;rw[List.set_set]
  ·rw[ic _ _ (ka e)];exact Kr ((List.mem_cons.mp h).resolve_left (ka e))
theorem Ku{i:Nat}{x:Y Bx}:∀{W:O Nat} {ρ:Ev},i∉W->kill W (ρ.set i x)=(kill W ρ).set i x
 |[],ρ,_=>rfl
 |w::W,ρ,h=>by
  show kill W ((ρ.set i x).set w U)=(kill W (ρ.set w U)).set i x;rw[ic _ _ (λe=>h (by rw[e];exact zg ..))];exact Ku λq=>h (zi _ q)
section
variable{st:O AB}{fr:Ev->Y Bx}{W:O Nat}{z:Pos}{Φ:Hp->Hp->L2.St->Ev->Prop}
theorem Xv(s:∀i H H' σ ρ,Φ i H σ ρ->AV H H'->Φ i H' σ ρ)(t:QB X c p)(he:QV X e fr)(h:F5 X Φ W st g):F5 X Φ W (.If c [.Return (Z e) z] [] pos::st) (aD (zx p (aD (gn fr) eY) eY) g):=⟨Wn (lG (OB t.run (lG (IV (pos:=z) he.run) yK) yK) h.run) λD σ H q=>by
 obtain⟨H0,i,ρ,r,E,E0,u,x,e,q⟩:=q;obtain⟨A,e1,e⟩:=AT e;obtain⟨k,ek,e1⟩:=AT e1;refine⟨H0,ρ,k,E,ek,λH1 a=>?_⟩;cases k with
 |true=>
  rw[zt rfl]at e1 ⊢;obtain⟨d,e2,e1⟩:=AT e1;obtain⟨b,eb,e2⟩:=AT e2;cases b with
  |z y=>
   cases e2;cases e1;cases e;exact⟨H0,ρ,_,E.grow a,eb,λv H2 f j d=>q v H2 ((E.base.trans a).trans f) trivial d⟩
  |l ds=>cases e2
  |n ds=>cases e2
  |o ds=>
   cases e2;cases e1;cases e;exact⟨H0,ρ,_,E.grow a,eb,λv H2 f j d=>q v H2 ((E.base.trans a).trans f) (j.old (E.base.trans a)) d⟩
  |m ds w=>
   cases e2;cases e1;cases e;exact⟨H0,ρ,_,E.grow a,eb,λv H2 f j d=>q v H2 ((E.base.trans a).trans f) (j.old (E.base.trans a)) d⟩
 |false=>
  rw[zD ZO]at e1 ⊢;cases e1;exact⟨H0,i,ρ,r,E.grow a,E0,u.trans a,s _ _ _ _ _ x a,e,q⟩⟩
theorem me(i:Nat){k:Nat}{F:O Bx->Y Bx}{fs:Ev->Y (O Bx)}{fa:A1}{fx:AJ}{p' p1 pos2:Pos}(hN:X.N.Nodup)(G:rQ X.prog X.w X.K X.mg X.base FJ k fa fd ps (FC X.K n F))(hr:nZ k X.A)(hg:Gl X fx)(M:X.mg fx=Z (.ref fa))(hk:keepIn X.K (.ref fa)=true)(hb:BQ X.K fd ps [])(ha:YD X (e::es) fs)(hF:∀bs r,F bs=Z r->∃d0 m n,r=.z (.tup [.lst d0,.int m,.int n])/\d0.length<1000)(l:i∈W)(h:F5 X (FD X.K X.H₀ X.N.length i) W st g)(a2:re fx:=by decide)(he:A9 (e::es) X.env=(false,eval e X.env)::A9 es X.env:=by rfl)(a3:(AD pos (A9 es X.env)).any (·.1)=false:=by rfl)(hi:X.N[i]?=Z x:=by rfl)(hx:CD X.env.scope x:=by first|exact jI rfl|exact QE S)(hs:swapsWith (.Call (.Name fx p1) (e::es) [] pos) (Z (.Name x p')) pos2.line X.env=pure false:=by rfl)(hf:X.fn x=true\/X.env.scope.names.lookup x=Z .local:=by first|exact .inl rfl|exact .inr S):Qe X (.Assign [.Name x p'] (.Call (.Name fx p1) (e::es) [] pos) pos2::st) (aD (Au i (bH n F fs)) g):=⟨by
 intro AN s σ H D I q;obtain⟨H0,ρ,r,E,e,q⟩:=q;obtain⟨r1,e1,e⟩:=AT e;obtain⟨b,eb,e1⟩:=AT e1;obtain⟨a7,a0,e1⟩:=AT e1;cases e1;obtain⟨bs,a5,eb⟩:=AT eb;split at eb
 ·rename_i hn;obtain⟨d0,m,d,rfl,L⟩:=hF _ _ eb;cases a0;refine(lG (Pu (pos:=pos2) (pos':=p') hN hi hx (Px (p:=p1) (pos:=pos) G hr hg M hk hb .nil (Ic) ha.run a2 he a3) hs hf) h.run) AN s σ H D I ?_;refine⟨H0,ρ,bs,E,a5,λvs H1 f o=>?_⟩;show FC X.K n F (vs++[]) H1 _ _;rw[qv];refine⟨by rw[<-Paired.length o];exact hn,_,_,Jq o,Qg bs,eb,λv H2 y J nw=>?_⟩;obtain⟨t,C,x0,Q,a6,c1,c2,va,P,ed,rfl,ht,hp,⟨w0,w1,w2⟩,j⟩:=nw;cases ed;have a1:va=.int m:=by simpa only[AW]using w1
  have a4:P=.int d:=by simpa only[AW]using w2
  subst a1 a4;have nf:∀a u,X.H₀ C≠Z (.n6 a u):=λa u z=>by
   have:=f _ _ (I.base.Aw _ a u z);rw[j]at this;cases this
  have B:i<σ.length:=by
   have:=(bv.mp hi).1;rw[I.len];exact this
  have no:∀c,(P1.kill W ρ)[i]?≠Z (Z c):=QT W ρ i (.inl l);refine⟨H0,H1,ρ.set i (Z (.z (.tup [.lst d0,.int m,.int d]))),r,(E.grow f).set y J (.inr S) trivial,?_,y,⟨by rw[jv];exact I.len,t,C,x0,Q,d0,m,d,j3 (by rw[<-E.len];exact B),L,j3 B,ht,hp,w0,j,nf⟩,e,q⟩;rw[Kr l];exact((E.grow f).kill W).sl no _
 ·cases eb⟩
theorem Xw(i j k l:Nat){d x1 c a:AJ}{s q1 q2 f tp:Pos}{kt}(J:X.calm=true)(v:X.N.Nodup)(b9:i≠j/\i≠k/\i≠l)(A:j∈W)(a0:k∉W)(b4:l∉W)(x:j≠k/\j≠l)(h:F5 X (FR X.K X.H₀ j) W st g)
  (hi:X.N[i]?=Z d:=by rfl) (C:X.N[j]?=Z x1:=by rfl) (hk:X.N[k]?=Z c:=by rfl) (Q:X.N[l]?=Z a:=by rfl)
  (L:V4 X.env.scope d:=by first|exact jI rfl|exact QE (jI S)|exact QE (QE S)) (hd:re d:=by decide) (b3:(d==("__classdict__":AJ))=false:=by decide)
  (I:CD X.env.scope x1:=by first|exact jI rfl|exact QE S) (f1:X.fn x1=true\/X.env.scope.names.lookup x1=Z .local:=by first|exact .inl rfl|exact .inr S)
  (P:CD X.env.scope c:=by first|exact jI rfl|exact QE S) (f2:X.fn c=true\/X.env.scope.names.lookup c=Z .local:=by first|exact .inl rfl|exact .inr S)
  (l3:CD X.env.scope a:=by first|exact jI rfl|exact QE S) (f3:X.fn a=true\/X.env.scope.names.lookup a=Z .local:=by first|exact .inl rfl|exact .inr S)
  (hs:swapsWithSole [.Tuple [.Name x1 q1,.Name c q2,.Name a f] kt tp] (.Name d s) pos.line X.env=pure false:=by rfl) (M:swappedStores [.Tuple [.Name x1 q1,.Name c q2,.Name a f] kt tp] (.Name d s) X.env=pure U:=by rfl)
  (h1:(assignEach [.Tuple [.Name x1 q1,.Name c q2,.Name a f] kt tp] X.env).map (·.2)=[assign (.Tuple [.Name x1 q1,.Name c q2,.Name a f] kt tp) X.env]:=by rfl):
  F5 X (FD X.K X.H₀ X.N.length i) W (.Assign [.Tuple [.Name x1 q1,.Name c q2,.Name a f] kt tp] (.Name d s) pos::st) (aD (Jx (n8 3 (bQ (g8 j) (bQ (g8 k) (bQ (g8 l) qI)))) (gv i)) g):=
 ⟨Wn (lG (Pp (ou (pos:=s) hi L hd b3) (NH (k:=kt) (pos:=tp) J (Ba (L2.Az (pos:=q1) v C I f1) (Ba (L2.Az (pos:=q2) v hk P f2) (Ba (L2.Az (pos:=f) v Q l3 f3) Yt)))) hs M h1) h.run) λD σ H q=>by
  obtain⟨H0,o,ρ,r,E,E0,sc,⟨hL,t,p,F,w,d0,m,n,a1,a2,a3,a4,y,B,a7,G⟩,e,q⟩:=q;obtain⟨r1,e1,e⟩:=AT e;obtain⟨b,eb,e1⟩:=AT e1;have eb:pW ρ i=Z b:=eb;unfold pW at eb;rw[a1]at eb;cases eb;obtain⟨c0,b0,e1⟩:=AT e1;cases e1;cases b0;have rl:aX X.K H (.z (.lst d0)) (.ref p):=by simp only[aX,AW];exact⟨p,F,rfl,.inl ⟨w,y⟩,B⟩
  have u:∀(H:Hp) (m:Int),aX X.K H (.z (.int m)) (.int m):=λH m=>by simp only[aX,AW]
  have jl:j<σ.length:=by
   rw[hL];exact(bv.mp C).1
  refine⟨.ref t,a3,t,_,rfl,.inl (.inl a4),rfl,_,_,rfl,_,_,rfl,_,_,rfl,rfl,H0,o,_,r,((E.set (AV.refl H) rl (.inr S) trivial).set (AV.refl H) (u H m) (.inr S) trivial).set (AV.refl H) (u H n) (.inr S) trivial,?_,sc,⟨p,F,w,by rw[B.length];exact a2,?_,y,a7,G⟩,e,q⟩
  ·rw[Ku b4,Ku a0,Kr A];exact((E0.sl (QT W ρ j (.inl A)) _).set (AV.refl o) (u o m) (.inr S) trivial).set (AV.refl o) (u o n) (.inr S) trivial
  ·rw[JS (ka x.2),JS (ka x.1),j3 jl]⟩
theorem l6(j:Nat){M er:Expr}{f0:Ev->Y Bx}{z0 z3:Pos}(L:PE X M (LX X.K "list" Yz (LV j) (zB (tF X.K f0) EU)))(a1:∀ ρ,f0 ρ=Z (.z d))(hr:QV X er f)(Q:∀ ρ,f (kill W ρ)=f ρ)(P:swapsWith M U z0.line X.env=pure false:=by rfl):
  F5 X (FR X.K X.H₀ j) W [.Expr M z0,.Return (Z er) z3] (aD (gn f) eY):=⟨by
 intro AN s σ H D I q;obtain⟨H0,h,ρ,r,E,E0,sc,⟨p,a,o0,l0,es,hp,J,hb⟩,e,q⟩:=q;obtain⟨r1,e1,e⟩:=AT e;obtain⟨b,eb,e1⟩:=AT e1;have I1:=ii hb I hp;have G:(B4 H p (.lst a)) p=Z (.lst a):=aV;have F:∀{c:A1} {u:HO},h c=Z u->c≠p:=λw z=>by subst z;rw[J]at w;cases w
 have A:AV h (B4 H p (.lst a)):=λc u w=>by rw[aQ (F w)];exact sc _ _ w
 generalize B4 H p (.lst a)=H3 at *
 have big:(1000:Nat)<AA:=by decide
 refine(lG (Hw L P) (lG (IV (pos:=z3) hr.run) yK)) AN s σ H3 D I1 ?_;refine⟨.ref p,es,.inl ⟨rfl,a,.inl (.inl G)⟩,H0,kill W ρ,_,E0.grow A,a1 _,λy H4 B _ _=>⟨p,a,y,rfl,rfl,B _ _ G,by omega,?_⟩⟩;have g:AV h (B4 H4 p (.lst (a++[y]))):=λc u w=>by rw[aQ (F w)];exact B _ _ (A _ _ w)
 refine⟨H0,kill W ρ,b,E0.grow g,by rw[Q];exact eb,λv t N C i=>?_⟩;have x:=(E0.base.trans g).trans N;cases b with
 |z d'=>cases e1;cases e;exact q v t x trivial i
 |l ds=>cases e1
 |n ds=>cases e1
 |o ds=>cases e1;cases e;exact q v t x (C.old (E0.base.trans g)) i
 |m ds w=>cases e1;cases e;exact q v t x (C.old (E0.base.trans g)) i⟩
end
def mP(K:B1)(g:Ev->Y Ap):TS:=λD σ H=>∃H0 ρ b,bI K H0 H σ ρ/\g ρ=Z (.rt b)/\∀v H',AV H0 H'->aX K H' b v->P8 K H0 H' b v->D.rt v H'
structure Go (X:Cx) (st:List Stmt) (g:Ev->Option Ap):Prop where
 run:R8 X st (mP X.K g)
section
variable{st:AB}{AS:O AB}
theorem Cz(h1:Mh X st g1)(d:NR g1)(h2:Go X AS g2):Go X (st::AS) (aD g1 g2):=⟨Wn (lG h1.run h2.run) λD σ H h=>by
 obtain⟨H0,ρ,b,E,e,q⟩:=h;obtain⟨c,e1,e⟩:=AT e;refine⟨H0,ρ,c,E,e1,?_⟩;cases c with
 |nx a=>exact λσ' H' f=>⟨H0,a,b,f,e,q⟩
 |rt g=>exact absurd e1 (d _ _)
 |bk a=>cases e
 |ct a=>cases e⟩
theorem eA{e3:Expr}{L:Ev->Y Bx}{x1 j:AJ}(i1 i2:Nat){xx}{p1 tp:Pos}(h3:QV X e3 L)(a3:X.N[i1]?=Z x1:=by rfl)(a4:V4 X.env.scope x1:=by first|exact jI rfl|exact QE (jI S)|exact QE (QE S))(a0:X.N[i2]?=Z j:=by rfl)(b0:V4 X.env.scope j:=by first|exact jI rfl|exact QE (jI S)|exact QE (QE S))(a6:re x1:=by decide)(b9:(x1==("__classdict__":AJ))=false:=by decide)(a2:re j:=by decide)(P:(j==("__classdict__":AJ))=false:=by decide)(c0:A9 [e3] X.env=(false,eval e3 X.env)::A9 [] X.env:=by rfl):
  Go X [.Return (Z (.Tuple [.Name x1 p1,.Name j p2,e3] xx tp)) pos] (EQ i1 (aD (gn (cN qL (aq (gv i1) (aq (gv i2) (aq L aG))))) eY)):=⟨by
 intro AN s σ H D I q;obtain⟨H0,ρ,b,E,e,q⟩:=q;obtain⟨x,e1,e⟩:=AT e;unfold FO at e1;split at e1
 ·rename_i d o;cases e1;obtain⟨v1,y,a1,a,rfl,G,p⟩:=E.val i1 _ o;have n1:H0 a1=U:=E.new i1 _ a1 o S y;obtain⟨o1,I1⟩:=zV I G;have u:Kp H (B4 H a1 (.n6 o1 (.lst a))):=.lst G;have w:=E.afe (c1:=.z (.lst d)) o S y u (by simp only[aX,AW];exact⟨a1,a,rfl,.inl ⟨o1,aV⟩,p.kp u⟩);have A:(B4 H a1 (.n6 o1 (.lst a))) a1=Z (.n6 o1 (.lst a)):=aV;have p:=p.kp u;generalize B4 H a1 (.n6 o1 (.lst a))=H1 at *
  have g1:(ρ.set i1 (Z (.z (.lst d))))[i1]?=Z (Z (.z (.lst d))):=j3 (bv.mp o).1;generalize ρ.set i1 (Z (.z (.lst d)))=x at *
  obtain⟨r1,er,e⟩:=AT e;obtain⟨bt,eb,er⟩:=AT er;obtain⟨bs,n,eb⟩:=AT eb;obtain⟨c1,m,n⟩:=AT n;obtain⟨cN,l,n⟩:=AT n;cases n;obtain⟨c2,a8,l⟩:=AT l;obtain⟨c6,i,l⟩:=AT l;cases l;obtain⟨J,b4,i⟩:=AT i;obtain⟨c8,a5,i⟩:=AT i;cases i;cases a5;have m:pW x i1=Z c1:=m;unfold pW at m;rw[g1]at m;cases m;obtain⟨c,a7,b3⟩:=Jh w a8;have Q:=lG (IV (pos:=pos) (OZ (x1:=xx) (pos:=tp) (gR (ou (pos:=p1) a3 a4 a6 b9) (gR (ou (pos:=p2) a0 b0 a2 P) (gR h3.run rP c0))))) (yK (X:=X));refine Q AN s σ H1 D I1 ?_;refine⟨.ref a1,y,c,a7,H0,x,J,w,b4,λf g W n3 r3=>⟨by show 3<=AA;decide,λt ht=>?_⟩⟩;have M:AV g (B4 g t (.tup [.ref a1,c,f])):=bO ht;have h:=W.trans M;cases c2 with
  |z d2=>
   cases J with
   |z v=>
    have et:bt=.z (.tup [.lst d,d2,v]):=by cases eb;rfl
    subst et;cases er;cases e;have F:aK X.K (B4 g t (.tup [.ref a1,c,f])) d a:=p.kp (.of h);have B:AW X.K (B4 g t (.tup [.ref a1,c,f])) d2 c:=AW.kp (.of h) b3;have C:AW X.K (B4 g t (.tup [.ref a1,c,f])) v f:=AW.kp (.of M) r3;refine q (.ref t) _ (w.base.trans h) ?_ ⟨t,a1,a,o1,d,d2,v,c,f,rfl,rfl,aV,h _ _ A,⟨F,B,C⟩,n1⟩;have wl:AW X.K (B4 g t (.tup [.ref a1,c,f])) (.lst d) (.ref a1):=by
     simp only[AW];exact⟨a1,a,rfl,.inl ⟨o1,h _ _ A⟩,F⟩
    simp only[aX];rw[AW];exact⟨t,_,rfl,.inl (.inl aV),aK.cons wl (aK.cons B (aK.cons C aK.nil))⟩
   |_=>cases eb
  |_=>cases eb
 ·cases e1⟩
end
theorem ai{st:AB}{f:A1}{k m:Nat}(F:D6 K x qual st f fd)(S:bG N ps (aR st))(l:N.length=n)(o:ps.length=m)(hx:NX g)(i:∀(a:A0) (A:A5) (outer:O Env) (s:A2) (H:Hp) (E:XK),nZ k (A.deeper (AK qual (aR st) s.heap.objs.size f a))->Go (GP FJ P w K mg base N qual (aR st) f a A outer s H E).nox (jG st) g):
  rQ P w K mg base FJ (k+1) f fd ps (FC K m (dN n g)):=by
 subst l o;refine F.ok S (λvs H Q E h=>h.1) λa A outer s H vs Q E j h=>?_;obtain⟨t,bs,r,d,ho,e,q⟩:=h;refine⟨_,(i a A outer s H E j).run,?_⟩;obtain⟨c,er,e⟩:=AT e;have h1:c=.rt r:=by
  cases c with
  |rt b=>cases e;rfl
  |nx ρ=>exact absurd er (hx _ _)
  |bk ρ=>cases e
  |ct ρ=>cases e
 subst h1;exact⟨H,_,_,bI.start d ho,er,λv H' s' c p=>q v H' s' c p⟩
theorem WP(h:NX g):NX (EQ i g):=λρ b e=>by
 obtain⟨a,_,e⟩:=AT e;exact h _ _ e
theorem C8(a b:AJ):Gi a b=true↔pF a b/\a≠b:=by
 unfold Gi pF;rw[ltCps_eq];simp only[zz,JU];constructor
 ·intro h;exact⟨List.lt_asymm h,λe=>by subst e;exact List.lt_irrefl _ h⟩
 ·intro⟨h,hn⟩;by_cases q:a.cps.toList<b.cps.toList
  ·exact q
  ·exact absurd (BR (a:=a) (b:=b) (by unfold pF;rw[ltCps_eq];simpa using h) (by unfold pF;rw[ltCps_eq];simpa using q)) hn
theorem ZJ{i:Int}(h:i∈rng 0 n):∃k:Nat,k<n/\i=(k:Int):=by
 unfold rng at h;obtain⟨k,a,rfl⟩:=List.mem_map.mp h;exact⟨k,List.mem_range.mp a,by omega⟩
end P1
namespace P1
open L2 S1 S6
theorem Kv[DecidableEq α]{xs ys:O α}(h1:xs.Nodup)(h2:ys.Nodup)(h:∀x,x∈xs↔x∈ys):xs.Perm ys:=by
 rw[List.perm_iff_count];intro a;by_cases b:a∈xs
 ·rw[h1.count,h2.count,zt b,zt ((h a).mp b)]
 ·rw[h1.count,h2.count,zD b,zD λz=>b ((h a).mpr z)]
structure Wd (U:AZ) (w:List AZ):Prop where
 ne:∀s∈w,s≠[]
 so:∀s∈w,s.Pairwise pF
 nd:w.flatten.Nodup
 sub:∀x∈w.flatten,x∈U
 st:w.Pairwise (λa b=>Mt a b=true)
def same(w:O AZ)(x y:AJ):Prop:=∃s∈w,x∈s/\y∈s
theorem qR{α:Type}:∀{w:O (O α)},w.flatten.Nodup->∀{s t:O α} {x:α},s∈w->t∈w->x∈s->x∈t->s=t
 |a::w,h,s,t,x,hs,ht,xs,xt=>by
  rw[qS,kb]at h;rcases List.mem_cons.mp hs with e1|e1<;>rcases List.mem_cons.mp ht with e2|e2
  ·rw[e1,e2]
  ·exact absurd S (h.2.2 x (by rw[<-e1];exact xs) x (db.mpr ⟨t,e2,xt⟩))
  ·exact absurd S (h.2.2 x (by rw[<-e2];exact xt) x (db.mpr ⟨s,e1,xs⟩))
  ·exact qR h.2.1 e1 e2 xs xt
theorem Kw{α:Type}:∀{w:O (O α)},w.flatten.Nodup->∀{s:O α},s∈w->s.Nodup
 |a::w,h,s,hs=>by
  rw[qS,kb]at h;rcases List.mem_cons.mp hs with e|e
  ·rw[e];exact h.1
  ·exact Kw h.2.1 e
theorem CG{α:Type}:∀{w:O (O α)},w.flatten.Nodup->(∀s∈w,s≠[])->w.Nodup
 |[],_,_=>JE
 |a::w,h,hn=>by
  have h':=h;rw[qS,kb]at h;refine cd.mpr ⟨λz=>?_,CG h.2.1 λs hs=>hn s (zi _ hs)⟩;obtain⟨x,hx⟩:=jJ a (hn a (zg ..));exact absurd S (h.2.2 x hx x (db.mpr ⟨a,z,hx⟩))
theorem Wd.ZK{U:AZ}{w:O AZ}(W:Wd U w){s:AZ}(hs:s∈w)(hx:x∈s):same w x y↔y∈s:=
 ⟨λ⟨t,ht,xt,yt⟩=>by rw[qR W.nd hs ht hx xt];exact yt,λa=>⟨s,hs,hx,a⟩⟩
theorem ZL{U:AZ}{w a:O AZ}(W:Wd U w)(c:Wd U a)(h1:∀x,x∈w.flatten↔x∈a.flatten)(h2:∀x y,same w x y↔same a x y){s:AZ}(hs:s∈w):s∈a:=by
 obtain⟨x,hx⟩:=jJ s (W.ne s hs);obtain⟨t,b,d⟩:=db.mp ((h1 x).mp (db.mpr ⟨s,hs,hx⟩));have:s=t:=yU (Kv (Kw W.nd hs) (Kw c.nd b) λy=>by rw[<-W.ZK hs hx,h2,c.ZK b d]) (W.so s hs) (c.so t b);rw[this];exact b
theorem bP{U:AZ}{w b:O AZ}(W:Wd U w)(a:Wd U b)(h1:∀x,x∈w.flatten↔x∈b.flatten)(h2:∀x y,same w x y↔same b x y):w=b:=
 tK (λ_ _=>OJ) (Kv (CG W.nd W.ne) (CG a.nd a.ne) λs=>⟨ZL W a h1 h2,ZL a W (λx=>(h1 x).symm) λx y=>(h2 x y).symm⟩) W.st a.st
end P1
section
set_option maxHeartbeats 1000000
namespace P1
open L2
open PySem.Builtin PySem.Builtin.Str
abbrev cs(s:AJ):O Nat:=s.cps.toList
theorem Q0(a b:AJ):cs (a++b)=cs a++cs b:=g6
theorem Kz(a:AJ):a.length=(cs a).length:=by simp[Str.length]
theorem u3(y p q:AJ)(ps:AZ):Str.join y (p::q::ps)=p++y++Str.join y (q::ps):=rfl
theorem uS(h:n<=x.length):cs (Txt.slice x (Z (n:Int)) U)=(cs x).drop n:=by
 rw[slice_from_eq (b:=x.length) () () rfl];show((cs x).drop ((n:Int).toNat)).take _=_;rw[KS,eu (by rw[KF,<-Kz];omega)]
theorem ac(h:n<=x.length):cs (Txt.slice x U (Z (n:Int)))=(cs x).take n:=by
 have:=slice_closes_to (x:=x) (j:=(n:Int)) ⟨by omega,by rw[show x.cps.toList.length=x.length by simp[Str.length]];omega⟩;rw[eq_of_beq this];show((cs x).drop 0).take _=_;simp
theorem nk:∀(y p:AJ) (ps:AZ),cs (Txt.join y (p::ps))=cs p++ps.flatMap λq=>cs y++cs q:=by
 intro y p ps;rw[show Txt.join y (p::ps)=Str.join y (p::ps) from StrLaws.glued_eq_join y _]
 induction ps generalizing p with
 |nil=>simp[Str.join]
 |cons q ps a=>rw[u3,Q0,Q0,a,JA,ZT,ZT]
end P1
end
section
set_option maxHeartbeats 1000000
namespace P1
open L2 S1 S6
section
variable [Inhabited α]
end
section
variable{e:α->Dt} [vD e]
end
end P1
end
namespace P1
open L2
open PySem.Builtin PySem.Builtin.Str
end P1
section
set_option maxHeartbeats 1000000
namespace P1
open L2
open PySem.Builtin PySem.Builtin.Str
end P1
end
section
set_option synthInstance.maxSize 100000
namespace G30
open L2 P1
noncomputable section
abbrev w8:=O P1.Dt
abbrev aC:Type:=Int×AJ×AJ×Int
abbrev aH:aC->Dt:=DZ eI eS eS eI
abbrev dF:Type:=AJ×AJ×Int
abbrev fL:dF->Dt:=DH eS eS eI
abbrev dH:Type:=AZ×(O aC)×(O dF)
abbrev bU:dH->Dt:=DH (eT eS) (eT aH) (eT fL)
abbrev GV:Type:=AZ×(O aC)×(O dF)
abbrev HA:GV->Dt:=DH (eT eS) (eL aH) (eL fL)
abbrev IP:Type:=Int×AZ
abbrev MX:Type:=(O AZ)×Int×Int
abbrev U6:MX->Dt:=DH (eL (eT eS)) eI eI
abbrev sK:Type:=Int×Int
abbrev nI:sK->Dt:=Zn eI eI
def top(i:Nat):AB:=PySem.Challenge.pw_onefolk_k30_best_joinings.main.body.getD i (.Pass ⟨0,0,0,0⟩)
abbrev KC:AB:=top 28
abbrev zL:AB:=top 29
abbrev Gn:AB:=top 30
abbrev CJ:AB:=top 31
abbrev Gp:AB:=top 33
abbrev CK:AB:=top 34
abbrev O8:AB:=top 38
abbrev KD:AB:=top 36
abbrev KH:AB:=top 39
abbrev CN:AB:=top 7
abbrev CP:AB:=top 8
abbrev KJ:AB:=top 6
abbrev zM:AB:=top 10
abbrev CQ:AB:=top 9
abbrev KN:AB:=top 5
abbrev KQ:AB:=top 4
abbrev yE:AB:=top 22
abbrev uP:AB:=top 23
abbrev Gq:AB:=top 20
abbrev Gs:AB:=top 14
abbrev KR:AB:=top 13
abbrev U7:AB:=top 12
abbrev CT:AB:=top 26
abbrev yF:AB:=top 25
abbrev Gu:AB:=top 24
abbrev KY:AB:=top 19
abbrev uQ:AB:=top 18
abbrev O9:AB:=top 21
abbrev uR:AB:=top 37
abbrev KZ:AB:=top 35
abbrev Gv:AB:=top 32
abbrev s_law:AB:=top 40
def fuel:Nat:=32
def zN:Ev->Y Ap:=(aD (aD (Au 2 (b2 lZ (b2 gZ (b2 Bu (gv 2) (cB (.int 69621))) (gv 3)) (cB (.int 2147483647)))) eY) (cQ [3]))
def vH:Ev->Y Ap:=(aD (zx (rZ ER (gv 1) (cN u6 (aq (gv 0) aG))) (aD (gn (b2 jD (gv 0) (gv 1))) eY) eY) (aD (Au 2 (b2 lZ (b2 Bu (cB (.int 48271)) (b2 gZ (b2 gZ (b2 Bu (gv 1) (gv 1)) (b2 Bu (cB (.int 7)) (gv 1))) (cB (.int 11)))) (cB (.int 2147483647)))) (aD (zy (DI (R3 (gv 0) oJ (tH (cB (.int 3))))) (g8 3) zN) (aD (gn (gv 2)) eY))))
def jP:O Bx->Y Bx:=dN 4 vH
def oR:Ev->Y Ap:=(aD (aD (Au 3 (b2 lZ (b2 gZ (b2 gZ (b2 Bu (gv 3) (b2 gZ (b2 lZ (gv 3) (cB (.int 65521))) (cB (.int 40487)))) (b2 Bu (cB (.int 7)) (gv 5))) (cB (.int 5))) (cB (.int 1999999973)))) (aD (Ml 2 (b2 jD (cN jZ (aq (gv 3) (aq (b2 lZ (gv 4) (cB (.int 1000000))) aG))) (cN Fh (aq (b2 EV (gv 4) (cB (.int 0))) aG)))) (aD (Au 4 (b2 Oa (gv 4) (cB (.int 1000000)))) eY))) (cQ [5]))
def pG:Ev->Y Ap:=(aD (Au 2 (cN jZ aG)) (aD (Au 3 (b2 lZ (b2 Bu (b2 gZ (b2 lZ (gv 0) (cB (.int 1999999973))) (cB (.int 31))) (cB (.int 765432101))) (cB (.int 1999999973)))) (aD (Au 4 (cB (.int 0))) (aD (zx (Wo (rZ ER (gv 0) (cB (.int 0))) (rZ HM (gv 0) (b2 IT (cB (.int 10)) (cB (.int 18))))) (aD (aD (Au 4 (cN Fs (aq (gv 0) aG))) eY) (cQ [])) (aD eY (cQ []))) (aD (zy (Co (aq (gv 1) aG)) (g8 5) oR) (aD (GX 2) eY))))))
def fX:O Bx->Y Bx:=dN 6 pG
def sE:Ev->Y Ap:=(aD (aD (Au 7 (b2 jD (gv 2) (b2 lZ (b2 gZ (gv 6) (b2 jD (gv 0) (cB (.int 2)))) (cB (.int 15))))) (aD (Au 8 (b2 gZ (b2 gZ (R3 (gv 3) oJ (tH (gv 4))) (gv 7)) (R3 (gv 3) (tH (gv 4)) oJ))) (aD (zx (rZ Bn (b2 lZ (b2 jD (gv 0) (cB (.int 3))) (cB (.int 3))) (cB (.int 1))) (aD (aD (Au 8 (b2 Bu (b2 jD (gv 2) (b2 Oa (gv 6) (cB (.int 8)))) (b2 gZ (cB (.int 1)) (b2 lZ (gv 6) (cB (.int 8)))))) eY) (cQ [])) (aD eY (cQ []))) (aD (Ml 5 (gv 8)) eY)))) (cQ [6,7,8]))
def tW:Ev->Y Ap:=(aD (Au 2 (cB (.str "abcdefghijklmnopqrstuvwxyz"))) (aD (Au 3 (b1 (Tt "") (dR (Co (aq (b2 lZ (b2 jD (gv 0) (cB (.int 0))) (cB (.int 6))) aG)) (g8 2) oK (b2 jD (gv 0) (b2 lZ (b2 Oa (b2 jD (gv 1) (gv 2)) (cB (.int 40))) (cB (.int 26)))) [2,0] 1))) (aD (Au 4 (b2 lZ (b2 jD (gv 0) (cB (.int 1))) (b2 gZ (cN u6 (aq (gv 3) aG)) (cB (.int 1))))) (aD (Au 5 (cN jZ aG)) (aD (zy (Co (aq (gv 1) aG)) (g8 6) sE) (aD (GX 5) eY))))))
def p7:O Bx->Y Bx:=dN 9 tW
def qp:Ev->Y Ap:=(aD (aD (Au 9 (bH 2 fX (aq (b1 uY (bH 2 jP (aq (gv 0) (aq (b1 uY (b2 gZ (b2 gZ (gv 1) (cB (.int 1))) (gv 8))) aG)))) (aq (cB (.int 4)) aG)))) (aD (WM 10 11 (aq (b2 lZ (b2 jD (gv 9) (cB (.int 0))) (cN Jy (aq (cB (.int 1)) (aq (gv 2) aG)))) (aq (b2 lZ (b2 jD (gv 9) (cB (.int 1))) (cN Jy (aq (cB (.int 1)) (aq (gv 2) aG)))) aG))) (aD (Au 12 (b2 jD (cN jZ (aq (b1 uY (b2 gZ (cB (.int 1)) (b2 lZ (b2 jD (gv 9) (cB (.int 2))) (cB (.int 3))))) (aq (b1 uY (b2 gZ (cB (.int 1)) (b2 lZ (b2 jD (gv 9) (cB (.int 2))) (cB (.int 9))))) (aq (b1 uY (b2 gZ (cB (.int 1)) (b2 lZ (b2 jD (gv 9) (cB (.int 2))) (cB (.int 1000))))) aG)))) (b2 lZ (b2 jD (gv 5) (cB (.int 4))) (cB (.int 3))))) (aD (zx (rZ V6 (gv 10) (gv 11)) (aD (aD (Ml 7 (cN qL (aq (b2 C7 (cB (.int 0)) (gv 12)) (aq (b2 jD (gv 6) (cN EX (aq (gv 10) (aq (gv 11) aG)))) (aq (b2 jD (gv 6) (cN Jy (aq (gv 10) (aq (gv 11) aG)))) (aq (b2 jD (cN jZ (aq (cB (.int 0)) (aq (cB (.int 2)) (aq (cB (.int 10)) aG)))) (b2 lZ (b2 jD (gv 9) (cB (.int 3))) (cB (.int 3)))) aG)))))) eY) (cQ [])) (aD eY (cQ []))) eY)))) (cQ [8,9,10,11,12]))
def qt:Ev->Y Ap:=(aD (aD (Au 9 (bH 2 fX (aq (b1 uY (bH 2 jP (aq (gv 0) (aq (b1 uY (b2 gZ (b2 gZ (gv 1) (cB (.int 1))) (gv 8))) aG)))) (aq (cB (.int 8)) aG)))) (aD (WM 10 11 (aq (b2 lZ (b2 jD (gv 9) (cB (.int 5))) (cN Jy (aq (cB (.int 1)) (aq (gv 2) aG)))) (aq (b2 lZ (b2 jD (gv 9) (cB (.int 6))) (cN Jy (aq (cB (.int 1)) (aq (gv 2) aG)))) aG))) (aD (zx (rZ V6 (gv 10) (gv 11)) (aD (aD (Ml 14 (cN qL (aq (b2 jD (gv 6) (cN EX (aq (gv 10) (aq (gv 11) aG)))) (aq (b2 jD (gv 6) (cN Jy (aq (gv 10) (aq (gv 11) aG)))) (aq (b2 jD (cN jZ (aq (cB (.int 2)) (aq (cB (.int 10)) aG))) (b2 lZ (b2 jD (gv 9) (cB (.int 7))) (cB (.int 2)))) aG))))) eY) (cQ [])) (aD eY (cQ []))) eY))) (cQ [8,9,10,11]))
def qT:Ev->Y Ap:=(aD (Au 5 (bH 2 fX (aq (b1 uY (bH 2 jP (aq (gv 0) (aq (gv 1) aG)))) (aq (cB (.int 6)) aG)))) (aD (Au 6 (cN FZ (aq (bH 2 p7 (aq (gv 5) (aq (gv 2) aG))) aG))) (aD (Au 7 (cN jZ aG)) (aD (zy (Co (aq (gv 3) aG)) (g8 8) qp) (aD (Au 13 (dR (z6 (JQ (W9 (gv 7)))) (n8 4 (bQ (g8 0) (bQ (g8 1) (bQ (g8 2) (bQ (g8 3) qI))))) oK (cN qL (aq (b2 C7 (cB (.int 0)) (gv 0)) (aq (gv 1) (aq (gv 2) (aq (gv 3) aG))))) [] 4)) (aD (Au 14 (cN jZ aG)) (aD (zy (Co (aq (gv 4) aG)) (g8 8) qt) (aD (gn (cN qL (aq (cN mj (aq (gv 6) aG)) (aq (cN mj (aq (gv 13) aG)) (aq (cN mj (aq (JQ (W9 (gv 14))) aG)) aG))))) eY))))))))
def qU:O Bx->Y Bx:=dN 15 qT
def sI:Ev->Y Ap:=(aD (aD (Au 7 (b2 jD (dR (z6 (gv 2)) (g8 1) (rZ Cs (gv 0) (gv 1)) (gv 1) [4] 1) (cB (.int 0)))) (aD (Au 8 (b2 jD (dR (z6 (gv 2)) (g8 1) (rZ Cs (gv 0) (gv 1)) (gv 1) [5] 1) (cB (.int 0)))) (aD (zx (rZ V6 (gv 7) (gv 8)) (aD (aD (Au 2 (b2 gZ (dR (z6 (gv 2)) (g8 2) (rZ Uk (gv 2) (cN jZ (aq (gv 0) (aq (gv 1) aG)))) (gv 2) [7,8] 1) (cN jZ (aq (b1 uY (cN FZ (aq (b2 gZ (gv 7) (gv 8)) aG))) aG)))) eY) (cQ [])) (aD eY (cQ []))) eY))) (cQ [3,4,5,6,7,8]))
def mO:Ev->Y Ap:=(aD (Au 2 (dR (z6 (gv 0)) (g8 0) oK (b1 uY (cN jZ (aq (gv 0) aG))) [] 1)) (aD (oF 1 (n8 4 (bQ (g8 3) (bQ (g8 4) (bQ (g8 5) (bQ (g8 6) qI))))) sI) (aD (gn (cN vB (aq (dR (z6 (gv 2)) (g8 0) oK (cN mj (aq (gv 0) aG)) [] 1) aG))) eY)))
def jQ:O Bx->Y Bx:=dN 9 mO
def fD:Ev->Y Ap:=(aD (gn (dR (z6 (gv 1)) (g8 1) (Sy (rZ Cs (b2 jD (gv 1) (b1 Qj (cB (.int 3)))) (gv 0)) (rZ Cs (b2 jD (gv 1) (b1 Qj (cB (.int 2)))) (gv 0))) (gv 1) [0] 1)) eY)
def cT:O Bx->Y Bx:=dN 2 fD
def CV:Ev->Y Ap:=(aD (aD (Ml 3 (b1 uY (b2 gZ (b2 gZ (R3 (gv 4) oJ (tH (gv 5))) (cN jZ (aq (b1 uY (b2 gZ (b2 jD (gv 4) (gv 5)) (cN qL (aq (gv 2) aG)))) aG))) (R3 (gv 4) (tH (b2 gZ (gv 5) (cB (.int 1)))) oJ)))) eY) (cQ [5]))
def CW:Ev->Y Ap:=(aD (aD (Ml 3 (b1 uY (b2 gZ (gv 4) (cN jZ (aq (cN qL (aq (gv 2) aG)) aG))))) (aD (zy (Co (aq (cN u6 (aq (gv 4) aG)) aG)) (g8 5) CV) eY)) (cQ [4,5]))
def CZ:Ev->Y Ap:=(aD (aD (Au 3 (cN jZ aG)) (aD (oF 1 (g8 4) CW) (aD (Au 1 (U3 3)) eY))) (cQ [2,3,4,5]))
def yZ:Ev->Y Ap:=(aD (Au 1 (cN jZ (aq (b1 uY (cN jZ aG)) aG))) (aD (oF 0 (g8 2) CZ) (aD (GX 1) eY)))
def zc:O Bx->Y Bx:=dN 6 yZ
def oU:Ev->Y Ap:=(aD (gn (cN JZ (aq (dR (z6 (gv 1)) (g8 1) oK (b1 uY (cN JZ (aq (dR (z6 (bH 2 cT (aq (gv 1) (aq (b2 jD (gv 0) (cB (.int 1))) aG)))) (g8 0) oK (b2 jD (gv 0) (cB (.int 0))) [] 1) aG))) [0] 1) aG))) eY)
def mF:O Bx->Y Bx:=dN 2 oU
def zO:Ev->Y Ap:=(aD (aD (zx (tV (cN CS (aq (dR (z6 (gv 5)) (g8 1) oK (b2 Bn (bH 2 cT (aq (gv 1) (aq (gv 0) aG))) (cN jZ aG)) [3] 1) aG))) (aD (aD (Au 4 (cN Jy (aq (gv 4) (aq (bH 2 mF (aq (cN qL (aq (gv 1) (aq (gv 2) (aq (gv 3) aG)))) (aq (gv 5) aG))) aG)))) eY) (cQ [])) (aD eY (cQ []))) eY) (cQ [5]))
def vI:Ev->Y Ap:=(aD (Jx (n8 2 (bQ (g8 2) (bQ (g8 3) qI))) (cN qL (aq (b1 uY (bH 2 cT (aq (gv 1) (aq (b2 jD (gv 0) (cB (.int 1))) aG)))) (aq (b1 uY (bH 2 cT (aq (gv 1) (aq (b2 jD (gv 0) (cB (.int 2))) aG)))) aG)))) (aD (zx (rZ Bn (gv 3) (cN jZ aG)) (aD (gn (cN JZ (aq (dR (z6 (gv 2)) (g8 0) oK (b2 jD (gv 0) (cB (.int 0))) [] 1) aG))) eY) eY) (aD (Au 4 (cB (.int 0))) (aD (zy (DI (bH 1 zc (aq (gv 1) aG))) (g8 5) zO) (aD (gn (gv 4)) eY)))))
def vJ:O Bx->Y Bx:=dN 6 vI
def qW:Ev->Y Ap:=(aD (gn (Zg (z6 (gv 0)) (g8 0) oK (gv 0) (gv 0) [] 1)) eY)
def qX:O Bx->Y Bx:=dN 1 qW
def wR:Ev->Y Ap:=(aD (aD (zx (Wo (rZ Bn (b2 oh (gv 0) (gv 4)) (gv 1)) (rZ Bn (b2 oh (gv 0) (gv 4)) (gv 2))) (aD (aD (YT 0 (gv 3) (gv 4)) eY) (cQ [])) (aD eY (cQ []))) eY) (cQ [4]))
def qY:Ev->Y Ap:=(aD (aD (Au 3 (cN JT (aq (gv 1) (aq (gv 2) aG)))) (aD (zy (DI (cN JV (aq (gv 0) aG))) (g8 4) wR) eY)) (cQ [3,4]))
def nA:A1->O (AY×Dt)->O Bx->Y (O (AY×Dt)):=Uj 5 qY
def uw:Ev->Y Ap:=(aD (aD (JW 2 2 nA (aq (b2 oh (gv 2) (gv 4)) (aq (b2 oh (gv 2) (gv 5)) aG))) eY) (cQ [3,4,5,6]))
def oV:Ev->Y Ap:=(aD (Au 2 (bH 1 qX (aq (gv 0) aG))) (aD (oF 1 (n8 4 (bQ (g8 3) (bQ (g8 4) (bQ (g8 5) (bQ (g8 6) qI))))) uw) (aD (GX 2) eY)))
def mG:O Bx->Y Bx:=dN 7 oV
def pH:Ev->Y Ap:=(aD (gn (cN mj (aq (dR (Ug (gv 0)) (g8 2) (rZ Bn (b2 oh (gv 1) (gv 2)) (gv 0)) (gv 2) [1,0] 1) aG))) eY)
def pI:O Bx->Y Bx:=dN 2 pH
def qZ:Ev->Y Ap:=(aD (gn (dR (Ug (gv 0)) (g8 1) (rZ Bn (b2 oh (gv 0) (gv 1)) (gv 1)) (b1 uY (bH 2 pI (aq (gv 0) (aq (gv 1) aG)))) [0] 1)) eY)
def q8:O Bx->Y Bx:=dN 1 qZ
def oW:Ev->Y Ap:=(aD (gn (bH 1 q8 (aq (bH 2 mG (aq (gv 0) (aq (gv 1) aG))) aG))) eY)
def mH:O Bx->Y Bx:=dN 2 oW
def vK:Ev->Y Ap:=(aD (gn (bH 2 mH (aq (b2 jD (gv 0) (cB (.int 0))) (aq (b2 jD (gv 0) (cB (.int 1))) aG)))) eY)
def vL:O Bx->Y Bx:=dN 1 vK
def nC:Ev->Y Ap:=(aD (Jx (n8 3 (bQ (g8 1) (bQ (g8 2) (bQ (g8 3) qI)))) (gv 0)) (aD (gn (dR (z6 (bH 1 vL (aq (gv 0) aG))) (g8 2) oK (cN qL (aq (gv 2) (aq (cN mj (aq (dR (z6 (gv 0)) (g8 1) (rZ Cs (b2 jD (gv 1) (cB (.int 1))) (gv 0)) (gv 1) [2] 1) aG)) (aq (cN mj (aq (dR (z6 (gv 1)) (g8 1) (Sy (rZ Cs (b2 jD (gv 1) (cB (.int 0))) (gv 0)) (rZ Cs (b2 jD (gv 1) (cB (.int 1))) (gv 0))) (gv 1) [2] 1) aG)) aG)))) [2,3] 1)) eY))
def jR:O Bx->Y Bx:=dN 4 nC
def j9:Ev->Y Ap:=(aD (aD (Jx (n8 3 (bQ (g8 1) (bQ (g8 2) (bQ (g8 3) qI)))) (gv 0)) (aD (zx (Sy (tV (gv 3)) (Wo (rZ EV (cN u6 (aq (gv 1) aG)) (cB (.int 8))) (rZ EV (cN u6 (aq (gv 2) aG)) (cB (.int 12))))) (aD II eY) eY) eY)) (cQ [1,2,3]))
def iV:O Bx->Y Bx:=dN 4 j9
def mQ:Ev->Y Ap:=(aD (gn (cN JZ (aq (dR (z6 (gv 0)) (g8 0) oK (b2 jD (gv 0) (cB (.int 0))) [] 1) aG))) eY)
def dD:O Bx->Y Bx:=dN 1 mQ
def tX:Ev->Y Ap:=(aD (zx (rZ Bn (b2 jD (gv 0) (cB (.int 1))) (gv 1)) (aD (gn (b2 jD (gv 0) (cB (.int 2)))) eY) eY) (aD (zx (rZ Bn (b2 jD (gv 0) (cB (.int 2))) (gv 1)) (aD (gn (b2 jD (gv 0) (cB (.int 1)))) eY) eY) (aD (gn (cB .non)) eY)))
def mR:O Bx->Y Bx:=dN 2 tX
def zP:Ev->Y Ap:=(aD (aD (Ml 2 (b2 oh (gv 0) (gv 3))) (aD (Au 3 (bH 2 mR (aq (b2 oh (gv 0) (gv 3)) (aq (gv 3) aG)))) eY)) (cQ []))
def vM:Ev->Y Ap:=(aD (Au 2 (cN jZ aG)) (aD (Au 3 (gv 1)) (aD (CI (rZ Jv (b2 oh (gv 0) (gv 3)) (cB .non)) zP 70) (aD (GX 2) eY))))
def vN:O Bx->Y Bx:=dN 4 vM
def Gw:Ev->Y Ap:=(aD (aD (Au 7 (bH 2 mR (aq (gv 6) (aq (gv 5) aG)))) (aD (zx (Sy (rZ Jv (gv 7) (cB .non)) (rZ F8 (gv 7) (gv 3))) (aD (aD (YT 3 (gv 6) (gv 7)) (aD (Ml 4 (gv 7)) eY)) (cQ [])) (aD eY (cQ []))) eY)) (cQ [6,7]))
def Gx:Ev->Y Ap:=(aD (aD (GA 5 4 (cB (.int 0))) (aD (oF 0 (g8 6) Gw) eY)) (cQ [5,6,7]))
def Dc:Ev->Y Ap:=(aD (Au 3 (b2 Ov (gv 1) (cB .non))) (aD (Au 4 (cN jZ (aq (gv 1) aG))) (aD (CI (tV (gv 4)) Gx 70) (aD (zx (rZ F8 (gv 2) (gv 3)) (aD (gn (cB .non)) eY) eY) (aD (gn (b2 FA (bH 2 vN (aq (gv 3) (aq (gv 2) aG))) (b1 Qj (cB (.int 1))))) eY)))))
def Dd:O Bx->Y Bx:=dN 8 Dc
def wU:Ev->Y Ap:=(aD (aD (zx (rZ Bn (b2 oh (gv 6) (b2 jD (gv 7) (cB (.int 0)))) (b2 oh (gv 6) (b2 jD (gv 7) (cB (.int 1))))) (aD (gn (bH 3 Dd (aq (gv 5) (aq (b2 jD (gv 7) (cB (.int 0))) (aq (b2 jD (gv 7) (cB (.int 1))) aG))))) eY) eY) eY) (cQ [7]))
def q9:Ev->Y Ap:=(aD (Jx (n8 3 (bQ (g8 2) (bQ (g8 3) (bQ (g8 4) qI)))) (gv 0)) (aD (Au 5 (dR (z6 (gv 3)) (g8 1) (rZ Uk (gv 1) (gv 0)) (gv 1) [1] 1)) (aD (Au 6 (bH 2 mG (aq (gv 2) (aq (gv 5) aG)))) (aD (oF 4 (g8 7) wU) (aD (gn (cB .non)) eY)))))
def nD:O Bx->Y Bx:=dN 8 q9
def nF(iW:O Bx->Y Bx):Ev->Y Ap:=(aD (zx (rZ HM (bH 1 dD (aq (gv 2) aG)) (gv 3)) (aD (gn (cB .non)) eY) eY) (aD (Au 4 (bH 2 nD (aq (gv 0) (aq (gv 2) aG)))) (aD (zx (rZ Dx (gv 4) (cB .non)) (aD (gn (gv 2)) eY) eY) (aD (Au 5 (dR (z6 (gv 4)) (g8 1) (rZ Uk (gv 1) (gv 0)) (gv 1) [1] 1)) (aD (zx (Jj (tV (gv 5))) (aD (gn (cB .non)) eY) eY) (aD (Au 6 (bH 4 iW (aq (gv 0) (aq (gv 1) (aq (b1 uY (b2 gZ (gv 2) (R3 (gv 5) oJ (tH (cB (.int 1)))))) (aq (gv 3) aG)))))) (aD (zx (rZ Jv (gv 6) (cB .non)) (aD (aD (Au 3 (bH 1 dD (aq (gv 6) aG))) eY) (cQ [])) (aD eY (cQ []))) (aD (Au 7 (bH 4 iW (aq (gv 0) (aq (b1 uY (b2 gZ (gv 1) (R3 (gv 5) oJ (tH (cB (.int 1)))))) (aq (gv 2) (aq (gv 3) aG)))))) (aD (gn (b1 uY (HC (rZ Dx (gv 7) (cB .non)) (gv 6) (gv 7)))) eY)))))))))
def dG:Nat->O Bx->Y Bx
 |0=>dN 8 λ_=>U
 |n+1=>dN 8 (nF (dG n))
def iW:O Bx->Y Bx:=dG fuel
def tY:Ev->Y Ap:=(aD (Jx (n8 3 (bQ (g8 1) (bQ (g8 2) (bQ (g8 3) qI)))) (gv 0)) (aD (Au 4 (bH 4 iW (aq (gv 0) (aq (b1 uY (cN jZ aG)) (aq (b1 uY (cN jZ aG)) (aq (b1 uY (b2 gZ (bH 1 dD (aq (gv 2) aG)) (cB (.int 1)))) aG)))))) (aD (gn (bH 2 mH (aq (gv 1) (aq (b1 uY (dR (z6 (gv 2)) (g8 1) (rZ Uk (gv 1) (gv 0)) (gv 1) [4] 1)) aG)))) eY)))
def p8:O Bx->Y Bx:=dN 5 tY
def vO:Ev->Y Ap:=(aD (gn (QX (IS (aq (gv 0) aG)) (n8 2 (bQ (g8 0) (bQ (g8 1) qI))) oK (EK (DI (gv 1)) (g8 2) oK (Ww (b2 Ck (gv 2) (gv 0)))) [] 3)) eY)
def vP:O Bx->Y Bx:=dN 1 vO
def kh:Ev->Y Ap:=(aD (Au 2 (bH 1 vP (aq (gv 0) aG))) (aD (gn (dR (z6 (gv 1)) (g8 1) (rZ Bn (b2 oh (gv 0) (b2 jD (gv 1) (cB (.int 1)))) (b2 oh (gv 0) (b2 jD (gv 1) (cB (.int 2))))) (gv 1) [2] 1)) eY))
def iY:O Bx->Y Bx:=dN 3 kh
def vQ:Ev->Y Ap:=(aD (aD (Uq (bH 1 iV (aq (gv 2) aG))) eY) (cQ [2]))
def rK:Ev->Y Ap:=(aD (Au 1 (bH 1 jR (aq (gv 0) aG))) (aD (oF 1 (g8 2) vQ) (aD (Au 3 (cN vB (aq (QW (z6 (gv 1)) (g8 0) oK (EK (DI (bH 1 p8 (aq (gv 0) aG))) (g8 1) oK (Ww (gv 1))) [] 2) aG))) (aD (Au 4 (bH 1 dD (aq (b1 uY (bH 2 iY (aq (gv 3) (aq (b2 jD (gv 0) (cB (.int 1))) aG)))) aG))) (EQ 3 (aD (gn (cN qL (aq (gv 3) (aq (gv 4) (aq (b2 C7 (bH 1 dD (aq (b2 jD (gv 0) (cB (.int 1))) aG)) (gv 4)) aG))))) eY))))))
def fP:O Bx->Y Bx:=dN 5 rK
def kj:Ev->Y Ap:=(aD (zx (Wo (Jj (tV (BK BS (gv 0)))) (Jj (tV (cN CS (aq (dR (z6 (gv 0)) (g8 0) oK (Qc (BK iR (gv 0)) (b2 EV (cN u6 (aq (gv 0) aG)) (cB (.int 0)))) [] 1) aG))))) (aD (gn (cB (.bl false))) eY) eY) (aD (zx (rZ V6 (gv 0) (cN vB (aq (dR (z6 (gv 0)) (g8 0) oK (cN mj (aq (cN Eu (aq (gv 0) aG)) aG)) [] 1) aG))) (aD (gn (cB (.bl false))) eY) eY) (aD (gn (b2 Bn (cN FZ (aq (cN U0 (aq (dR (z6 (gv 0)) (g8 0) oK (b1 uY (cN Tn (aq (gv 0) aG))) [] 1) (aq (cN jZ aG) aG))) aG)) (cN Eu (aq (gv 1) aG)))) eY)))
def fu:O Bx->Y Bx:=dN 2 kj
def zQ:Ev->Y Ap:=(aD (aD (zx (Wo (rZ V6 (bH 2 cT (aq (gv 2) (aq (b2 jD (gv 0) (cB (.int 2))) aG))) (cN jZ aG)) (rZ V6 (cN u6 (aq (bH 2 jQ (aq (gv 2) (aq (b1 uY (bH 2 cT (aq (gv 2) (aq (b2 jD (gv 0) (cB (.int 1))) aG)))) aG))) aG)) (cB (.int 1)))) (aD (gn (cB (.bl false))) eY) eY) eY) (cQ [2]))
def vR:Ev->Y Ap:=(aD (oF 1 (g8 2) zQ) (aD (gn (cB (.bl true))) eY))
def vU:O Bx->Y Bx:=dN 3 vR
def tZ:Ev->Y Ap:=(aD (gn (Qc (BK Eh (gv 0)) (GG (BK BH (gv 0))))) eY)
def qb:O Bx->Y Bx:=dN 1 tZ
def ZM:Ev->Y Ap:=(aD (Au 1 (bH 2 fX (aq (b1 uY (bH 2 jP (aq (gv 0) (aq (cB (.int 0)) aG)))) (aq (cB (.int 9)) aG)))) (aD (WM 2 3 (aq (b1 uY (b2 gZ (cB (.int 1)) (b2 lZ (b2 jD (gv 1) (cB (.int 6))) (cB (.int 7))))) (aq (b2 lZ (b2 jD (gv 1) (cB (.int 7))) (cB (.int 12))) aG))) (aD (zx (rZ Bn (b2 lZ (b2 Oa (b2 jD (gv 1) (cB (.int 6))) (cB (.int 7))) (cB (.int 8))) (cB (.int 3))) (aD (aD (WM 2 3 (aq (b1 uY (b2 gZ (cB (.int 8)) (cB (.int 0)))) (aq (b1 uY (b2 gZ (cB (.int 12)) (cB (.int 0)))) aG))) eY) (cQ [])) (aD eY (cQ []))) (aD (Au 4 (bH 5 qU (aq (gv 0) (aq (cB (.int 0)) (aq (gv 2) (aq (gv 3) (aq (b2 lZ (b2 jD (gv 1) (cB (.int 8))) (cB (.int 5))) aG))))))) (aD (Jx (n8 3 (bQ (g8 5) (bQ (g8 3) (bQ (g8 6) qI)))) (gv 4)) (aD (Au 7 (cN JZ (aq (dR (z6 (bH 2 jQ (aq (gv 5) (aq (gv 3) aG)))) (g8 1) oK (b1 uY (bH 2 vJ (aq (gv 0) (aq (gv 1) aG)))) [4] 1) aG))) (aD (Au 8 (bH 1 fP (aq (gv 4) aG))) (aD (zx (Wo (Jj (tV (BK iR (gv 8)))) (rZ V6 (cN u6 (aq (gv 8) aG)) (cB (.int 3)))) (aD (gn (cB (.bl false))) eY) eY) (aD (Jx (n8 3 (bQ (g8 9) (bQ (g8 10) (bQ (g8 11) qI)))) (gv 8)) (aD (zx (Wo (Jj (tV (bH 2 fu (aq (gv 9) (aq (gv 5) aG))))) (Wo (Jj (tV (bH 2 vU (aq (gv 4) (aq (gv 9) aG))))) (Wo (Jj (tV (bH 1 qb (aq (gv 10) aG)))) (Jj (tV (bH 1 qb (aq (gv 11) aG))))))) (aD (gn (cB (.bl false))) eY) eY) (aD (zx (Wo (rZ V6 (gv 10) (bH 2 mF (aq (gv 4) (aq (gv 9) aG)))) (Wo (rZ V6 (gv 10) (gv 7)) (rZ V6 (gv 11) (b2 C7 (cN JZ (aq (dR (z6 (gv 3)) (g8 0) oK (b2 jD (gv 0) (cB (.int 0))) [] 1) aG)) (gv 10))))) (aD (gn (cB (.bl false))) eY) eY) (aD (gn (Qc (b2 Bn (R3 (bH 1 fP (aq (gv 4) aG)) (tH (cB (.int 1))) oJ) (cN qL (aq (gv 10) (aq (gv 11) aG)))) (bH 2 fu (aq (b2 jD (bH 1 fP (aq (gv 4) aG)) (cB (.int 0))) (aq (gv 5) aG))))) eY))))))))))))
def F_law:O Bx->Y Bx:=dN 12 ZM
end
theorem gE{st:AB}{g':Ev->Y Ap}(e:g=g')(h:Mh X st g'):Mh X st g:=e▸h
theorem ub:WM 2 3 (aq (b1 uY (b2 gZ (cB (.int 8)) (cB (.int 0)))) (aq (b1 uY (b2 gZ (cB (.int 12)) (cB (.int 0)))) aG))=Jx (n8 2 (bQ (g8 2) (bQ (g8 3) qI))) (cN qL (aq (cB (.int 8)) (aq (cB (.int 12)) aG))):=funext λρ=>S
theorem bj:NR (Uq f):=λρ b h=>by
 obtain⟨x,_,h⟩:=AT h;cases h
theorem Mb:NR vQ:=Of (Of bj UH) Si
theorem nr:NX rK:=QZ (QZ (QZ (QZ (WP g7))))
theorem WE{fs:Ev->Y (O Bx)}(h:bH 1 dD fs ρ=Z b):∃m,b=.z (.int m):=by
 obtain⟨bs,_,h⟩:=AT h;split at h
 ·obtain⟨r,e,h⟩:=AT h;obtain⟨a,e1,e⟩:=AT e;obtain⟨b1,e2,e1⟩:=AT e1;obtain⟨cN,_,e2⟩:=AT e2;unfold JZ at e2;split at e2
  ·obtain⟨ds,_,e2⟩:=AT e2;obtain⟨ks,_,e2⟩:=AT e2;split at e2
   ·cases e2;cases e1;cases e;cases h;exact⟨_,rfl⟩
   ·cases e2
  ·cases e2
 ·cases h
theorem b5{fs:Ev->Y (O Bx)}(h:cN vB fs ρ=Z b):∃ds,b=.o ds/\ds.length<1000:=by
 obtain⟨bs,_,h⟩:=AT h;unfold vB at h;split at h
 ·obtain⟨ds,_,h⟩:=AT h;obtain⟨cY,_,h⟩:=AT h;split at h
  ·rename_i hs;cases h;simp only[El,ZH,zz]at hs;exact⟨_,rfl,by rw[zl,(S1.mL cY).length_eq];omega⟩
  ·cases h
 ·cases h
theorem TH(bs:O Bx)(r:Bx)(h:fP bs=Z r):∃d0 m n,r=.z (.tup [.lst d0,.int m,.int n])/\d0.length<1000:=by
 obtain⟨r',er,h⟩:=AT h;obtain⟨P,e1,er⟩:=AT er;obtain⟨b1,_,e1⟩:=AT e1;obtain⟨a0,_,e1⟩:=AT e1;cases e1;obtain⟨v,e2,er⟩:=AT er;cases v with
 |rt b=>exact absurd e2 (ZF Mb _ _)
 |bk ρ=>cases er;cases h
 |ct ρ=>cases er;cases h
 |nx F=>
  obtain⟨W,e3,er⟩:=AT er;obtain⟨b3,J,e3⟩:=AT e3;obtain⟨a1,w,e3⟩:=AT e3;cases e3;obtain⟨ds,rfl,B⟩:=b5 J;cases w;obtain⟨N,l,er⟩:=AT er;obtain⟨M,I,l⟩:=AT l;obtain⟨a2,D,l⟩:=AT l;cases l;obtain⟨m,rfl⟩:=WE I;cases D;obtain⟨L,p,er⟩:=AT er;unfold FO at p;split at p
  ·rename_i c hd;cases p;have e:c=ds:=by
    rcases B5 hd with⟨q,_⟩|⟨_,hd⟩
    ·exact absurd q ()
    ·rcases B5 hd with⟨_,q,_⟩|⟨q,_⟩
     ·cases q;rfl
     ·exact absurd S q
   subst e;obtain⟨r6,t,er⟩:=AT er;obtain⟨K,u,t⟩:=AT t;obtain⟨cs,fc,u⟩:=AT u;obtain⟨c1,g1,fc⟩:=AT fc;obtain⟨a3,f,fc⟩:=AT fc;cases fc;obtain⟨c2,g2,f⟩:=AT f;obtain⟨X,g,f⟩:=AT f;cases f;obtain⟨E,a,g⟩:=AT g;obtain⟨Q,H,g⟩:=AT g;cases g;cases H;have g1:pW _ 3=Z c1:=g1;have g2:pW _ 4=Z c2:=g2;have h1:c1=.z (.lst c):=by
    unfold pW at g1;rw[j3 (bv.mp hd).1]at g1;cases g1;rfl
   have h2:c2=.z (.int m):=by
    have s:∀x,((((F.set 3 (Z (.o c))).set 4 (Z (.z (.int m)))).set 3 (Z (.z (.lst c)))):Ev)[4]?=Z (Z x)->x=.z (.int m):=λx hx=>by
     rcases B5 hx with⟨q,_⟩|⟨_,hx⟩
     ·exact absurd q ()
     ·rcases B5 hx with⟨_,q,_⟩|⟨q,_⟩
      ·cases q;rfl
      ·exact absurd S q
    unfold pW at g2;split at g2
    ·rename_i hx;cases s _ hx
    ·rename_i hx;cases s _ hx
    ·rename_i hx;cases g2;exact s _ hx
    ·cases g2
   have G:∃n,E=.z (.int n):=by
    obtain⟨x,_,a⟩:=AT a;obtain⟨y,_,a⟩:=AT a;cases x with
    |z d=>
     cases d with
     |int i=>
      cases y with
      |z A=>
       cases A with
       |int j=>cases a;exact⟨_,rfl⟩
       |_=>cases a
      |_=>cases a
     |_=>cases a
    |_=>cases a
   obtain⟨n,rfl⟩:=G;subst h1 h2;have C:K=.z (.tup [.lst c,.int m,.int n]):=by cases u;rfl
   subst C;cases t;cases er;cases h;exact⟨c,m,n,rfl,B⟩
  ·cases p
theorem mi(ρ:Ev):(Qc (b2 Bn (R3 (bH 1 fP (aq (gv 4) aG)) (tH (cB (.int 1))) oJ) (cN qL (aq (gv 10) (aq (gv 11) aG)))) (bH 2 fu (aq (b2 jD (bH 1 fP (aq (gv 4) aG)) (cB (.int 0))) (aq (gv 5) aG)))) (kill [8,9] ρ)=(Qc (b2 Bn (R3 (bH 1 fP (aq (gv 4) aG)) (tH (cB (.int 1))) oJ) (cN qL (aq (gv 10) (aq (gv 11) aG)))) (bH 2 fu (aq (b2 jD (bH 1 fP (aq (gv 4) aG)) (cB (.int 0))) (aq (gv 5) aG)))) ρ:=by
 have k:∀j:Nat,8≠j->9≠j->gv j (kill [8,9] ρ)=gv j ρ:=λj a d=>by
  show gv j ((ρ.set 8 U).set 9 U)=gv j ρ;rw[RC d,RC a]
 have f:=k 4 () ();have c:=k 5 () ();have b:=k 10 () ();have e:=k 11 () ();generalize kill [8,9] ρ=ρ' at *
 simp only[Qc,b2,R3,bH,aq,aG,tH,oJ,cB,cN,f,c,b,e]
end G30
end
section
set_option synthInstance.maxSize 100000
namespace G30
open L2 P1
set_option genInjectivity false
set_option genSizeOf false
structure T (K:B1) (mg:Str->Option Value) where
 jT:DQ K mg "_law_cell" KC ["_law_script","_law_k"]
 fY:DQ K mg "_law_numbers" zL ["_law_cell_here","_law_many"]
 uc:DQ K mg "_law_names" Gn ["_law_xs","_law_many"]
 rz:DQ K mg "_law_ground" CJ ["_law_script","_law_at","_law_many","_law_reasons","_law_bars"]
 mU:DQ K mg "_law_parts" Gp ["_law_names_here","_law_reasons"]
 eE:DQ K mg "_law_inside" CK ["_law_names_here","_law_rows"]
 zf:DQ K mg "_law_all" O8 ["_law_names_here"]
 oX:DQ K mg "_law_kept" KD ["_law_ground_here","_law_sets"]
 vV:DQ K mg "_law_most" KH ["_law_ground_here","_law_part"]
 rA:DQ K mg "lone_heads" CN ["names"]
 iD:DQ K mg "join_heads" CP ["heads","one","other"]
 oY:DQ K mg "heads_by" KJ ["names","reasons"]
 pJ:DQ K mg "names_under" zM ["heads","head"]
 rB:DQ K mg "sets_under" CQ ["heads"]
 oZ:DQ K mg "parts_by" KN ["names","reasons"]
 vW:DQ K mg "parts_of" KQ ["ground"]
 iZ:DQ K mg "part_grounds" yE ["ground"]
 gq:DQ K mg "refuse_no_room" uP ["own"]
 cg:DQ K mg "weight_of" Gq ["reasons"]
 mV:DQ K mg "other_end" Gs ["reason","name"]
 vX:DQ K mg "way_back" KR ["came_by","end"]
 Dg:DQ K mg "way_by" U7 ["reasons","start","end"]
 iG:DQ K mg "barred_way" CT ["own","cut"]
 cL:DQ K mg "lightest_cut" yF ["own","held","cut","limit"]
 mX:DQ K mg "best_sets" Gu ["own"]
 vY:DQ K mg "homes_of" KY ["sets"]
 gw:DQ K mg "reasons_within" uQ ["sets","reasons"]
 gA:DQ K mg "best_of" O9 ["ground"]
 jc:DQ K mg "_law_is_joining" uR ["_law_sets","_law_names_here"]
 vZ:DQ K mg "_law_good" KZ ["_law_ground_here","_law_sets"]
 qd:DQ K mg "_law_whole" Gv ["_law_found"]
 x_law:DQ K mg "law" s_law ["_law_script"]
 al2:mg "abs"=none
 ahu:mg "all"=none
 ajU:mg "bool"=none
 U8:mg "enumerate"=none
 ahv:mg "int"=none
 nG:mg "isinstance"=none
 Gy:mg "len"=none
 Xx:mg "list"=none
 K1:mg "max"=none
 adX:mg "min"=none
 zj:mg "range"=none
 ahw:mg "set"=none
 jU:mg "sorted"=none
 K3:mg "sum"=none
 pK:mg "tuple"=none
 K4:∃tk,mg "MOST_REASONS"=some (.int 12 tk)
 U9:∃tk,mg "MOST_ROWS"=some (.int 8 tk)
section
variable(t:T K mg)
theorem Va:bG ["_law_script","_law_k","_law_state","_law_cell_here"] ["_law_script","_law_k"] (aR KC):=lK
theorem Vb:Ok P w base t.jT 1 2 jP:=Av (g:=vH) t.jT Va λ_ _ _ _ _ _ a b nd=>(au (jL (bV OT (aj 1) (bh xU S t.Gy xT (ak (aj 0) aA)) (cP _)) (au (cU (bM (aj 0) (aj 1))) aP) aP) (au (bF 2 nd (bf eZ (bf xQ aF (bf dZ (bf dZ (bf xQ (aj 1) (aj 1)) (bf xQ aF (aj 1))) aF)) aF)) (au (xJ PassesOwn.never S (yM (FT (aj 0) pX (pY aF))) (aO 3 nd) (aY [3] (au (bF 2 nd (bf eZ (bf dZ (bf xQ (aj 2) aF) (aj 3)) aF)) aP))) (au (cU (aj 2)) aP))))
theorem K5:bG ["_law_cell_here","_law_many","_law_found","_law_state","_law_digits","_law_k"] ["_law_cell_here","_law_many"] (aR zL):=lK
theorem K6:Ok P w base t.fY 1 2 fX:=Av (g:=pG) t.fY K5 λ_ _ _ _ _ _ a b nd=>(au (bF 2 nd (fU aA)) (au (bF 3 nd (bf eZ (bf xQ (bf dZ (bf eZ (aj 0) aF) aF) aF) aF)) (au (bF 4 nd aF) (au (jL (GR (rW (bV OT (aj 0) aF (cP _)) (tB (bV P' (aj 0) (bf eR aF aF) (cP _))))) (aY [] (au (bF 4 nd (bh XZ S t.al2 UD (ak (aj 0) aA))) aP)) (aY [] aP)) (au (xJ PassesOwn.never S (uJ S t.zj (ak (aj 1) aA)) (aO 5 nd) (aY [5] (au (bF 3 nd (bf eZ (bf dZ (bf dZ (bf xQ (aj 3) (bf dZ (bf eZ (aj 3) aF) aF)) (bf xQ aF (aj 5))) aF) aF)) (au (xH 2 (bM (fU (ak (aj 3) (ak (bf eZ (aj 4) aF) aA))) (iQ f' S t.ahv OG (ak (Jf YQ (aj 4) aF (cP _)) aA)))) (au (bF 4 nd (bf HX (aj 4) aF)) aP))))) (au (Bj 2) aP))))))
theorem Q5:bG ["_law_xs","_law_many","_law_letters","_law_stem","_law_at","_law_found","_law_k","_law_mark","_law_name"] ["_law_xs","_law_many"] (aR Gn):=lK
theorem Q6:Ok P w base t.uc 1 2 p7:=Av (g:=tW) t.uc Q5 λ_ _ _ _ _ _ b a nd=>(au (bF 2 nd RO) (au (bF 3 nd (tT (fB ["_law_k"] (mz ["_law_letters","_law_xs"] [2,0]) S (WN (uJ S t.zj (ak (bf eZ (bM (aj 0) aF) aF) aA))) (λ_ _ _ _=>(rE 2)) (λ_ _ _ _=>bW) (λ_ _ _ _=>(bM (aj 0) (bf eZ (bf HX (bM (aj 1) (aj 2)) aF) aF))) (bN)))) (au (bF 4 nd (bf eZ (bM (aj 0) aF) (bf dZ (bh xU S t.Gy xT (ak (aj 3) aA)) aF))) (au (bF 5 nd (fU aA)) (au (xJ PassesOwn.never S (uJ S t.zj (ak (aj 1) aA)) (aO 6 nd) (aY [6,7,8] (au (bF 7 nd (bM (aj 2) (bf eZ (bf dZ (aj 6) (bM (aj 0) aF)) aF))) (au (bF 8 nd (bf dZ (bf dZ (FT (aj 3) pX (pY (aj 4))) (aj 7)) (FT (aj 3) (pY (aj 4)) pX))) (au (jL (bV (of_eq a) (bf eZ (bM (aj 0) aF) aF) aF (cP _)) (aY [] (au (bF 8 nd (bf xQ (bM (aj 2) (bf HX (aj 6) aF)) (bf dZ aF (bf eZ (aj 6) aF)))) aP)) (aY [] aP)) (au (xH 5 (aj 8)) aP)))))) (au (Bj 5) aP))))))
theorem Mu:bG ["_law_script","_law_at","_law_many","_law_reasons","_law_bars","_law_head","_law_names_here","_law_told","_law_k","_law_xs","_law_a","_law_b","_law_weight","_law_found","_law_shut"] ["_law_script","_law_at","_law_many","_law_reasons","_law_bars"] (aR CJ):=lK
theorem Mv(c:Ok P w base t.jT 1 2 jP)(e:Ok P w base t.uc 1 2 p7)(d:Ok P w base t.fY 1 2 fX):Ok P w base t.rz 2 5 qU:=Av (g:=qT) t.rz Mu λ_ _ _ _ _ _ a b nd=>(au (bF 5 nd (cG t.fY d a (ak (fW (cG t.jT c a (ak (aj 0) (ak (aj 1) aA)))) (ak aF aA)))) (au (bF 6 nd (bh Ei S t.jU j5 (ak (cG t.uc e a (ak (aj 5) (ak (aj 2) aA))) aA))) (au (bF 7 nd (fU aA)) (au (xJ PassesOwn.never S (uJ S t.zj (ak (aj 3) aA)) (aO 8 nd) (aY [8,9,10,11,12] (au (bF 9 nd (cG t.fY d a (ak (fW (cG t.jT c a (ak (aj 0) (ak (fW (bf dZ (bf dZ (aj 1) aF) (aj 8))) aA)))) (ak aF aA)))) (au (Ws 10 11 S nd (ak (bf eZ (bM (aj 9) aF) (bh (z7 S) S t.K1 zY (ak aF (ak (aj 2) aA)))) (ak (bf eZ (bM (aj 9) aF) (bh (z7 S) S t.K1 zY (ak aF (ak (aj 2) aA)))) aA))) (au (bF 12 nd (bM (fU (ak (fW (bf dZ aF (bf eZ (bM (aj 9) aF) aF))) (ak (fW (bf dZ aF (bf eZ (bM (aj 9) aF) aF))) (ak (fW (bf dZ aF (bf eZ (bM (aj 9) aF) aF))) aA)))) (bf eZ (bM (aj 5) aF) aF))) (au (jL (bV (zH b) (aj 10) (aj 11) (cP _)) (aY [] (au (xH 7 (oA (ak (bf Js aF (aj 12)) (ak (bM (aj 6) (bh (Na S) S t.adX WK (ak (aj 10) (ak (aj 11) aA)))) (ak (bM (aj 6) (bh (z7 S) S t.K1 zY (ak (aj 10) (ak (aj 11) aA)))) (ak (bM (fU (ak aF (ak aF (ak aF aA)))) (bf eZ (bM (aj 9) aF) aF)) aA)))))) aP)) (aY [] aP)) aP)))))) (au (HJ 13 ["_law_weight","_law_a","_law_b","_law_k"] (mz [] []) S nd (cZ (Ze S S t.jU (Zd S b S t.ahw (aj 7)))) (λ_ _ _ _=>(rY S (bL (rE 0) (bL (rE 1) (bL (rE 2) (bL (rE 3) m9)))))) (λ_ _ _ _=>bW) (λ_ _ _ _=>(oA (ak (bf Js aF (aj 0)) (ak (aj 1) (ak (aj 2) (ak (aj 3) aA)))))) (OA (uL (bN) (uL (bN) (uL (bN) (uL (bN) YJ)))))) (au (bF 14 nd (fU aA)) (au (xJ PassesOwn.never S (uJ S t.zj (ak (aj 4) aA)) (aO 8 nd) (aY [8,9,10,11] (au (bF 9 nd (cG t.fY d a (ak (fW (cG t.jT c a (ak (aj 0) (ak (fW (bf dZ (bf dZ (aj 1) aF) (aj 8))) aA)))) (ak aF aA)))) (au (Ws 10 11 S nd (ak (bf eZ (bM (aj 9) aF) (bh (z7 S) S t.K1 zY (ak aF (ak (aj 2) aA)))) (ak (bf eZ (bM (aj 9) aF) (bh (z7 S) S t.K1 zY (ak aF (ak (aj 2) aA)))) aA))) (au (jL (bV (zH b) (aj 10) (aj 11) (cP _)) (aY [] (au (xH 14 (oA (ak (bM (aj 6) (bh (Na S) S t.adX WK (ak (aj 10) (ak (aj 11) aA)))) (ak (bM (aj 6) (bh (z7 S) S t.K1 zY (ak (aj 10) (ak (aj 11) aA)))) (ak (bM (fU (ak aF (ak aF aA))) (bf eZ (bM (aj 9) aF) aF)) aA))))) aP)) (aY [] aP)) aP))))) (au (cU (oA (ak (iQ pZ S t.pK ni (ak (aj 6) aA)) (ak (iQ pZ S t.pK ni (ak (aj 13) aA)) (ak (iQ pZ S t.pK ni (ak (Ze S S t.jU (Zd S b S t.ahw (aj 14))) aA)) aA))))) aP))))))))
theorem Q7:bG ["_law_names_here","_law_reasons","_law_found","_law_weight","_law_a","_law_b","_law_k","_law_one","_law_other"] ["_law_names_here","_law_reasons"] (aR Gp):=lK
theorem Q8:Ok P w base t.mU 1 2 jQ:=Av (g:=mO) t.mU Q7 λ_ _ _ _ _ _ b a nd=>(au (HJ 2 ["_law_name"] (mz [] []) S nd (cZ (aj 0)) (λ_ _ _ _=>(rE 0)) (λ_ _ _ _=>bW) (λ_ _ _ _=>(fW (fU (ak (aj 0) aA)))) (bN)) (au (qN 1 PassesOwn.never S (rY S (bL (aO 3 nd) (bL (aO 4 nd) (bL (aO 5 nd) (bL (aO 6 nd) m9))))) (aY [3,4,5,6,7,8] (au (bF 7 nd (bM (fB ["_law_part"] (mz ["_law_a"] [4]) S (cZ (aj 2)) (λ_ _ _ _=>(rE 1)) (λ_ _ _ _=>(fQ (bV Jt (aj 0) (aj 1) (by with_unfolding_all rfl)))) (λ_ _ _ _=>(aj 1)) (bN)) aF)) (au (bF 8 nd (bM (fB ["_law_part"] (mz ["_law_b"] [5]) S (cZ (aj 2)) (λ_ _ _ _=>(rE 1)) (λ_ _ _ _=>(fQ (bV Jt (aj 0) (aj 1) (by with_unfolding_all rfl)))) (λ_ _ _ _=>(aj 1)) (bN)) aF)) (au (jL (bV (zH a) (aj 7) (aj 8) (cP _)) (aY [] (au (bF 2 nd (bf dZ (fB ["_law_part"] (mz ["_law_one","_law_other"] [7,8]) S (cZ (aj 2)) (λ_ _ _ _=>(rE 2)) (λ_ _ _ _=>(fQ (bV (Ii a) (aj 2) (fU (ak (aj 0) (ak (aj 1) aA))) (by with_unfolding_all rfl)))) (λ_ _ _ _=>(aj 2)) (bN)) (fU (ak (fW (bh Ei S t.jU j5 (ak (bf dZ (aj 7) (aj 8)) aA))) aA)))) aP)) (aY [] aP)) aP))))) (au (cU (bh BZ S t.jU j5 (ak (fB ["_law_part"] (mz [] []) S (cZ (aj 2)) (λ_ _ _ _=>(rE 0)) (λ_ _ _ _=>bW) (λ_ _ _ _=>(iQ pZ S t.pK ni (ak (aj 0) aA))) (bN)) aA))) aP)))
theorem Mw:bG ["_law_names_here","_law_rows"] ["_law_names_here","_law_rows"] (aR CK):=lK
theorem Mx:Ok P w base t.eE 1 2 cT:=Av (g:=fD) t.eE Mw λ_ _ _ _ _ _ a b nd=>(au (cU (fB ["_law_row"] (mz ["_law_names_here"] [0]) S (cZ (aj 1)) (λ_ _ _ _=>(rE 1)) (λ_ _ _ _=>(fQ (GR (HF (bV Jt (bM (aj 1) (L6 Wz aF)) (aj 0) (by with_unfolding_all rfl)) (Bh (bV Jt (bM (aj 1) (L6 Wz aF)) (aj 0) (by with_unfolding_all rfl))))))) (λ_ _ _ _=>(aj 1)) (bN))) aP)
theorem Xy:bG ["_law_names_here","_law_found","_law_name","_law_more","_law_sets","_law_k"] ["_law_names_here"] (aR O8):=lK
theorem Xz:Ok P w base t.zf 1 1 zc:=Av (g:=yZ) t.zf Xy λ_ _ _ _ _ _ a b nd=>(au (bF 1 nd (fU (ak (fW (fU aA)) aA))) (au (qN 0 PassesOwn.never S (aO 2 nd) (U5 (bF 3 nd (fU aA)) (U5 (qN 1 PassesOwn.never S (aO 4 nd) (aY [4,5] (au (xH 3 (fW (bf dZ (aj 4) (fU (ak (oA (ak (aj 2) aA)) aA))))) (au (xJ PassesOwn.never S (uJ S t.zj (ak (bh xU S t.Gy xT (ak (aj 4) aA)) aA)) (aO 5 nd) (aY [5] (au (xH 3 (fW (bf dZ (bf dZ (FT (aj 4) pX (pY (aj 5))) (fU (ak (fW (bf dZ (bM (aj 4) (aj 5)) (oA (ak (aj 2) aA)))) aA))) (FT (aj 4) (pY (bf dZ (aj 5) aF)) pX)))) aP))) aP)))) (ua 1 3 nd () ())))) (au (Bj 1) aP)))
theorem Vc:bG ["_law_ground_here","_law_sets"] ["_law_ground_here","_law_sets"] (aR KD):=lK
theorem Vd(b:Ok P w base t.eE 1 2 cT):Ok P w base t.oX 2 2 mF:=Av (g:=oU) t.oX Vc λ_ _ _ _ _ _ a c nd=>(au (cU (bh (Ep S) S t.K3 zZ (ak (fB ["_law_part"] (mz ["_law_ground_here"] [0]) S (cZ (aj 1)) (λ_ _ _ _=>(rE 1)) (λ_ _ _ _=>bW) (λ_ _ _ _=>(fW (bh (Ep S) S t.K3 zZ (ak (fB ["_law_reason"] (mz [] []) S (cZ (cG t.eE b a (ak (aj 1) (ak (bM (aj 0) aF) aA)))) (λ_ _ _ _=>(rE 0)) (λ_ _ _ _=>bW) (λ_ _ _ _=>(bM (aj 0) aF)) (bN)) aA)))) (bN)) aA))) aP)
theorem Ve:bG ["_law_ground_here","_law_part","_law_reasons","_law_bars","_law_most_here","_law_sets"] ["_law_ground_here","_law_part"] (aR KH):=lK
theorem Vf(d:Ok P w base t.zf 1 1 zc)(b:Ok P w base t.eE 1 2 cT)(e:Ok P w base t.oX 2 2 mF):Ok P w base t.vV 3 2 vJ:=Av (g:=vI) t.vV Ve λ_ _ _ _ _ _ a c nd=>(au (zW (oA (ak (fW (cG t.eE b a (ak (aj 1) (ak (bM (aj 0) aF) aA)))) (ak (fW (cG t.eE b a (ak (aj 1) (ak (bM (aj 0) aF) aA)))) aA))) (rY S (bL (aO 2 nd) (bL (aO 3 nd) m9)))) (au (jL (bV (of_eq c) (aj 3) (fU aA) (cP _)) (au (cU (bh (Ep S) S t.K3 zZ (ak (fB ["_law_reason"] (mz [] []) S (cZ (aj 2)) (λ_ _ _ _=>(rE 0)) (λ_ _ _ _=>bW) (λ_ _ _ _=>(bM (aj 0) aF)) (bN)) aA))) aP) aP) (au (bF 4 nd aF) (au (xJ PassesOwn.never S (yM (cG t.zf d a (ak (aj 1) aA))) (aO 5 nd) (aY [5] (au (jL (rT (bh (OS S) S t.ahu NA (ak (fB ["_law_some"] (mz ["_law_bars"] [3]) S (cZ (aj 5)) (λ_ _ _ _=>(rE 1)) (λ_ _ _ _=>bW) (λ_ _ _ _=>(Jf (of_eq c) (cG t.eE b a (ak (aj 1) (ak (aj 0) aA))) (fU aA) (cP _))) (bN)) aA))) (aY [] (au (bF 4 nd (bh (z7 S) S t.K1 zY (ak (aj 4) (ak (cG t.oX e a (ak (oA (ak (aj 1) (ak (aj 2) (ak (aj 3) aA)))) (ak (aj 5) aA))) aA)))) aP)) (aY [] aP)) aP))) (au (cU (aj 4)) aP)))))
theorem Mz:bG ["names"] ["names"] (aR CN):=lK
theorem MF:Ok P w base t.rA 1 1 qX:=Av (g:=qW) t.rA Mz λ_ _ _ _ _ _ b a nd=>(au (cU (XT a ["name"] (mz [] []) S (cZ (aj 0)) (λ_ _ _ _=>(rE 0)) (λ_ _ _ _=>bW) (λ_ _ _ _=>(aj 0)) (λ_ _ _ _=>(aj 0)) (bN))) aP)
theorem zR:bG ["heads","one","other","head","name"] ["heads","one","other"] (aR CP):=lK
theorem MJ:rQ P w K mg base FJ 1 t.iD.f t.iD.fd ["heads","one","other"] (GS K 2 nA):=by
 unfold nA;refine ul (k:=0) (g:=qY) t.iD.F zR S S λc A outer s H E b=>?_;have a:=HY b;have nd:=zR.nd;exact(aY [3,4] (au (bF 3 nd (bh (oz S) S t.adX WK (ak (aj 1) (ak (aj 2) aA)))) (au (xJ PassesOwn.never S (yM (iQ (lc S) S t.Xx Qn (ak (aj 0) aA))) (aO 4 nd) (aY [4] (au (jL (GR (rW (bV (of_eq a) (j6 a (aj 0) (aj 4)) (aj 1) (cP _)) (tB (bV (of_eq a) (j6 a (aj 0) (aj 4)) (aj 2) (cP _))))) (aY [] (au (YW 0 a (aj 3) (aj 4)) aP)) (aY [] aP)) aP))) aP)))
theorem Vg:bG ["names","reasons","heads","weight","one","other","number"] ["names","reasons"] (aR KJ):=lK
theorem Vh(e:rQ P w K mg base FJ 1 t.iD.f t.iD.fd ["heads","one","other"] (GS K 2 nA))(d:Ok P w base t.rA 1 1 qX):Ok P w base t.oY 2 2 mG:=Av (g:=oV) t.oY Vg λ_ _ _ _ _ _ a c nd=>(au (bF 2 nd (cG t.rA d a (ak (aj 0) aA))) (au (qN 1 PassesOwn.never S (rY S (bL (aO 3 nd) (bL (aO 4 nd) (bL (aO 5 nd) (bL (aO 6 nd) m9))))) (aY [3,4,5,6] (au (WA 2 e (a.mono ()) S t.iD.m t.iD.k t.iD.b (ak (j6 c (aj 2) (aj 4)) (ak (j6 c (aj 2) (aj 5)) aA))) aP))) (au (Bj 2) aP)))
theorem K7:bG ["heads","head"] ["heads","head"] (aR zM):=lK
theorem K8:Ok P w base t.pJ 1 2 pI:=Av (g:=pH) t.pJ K7 λ_ _ _ _ _ _ b a nd=>(au (cU (iQ pZ S t.pK ni (ak (Uh ["name"] (mz ["head","heads"] [1,0]) S (aj 0) (λ_ _ _ _=>(rE 2)) (λ_ _ _ _=>(fQ (bV (of_eq a) (j6 a (aj 1) (aj 2)) (aj 0) (cP _)))) (λ_ _ _ _=>(aj 2)) (bN)) aA))) aP)
theorem MK:bG ["heads"] ["heads"] (aR CQ):=lK
theorem MN(b:Ok P w base t.pJ 1 2 pI):Ok P w base t.rB 2 1 q8:=Av (g:=qZ) t.rB MK λ_ _ _ _ _ _ c a nd=>(au (cU (Uh ["name"] (mz ["heads"] [0]) S (aj 0) (λ_ _ _ _=>(rE 1)) (λ_ _ _ _=>(fQ (bV (of_eq a) (j6 a (aj 0) (aj 1)) (aj 1) (cP _)))) (λ_ _ _ _=>(fW (cG t.pJ b c (ak (aj 0) (ak (aj 1) aA))))) (bN))) aP)
theorem Vi:bG ["names","reasons"] ["names","reasons"] (aR KN):=lK
theorem Vj(c:Ok P w base t.oY 2 2 mG)(b:Ok P w base t.rB 2 1 q8):Ok P w base t.oZ 3 2 mH:=Av (g:=oW) t.oZ Vi λ_ _ _ _ _ _ a d nd=>(au (cU (cG t.rB b a (ak (cG t.oY c a (ak (aj 0) (ak (aj 1) aA))) aA))) aP)
theorem Vk:bG ["ground"] ["ground"] (aR KQ):=lK
theorem Vl(b:Ok P w base t.oZ 3 2 mH):Ok P w base t.vW 4 1 vL:=Av (g:=vK) t.vW Vk λ_ _ _ _ _ _ a c nd=>(au (cU (cG t.oZ b a (ak (bM (aj 0) aF) (ak (bM (aj 0) aF) aA)))) aP)
theorem G7:bG ["ground","names","reasons","bars"] ["ground"] (aR yE):=lK
theorem G8(b:Ok P w base t.vW 4 1 vL):Ok P w base t.iZ 5 1 jR:=Av (g:=nC) t.iZ G7 λ_ _ _ _ _ _ a c nd=>(au (zW (aj 0) (rY S (bL (aO 1 nd) (bL (aO 2 nd) (bL (aO 3 nd) m9))))) (au (cU (fB ["part"] (mz ["reasons","bars"] [2,3]) S (cZ (cG t.vW b a (ak (aj 0) aA))) (λ_ _ _ _=>(rE 2)) (λ_ _ _ _=>bW) (λ_ _ _ _=>(oA (ak (aj 2) (ak (iQ pZ S t.pK ni (ak (fB ["reason"] (mz ["part"] [2]) S (cZ (aj 0)) (λ_ _ _ _=>(rE 1)) (λ_ _ _ _=>(fQ (bV Jt (bM (aj 1) aF) (aj 0) (by with_unfolding_all rfl)))) (λ_ _ _ _=>(aj 1)) (bN)) aA)) (ak (iQ pZ S t.pK ni (ak (fB ["bar"] (mz ["part"] [2]) S (cZ (aj 1)) (λ_ _ _ _=>(rE 1)) (λ_ _ _ _=>(fQ (GR (HF (bV Jt (bM (aj 1) aF) (aj 0) (by with_unfolding_all rfl)) (Bh (bV Jt (bM (aj 1) aF) (aj 0) (by with_unfolding_all rfl))))))) (λ_ _ _ _=>(aj 1)) (bN)) aA)) aA))))) (bN))) aP))
theorem Dh:bG ["own","names","reasons","bars"] ["own"] (aR uP):=lK
theorem Di:Ok P w base t.gq 1 1 iV:=Av (g:=j9) t.gq Dh λ_ _ _ _ _ _ f d nd=>by
 obtain⟨c,b⟩:=t.K4;obtain⟨e,a⟩:=t.U9;exact(aY [1,2,3] (au (zW (aj 0) (rY S (bL (aO 1 nd) (bL (aO 2 nd) (bL (aO 3 nd) m9))))) (au (jL (GR (HF (rT (aj 3)) (Bh (GR (rW (bV YQ (bh xU S t.Gy xT (ak (aj 1) aA)) (Sx S a) (cP _)) (tB (bV YQ (bh xU S t.Gy xT (ak (aj 2) aA)) (Sx S b) (cP _)))))))) (au bp aP) aP) aP)))
theorem Q9:bG ["reasons"] ["reasons"] (aR Gq):=lK
theorem Ra:Ok P w base t.cg 1 1 dD:=Av (g:=mQ) t.cg Q9 λ_ _ _ _ _ _ a b nd=>(au (cU (bh (Ep S) S t.K3 zZ (ak (fB ["reason"] (mz [] []) S (cZ (aj 0)) (λ_ _ _ _=>(rE 0)) (λ_ _ _ _=>bW) (λ_ _ _ _=>(bM (aj 0) aF)) (bN)) aA))) aP)
theorem Rb:bG ["reason","name"] ["reason","name"] (aR Gs):=lK
theorem Rc:Ok P w base t.mV 1 2 mR:=Av (g:=tX) t.mV Rb λ_ _ _ _ _ _ b a nd=>(au (jL (bV (of_eq a) (bM (aj 0) aF) (aj 1) (cP _)) (au (cU (bM (aj 0) aF)) aP) aP) (au (jL (bV (of_eq a) (bM (aj 0) aF) (aj 1) (cP _)) (au (cU (bM (aj 0) aF)) aP) aP) (au (cU rR) aP)))
theorem Vn:bG ["came_by","end","way","here"] ["came_by","end"] (aR KR):=lK
theorem Vo(c:Ok P w base t.mV 1 2 mR):Ok P w base t.vX 2 2 vN:=Av (g:=vM) t.vX Vn λ_ _ _ _ _ _ b a nd=>(au (bF 2 nd (fU aA)) (au (bF 3 nd (aj 1)) (au (Ul 70 PassesOwn.never (bV Qm (j6 a (aj 0) (aj 3)) rR (cP _)) (aY [] (au (xH 2 (j6 a (aj 0) (aj 3))) (au (bF 3 nd (cG t.mV c b (ak (j6 a (aj 0) (aj 3)) (ak (aj 3) aA)))) aP)))) (au (Bj 2) aP))))
theorem VO:bG ["reasons","start","end","came_by","reached","here","reason","there"] ["reasons","start","end"] (aR U7):=lK
theorem sj(c:Ok P w base t.mV 1 2 mR)(d:Ok P w base t.vX 2 2 vN):Ok P w base t.Dg 3 3 Dd:=Av (g:=Dc) t.Dg VO λ_ _ _ _ _ _ b a nd=>(au (bF 3 nd (uu (aj 1) rR)) (au (bF 4 nd (fU (ak (aj 1) aA))) (au (Ul 70 PassesOwn.never (rT (aj 4)) (aY [5,6,7] (au (gf 5 4 nd aF) (au (qN 0 PassesOwn.never S (aO 6 nd) (aY [6,7] (au (bF 7 nd (cG t.mV c b (ak (aj 6) (ak (aj 5) aA)))) (au (jL (GR (HF (bV Qm (aj 7) rR (cP _)) (Bh (bV (Zm a) (aj 7) (aj 3) (by with_unfolding_all rfl))))) (aY [] (au (YW 3 a (aj 6) (aj 7)) (au (xH 4 (aj 7)) aP))) (aY [] aP)) aP)))) aP)))) (au (jL (bV (Zm a) (aj 2) (aj 3) (by with_unfolding_all rfl)) (au (cU rR) aP) aP) (au (cU (af0 (cG t.vX d b (ak (aj 3) (ak (aj 2) aA))) (L6 Wz aF))) aP)))))
theorem MP:bG ["own","cut","names","reasons","bars","left","heads","bar"] ["own","cut"] (aR CT):=lK
theorem M4(c:Ok P w base t.oY 2 2 mG)(d:Ok P w base t.Dg 3 3 Dd):Ok P w base t.iG 4 2 nD:=Av (g:=q9) t.iG MP λ_ _ _ _ _ _ b a nd=>(au (zW (aj 0) (rY S (bL (aO 2 nd) (bL (aO 3 nd) (bL (aO 4 nd) m9))))) (au (HJ 5 ["reason"] (mz ["cut"] [1]) S nd (cZ (aj 3)) (λ_ _ _ _=>(rE 1)) (λ_ _ _ _=>(fQ (bV (Ii a) (aj 1) (aj 0) (by with_unfolding_all rfl)))) (λ_ _ _ _=>(aj 1)) (bN)) (au (bF 6 nd (cG t.oY c b (ak (aj 2) (ak (aj 5) aA)))) (au (qN 4 PassesOwn.never S (aO 7 nd) (aY [7] (au (jL (bV (of_eq a) (j6 a (aj 6) (bM (aj 7) aF)) (j6 a (aj 6) (bM (aj 7) aF)) (cP _)) (au (cU (cG t.Dg d b (ak (aj 5) (ak (bM (aj 7) aF) (ak (bM (aj 7) aF) aA))))) aP) aP) aP))) (au (cU rR) aP)))))
theorem qu:bG ["own","held","cut","limit","way","choices","with_cut","with_held"] ["own","held","cut","limit"] (aR yF):=lK
theorem uT(d:rQ P w K mg base FJ 4 t.iG.f t.iG.fd ["own","cut"] (DA K 2 nD))(c:rQ P w K mg base FJ 1 t.cg.f t.cg.fd ["reasons"] (DA K 1 dD)):∀n:Nat,rQ P w K mg base FJ (n+5) t.cL.f t.cL.fd ["own","held","cut","limit"] (DA K 4 (dG n))
 |0=>O' (k:=0+4) (g:=λ_=>U) t.cL.F qu S S λi A outer s H E a=>rg
 |n+1=>by
  have e:=uT d c n;rw[show n+1+5=(n+5)+1 by omega];refine PD (k:=n+5) (g:=nF (dG n)) t.cL.F qu S S λi A outer s H E a=>?_;have h:=HY a;have nd:=qu.nd;exact(au (jL (bV P' (yQ c (a.mono ()) S t.cg.m t.cg.k t.cg.b (ak (aj 2) aA)) (aj 3) (cP _)) (au (cU rR) aP) aP) (au (bF 4 nd (yQ d (a.mono ()) S t.iG.m t.iG.k t.iG.b (ak (aj 0) (ak (aj 2) aA)))) (au (jL (bV DU (aj 4) rR (cP _)) (au (cU (aj 2)) aP) aP) (au (HJ 5 ["reason"] (mz ["held"] [1]) S nd (cZ (aj 4)) (λ_ _ _ _=>(rE 1)) (λ_ _ _ _=>(fQ (bV (Ii h) (aj 1) (aj 0) (by with_unfolding_all rfl)))) (λ_ _ _ _=>(aj 1)) (bN)) (au (jL (xG (rT (aj 5))) (au (cU rR) aP) aP) (au (bF 6 nd (yQ e (a.mono ()) S t.cL.m t.cL.k t.cL.b (ak (aj 0) (ak (aj 1) (ak (fW (bf dZ (aj 2) (FT (aj 5) pX (pY aF)))) (ak (aj 3) aA)))))) (au (jL (bV Qm (aj 6) rR (cP _)) (aY [] (au (bF 3 nd (yQ c (a.mono ()) S t.cg.m t.cg.k t.cg.b (ak (aj 6) aA))) aP)) (aY [] aP)) (au (bF 7 nd (yQ e (a.mono ()) S t.cL.m t.cL.k t.cL.b (ak (aj 0) (ak (fW (bf dZ (aj 1) (FT (aj 5) pX (pY aF)))) (ak (aj 2) (ak (aj 3) aA)))))) (au (cU (fW (ut (bV DU (aj 7) rR (cP _)) (aj 6) (aj 7)))) aP)))))))))
theorem G9(b:Ok P w base t.iG 4 2 nD)(a:Ok P w base t.cg 1 1 dD):Ok P w base t.cL 37 4 iW:=uT t b a fuel
theorem Rf:bG ["own","names","reasons","bars","cut"] ["own"] (aR Gu):=lK
theorem Rh(e:Ok P w base t.cL 37 4 iW)(c:Ok P w base t.oZ 3 2 mH)(d:Ok P w base t.cg 1 1 dD):Ok P w base t.mX 38 1 p8:=Av (g:=tY) t.mX Rf λ_ _ _ _ _ _ a b nd=>(au (zW (aj 0) (rY S (bL (aO 1 nd) (bL (aO 2 nd) (bL (aO 3 nd) m9))))) (au (bF 4 nd (cG t.cL e a (ak (aj 0) (ak (fW (fU aA)) (ak (fW (fU aA)) (ak (fW (bf dZ (cG t.cg d a (ak (aj 2) aA)) aF)) aA)))))) (au (cU (cG t.oZ c a (ak (aj 1) (ak (fW (fB ["reason"] (mz ["cut"] [4]) S (cZ (aj 2)) (λ_ _ _ _=>(rE 1)) (λ_ _ _ _=>(fQ (bV (Ii b) (aj 1) (aj 0) (by with_unfolding_all rfl)))) (λ_ _ _ _=>(aj 1)) (bN))) aA)))) aP)))
theorem Vp:bG ["sets"] ["sets"] (aR KY):=lK
theorem Vq:Ok P w base t.vY 1 1 vP:=Av (g:=vO) t.vY Vp λ_ _ _ _ _ _ a b nd=>(au (cU (e8 ["at","names","name"] (FL.mk (m:=2) (mz [] []) S (tS S t.U8 (ak (aj 0) aA)) (λ_ _ _ _=>(rY S (bL (rE 0) (bL (rE 1) m9)))) (λ_ _ _ _=>bW) (OA (uL (bN) (uL (bN) YJ))) (λ_ _ _ _=>(yM (aj 1))) (λ_ _ _ _=>(rE 2)) (λ_ _ _ _=>bW) (bN)) (λ_ _ _ _=>(aj 2)) (λ_ _ _ _=>(aj 0)))) aP)
theorem Dj:bG ["sets","reasons","homes"] ["sets","reasons"] (aR uQ):=lK
theorem Dk(c:Ok P w base t.vY 1 1 vP):Ok P w base t.gw 2 2 iY:=Av (g:=kh) t.gw Dj λ_ _ _ _ _ _ b a nd=>(au (bF 2 nd (cG t.vY c b (ak (aj 0) aA))) (au (cU (fB ["reason"] (mz ["homes"] [2]) S (cZ (aj 1)) (λ_ _ _ _=>(rE 1)) (λ_ _ _ _=>(fQ (bV (of_eq a) (j6 a (aj 0) (bM (aj 1) aF)) (j6 a (aj 0) (bM (aj 1) aF)) (cP _)))) (λ_ _ _ _=>(aj 1)) (bN))) aP))
theorem Ah:bG ["ground","grounds","own","sets","kept"] ["ground"] (aR O9):=lK
theorem XC(d:Ok P w base t.mX 38 1 p8)(c:Ok P w base t.iZ 5 1 jR)(f:Ok P w base t.gw 2 2 iY)(e:Ok P w base t.gq 1 1 iV)(b:Ok P w base t.cg 1 1 dD):Ok P w base t.gA 39 1 fP:=Av (g:=rK) t.gA Ah λ_ _ _ _ _ _ a h nd=>(au (bF 1 nd (cG t.iZ c a (ak (aj 0) aA))) (au (qN 1 PassesOwn.never S (aO 2 nd) (aY [2] (au (Zk (cG t.gq e a (ak (aj 2) aA))) aP))) (au (bF 3 nd (bh BZ S t.jU j5 (ak (UJ ["own","names"] (FL.mk (m:=1) (mz [] []) S (cZ (aj 1)) (λ_ _ _ _=>(rE 0)) (λ_ _ _ _=>bW) (bN) (λ_ _ _ _=>(yM (cG t.mX d a (ak (aj 0) aA)))) (λ_ _ _ _=>(rE 1)) (λ_ _ _ _=>bW) (bN)) (λ_ _ _ _=>(aj 1))) aA))) (au (bF 4 nd (cG t.cg b a (ak (fW (cG t.gw f a (ak (aj 3) (ak (bM (aj 0) aF) aA)))) aA))) (nz (i:=3) (au (cU (oA (ak (aj 3) (ak (aj 4) (ak (bf Js (cG t.cg b a (ak (bM (aj 0) aF) aA)) (aj 4)) aA))))) aP))))))
theorem af(d:Ok P w base t.mX 38 1 p8)(c:Ok P w base t.iZ 5 1 jR)(h:Ok P w base t.gw 2 2 iY)(e:Ok P w base t.gq 1 1 iV)(b:Ok P w base t.cg 1 1 dD):rQ P w K mg base FJ 39 t.gA.f t.gA.fd ["ground"] (FC K 1 fP):=by
 unfold fP;refine ai (k:=38) (g:=rK) t.gA.F Ah S S nr λj A outer s H E a=>?_;have i:=HY a;have nd:=Ah.nd;exact(Cz (bF 1 nd (cG t.iZ c a (ak (aj 0) aA))) Xr (Cz (qN 1 PassesOwn.never S (aO 2 nd) (aY [2] (au (Zk (cG t.gq e a (ak (aj 2) aA))) aP))) (ZF Mb) (Cz (bF 3 nd (bh BZ S t.jU j5 (ak (UJ ["own","names"] (FL.mk (m:=1) (mz [] []) S (cZ (aj 1)) (λ_ _ _ _=>(rE 0)) (λ_ _ _ _=>bW) (bN) (λ_ _ _ _=>(yM (cG t.mX d a (ak (aj 0) aA)))) (λ_ _ _ _=>(rE 1)) (λ_ _ _ _=>bW) (bN)) (λ_ _ _ _=>(aj 1))) aA))) Xr (Cz (bF 4 nd (cG t.cg b a (ak (fW (cG t.gw h a (ak (aj 3) (ak (bM (aj 0) aF) aA)))) aA))) Xr (eA 3 4 (bf Js (cG t.cg b a (ak (bM (aj 0) aF) aA)) (aj 4)))))))
theorem Dl:bG ["_law_sets","_law_names_here"] ["_law_sets","_law_names_here"] (aR uR):=lK
theorem Dm:Ok P w base t.jc 1 2 fu:=Av (g:=kj) t.jc Dl λ_ _ _ _ _ _ b a nd=>(au (jL (GR (rW (xG (rT (Ti (aj 0) S t.nG S t.Xx))) (tB (xG (rT (bh (OS S) S t.ahu NA (ak (fB ["_law_part"] (mz [] []) S (cZ (aj 0)) (λ_ _ _ _=>(rE 0)) (λ_ _ _ _=>bW) (λ_ _ _ _=>(Wr (Bw (aj 0) S t.nG S t.pK) (Wq (Jf YQ (bh xU S t.Gy xT (ak (aj 0) aA)) aF (cP _))))) (bN)) aA))))))) (au (cU Ji) aP) aP) (au (jL (bV (zH a) (aj 0) (bh BZ S t.jU j5 (ak (fB ["_law_part"] (mz [] []) S (cZ (aj 0)) (λ_ _ _ _=>(rE 0)) (λ_ _ _ _=>bW) (λ_ _ _ _=>(iQ pZ S t.pK ni (ak (bh Uz S t.jU j5 (ak (aj 0) aA)) aA))) (bN)) aA)) (cP _)) (au (cU Ji) aP) aP) (au (cU (Jf (of_eq a) (bh Ei S t.jU j5 (ak (bh (nB S) S t.K3 zZ (ak (fB ["_law_part"] (mz [] []) S (cZ (aj 0)) (λ_ _ _ _=>(rE 0)) (λ_ _ _ _=>bW) (λ_ _ _ _=>(fW (iQ aI S t.Xx Qn (ak (aj 0) aA)))) (bN)) (ak (fU aA) aA))) aA)) (bh Uz S t.jU j5 (ak (aj 1) aA)) (cP _))) aP)))
theorem Vr:bG ["_law_ground_here","_law_sets","_law_part"] ["_law_ground_here","_law_sets"] (aR KZ):=lK
theorem Vs(c:Ok P w base t.eE 1 2 cT)(d:Ok P w base t.mU 1 2 jQ):Ok P w base t.vZ 2 2 vU:=Av (g:=vR) t.vZ Vr λ_ _ _ _ _ _ a b nd=>(au (qN 1 PassesOwn.never S (aO 2 nd) (aY [2] (au (jL (GR (rW (bV (zH b) (cG t.eE c a (ak (aj 2) (ak (bM (aj 0) aF) aA))) (fU aA) (cP _)) (tB (bV (zH b) (bh xU S t.Gy xT (ak (cG t.mU d a (ak (aj 2) (ak (fW (cG t.eE c a (ak (aj 2) (ak (bM (aj 0) aF) aA)))) aA))) aA)) aF (cP _))))) (au (cU Ji) aP) aP) aP))) (au (cU Ji) aP))
theorem Ri:bG ["_law_found"] ["_law_found"] (aR Gv):=lK
theorem Rj:Ok P w base t.qd 1 1 qb:=Av (g:=tZ) t.qd Ri λ_ _ _ _ _ _ a b nd=>(au (cU (Wr (WL (aj 0) S t.nG S t.ahv) (Wq (Wl (Tg (aj 0) S t.nG S t.ajU))))) aP)
theorem ap:bG ["_law_script","_law_head","_law_many","_law_reasons","_law_ground_here","_law_names_here","_law_bars","_law_most_here","_law_told","_law_sets","_law_kept_here","_law_lost"] ["_law_script"] (aR s_law):=lK
theorem bc(l:Ok P w base t.jT 1 2 jP)(q:Ok P w base t.vZ 2 2 vU)(u:Ok P w base t.rz 2 5 qU)(j:Ok P w base t.jc 1 2 fu)(x:Ok P w base t.oX 2 2 mF)(p:Ok P w base t.vV 3 2 vJ)(o:Ok P w base t.fY 1 2 fX)(v:Ok P w base t.mU 1 2 jQ)(d:Ok P w base t.qd 1 1 qb)(n:rQ P w K mg base FJ 39 t.gA.f t.gA.fd ["ground"] (FC K 1 fP))(e:Ok P w base t.gA 39 1 fP):Ok P w base t.x_law 40 1 F_law:=Av (g:=ZM) t.x_law ap λ_ _ _ _ _ _ a c nd=>(au (bF 1 nd (cG t.fY o a (ak (fW (cG t.jT l a (ak (aj 0) (ak aF aA)))) (ak aF aA)))) (au (Ws 2 3 S nd (ak (fW (bf dZ aF (bf eZ (bM (aj 1) aF) aF))) (ak (bf eZ (bM (aj 1) aF) aF) aA))) (au (jL (bV (of_eq c) (bf eZ (bf HX (bM (aj 1) aF) aF) aF) aF (cP _)) (aY [] (au (gE ub (zW (oA (ak aF (ak aF aA))) (rY S (bL (aO 2 nd) (bL (aO 3 nd) m9))))) aP)) (aY [] aP)) (au (bF 4 nd (cG t.rz u a (ak (aj 0) (ak aF (ak (aj 2) (ak (aj 3) (ak (bf eZ (bM (aj 1) aF) aF) aA))))))) (au (zW (aj 4) (rY S (bL (aO 5 nd) (bL (aO 3 nd) (bL (aO 6 nd) m9))))) (au (bF 7 nd (bh (Ep S) S t.K3 zZ (ak (fB ["_law_part"] (mz ["_law_ground_here"] [4]) S (cZ (cG t.mU v a (ak (aj 5) (ak (aj 3) aA)))) (λ_ _ _ _=>(rE 1)) (λ_ _ _ _=>bW) (λ_ _ _ _=>(fW (cG t.vV p a (ak (aj 0) (ak (aj 1) aA))))) (bN)) aA))) (me (W:=[8,9]) 8 nd n (a.mono ()) S t.gA.m t.gA.k t.gA.b (ak (aj 4) aA) TH () (Xv (λ_ _ _ _ _ h s=>h.grow s) (GR (rW (xG (rT (Bw (aj 8) S t.nG S t.pK))) (tB (bV (zH c) (bh xU S t.Gy xT (ak (aj 8) aA)) aF (cP _))))) Ji (Xw 8 9 10 11 S nd () () () () () (Xv (λ_ _ _ _ _ h s=>h.grow s) (GR (rW (xG (rT (cG t.jc j a (ak (aj 9) (ak (aj 5) aA))))) (rW (xG (rT (cG t.vZ q a (ak (aj 4) (ak (aj 9) aA))))) (rW (xG (rT (cG t.qd d a (ak (aj 10) aA)))) (tB (xG (rT (cG t.qd d a (ak (aj 11) aA))))))))) Ji (Xv (λ_ _ _ _ _ h s=>h.grow s) (GR (rW (bV (zH c) (aj 10) (cG t.oX x a (ak (aj 4) (ak (aj 9) aA))) (cP _)) (rW (bV (zH c) (aj 10) (aj 7) (cP _)) (tB (bV (zH c) (aj 11) (bf Js (bh (Ep S) S t.K3 zZ (ak (fB ["_law_reason"] (mz [] []) S (cZ (aj 3)) (λ_ _ _ _=>(rE 0)) (λ_ _ _ _=>bW) (λ_ _ _ _=>(bM (aj 0) aF)) (bN)) aA)) (aj 10)) (cP _)))))) Ji (l6 9 (Yy xb PySem.F.slot_list_append PySem.F.type_list_append DR (ou (i:=9) S (.inl S)) (gR (oA (ak RO aA)).run rP S)) (λ_=>S) (Wr (Jf (of_eq c) (FT (cG t.gA e a (ak (aj 4) aA)) (pY aF) pX) (oA (ak (aj 10) (ak (aj 11) aA))) (cP _)) (Wq (cG t.jc j a (ak (bM (cG t.gA e a (ak (aj 4) aA)) aF) (ak (aj 5) aA))))) mi))))))))))))
theorem EF:Ok P w base t.x_law 40 1 F_law:=by
 have d:=Vb (P:=P) (w:=w) (base:=base) t;have j:=K6 (P:=P) (w:=w) (base:=base) t;have K:=Q6 (P:=P) (w:=w) (base:=base) t;have C:=Mv (P:=P) (w:=w) (base:=base) t d K j;have f:=Q8 (P:=P) (w:=w) (base:=base) t;have b:=Mx (P:=P) (w:=w) (base:=base) t;have B:=Xz (P:=P) (w:=w) (base:=base) t;have h:=Vd (P:=P) (w:=w) (base:=base) t b;have x:=Vf (P:=P) (w:=w) (base:=base) t B b h;have o:=MF (P:=P) (w:=w) (base:=base) t;have s:=MJ (P:=P) (w:=w) (base:=base) t;have e:=Vh (P:=P) (w:=w) (base:=base) t s o;have I:=K8 (P:=P) (w:=w) (base:=base) t;have E:=MN (P:=P) (w:=w) (base:=base) t I;have g:=Vj (P:=P) (w:=w) (base:=base) t e E;have H:=Vl (P:=P) (w:=w) (base:=base) t g;have c:=G8 (P:=P) (w:=w) (base:=base) t H;have i:=Di (P:=P) (w:=w) (base:=base) t;have a:=Ra (P:=P) (w:=w) (base:=base) t;have n:=Rc (P:=P) (w:=w) (base:=base) t;have p:=Vo (P:=P) (w:=w) (base:=base) t n;have A:=sj (P:=P) (w:=w) (base:=base) t n p;have u:=M4 (P:=P) (w:=w) (base:=base) t e A;have v:=G9 (P:=P) (w:=w) (base:=base) t u a;have l:=Rh (P:=P) (w:=w) (base:=base) t v g a;have J:=Vq (P:=P) (w:=w) (base:=base) t;have m:=Dk (P:=P) (w:=w) (base:=base) t J;have G:=XC (P:=P) (w:=w) (base:=base) t l c m i a;have y:=af (P:=P) (w:=w) (base:=base) t l c m i a;have q:=Dm (P:=P) (w:=w) (base:=base) t;have z:=Vs (P:=P) (w:=w) (base:=base) t b f;have D:=Rj (P:=P) (w:=w) (base:=base) t;have F:=bc (P:=P) (w:=w) (base:=base) t d z C q h x j f D y G;exact F
end
end G30
end
section
set_option synthInstance.maxSize 100000
namespace G30
open L2 P1
noncomputable section
def zU(a:Int)(b:Int):Int:=(let a:=(((a*69621)+b)%2147483647);a)
theorem M5(d:B9)(e:Lp gY (d.map eI))(c:Int)(a:Int)(b:Int):RP zN [Z gY,Z (zE eI c),Z (zE eI a),Z (zE eI b)] (λs=>Ap.nx ((λa:Int=>[Z gY,Z (zE eI c),Z (zE eI a),U]) s)) (zU  a b) (U):=R.tp (bC (bT 2 (ig (lD (Zq (ao 2 (zE eI) a S) 69621 ()) (ao 3 (zE eI) b S)) 2147483647 ()) (λ_=>S) λa=>(bY (bx a S))))
def bJ(c:B9)(a:Int):Int:=(if(decide (a<(c.length:Int)))=true then(at' c a)else(let b:=((48271*(((a*a)+(7*a))+11))%2147483647);(let b:Int:=((BM c U (Z 3)).foldl (λ(b:Int) (d:Int)=>(zU  b d)) b);b)))
def jW(b:B9)(a:Int):Prop:=(((decide (a<(b.length:Int)))=true->In b.length a)/\((decide (a<(b.length:Int)))=false->Hm a a))
theorem XD(c:B9)(d:Lp gY (c.map eI))(a:Int):RP vH [Z gY,Z (zE eI a),U,U] (λr=>Ap.rt (zE eI r)) (bJ c a) (Z (jW c a)):=R.tp (qJ (cI (Oy (ao 1 (zE eI) a S) (D5 (gU 0 eI c d S)))) (bC (cV (λr=>r) (lF (gU 0 eI c d S) (ao 1 (zE eI) a S)) (λ_=>S) λ_=>S)) (bY (bT 2 (ig (Xh 48271 () (lD (lD (Pm (ao 1 (zE eI) a S) (ao 1 (zE eI) a S)) (Xh 7 () (ao 1 (zE eI) a S))) (B6 11))) 2147483647 ()) (λ_=>S) λb=>(U2 (λb:Int=>[Z gY,Z (zE eI a),Z (zE eI b),U]) b S (HH (G0 (gU 0 eI c d S) Xj (Xk (B6 3)))) _ (λ_ _=>S) (λ(b:Int) (e:Int)=>(M5 c d a b e).r) (λ_ _=>S) λb=>(cV (λr=>r) (ao 2 (zE eI) b S) (λ_=>S) λ_=>S)))))
theorem wB:∀v bs,(aL eI (aZ eI aN)) v bs->bs.length=2/\(hold (Z (jW v.1 v.2.1))->jP (bs.map lend)=Z ((zE eI) (bJ v.1 v.2.1))):=by
 rintro⟨c,a,_⟩ _ ⟨gY,_,rfl,b,⟨_,rfl,rfl⟩⟩;exact⟨rfl,λh=>bR (g:=vH) (n:=4) (bs:=[lend gY,.z (eI a)]) (XD c (lN b) a) h⟩
def c7(a:Int×B9×Int)(d:Int):Int×B9×Int:=(let b:=((((a.1*((a.1%65521)+40487))+(7*d))+5)%1999999973);(let e:=a.2.1++[(at' [b,(a.2.2%1000000)] (if(decide ((0:Int)<a.2.2))=true then(1:Int)else 0))];(let c:=(a.2.2 / (1000000:Int));(b,e,c))))
def kW(a:Int×B9×Int)(c:Int):Prop:=(Hm a.1 ((a.1%65521)+40487)/\(let b:=((((a.1*((a.1%65521)+40487))+(7*c))+5)%1999999973);(In [b,(a.2.2%1000000)].length (if(decide ((0:Int)<a.2.2))=true then(1:Int)else 0)/\Ar a.2.1.length)))
theorem Ez(e:Int)(c:Int)(a:Int×B9×Int)(b:Int):RP oR [Z (zE eI e),Z (zE eI c),Z ((oE eI) a.2.1),Z ((zE eI) a.1),Z ((zE eI) a.2.2),Z (zE eI b)] (λs=>Ap.nx ((λa:Int×B9×Int=>[Z (zE eI e),Z (zE eI c),Z ((oE eI) a.2.1),Z ((zE eI) a.1),Z ((zE eI) a.2.2),U]) s)) (c7  a b) (Z (kW  a b)):=R.tp (bC (bT 3 (ig (lD (lD (Pm (ao 3 (zE eI) a.1 S) (lD (ig (ao 3 (zE eI) a.1 S) 65521 ()) (B6 40487))) (Xh 7 () (ao 5 (zE eI) b S))) (B6 5)) 1999999973 ()) (λ_=>S) λd=>(bC (Gk 2 a.2.1 S (lF (d7 (ji (dY (ao 3 (zE eI) d S) (dY (ig (ao 4 (zE eI) a.2.2 S) 1000000 ()) (eX eI))) (z4 S))) (bu (G' (ao 4 (zE eI) a.2.2 S) (B6 0)))) λg=>(bC (bT 4 (Ij (ao 4 (zE eI) a.2.2 S) 1000000 ()) (λ_=>S) λf=>(bY (bx (d,g,f) S))))))))
def kY(g:Int)(b:Int)(f:B9)(e:Int)(c:Int):B9:=(let a:Int×B9×Int:=((rng 0 b.toNat).foldl (λ(a:Int×B9×Int) (d:Int)=>(c7  a d)) (e,f,c));a.2.1)
def pq(g:Int)(c:Int)(f:B9)(e:Int)(d:Int):Prop:=(Rg c/\j8 (λ(b:Int×B9×Int) (a:Int)=>(c7  b a)) (λ(b:Int×B9×Int) (a:Int)=>Z (kW  b a)) (rng 0 c.toNat) (e,f,d))
def EY:Ev->Y Ap:=(aD (zy (Co (aq (gv 1) aG)) (g8 5) oR) (aD (GX 2) eY))
theorem Fd(c:Int)(b:Int)(f:B9)(e:Int)(d:Int):RP EY [Z (zE eI c),Z (zE eI b),Z (oE eI f),Z (zE eI e),Z (zE eI d),U] (λr=>Ap.rt (oE eI r)) (kY c b f e d) (Z (pq c b f e d)):=R.tp (Kd (λa:Int×B9×Int=>[Z (zE eI c),Z (zE eI b),Z ((oE eI) a.2.1),Z ((zE eI) a.1),Z ((zE eI) a.2.2),U]) (e,f,d) S (Oz (ao 1 (zE eI) b S)) _ (λ_ _=>S) (λ(a:Int×B9×Int) (g:Int)=>(Ez c b a g).r) λa=>(Es 2 (λr=>r) a.2.1 S (λ_=>S) λ_=>S))
def bB(a:Int)(c:Int):B9:=(let e:=([]:O Int);(let d:=((((a%1999999973)+31)*765432101)%1999999973);(let b:=(0:Int);(let b:Int:=(if((decide (a<0))||(decide (((10:Int) ^ 18)<=a)))=true then(let b:=(if a<0 then -a else a);b)else b);(kY a c e d b)))))
def iJ(a:Int)(c:Int):Prop:=(let e:=([]:O Int);(let d:=((((a%1999999973)+31)*765432101)%1999999973);(let b:=(0:Int);(let b:Int:=(if((decide (a<0))||(decide (((10:Int) ^ 18)<=a)))=true then(let b:=(if a<0 then -a else a);b)else b);(pq a c e d b)))))
theorem M6(a:Int)(c:Int):RP pG [Z (zE eI a),Z (zE eI c),U,U,U,U] (λr=>Ap.rt (oE eI r)) (bB a c) (Z (iJ a c)):=R.tp (bT 2 (ji (eX eI) (z4 S)) (λ_=>S) λe=>(bT 3 (ig (Zq (lD (ig (ao 0 (zE eI) a S) 1999999973 ()) (B6 31)) 765432101 ()) 1999999973 ()) (λ_=>S) λd=>(bT 4 (B6 0) (λ_=>S) λb=>(yq (λb:Int=>[Z (zE eI a),Z (zE eI c),Z (oE eI e),Z (zE eI d),Z (zE eI b),U]) (J5 (cI (Oy (ao 0 (zE eI) a S) (B6 0))) (cI (FB (ao 0 (zE eI) a S) (ro 10 18 18 () S)))) (bC (bT 4 (vT (ao 0 (zE eI) a S)) (λ_=>S) λb=>(bY (bx b S)))) (bY (bx b S)) λb=>(Fd a c e d b).r))))
theorem pN:∀v bs,(aZ eI (aZ eI aN)) v bs->bs.length=2/\(hold (Z (iJ v.1 v.2.1))->fX (bs.map lend)=Z ((oE eI) (bB v.1 v.2.1))):=by
 rintro⟨b,a,_⟩ _ ⟨_,rfl,⟨_,rfl,rfl⟩⟩;exact⟨rfl,λh=>bR (g:=pG) (n:=6) (bs:=[.z (eI b),.z (eI a)]) (M6 b a) h⟩
def gM(d:B9)(g:AJ)(f:AJ)(e:Int)(c:AZ)(b:Int):AZ:=(let h:=(ch g ((b+(at' d 2))%15));(let a:=(((Txt.slice f U (Z e))++h)++(Txt.slice f (Z e) U));(let a:AJ:=(if(decide (((at' d 3)%3)=1))=true then(let a:=(Txt.mul (ch g (b / (8:Int))) (1+(b%8)));a)else a);(let c:=c++[a];c))))
def nH(b:B9)(e:AJ)(d:AJ)(c:Int)(h:AZ)(a:Int):Prop:=((In b.length 2/\In e.length ((a+(at' b 2))%15))/\(let g:=(ch e ((a+(at' b 2))%15));((Ar ((Txt.slice d U (Z c)).length+g.length)/\Ar (((Txt.slice d U (Z c))++g).length+(Txt.slice d (Z c) U).length))/\(let f:=(((Txt.slice d U (Z c))++g)++(Txt.slice d (Z c) U));((In b.length 3/\((decide (((at' b 3)%3)=1))=true->(In e.length (a / (8:Int))/\((1+(a%8))<=1000 ∧ -1000<=(1+(a%8))/\(ch e (a / (8:Int))).length<=1000))))/\(let f:AJ:=(if(decide (((at' b 3)%3)=1))=true then(let f:=(Txt.mul (ch e (a / (8:Int))) (1+(a%8)));f)else f);Ar h.length))))))
theorem Lb(g:B9)(i:Lp gY (g.map eI))(h:Int)(f:AJ)(c:AJ)(b:Int)(a:AZ)(e:Int):RP sE [Z gY,Z (zE eI h),Z (zE eS f),Z (zE eS c),Z (zE eI b),Z (oE eS a),Z (zE eI e),U,U] (λs=>Ap.nx ((λa:AZ=>[Z gY,Z (zE eI h),Z (zE eS f),Z (zE eS c),Z (zE eI b),Z (oE eS a),U,U,U]) s)) (gM g f c b a e) (Z (nH g f c b a e)):=R.tp (bC (bT 7 (IY (ao 2 (zE eS) f S) (ig (lD (ao 6 (zE eI) e S) (lF (gU 0 eI g i S) (B6 2))) 15 ())) (λ_=>S) λj=>(bC (bT 8 (Nd (Nd (Pe (ao 3 (zE eS) c S) Xj (Xk (ao 4 (zE eI) b S))) (ao 7 (zE eS) j S)) (Pe (ao 3 (zE eS) c S) (Xk (ao 4 (zE eI) b S)) Xj)) (λ_=>S) λd=>(bC (yq (λd:AJ=>[Z gY,Z (zE eI h),Z (zE eS f),Z (zE eS c),Z (zE eI b),Z (oE eS a),Z (zE eI e),Z (zE eS j),Z (zE eS d)]) (cI (BU () (ig (lF (gU 0 eI g i S) (B6 3)) 3 ()) (B6 1))) (bC (bT 8 (lP (IY (ao 2 (zE eS) f S) (Ij (ao 6 (zE eI) e S) 8 ())) (lD (B6 1) (ig (ao 6 (zE eI) e S) 8 ()))) (λ_=>S) λd=>(bY (bx d S)))) (bY (bx d S)) λd=>(bC (Gk 5 a S (ao 8 (zE eS) d S) λa=>(bY (bx a S))))))))))
def nJ(b:B9)(d:Int)(g:AJ)(c:AJ):AZ:=(let e:=((at' b 1)%((c.length:Int)+1));(let a:=([]:AZ);(let a:AZ:=((rng 0 d.toNat).foldl (λ(a:AZ) (f:Int)=>(gM b g c e a f)) a);a)))
def sJ(b:B9)(e:Int)(g:AJ)(c:AJ):Prop:=((In b.length 1/\0<((c.length:Int)+1))/\(let f:=((at' b 1)%((c.length:Int)+1));(let a:=([]:AZ);(Rg e/\j8 (λ(a:AZ) (d:Int)=>(gM b g c f a d)) (λ(a:AZ) (d:Int)=>Z (nH b g c f a d)) (rng 0 e.toNat) a))))
def Ld:Ev->Y Ap:=(aD (Au 4 (b2 lZ (b2 jD (gv 0) (cB (.int 1))) (b2 gZ (cN u6 (aq (gv 3) aG)) (cB (.int 1))))) (aD (Au 5 (cN jZ aG)) (aD (zy (Co (aq (gv 1) aG)) (g8 6) sE) (aD (GX 5) eY))))
theorem Le(d:B9)(g:Lp gY (d.map eI))(b:Int)(e:AJ)(c:AJ):RP Ld [Z gY,Z (zE eI b),Z (zE eS e),Z (zE eS c),U,U,U,U,U] (λr=>Ap.rt (oE eS r)) (nJ d b e c) (Z (sJ d b e c)):=R.tp (bT 4 (Ur (lF (gU 0 eI d g S) (B6 1)) (lD (g5 (ao 3 (zE eS) c S)) (B6 1))) (λ_=>S) λf=>(bT 5 (ji (eX eS) (z4 S)) (λ_=>S) λa=>(Kd (λa:AZ=>[Z gY,Z (zE eI b),Z (zE eS e),Z (zE eS c),Z (zE eI f),Z (oE eS a),U,U,U]) a S (Oz (ao 1 (zE eI) b S)) _ (λ_ _=>S) (λ(a:AZ) (h:Int)=>(Lb d g b e c f a h).r) λa=>(Es 5 (λr=>r) a S (λ_=>S) λ_=>S))))
def cW(a:B9)(c:Int):AZ:=(let b:=("abcdefghijklmnopqrstuvwxyz":AJ);(let d:=(Txt.join "" ((rng 0 ((at' a 0)%6).toNat).map λe:Int=>(ch b (((at' a e) / (40:Int))%26))));(nJ a c b d)))
def uf(a:B9)(d:Int):Prop:=(let c:=("abcdefghijklmnopqrstuvwxyz":AJ);(((((In a.length 0/\Rg ((at' a 0)%6))/\(rng 0 ((at' a 0)%6).toNat).length<=100000)/\(∀b∈(rng 0 ((at' a 0)%6).toNat),(In a.length b/\In c.length (((at' a b) / (40:Int))%26))))/\(((rng 0 ((at' a 0)%6).toNat).map λb:Int=>(ch c (((at' a b) / (40:Int))%26))).map (·.length)).sum+((rng 0 ((at' a 0)%6).toNat).map λb:Int=>(ch c (((at' a b) / (40:Int))%26))).length*("":AJ).length<=100000)/\(let e:=(Txt.join "" ((rng 0 ((at' a 0)%6).toNat).map λb:Int=>(ch c (((at' a b) / (40:Int))%26))));(sJ a d c e))))
theorem Vt(a:B9)(c:Lp gY (a.map eI))(b:Int):RP tW [Z gY,Z (zE eI b),U,U,U,U,U,U,U] (λr=>Ap.rt (oE eS r)) (cW a b) (Z (uf a b)):=R.tp (bT 2 (VE "abcdefghijklmnopqrstuvwxyz") (λ_=>S) λd=>(bT 3 (aT "" (d7 (Ab (Oz (ig (lF (gU 0 eI a c S) (B6 0)) 6 ())) _ (λ_=>S) (λf:Int=>(IY (ao 0 (zE eS) d S) (ig (Ij (lF (gU 1 eI a c (congrArg Z (c.get S))) (ao 2 (zE eI) f S)) 40 ()) 26 ())))))) (λ_=>S) λe=>(Le a c b d e).r))
theorem Vu:∀v bs,(aL eI (aZ eI aN)) v bs->bs.length=2/\(hold (Z (uf v.1 v.2.1))->p7 (bs.map lend)=Z ((oE eS) (cW v.1 v.2.1))):=by
 rintro⟨b,a,_⟩ _ ⟨gY,_,rfl,c,⟨_,rfl,rfl⟩⟩;exact⟨rfl,λh=>bR (g:=tW) (n:=9) (bs:=[lend gY,.z (eI a)]) (Vt b (lN c) a) h⟩
def dJ(j:B9)(g:Int)(e:Int)(i:B9)(f:AZ)(b:O aC)(h:Int):(O aC):=(let a:=(bB (bJ j ((g+1)+h)) 4);(let y1:=((at' a 0)%(if e>1 then e else 1));let y2:=((at' a 1)%(if e>1 then e else 1));let c:=y1;let d:=y2;(let l:=(at' [(1+((at' a 2)%3)),(1+((at' a 2)%9)),(1+((at' a 2)%1000))] ((at' i 4)%3));(let b:(O aC):=(if(!decide (c=d))=true then(let b:=b++[(((0:Int)-l),(at' f (if d<c then d else c)),(at' f (if d>c then d else c)),(at' [(0:Int),(2:Int),(10:Int)] ((at' a 3)%3)))];b)else b);b))))
def jB(h:B9)(e:Int)(b:Int)(g:B9)(i:AZ)(j:O aC)(f:Int):Prop:=(((jW h ((e+1)+f))/\(iJ (bJ h ((e+1)+f)) 4))/\(let a:=(bB (bJ h ((e+1)+f)) 4);(((In a.length 0/\0<(if b>1 then b else 1))/\(In a.length 1/\0<(if b>1 then b else 1)))/\(let y1:=((at' a 0)%(if b>1 then b else 1));let y2:=((at' a 1)%(if b>1 then b else 1));let c:=y1;let d:=y2;((((In a.length 2/\(In a.length 2/\In a.length 2))/\In g.length 4)/\In [(1+((at' a 2)%3)),(1+((at' a 2)%9)),(1+((at' a 2)%1000))].length ((at' g 4)%3))/\(let l:=(at' [(1+((at' a 2)%3)),(1+((at' a 2)%9)),(1+((at' a 2)%1000))] ((at' g 4)%3));((!decide (c=d))=true->((In i.length (if d<c then d else c)/\(In i.length (if d>c then d else c)/\(In a.length 3/\In [(0:Int),(2:Int),(10:Int)].length ((at' a 3)%3))))/\Ar j.length))))))))
theorem Hf(i:B9)(o:Lp gY (i.map eI))(e:Int)(c:Int)(l:Int)(m:Int)(f:B9)(d:AZ)(a:O aC)(g:Int):RP qp [Z gY,Z (zE eI e),Z (zE eI c),Z (zE eI l),Z (zE eI m),Z (oE eI f),Z (oE eS d),Z (oE aH a),Z (zE eI g),U,U,U,U,U,U] (λs=>Ap.nx ((λa:(O aC)=>[Z gY,Z (zE eI e),Z (zE eI c),Z (zE eI l),Z (zE eI m),Z (oE eI f),Z (oE eS d),Z (oE aH a),U,U,U,U,U,U,U]) s)) (dJ i e c f d a g) (Z (jB i e c f d a g)):=R.tp (bC (bT 9 (An pN (cJ (nq (An wB (oO (gU 0 eI i o S) (cJ (nq (lD (lD (ao 1 (zE eI) e S) (B6 1)) (ao 8 (zE eI) g S))) aW)))) (cJ (B6 4) aW))) (λ_=>S) λb=>(bC (Zu 10 11 (Ur (lF (iU (ao 9 (lE eI) b S)) (B6 0)) (J8 (B6 1) (ao 2 (zE eI) c S))) (Ur (lF (iU (ao 9 (lE eI) b S)) (B6 1)) (J8 (B6 1) (ao 2 (zE eI) c S))) λh j=>(bC (bT 12 (lF (d7 (ji (dY (nq (lD (B6 1) (ig (lF (iU (ao 9 (lE eI) b S)) (B6 2)) 3 ()))) (dY (nq (lD (B6 1) (ig (lF (iU (ao 9 (lE eI) b S)) (B6 2)) 9 ()))) (dY (nq (lD (B6 1) (ig (lF (iU (ao 9 (lE eI) b S)) (B6 2)) 1000 ()))) (eX eI)))) (z4 S))) (ig (lF (iU (ao 5 (lE eI) f S)) (B6 4)) 3 ())) (λ_=>S) λn=>(bC (yq (λa:(O aC)=>[Z gY,Z (zE eI e),Z (zE eI c),Z (zE eI l),Z (zE eI m),Z (oE eI f),Z (oE eS d),Z (oE aH a),Z (zE eI g),Z (oE eI b),Z (zE eI h),Z (zE eI j),Z (zE eI n),U,U]) (cI (Xi () (ao 10 (zE eI) h S) (ao 11 (zE eI) j S))) (bC (Gk 7 a S (RY (Zo (B6 0) (ao 12 (zE eI) n S)) (lF (iU (ao 6 (lE eS) d S)) (Mk (ao 10 (zE eI) h S) (ao 11 (zE eI) j S))) (lF (iU (ao 6 (lE eS) d S)) (J8 (ao 10 (zE eI) h S) (ao 11 (zE eI) j S))) (lF (d7 (ji (dY (B6 0) (dY (B6 2) (dY (B6 10) (eX eI)))) (z4 S))) (ig (lF (iU (ao 9 (lE eI) b S)) (B6 3)) 3 ()))) λa=>(bY (bx a S)))) (bY (bx a S)) λa=>(bY (bx a S))))))))))
def eG(j:B9)(g:Int)(d:Int)(f:AZ)(a:O dF)(i:Int):(O dF):=(let e:=(bB (bJ j ((g+1)+i)) 8);(let h:=((at' e 5)%(if d>1 then d else 1));let l:=((at' e 6)%(if d>1 then d else 1));let b:=h;let c:=l;(let a:(O dF):=(if(!decide (b=c))=true then(let a:=a++[((at' f (if c<b then c else b)),(at' f (if c>b then c else b)),(at' [(2:Int),(10:Int)] ((at' e 7)%2)))];a)else a);a)))
def jC(g:B9)(e:Int)(a:Int)(h:AZ)(j:O dF)(f:Int):Prop:=(((jW g ((e+1)+f))/\(iJ (bJ g ((e+1)+f)) 8))/\(let b:=(bB (bJ g ((e+1)+f)) 8);(((In b.length 5/\0<(if a>1 then a else 1))/\(In b.length 6/\0<(if a>1 then a else 1)))/\(let i:=((at' b 5)%(if a>1 then a else 1));let l:=((at' b 6)%(if a>1 then a else 1));let c:=i;let d:=l;((!decide (c=d))=true->((In h.length (if d<c then d else c)/\(In h.length (if d>c then d else c)/\(In b.length 7/\In [(2:Int),(10:Int)].length ((at' b 7)%2))))/\Ar j.length))))))
theorem Hg(h:B9)(p:Lp gY (h.map eI))(d:Int)(b:Int)(j:Int)(m:Int)(l:B9)(c:AZ)(o:O aC)(n:O aC)(a:O dF)(e:Int):RP qt [Z gY,Z (zE eI d),Z (zE eI b),Z (zE eI j),Z (zE eI m),Z (oE eI l),Z (oE eS c),Z (oE aH o),Z (zE eI e),U,U,U,U,Z (oE aH n),Z (oE fL a)] (λs=>Ap.nx ((λa:(O dF)=>[Z gY,Z (zE eI d),Z (zE eI b),Z (zE eI j),Z (zE eI m),Z (oE eI l),Z (oE eS c),Z (oE aH o),U,U,U,U,U,Z (oE aH n),Z (oE fL a)]) s)) (eG h d b c a e) (Z (jC h d b c a e)):=R.tp (bC (bT 9 (An pN (cJ (nq (An wB (oO (gU 0 eI h p S) (cJ (nq (lD (lD (ao 1 (zE eI) d S) (B6 1)) (ao 8 (zE eI) e S))) aW)))) (cJ (B6 8) aW))) (λ_=>S) λf=>(bC (Zu 10 11 (Ur (lF (iU (ao 9 (lE eI) f S)) (B6 5)) (J8 (B6 1) (ao 2 (zE eI) b S))) (Ur (lF (iU (ao 9 (lE eI) f S)) (B6 6)) (J8 (B6 1) (ao 2 (zE eI) b S))) λg i=>(bC (yq (λa:(O dF)=>[Z gY,Z (zE eI d),Z (zE eI b),Z (zE eI j),Z (zE eI m),Z (oE eI l),Z (oE eS c),Z (oE aH o),Z (zE eI e),Z (oE eI f),Z (zE eI g),Z (zE eI i),U,Z (oE aH n),Z (oE fL a)]) (cI (Xi () (ao 10 (zE eI) g S) (ao 11 (zE eI) i S))) (bC (Gk 14 a S (J6 (lF (iU (ao 6 (lE eS) c S)) (Mk (ao 10 (zE eI) g S) (ao 11 (zE eI) i S))) (lF (iU (ao 6 (lE eS) c S)) (J8 (ao 10 (zE eI) g S) (ao 11 (zE eI) i S))) (lF (d7 (ji (dY (B6 2) (dY (B6 10) (eX eI))) (z4 S))) (ig (lF (iU (ao 9 (lE eI) f S)) (B6 7)) 2 ()))) λa=>(bY (bx a S)))) (bY (bx a S)) λa=>(bY (bx a S))))))))
def qw(g:B9)(e:Int)(d:Int)(l:Int)(h:Int)(m:B9)(c:AZ)(j:O aC):dH:=(let i:=((zK aH (Ms j)).map λb:aC=>(((0:Int)-b.1),b.2.1,b.2.2.1,b.2.2.2));(let a:=([]:O dF);(let a:(O dF):=((rng 0 h.toNat).foldl (λ(a:O dF) (f:Int)=>(eG g e d c a f)) a);(c,i,(zK fL (Ms a))))))
def qx(h:B9)(f:Int)(e:Int)(j:Int)(i:Int)(l:B9)(g:AZ)(d:O aC):Prop:=(((d.length<=64/\d.length<64)/\(zK aH (Ms d)).length<=100000)/\(let m:=((zK aH (Ms d)).map λc:aC=>(((0:Int)-c.1),c.2.1,c.2.2.1,c.2.2.2));(let a:=([]:O dF);((Rg i/\j8 (λ(a:O dF) (b:Int)=>(eG h f e g a b)) (λ(a:O dF) (b:Int)=>Z (jC h f e g a b)) (rng 0 i.toNat) a)/\(let a:(O dF):=((rng 0 i.toNat).foldl (λ(a:O dF) (b:Int)=>(eG h f e g a b)) a);(a.length<=64/\a.length<64))))))
def wV:Ev->Y Ap:=(aD (Au 13 (dR (z6 (JQ (W9 (gv 7)))) (n8 4 (bQ (g8 0) (bQ (g8 1) (bQ (g8 2) (bQ (g8 3) qI))))) oK (cN qL (aq (b2 C7 (cB (.int 0)) (gv 0)) (aq (gv 1) (aq (gv 2) (aq (gv 3) aG))))) [] 4)) (aD (Au 14 (cN jZ aG)) (aD (zy (Co (aq (gv 4) aG)) (g8 8) qt) (aD (gn (cN qL (aq (cN mj (aq (gv 6) aG)) (aq (cN mj (aq (gv 13) aG)) (aq (cN mj (aq (JQ (W9 (gv 14))) aG)) aG))))) eY))))
theorem Hh(j:B9)(m:Lp gY (j.map eI))(f:Int)(e:Int)(g:Int)(c:Int)(h:B9)(b:AZ)(d:O aC):RP wV [Z gY,Z (zE eI f),Z (zE eI e),Z (zE eI g),Z (zE eI c),Z (oE eI h),Z (oE eS b),Z (oE aH d),U,U,U,U,U,U,U] (λr=>Ap.rt (zE bU r)) (qw j f e g c h b d) (Z (qx j f e g c h b d)):=R.tp (bT 13 (jH (qm (d7 (RU (NU (iU (ao 7 (lE aH) d S)))))) _ (λ_=>S) (λi:aC=>(RY (Zo (B6 0) (ao 0 (zE eI) i.1 S)) (ao 1 (zE eS) i.2.1 S) (ao 2 (zE eS) i.2.2.1 S) (ao 3 (zE eI) i.2.2.2 S))) λ_=>S) (λ_=>S) λl=>(bT 14 (ji (eX fL) (z4 S)) (λ_=>S) λa=>(Kd (λa:(O dF)=>[Z gY,Z (zE eI f),Z (zE eI e),Z (zE eI g),Z (zE eI c),Z (oE eI h),Z (oE eS b),Z (oE aH d),U,U,U,U,U,Z (oE aH l),Z (oE fL a)]) a S (Oz (ao 4 (zE eI) c S)) _ (λ_ _=>S) (λ(a:O dF) (n:Int)=>(Hg j m f e g c h b d l a n).r) λa=>(cV (λr=>r) (J6 (qP (iU (ao 6 (lE eS) b S))) (qP (iU (ao 13 (lE aH) l S))) (qP (d7 (RU (NU (iU (ao 14 (lE fL) a S))))))) (λ_=>S) λ_=>S))))
def qy(g:B9)(c:Int)(b:Int)(d:Int)(i:Int)(e:B9)(f:AZ):dH:=(let a:=([]:O aC);(let a:(O aC):=((rng 0 d.toNat).foldl (λ(a:O aC) (h:Int)=>(dJ g c b e f a h)) a);(qw g c b d i e f a)))
def qz(h:B9)(d:Int)(c:Int)(e:Int)(i:Int)(f:B9)(g:AZ):Prop:=(let a:=([]:O aC);((Rg e/\j8 (λ(a:O aC) (b:Int)=>(dJ h d c f g a b)) (λ(a:O aC) (b:Int)=>Z (jB h d c f g a b)) (rng 0 e.toNat) a)/\(let a:(O aC):=((rng 0 e.toNat).foldl (λ(a:O aC) (b:Int)=>(dJ h d c f g a b)) a);(qx h d c e i f g a))))
def wW:Ev->Y Ap:=(aD (Au 7 (cN jZ aG)) (aD (zy (Co (aq (gv 3) aG)) (g8 8) qp) wV))
theorem Hi(h:B9)(i:Lp gY (h.map eI))(d:Int)(c:Int)(a:Int)(g:Int)(e:B9)(f:AZ):RP wW [Z gY,Z (zE eI d),Z (zE eI c),Z (zE eI a),Z (zE eI g),Z (oE eI e),Z (oE eS f),U,U,U,U,U,U,U,U] (λr=>Ap.rt (zE bU r)) (qy h d c a g e f) (Z (qz h d c a g e f)):=R.tp (bT 7 (ji (eX aH) (z4 S)) (λ_=>S) λb=>(Kd (λb:(O aC)=>[Z gY,Z (zE eI d),Z (zE eI c),Z (zE eI a),Z (zE eI g),Z (oE eI e),Z (oE eS f),Z (oE aH b),U,U,U,U,U,U,U]) b S (Oz (ao 3 (zE eI) a S)) _ (λ_ _=>S) (λ(b:O aC) (j:Int)=>(Hf h i d c a g e f b j).r) λb=>(Hh h i d c a g e f b).r))
def qC(f:B9)(c:Int)(a:Int)(d:Int)(g:Int)(b:B9):dH:=(let e:=(iT (cW b a));(qy f c a d g b e))
def qD(f:B9)(c:Int)(a:Int)(d:Int)(g:Int)(b:B9):Prop:=(((uf b a)/\(cW b a).length<64)/\(let e:=(iT (cW b a));(qz f c a d g b e)))
def Hj:Ev->Y Ap:=(aD (Au 6 (cN FZ (aq (bH 2 p7 (aq (gv 5) (aq (gv 2) aG))) aG))) wW)
theorem Hl(e:B9)(g:Lp gY (e.map eI))(c:Int)(a:Int)(d:Int)(f:Int)(b:B9):RP Hj [Z gY,Z (zE eI c),Z (zE eI a),Z (zE eI d),Z (zE eI f),Z (oE eI b),U,U,U,U,U,U,U,U,U] (λr=>Ap.rt (zE bU r)) (qC e c a d f b) (Z (qD e c a d f b)):=R.tp (bT 6 (Ik (d7 (An Vu (oO (iU (ao 5 (lE eI) b S)) (cJ (ao 2 (zE eI) a S) aW))))) (λ_=>S) λh=>(Hi e g c a d f b h).r)
def kZ(b:B9)(a:Int)(c:Int)(d:Int)(f:Int):dH:=(let e:=(bB (bJ b a) 6);(qC b a c d f e))
def rC(b:B9)(a:Int)(c:Int)(d:Int)(f:Int):Prop:=(((jW b a)/\(iJ (bJ b a) 6))/\(let e:=(bB (bJ b a) 6);(qD b a c d f e)))
theorem Rn(b:B9)(f:Lp gY (b.map eI))(a:Int)(c:Int)(d:Int)(e:Int):RP qT [Z gY,Z (zE eI a),Z (zE eI c),Z (zE eI d),Z (zE eI e),U,U,U,U,U,U,U,U,U,U] (λr=>Ap.rt (zE bU r)) (kZ b a c d e) (Z (rC b a c d e)):=R.tp (bT 5 (An pN (cJ (nq (An wB (oO (gU 0 eI b f S) (cJ (ao 1 (zE eI) a S) aW)))) (cJ (B6 6) aW))) (λ_=>S) λg=>(Hl b f a c d e g).r)
theorem Ro:∀v bs,(aL eI (aZ eI (aZ eI (aZ eI (aZ eI aN))))) v bs->bs.length=5/\(hold (Z (rC v.1 v.2.1 v.2.2.1 v.2.2.2.1 v.2.2.2.2.1))->qU (bs.map lend)=Z ((zE bU) (kZ v.1 v.2.1 v.2.2.1 v.2.2.2.1 v.2.2.2.2.1))):=by
 rintro⟨f,b,a,c,d,_⟩ _ ⟨gY,_,rfl,e,⟨_,rfl,⟨_,rfl,⟨_,rfl,⟨_,rfl,rfl⟩⟩⟩⟩⟩;exact⟨rfl,λh=>bR (g:=qT) (n:=15) (bs:=[lend gY,.z (eI b),.z (eI a),.z (eI c),.z (eI d)]) (Rn f (lN e) b a c d) h⟩
def dh(b:O AZ)(q1:aC):(O AZ):=(let d:=(at' ((b.filter λa:AZ=>(decide (q1.2.1∈a))).map λa:AZ=>a) 0);(let c:=(at' ((b.filter λa:AZ=>(decide (q1.2.2.1∈a))).map λa:AZ=>a) 0);(let b:(O AZ):=(if(!decide (d=c))=true then(let b:=(((b.filter λa:AZ=>(!lO a [d,c])).map λa:AZ=>a)++[(iT (d++c))]);b)else b);b)))
def jf(b:O AZ)(q1:aC):Prop:=((b.length<=100000/\In ((b.filter λa:AZ=>(decide (q1.2.1∈a))).map λa:AZ=>a).length 0)/\(let d:=(at' ((b.filter λa:AZ=>(decide (q1.2.1∈a))).map λa:AZ=>a) 0);((b.length<=100000/\In ((b.filter λa:AZ=>(decide (q1.2.2.1∈a))).map λa:AZ=>a).length 0)/\(let c:=(at' ((b.filter λa:AZ=>(decide (q1.2.2.1∈a))).map λa:AZ=>a) 0);((!decide (d=c))=true->((b.length<=100000/\(Ar (d.length+c.length)/\(d++c).length<64))/\Ar (((b.filter λa:AZ=>(!lO a [d,c])).map λa:AZ=>a).length+[(iT (d++c))].length)))))))
theorem Fg(f:AZ)(e:O aC)(a:O AZ)(q1:aC):RP sI [Z ((zE (eT eS)) f),Z ((zE (eT aH)) e),Z ((oE (eL eS)) a),Z ((zE eI) q1.1),Z ((zE eS) q1.2.1),Z ((zE eS) q1.2.2.1),Z ((zE eI) q1.2.2.2),U,U] (λs=>Ap.nx ((λa:(O AZ)=>[Z ((zE (eT eS)) f),Z ((zE (eT aH)) e),Z ((oE (eL eS)) a),U,U,U,U,U,U]) s)) (dh  a q1) (Z (jf  a q1)):=R.tp (bC (bT 7 (lF (d7 (iB (qm (iU (ao 2 (lE (eL eS)) a S))) _ (λ_=>S) (λb:AZ=>(cI (Ha (ao 0 (zE eS) q1.2.1 S) (jt (ao 1 (zE (eL eS)) b S))))) (λb:AZ=>(ao 1 (zE (eL eS)) b S)) (λ_=>S) λ_=>S)) (B6 0)) (λ_=>S) λd=>(bC (bT 8 (lF (d7 (iB (qm (iU (ao 2 (lE (eL eS)) a S))) _ (λ_=>S) (λb:AZ=>(cI (Ha (ao 0 (zE eS) q1.2.2.1 S) (jt (ao 1 (zE (eL eS)) b S))))) (λb:AZ=>(ao 1 (zE (eL eS)) b S)) (λ_=>S) λ_=>S)) (B6 0)) (λ_=>S) λc=>(bC (yq (λa:(O AZ)=>[Z ((zE (eT eS)) f),Z ((zE (eT aH)) e),Z ((oE (eL eS)) a),Z ((zE eI) q1.1),Z ((zE eS) q1.2.1),Z ((zE eS) q1.2.2.1),Z ((zE eI) q1.2.2.2),Z ((zE (eL eS)) d),Z ((zE (eL eS)) c)]) (cI (Zr () (jt (ao 7 (zE (eL eS)) d S)) (jt (ao 8 (zE (eL eS)) c S)))) (bC (bT 2 (vC (d7 (iB (qm (iU (ao 2 (lE (eL eS)) a S))) _ (λ_=>S) (λb:AZ=>(cI (Kh () (ao 2 (zE (eL eS)) b S) (d7 (ji (dY (ao 0 (zE (eL eS)) d S) (dY (ao 1 (zE (eL eS)) c S) (eX (eL eS)))) (z4 S)))))) (λb:AZ=>(ao 2 (zE (eL eS)) b S)) (λ_=>S) λ_=>S)) (d7 (ji (dY (yd (Ik (d7 (vC (jt (ao 7 (zE (eL eS)) d S)) (jt (ao 8 (zE (eL eS)) c S)))))) (eX (eL eS))) (z4 S)))) (λ_=>S) λa=>(bY (bx a S)))) (bY (bx a S)) λa=>(bY (bx a S))))))))
def fG(d:AZ)(c:O aC):(O AZ):=(let a:=(d.map λb:AJ=>[b]);(let a:(O AZ):=(c.foldl (λ(a:O AZ) (q1:aC)=>(dh  a q1)) a);(jN (a.map λe:AZ=>e))))
def lR(d:AZ)(c:O aC):Prop:=(d.length<=100000/\(let a:=(d.map λe:AJ=>[e]);(j8 (λ(a:O AZ) (q1:aC)=>(dh  a q1)) (λ(a:O AZ) (q1:aC)=>Z (jf  a q1)) c a/\(let a:(O AZ):=(c.foldl (λ(a:O AZ) (q1:aC)=>(dh  a q1)) a);(a.length<=100000/\((a.map λb:AZ=>b).length<64/\∀x∈(a.map λb:AZ=>b),x.isEmpty=false))))))
theorem M7(c:AZ)(b:O aC):RP mO [Z ((zE (eT eS)) c),Z ((zE (eT aH)) b),U,U,U,U,U,U,U] (λr=>Ap.rt ((oE (eT eS)) r)) (fG c b) (Z (lR c b)):=R.tp (bT 2 (jH (Er (ao 0 (zE (eT eS)) c S)) _ (λ_=>S) (λd:AJ=>(yd (ji (dY (ao 0 (zE eS) d S) (eX eS)) (z4 S)))) λ_=>S) (λ_=>S) λa=>(yr 1 b (QK S) (λa:(O AZ)=>[Z ((zE (eT eS)) c),Z ((zE (eT aH)) b),Z ((oE (eL eS)) a),U,U,U,U,U,U]) a S _ (λ_ _=>S) (λ(a:O AZ) (q1:aC)=>(Fg c b a q1).r) λa=>(cV (λr=>r) (Im (d7 (jH (qm (iU (ao 2 (lE (eL eS)) a S))) _ (λ_=>S) (λe:AZ=>(qP (jt (ao 0 (zE (eL eS)) e S)))) λ_=>S))) (λ_=>S) λ_=>S)))
theorem M8:∀v bs,(aZ (eT eS) (aZ (eT aH) aN)) v bs->bs.length=2/\(hold (Z (lR v.1 v.2.1))->jQ (bs.map lend)=Z ((oE (eT eS)) (fG v.1 v.2.1))):=by
 rintro⟨a,b,_⟩ _ ⟨_,rfl,⟨_,rfl,rfl⟩⟩;exact⟨rfl,λh=>bR (g:=mO) (n:=9) (bs:=[.z (eT eS a),.z (eT aH b)]) (M7 a b) h⟩
def aU(a:AZ)(b:O aC):(O aC):=((b.filter λvs:aC=>((decide (vs.2.1∈a))&&(decide (vs.2.2.1∈a)))).map λvs:aC=>vs)
def nM(b:AZ)(a:O aC):Prop:=a.length<=100000
theorem Rp(a:AZ)(b:O aC):RP fD [Z ((zE (eT eS)) a),Z ((zE (eT aH)) b)] (λr=>Ap.rt (oE aH r)) (aU a b) (Z (nM a b)):=R.tp (cV (λr=>r) (iB (Er (ao 1 (zE (eT aH)) b S)) _ (λ_=>S) (λvs:aC=>(J4 (cI (yj (yg (ao 1 (zE aH) vs S) (λq=>q.2.1) eS 3 λ_=>S) (ao 0 (zE (eT eS)) a S))) (cI (yj (yg (ao 1 (zE aH) vs S) (λq=>q.2.2.1) eS 2 λ_=>S) (ao 0 (zE (eT eS)) a S))))) (λvs:aC=>(ao 1 (zE aH) vs S)) (λ_=>S) λ_=>S) (λ_=>S) λ_=>S)
theorem wC:∀v bs,(aZ (eT eS) (aZ (eT aH) aN)) v bs->bs.length=2/\(hold (Z (nM v.1 v.2.1))->cT (bs.map lend)=Z ((oE aH) (aU v.1 v.2.1))):=by
 rintro⟨a,b,_⟩ _ ⟨_,rfl,⟨_,rfl,rfl⟩⟩;exact⟨rfl,λh=>bR (g:=fD) (n:=2) (bs:=[.z (eT eS a),.z (eT aH b)]) (Rp a b) h⟩
def cX(a:AZ)(b:O dF):(O dF):=((b.filter λvs:dF=>((decide (vs.1∈a))&&(decide (vs.2.1∈a)))).map λvs:dF=>vs)
def nO(b:AZ)(a:O dF):Prop:=a.length<=100000
theorem Lf(a:AZ)(b:O dF):RP fD [Z ((zE (eT eS)) a),Z ((zE (eT fL)) b)] (λr=>Ap.rt (oE fL r)) (cX a b) (Z (nO a b)):=R.tp (cV (λr=>r) (iB (Er (ao 1 (zE (eT fL)) b S)) _ (λ_=>S) (λvs:dF=>(J4 (cI (yj (yg (ao 1 (zE fL) vs S) (λq=>q.1) eS 3 λ_=>S) (ao 0 (zE (eT eS)) a S))) (cI (yj (yg (ao 1 (zE fL) vs S) (λq=>q.2.1) eS 2 λ_=>S) (ao 0 (zE (eT eS)) a S))))) (λvs:dF=>(ao 1 (zE fL) vs S)) (λ_=>S) λ_=>S) (λ_=>S) λ_=>S)
theorem yH:∀v bs,(aZ (eT eS) (aZ (eT fL) aN)) v bs->bs.length=2/\(hold (Z (nO v.1 v.2.1))->cT (bs.map lend)=Z ((oE fL) (cX v.1 v.2.1))):=by
 rintro⟨a,b,_⟩ _ ⟨_,rfl,⟨_,rfl,rfl⟩⟩;exact⟨rfl,λh=>bR (g:=fD) (n:=2) (bs:=[.z (eT eS a),.z (eT fL b)]) (Lf a b) h⟩
def iH(d:AJ)(b:O AZ)(a:(O (O AZ)))(c:Int):(O (O AZ)):=(let a:=a++[(((BM b U (Z c))++[((at' b c)++[d])])++(BM b (Z (c+1)) U))];a)
def wD(c:AJ)(a:O AZ)(d:(O (O AZ)))(b:Int):Prop:=((((In a.length b/\Ar ((at' a b).length+[c].length))/\Ar ((BM a U (Z b)).length+[((at' a b)++[c])].length))/\Ar (((BM a U (Z b))++[((at' a b)++[c])]).length+(BM a (Z (b+1)) U).length))/\Ar d.length)
theorem Rq(e:AZ)(f:(O (O AZ)))(d:AJ)(b:O AZ)(a:(O (O AZ)))(c:Int):RP CV [Z ((zE (eT eS)) e),Z ((lE (eL (eT eS))) f),Z (zE eS d),Z ((oE (eL (eT eS))) a),Z ((zE (eL (eT eS))) b),Z (zE eI c)] (λs=>Ap.nx ((λa:(O (O AZ))=>[Z ((zE (eT eS)) e),Z ((lE (eL (eT eS))) f),Z (zE eS d),Z ((oE (eL (eT eS))) a),Z ((zE (eL (eT eS))) b),U]) s)) (iH d b a c) (Z (wD d b a c)):=R.tp (bC (Gk 3 a S (yd (vC (d7 (vC (d7 (G0 (jt (ao 4 (zE (eL (eT eS))) b S)) Xj (Xk (ao 5 (zE eI) c S)))) (d7 (ji (dY (nq (hX (lF (jt (ao 4 (zE (eL (eT eS))) b S)) (ao 5 (zE eI) c S)) (Lm (dY (ao 2 (zE eS) d S) (eX eS)) (z4 S)))) (eX (eT eS))) (z4 S))))) (d7 (G0 (jt (ao 4 (zE (eL (eT eS))) b S)) (Xk (lD (ao 5 (zE eI) c S) (B6 1))) Xj)))) λa=>(bY (bx a S))))
def ju(c:AJ)(a:(O (O AZ)))(b:O AZ):(O (O AZ)):=(let a:=a++[(b++[[c]])];(let a:(O (O AZ)):=((rng 0 (b.length:Int).toNat).foldl (λ(a:(O (O AZ))) (d:Int)=>(iH c b a d)) a);a))
def rD(c:AJ)(a:(O (O AZ)))(b:O AZ):Prop:=((Ar (b.length+[[c]].length)/\Ar a.length)/\(let a:=a++[(b++[[c]])];(Rg (b.length:Int)/\j8 (λ(a:(O (O AZ))) (d:Int)=>(iH c b a d)) (λ(a:(O (O AZ))) (d:Int)=>Z (wD c b a d)) (rng 0 (b.length:Int).toNat) a)))
theorem Rr(d:AZ)(e:(O (O AZ)))(c:AJ)(a:(O (O AZ)))(b:O AZ):RP CW [Z ((zE (eT eS)) d),Z ((lE (eL (eT eS))) e),Z (zE eS c),Z ((oE (eL (eT eS))) a),Z ((zE (eL (eT eS))) b),U] (λs=>Ap.nx ((λa:(O (O AZ))=>[Z ((zE (eT eS)) d),Z ((lE (eL (eT eS))) e),Z (zE eS c),Z ((oE (eL (eT eS))) a),U,U]) s)) (ju c a b) (Z (rD c a b)):=R.tp (bC (Gk 3 a S (yd (vC (jt (ao 4 (zE (eL (eT eS))) b S)) (d7 (ji (dY (Lm (dY (ao 2 (zE eS) c S) (eX eS)) (z4 S)) (eX (eT eS))) (z4 S))))) λa=>(bC (Kd (λa:(O (O AZ))=>[Z ((zE (eT eS)) d),Z ((lE (eL (eT eS))) e),Z (zE eS c),Z ((oE (eL (eT eS))) a),Z ((zE (eL (eT eS))) b),U]) a S (Oz (D5 (jt (ao 4 (zE (eL (eT eS))) b S)))) _ (λ_ _=>S) (λ(a:(O (O AZ))) (f:Int)=>(Rq d e c b a f).r) λa=>(bY (bx a S))))))
def lg(b:(O (O AZ)))(d:AJ):(O (O AZ)):=(let a:=([]:O (O AZ));(let a:(O (O AZ)):=(b.foldl (λ(a:(O (O AZ))) (c:O AZ)=>(ju d a c)) a);(let b:=a;b)))
def wF(d:(O (O AZ)))(c:AJ):Prop:=(let a:=([]:O (O AZ));j8 (λ(a:(O (O AZ))) (b:O AZ)=>(ju c a b)) (λ(a:(O (O AZ))) (b:O AZ)=>Z (rD c a b)) d a)
theorem Rt(d:AZ)(a:(O (O AZ)))(c:AJ):RP CZ [Z ((zE (eT eS)) d),Z ((oE (eL (eT eS))) a),Z (zE eS c),U,U,U] (λs=>Ap.nx ((λa:(O (O AZ))=>[Z ((zE (eT eS)) d),Z ((oE (eL (eT eS))) a),U,U,U,U]) s)) (lg  a c) (Z (wF  a c)):=R.tp (bC (bT 3 (ji (eX (eL (eT eS))) (z4 S)) (λ_=>S) λb=>(bC (yr 1 a (Op S) (λb:(O (O AZ))=>[Z ((zE (eT eS)) d),Z ((lE (eL (eT eS))) a),Z (zE eS c),Z ((oE (eL (eT eS))) b),U,U]) b S _ (λ_ _=>S) (λ(b:(O (O AZ))) (e:O AZ)=>(Rr d a c b e).r) λb=>(bC (bT 1 (WI 3 b S) (λ_=>S) λa=>(bY (bx a S))))))))
def gF(b:AZ):(O (O AZ)):=(let a:=[([]:O AZ)];(let a:(O (O AZ)):=(b.foldl (λ(a:(O (O AZ))) (c:AJ)=>(lg  a c)) a);a))
def zp(c:AZ):Prop:=(let a:=[([]:O AZ)];j8 (λ(a:(O (O AZ))) (b:AJ)=>(lg  a b)) (λ(a:(O (O AZ))) (b:AJ)=>Z (wF  a b)) c a)
theorem di(b:AZ):RP yZ [Z ((zE (eT eS)) b),U,U,U,U,U] (λr=>Ap.rt ((oE (eL (eT eS))) r)) (gF b) (Z (zp b)):=R.tp (bT 1 (ji (dY (yd (ji (eX (eT eS)) (z4 S))) (eX (eL (eT eS)))) (z4 S)) (λ_=>S) λa=>(yr 0 b (QK S) (λa:(O (O AZ))=>[Z ((zE (eT eS)) b),Z ((oE (eL (eT eS))) a),U,U,U,U]) a S _ (λ_ _=>S) (λ(a:(O (O AZ))) (c:AJ)=>(Rt b a c).r) λa=>(Es 1 (λr=>r) a S (λ_=>S) λ_=>S)))
theorem eQ:∀v bs,(aZ (eT eS) aN) v bs->bs.length=1/\(hold (Z (zp v.1))->zc (bs.map lend)=Z ((oE (eL (eT eS))) (gF v.1))):=by
 rintro⟨a,_⟩ _ ⟨_,rfl,rfl⟩;exact⟨rfl,λh=>bR (g:=yZ) (n:=6) (bs:=[.z (eT eS a)]) (di a) h⟩
def gO(a:AZ)(b:O dF):(O dF):=((b.filter λvs:dF=>((decide (vs.1∈a))&&(decide (vs.2.1∈a)))).map λvs:dF=>vs)
def sO(b:AZ)(a:O dF):Prop:=a.length<=100000
theorem Lg(a:AZ)(b:O dF)(c:Lp b_1 (b.map fL)):RP fD [Z ((zE (eT eS)) a),Z b_1] (λr=>Ap.rt (oE fL r)) (gO a b) (Z (sO a b)):=R.tp (cV (λr=>r) (iB (qm (gU 1 fL b c S)) _ (λ_=>S) (λvs:dF=>(J4 (cI (yj (yg (ao 1 (zE fL) vs S) (λq=>q.1) eS 3 λ_=>S) (ao 0 (zE (eT eS)) a S))) (cI (yj (yg (ao 1 (zE fL) vs S) (λq=>q.2.1) eS 2 λ_=>S) (ao 0 (zE (eT eS)) a S))))) (λvs:dF=>(ao 1 (zE fL) vs S)) (λ_=>S) λ_=>S) (λ_=>S) λ_=>S)
theorem Lh:∀v bs,(aZ (eT eS) (aL fL aN)) v bs->bs.length=2/\(hold (Z (sO v.1 v.2.1))->cT (bs.map lend)=Z ((oE fL) (gO v.1 v.2.1))):=by
 rintro⟨a,c,_⟩ _ ⟨_,rfl,⟨b_1,_,rfl,b,rfl⟩⟩;exact⟨rfl,λh=>bR (g:=fD) (n:=2) (bs:=[.z (eT eS a),lend b_1]) (Lg a c (lN b)) h⟩
def eF(a:AZ)(b:O aC):(O aC):=((b.filter λvs:aC=>((decide (vs.2.1∈a))&&(decide (vs.2.2.1∈a)))).map λvs:aC=>vs)
def sS(b:AZ)(a:O aC):Prop:=a.length<=100000
theorem Li(a:AZ)(b:O aC)(c:Lp b_1 (b.map aH)):RP fD [Z ((zE (eT eS)) a),Z b_1] (λr=>Ap.rt (oE aH r)) (eF a b) (Z (sS a b)):=R.tp (cV (λr=>r) (iB (qm (gU 1 aH b c S)) _ (λ_=>S) (λvs:aC=>(J4 (cI (yj (yg (ao 1 (zE aH) vs S) (λq=>q.2.1) eS 3 λ_=>S) (ao 0 (zE (eT eS)) a S))) (cI (yj (yg (ao 1 (zE aH) vs S) (λq=>q.2.2.1) eS 2 λ_=>S) (ao 0 (zE (eT eS)) a S))))) (λvs:aC=>(ao 1 (zE aH) vs S)) (λ_=>S) λ_=>S) (λ_=>S) λ_=>S)
theorem Lj:∀v bs,(aZ (eT eS) (aL aH aN)) v bs->bs.length=2/\(hold (Z (sS v.1 v.2.1))->cT (bs.map lend)=Z ((oE aH) (eF v.1 v.2.1))):=by
 rintro⟨a,c,_⟩ _ ⟨_,rfl,⟨b_1,_,rfl,b,rfl⟩⟩;exact⟨rfl,λh=>bR (g:=fD) (n:=2) (bs:=[.z (eT eS a),lend b_1]) (Li a c (lN b)) h⟩
def jw(a:GV)(b:O AZ):Int:=(b.map λd:AZ=>((eF d a.2.1).map λc:aC=>c.1).sum).sum
def Ak(b:GV)(c:O AZ):Prop:=((c.length<=100000/\(∀a∈c,(((sS a b.2.1)/\(eF a b.2.1).length<=100000)/\Uo ((eF a b.2.1).map λd:aC=>d.1)=true)))/\Uo (c.map λa:AZ=>((eF a b.2.1).map λd:aC=>d.1).sum)=true)
theorem XF(a:GV)(b:O AZ)(c:Lp b_1 (b.map (eT eS))):RP oU [Z (zE HA a),Z b_1] (λr=>Ap.rt (zE eI r)) (jw a b) (Z (Ak a b)):=R.tp (cV (λr=>r) (Cv (d7 (Ab (qm (gU 1 (eT eS) b c S)) _ (λ_=>S) (λe:AZ=>(nq (Cv (d7 (jH (qm (d7 (An Lj (cJ (ao 1 (zE (eT eS)) e S) (oO (jt (gW (ao 0 (zE HA) a S) (λq=>q.2.1) (eL aH) 1 λ_=>S)) aW))))) _ (λ_=>S) (λd:aC=>(gW (ao 0 (zE aH) d S) (λq=>q.1) eI 0 λ_=>S)) λ_=>S)))))))) (λ_=>S) λ_=>S)
theorem XH:∀v bs,(aZ HA (aL (eT eS) aN)) v bs->bs.length=2/\(hold (Z (Ak v.1 v.2.1))->mF (bs.map lend)=Z ((zE eI) (jw v.1 v.2.1))):=by
 rintro⟨a,c,_⟩ _ ⟨_,rfl,⟨b_1,_,rfl,b,rfl⟩⟩;exact⟨rfl,λh=>bR (g:=oU) (n:=2) (bs:=[.z (HA a),lend b_1]) (XF a c (lN b)) h⟩
def fH(e:AZ)(d:O aC)(c:O dF)(a:Int)(b:O AZ):Int:=(let a:Int:=(if((b.map λf:AZ=>(decide ((gO f c)=([]:O dF)))).all id)=true then(let a:=(if(jw (e,d,c) b)>a then(jw (e,d,c) b)else a);a)else a);a)
def uy(e:AZ)(d:O aC)(c:O dF)(f:Int)(a:O AZ):Prop:=((a.length<=100000/\(∀b∈a,(sO b c)))/\(((a.map λb:AZ=>(decide ((gO b c)=([]:O dF)))).all id)=true->(Ak (e,d,c) a)))
theorem M9(f:dH)(e:AZ)(d:O aC)(b:O dF)(a:Int)(c:O AZ):RP zO [Z (zE bU f),Z ((zE (eT eS)) e),Z ((zE (eL aH)) d),Z ((zE (eL fL)) b),Z (zE eI a),Z ((zE (eL (eT eS))) c)] (λs=>Ap.nx ((λa:Int=>[Z (zE bU f),Z ((zE (eT eS)) e),Z ((zE (eL aH)) d),Z ((zE (eL fL)) b),Z (zE eI a),U]) s)) (fH e d b a c) (Z (uy e d b a c)):=R.tp (bC (yq (λa:Int=>[Z (zE bU f),Z ((zE (eT eS)) e),Z ((zE (eL aH)) d),Z ((zE (eL fL)) b),Z (zE eI a),Z ((zE (eL (eT eS))) c)]) (Us (OF (d7 (Ab (qm (jt (ao 5 (zE (eL (eT eS))) c S))) _ (λ_=>S) (λg:AZ=>(IF () (d7 (An Lh (cJ (ao 1 (zE (eT eS)) g S) (oO (jt (ao 0 (zE (eL fL)) b S)) aW)))) (d7 (ji (eX fL) (z4 S))))))))) (bC (bT 4 (J8 (ao 4 (zE eI) a S) (An XH (cJ (J6 (ao 1 (zE (eT eS)) e S) (ao 2 (zE (eL aH)) d S) (ao 3 (zE (eL fL)) b S)) (oO (jt (ao 5 (zE (eL (eT eS))) c S)) aW)))) (λ_=>S) λa=>(bY (bx a S)))) (bY (bx a S)) λa=>(bY (bx a S))))
def jx(c:dH)(b:AZ):Int:=(let q1:=((aU b c.2.1),(cX b c.2.2));(if(decide (q1.2=([]:O dF)))=true then(q1.1.map λe:aC=>e.1).sum else(let a:=(0:Int);(let a:Int:=((gF b).foldl (λ(a:Int) (d:O AZ)=>(fH b q1.1 q1.2 a d)) a);a))))
def sU(c:dH)(a:AZ):Prop:=(((nM a c.2.1)/\(nO a c.2.2))/\(let q1:=((aU a c.2.1),(cX a c.2.2));(((decide (q1.2=([]:O dF)))=true->(q1.1.length<=100000/\Uo (q1.1.map λe:aC=>e.1)=true))/\((decide (q1.2=([]:O dF)))=false->(let b:=(0:Int);((zp a)/\j8 (λ(b:Int) (d:O AZ)=>(fH a q1.1 q1.2 b d)) (λ(b:Int) (d:O AZ)=>Z (uy a q1.1 q1.2 b d)) (gF a) b))))))
theorem XJ(b:dH)(a:AZ):RP vI [Z (zE bU b),Z ((zE (eT eS)) a),U,U,U,U] (λr=>Ap.rt (zE eI r)) (jx b a) (Z (sU b a)):=R.tp (Kc (OR (yd (An wC (cJ (ao 1 (zE (eT eS)) a S) (cJ (gW (ao 0 (zE bU) b S) (λq=>q.2.1) (eT aH) 1 λ_=>S) aW)))) (yd (An yH (cJ (ao 1 (zE (eT eS)) a S) (cJ (gW (ao 0 (zE bU) b S) (λq=>q.2.2) (eT fL) 2 λ_=>S) aW))))) _ (λ_=>S) λq1=>(qJ (cI (IF () (jt (ao 3 (zE (eL fL)) q1.2 S)) (d7 (ji (eX fL) (z4 S))))) (bC (cV (λr=>r) (Cv (d7 (jH (qm (jt (ao 2 (zE (eL aH)) q1.1 S))) _ (λ_=>S) (λe:aC=>(gW (ao 0 (zE aH) e S) (λq=>q.1) eI 0 λ_=>S)) λ_=>S))) (λ_=>S) λ_=>S)) (bY (bT 4 (B6 0) (λ_=>S) λc=>(Kd (λc:Int=>[Z (zE bU b),Z ((zE (eT eS)) a),Z ((zE (eL aH)) q1.1),Z ((zE (eL fL)) q1.2),Z (zE eI c),U]) c S (HH (An eQ (cJ (ao 1 (zE (eT eS)) a S) aW))) _ (λ_ _=>S) (λ(c:Int) (d:O AZ)=>(M9 b a q1.1 q1.2 c d).r) λc=>(cV (λr=>r) (ao 4 (zE eI) c S) (λ_=>S) λ_=>S))))))
theorem XM:∀v bs,(aZ bU (aZ (eT eS) aN)) v bs->bs.length=2/\(hold (Z (sU v.1 v.2.1))->vJ (bs.map lend)=Z ((zE eI) (jx v.1 v.2.1))):=by
 rintro⟨a,b,_⟩ _ ⟨_,rfl,⟨_,rfl,rfl⟩⟩;exact⟨rfl,λh=>bR (g:=vI) (n:=6) (bs:=[.z (bU a),.z (eT eS b)]) (XJ a b) h⟩
def dB(b:AZ):(O (AJ×AJ)):=(EJ (b.map λa:AJ=>(a,a)))
def nP(a:AZ):Prop:=(a.length<1000/\a.length<=100000)
theorem Ru(a:AZ):RP qW [Z ((zE (eT eS)) a)] (λr=>Ap.rt (mE eS r)) (dB a) (Z (nP a)):=R.tp (cV (λr=>r) (d4 (Er (ao 0 (zE (eT eS)) a S)) (jH (Er (ao 0 (zE (eT eS)) a S)) _ (λ_=>S) (λb:AJ=>(Zz (ao 0 (zE eS) b S) (ao 0 (zE eS) b S))) λ_=>S)) (λ_=>S) λ_=>S)
theorem Dp:∀v bs,(aZ (eT eS) aN) v bs->bs.length=1/\(hold (Z (nP v.1))->qX (bs.map lend)=Z ((mE eS) (dB v.1))):=by
 rintro⟨a,_⟩ _ ⟨_,rfl,rfl⟩;exact⟨rfl,λh=>bR (g:=qW) (n:=1) (bs:=[.z (eT eS a)]) (Ru a) h⟩
def eU(c:AJ)(d:AJ)(e:AJ)(a:(O (AJ×AJ)))(b:AJ):(O (AJ×AJ)):=(let a:(O (AJ×AJ)):=(if((decide ((look a b)=c))||(decide ((look a b)=d)))=true then(let a:=put a b e;a)else a);a)
def qF(c:AJ)(d:AJ)(e:AJ)(a:(O (AJ×AJ)))(b:AJ):Prop:=((has a b=true/\((decide ((look a b)=c))=false->has a b=true))/\(((decide ((look a b)=c))||(decide ((look a b)=d)))=true->a.length<1000))
theorem Ho(c:AJ)(d:AJ)(e:AJ)(a:(O (AJ×AJ)))(b:AJ):RP wR [Z ((mW (Z a_) eS) a),Z (zE eS c),Z (zE eS d),Z (zE eS e),Z (zE eS b)] (λs=>Ap.nx ((λa:(O (AJ×AJ))=>[Z ((mW (Z a_) eS) a),Z (zE eS c),Z (zE eS d),Z (zE eS e),U]) s)) (eU c d e a b) (Z (qF c d e a b)):=R.tp (bC (yq (λa:(O (AJ×AJ))=>[Z ((mW (Z a_) eS) a),Z (zE eS c),Z (zE eS d),Z (zE eS e),Z (zE eS b)]) (J5 (cI (BU () (mC (ao 0 (nE eS) a S) (ao 4 (zE eS) b S)) (ao 1 (zE eS) c S))) (cI (BU () (mC (ao 0 (nE eS) a S) (ao 4 (zE eS) b S)) (ao 2 (zE eS) d S)))) (bC (Zy (Z a_) 0 a S (ao 3 (zE eS) e S) (ao 4 (zE eS) b S) λa=>(bY (bx a S)))) (bY (bx a S)) λa=>(bY (bx a S))))
def nQ(a:(O (AJ×AJ)))(b:AJ)(c:AJ):(O (AJ×AJ)):=(let d:=(if Gi c b=true then c else b);(let a:(O (AJ×AJ)):=((a.map (·.1)).foldl (λ(a:(O (AJ×AJ))) (e:AJ)=>(eU b c d a e)) a);a))
def nR(a:(O (AJ×AJ)))(b:AJ)(c:AJ):Prop:=(let e:=(if Gi c b=true then c else b);j8 (λ(a:(O (AJ×AJ))) (d:AJ)=>(eU b c e a d)) (λ(a:(O (AJ×AJ))) (d:AJ)=>Z (qF b c e a d)) (a.map (·.1)) a)
def wG(a:(O (AJ×AJ)))(b:AJ)(c:AJ):R qY [Z ((mW (Z a_) eS) a),Z (zE eS b),Z (zE eS c),U,U] (λe=>Ap.nx [Z ((mW (Z a_) eS) e),Z (zE eS b),Z (zE eS c),U,U]):=(bC (bT 3 (ab (ao 1 (zE eS) b S) (ao 2 (zE eS) c S)) (λ_=>S) λd=>(bC (Kd (λa:(O (AJ×AJ))=>[Z ((mW (Z a_) eS) a),Z (zE eS b),Z (zE eS c),Z (zE eS d),U]) a S (HH (ck (ao 0 (nE eS) a S))) _ (λ_ _=>S) (λ(a:(O (AJ×AJ))) (f:AJ)=>(Ho b c d a f).r) λa=>(bY (bx a S))))))
theorem Nb(c:(O (AJ×AJ)))(b:AJ)(a:AJ):(wG (a_:=a_) c b a).v=nQ c b a:=by kernel_rfl
theorem Nf(c:(O (AJ×AJ)))(b:AJ)(a:AJ):(wG (a_:=a_) c b a).D=Z (nR c b a):=by kernel_rfl
theorem Dq:∀(b:(O (AJ×AJ))) v bs,(aZ eS (aZ eS aN)) v bs->bs.length=2/\bs.all Do=true/\(hold (Z (nR b v.1 v.2.1))->∀a,nA a (b.map λq=>(kS q.1,eS q.2)) bs=Z ((nQ b v.1 v.2.1).map λq=>(kS q.1,eS q.2))):=by
 rintro b ⟨d,c,_⟩ _ ⟨_,rfl,⟨_,rfl,rfl⟩⟩;exact⟨rfl,rfl,λh a=>(sL (g:=qY) (n:=5) (bs:=[.z (eS d),.z (eS c)]) (wG (a_:=a) b d c) ((congrArg hold (Nf (a_:=a) b d c)).mpr h) (λ_=>S)).trans (congrArg (λr:(O (AJ×AJ))=>Z (r.map λq=>(kS q.1,eS q.2))) (Nb (a_:=a) b d c))⟩
def iK(a:(O (AJ×AJ)))(q1:aC):(O (AJ×AJ)):=(let a:=(nQ a (look a q1.2.1) (look a q1.2.2.1));a)
def uz(a:(O (AJ×AJ)))(q1:aC):Prop:=((has a q1.2.1=true/\has a q1.2.2.1=true)/\(nR a (look a q1.2.1) (look a q1.2.2.1)))
theorem Ng(b:AZ)(c:O aC)(a:(O (AJ×AJ)))(q1:aC):RP uw [Z ((zE (eT eS)) b),Z ((zE (eT aH)) c),Z (mE eS a),Z ((zE eI) q1.1),Z ((zE eS) q1.2.1),Z ((zE eS) q1.2.2.1),Z ((zE eI) q1.2.2.2)] (λs=>Ap.nx ((λa:(O (AJ×AJ))=>[Z ((zE (eT eS)) b),Z ((zE (eT aH)) c),Z (mE eS a),U,U,U,U]) s)) (iK  a q1) (Z (uz  a q1)):=R.tp (bC (OP U 2 a S Dq (cJ (mC (ao 2 (nE eS) a S) (ao 4 (zE eS) q1.2.1 S)) (cJ (mC (ao 2 (nE eS) a S) (ao 5 (zE eS) q1.2.2.1 S)) aW)) λa=>(bY (bx a S))))
def mJ(b:AZ)(c:O aC):(O (AJ×AJ)):=(let a:=(dB b);(let a:(O (AJ×AJ)):=(c.foldl (λ(a:(O (AJ×AJ))) (q1:aC)=>(iK  a q1)) a);a))
def wH(b:AZ)(c:O aC):Prop:=((nP b)/\(let a:=(dB b);j8 (λ(a:(O (AJ×AJ))) (q1:aC)=>(iK  a q1)) (λ(a:(O (AJ×AJ))) (q1:aC)=>Z (uz  a q1)) c a))
theorem XQ(b:AZ)(c:O aC):RP oV [Z ((zE (eT eS)) b),Z ((zE (eT aH)) c),U,U,U,U,U] (λr=>Ap.rt (mE eS r)) (mJ b c) (Z (wH b c)):=R.tp (bT 2 (An Dp (cJ (ao 0 (zE (eT eS)) b S) aW)) (λ_=>S) λa=>(yr 1 c (QK S) (λa:(O (AJ×AJ))=>[Z ((zE (eT eS)) b),Z ((zE (eT aH)) c),Z (mE eS a),U,U,U,U]) a S _ (λ_ _=>S) (λ(a:(O (AJ×AJ))) (q1:aC)=>(Ng b c a q1).r) λa=>(Es 2 (λr=>r) a S (λ_=>S) λ_=>S)))
theorem XR:∀v bs,(aZ (eT eS) (aZ (eT aH) aN)) v bs->bs.length=2/\(hold (Z (wH v.1 v.2.1))->mG (bs.map lend)=Z ((mE eS) (mJ v.1 v.2.1))):=by
 rintro⟨a,b,_⟩ _ ⟨_,rfl,⟨_,rfl,rfl⟩⟩;exact⟨rfl,λh=>bR (g:=oV) (n:=7) (bs:=[.z (eT eS a),.z (eT aH b)]) (XQ a b) h⟩
def cF(b:(O (AJ×AJ)))(c:AJ):AZ:=(((b.map (·.1)).filter λa:AJ=>(decide ((look b a)=c))).map λa:AJ=>a)
def pP(a:(O (AJ×AJ)))(c:AJ):Prop:=((a.map (·.1)).length<=100000/\(∀b∈(a.map (·.1)),has a b=true))
theorem Nh(a:(O (AJ×AJ)))(b:AJ):RP pH [Z (nE eS a),Z (zE eS b)] (λr=>Ap.rt ((zE (eT eS)) r)) (cF a b) (Z (pP a b)):=R.tp (cV (λr=>r) (qP (d7 (Il (NG (ao 0 (nE eS) a S)) _ (λ_=>S) (λc:AJ=>(cI (BU () (mC (ao 1 (nE eS) a S) (ao 2 (zE eS) c S)) (ao 0 (zE eS) b S)))) (λc:AJ=>(ao 2 (zE eS) c S))))) (λ_=>S) λ_=>S)
theorem Ni:∀v bs,(aM eS (aZ eS aN)) v bs->bs.length=2/\(hold (Z (pP v.1 v.2.1))->pI (bs.map lend)=Z ((zE (eT eS)) (cF v.1 v.2.1))):=by
 rintro⟨b,a,_⟩ _ ⟨_,_,rfl,(rfl|rfl),⟨_,rfl,rfl⟩⟩
 all_goals exact⟨rfl,λh=>bR (g:=pH) (n:=2) (bs:=[nE eS b,.z (eS a)]) (Nh b a) h⟩
def dM(b:(O (AJ×AJ))):(O AZ):=(((b.map (·.1)).filter λa:AJ=>(decide ((look b a)=a))).map λa:AJ=>(cF b a))
def lq(a:(O (AJ×AJ))):Prop:=((a.map (·.1)).length<=100000/\(∀b∈(a.map (·.1)),(has a b=true/\((decide ((look a b)=b))=true->(pP a b)))))
theorem Rv(a:(O (AJ×AJ))):RP qZ [Z (nE eS a)] (λr=>Ap.rt ((oE (eT eS)) r)) (dM a) (Z (lq a)):=R.tp (cV (λr=>r) (Il (NG (ao 0 (nE eS) a S)) _ (λ_=>S) (λb:AJ=>(cI (BU () (mC (ao 0 (nE eS) a S) (ao 1 (zE eS) b S)) (ao 1 (zE eS) b S)))) (λb:AJ=>(nq (An Ni (N9 (ao 0 (nE eS) a S) (cJ (ao 1 (zE eS) b S) aW)))))) (λ_=>S) λ_=>S)
theorem Dr:∀v bs,(aM eS aN) v bs->bs.length=1/\(hold (Z (lq v.1))->q8 (bs.map lend)=Z ((oE (eT eS)) (dM v.1))):=by
 rintro⟨a,_⟩ _ ⟨_,_,rfl,(rfl|rfl),rfl⟩
 all_goals exact⟨rfl,λh=>bR (g:=qZ) (n:=1) (bs:=[nE eS a]) (Rv a) h⟩
def Al(a:AZ)(b:O aC):(O AZ):=(dM (mJ a b))
def Am(a:AZ)(b:O aC):Prop:=((wH a b)/\(lq (mJ a b)))
theorem XS(a:AZ)(b:O aC):RP oW [Z ((zE (eT eS)) a),Z ((zE (eT aH)) b)] (λr=>Ap.rt ((oE (eT eS)) r)) (Al a b) (Z (Am a b)):=R.tp (cV (λr=>r) (An Dr (MG (An XR (cJ (ao 0 (zE (eT eS)) a S) (cJ (ao 1 (zE (eT aH)) b S) aW))) aW)) (λ_=>S) λ_=>S)
theorem X3:∀v bs,(aZ (eT eS) (aZ (eT aH) aN)) v bs->bs.length=2/\(hold (Z (Am v.1 v.2.1))->mH (bs.map lend)=Z ((oE (eT eS)) (Al v.1 v.2.1))):=by
 rintro⟨a,b,_⟩ _ ⟨_,rfl,⟨_,rfl,rfl⟩⟩;exact⟨rfl,λh=>bR (g:=oW) (n:=2) (bs:=[.z (eT eS a),.z (eT aH b)]) (XS a b) h⟩
def pA(vx:dH):(O AZ):=(Al vx.1 vx.2.1)
def wI(vx:dH):Prop:=(Am vx.1 vx.2.1)
theorem X4(vx:dH):RP vK [Z (zE bU vx)] (λr=>Ap.rt ((oE (eT eS)) r)) (pA vx) (Z (wI vx)):=R.tp (cV (λr=>r) (An X3 (cJ (gW (ao 0 (zE bU) vx S) (λq=>q.1) (eT eS) 0 λ_=>S) (cJ (gW (ao 0 (zE bU) vx S) (λq=>q.2.1) (eT aH) 1 λ_=>S) aW))) (λ_=>S) λ_=>S)
theorem X5:∀v bs,(aZ bU aN) v bs->bs.length=1/\(hold (Z (wI v.1))->vL (bs.map lend)=Z ((oE (eT eS)) (pA v.1))):=by
 rintro⟨vx,_⟩ _ ⟨_,rfl,rfl⟩;exact⟨rfl,λh=>bR (g:=vK) (n:=1) (bs:=[.z (bU vx)]) (X4 vx) h⟩
def jg(vx:dH):(O dH):=(let q1:=vx;((pA vx).map λa:AZ=>(a,((q1.2.1.filter λc:aC=>(decide (c.2.1∈a))).map λc:aC=>c),((q1.2.2.filter λb:dF=>((decide (b.1∈a))&&(decide (b.2.1∈a)))).map λb:dF=>b))))
def sV(vx:dH):Prop:=(let q1:=vx;(((wI vx)/\(pA vx).length<=100000)/\(∀a∈(pA vx),(q1.2.1.length<=100000/\q1.2.2.length<=100000))))
theorem Ln(vx:dH):RP nC [Z (zE bU vx),U,U,U] (λr=>Ap.rt (oE bU r)) (jg vx) (Z (sV vx)):=R.tp (Kc (ao 0 (zE bU) vx S) _ (λ_=>S) λq1=>(cV (λr=>r) (Ab (qm (d7 (An X5 (cJ (ao 0 (zE bU) vx S) aW)))) _ (λ_=>S) (λa:AZ=>(J6 (ao 2 (zE (eT eS)) a S) (qP (d7 (iB (Er (ao 0 (zE (eT aH)) q1.2.1 S)) _ (λ_=>S) (λc:aC=>(cI (yj (gW (ao 1 (zE aH) c S) (λq=>q.2.1) eS 1 λ_=>S) (ao 0 (zE (eT eS)) a S)))) (λc:aC=>(ao 1 (zE aH) c S)) (λ_=>S) λ_=>S))) (qP (d7 (iB (Er (ao 1 (zE (eT fL)) q1.2.2 S)) _ (λ_=>S) (λb:dF=>(J4 (cI (yj (gW (ao 1 (zE fL) b S) (λq=>q.1) eS 0 λ_=>S) (ao 0 (zE (eT eS)) a S))) (cI (yj (gW (ao 1 (zE fL) b S) (λq=>q.2.1) eS 1 λ_=>S) (ao 0 (zE (eT eS)) a S))))) (λb:dF=>(ao 1 (zE fL) b S)) (λ_=>S) λ_=>S)))))) (λ_=>S) λ_=>S))
theorem Lq:∀v bs,(aZ bU aN) v bs->bs.length=1/\(hold (Z (sV v.1))->jR (bs.map lend)=Z ((oE bU) (jg v.1))):=by
 rintro⟨vx,_⟩ _ ⟨_,rfl,rfl⟩;exact⟨rfl,λh=>bR (g:=nC) (n:=4) (bs:=[.z (bU vx)]) (Ln vx) h⟩
def uU(a:dH):Unit:=(let q1:=a;(if((!q1.2.2.isEmpty)&&((decide ((8:Int)<(q1.1.length:Int)))||(decide ((12:Int)<(q1.2.1.length:Int)))))=true then default else r9))
def pB(a:dH):Prop:=(let q1:=a;(((!q1.2.2.isEmpty)&&((decide ((8:Int)<(q1.1.length:Int)))||(decide ((12:Int)<(q1.2.1.length:Int)))))=true->False))
theorem Fi(a:dH):RP j9 [Z (zE bU a),U,U,U] (λ_:Unit=>Ap.nx [Z (zE bU a),U,U,U]) (uU a) (Z (pB a)):=R.tp (bC (Kc (ao 0 (zE bU) a S) _ (λ_=>S) λq1=>(bC (qJ (J4 (bq (ao 3 (zE (eT fL)) q1.2.2 S)) (J5 (cI (G' (Xl (ao 1 (zE (eT eS)) q1.1 S)) (B6 8))) (cI (G' (Xl (ao 2 (zE (eT aH)) q1.2.1 S)) (B6 12))))) (bC UB) (bY (bY (bx r9 S)))))))
theorem Fj:∀v bs,(aZ bU aN) v bs->bs.length=1/\(hold (Z (pB v.1))->iV (bs.map lend)=Z ((zE eN) (uU v.1))):=by
 rintro⟨a,_⟩ _ ⟨_,rfl,rfl⟩;exact⟨rfl,λh=>WS (g:=j9) (n:=4) (bs:=[.z (bU a)]) (Fi a).r h⟩
def jk(b:O aC):Int:=(b.map λa:aC=>a.1).sum
def jo(a:O aC):Prop:=(a.length<=100000/\Uo (a.map λb:aC=>b.1)=true)
theorem Vv(a:O aC):RP mQ [Z ((zE (eT aH)) a)] (λr=>Ap.rt (zE eI r)) (jk a) (Z (jo a)):=R.tp (cV (λr=>r) (Cv (d7 (jH (Er (ao 0 (zE (eT aH)) a S)) _ (λ_=>S) (λb:aC=>(gW (ao 0 (zE aH) b S) (λq=>q.1) eI 0 λ_=>S)) λ_=>S))) (λ_=>S) λ_=>S)
theorem Gz:∀v bs,(aZ (eT aH) aN) v bs->bs.length=1/\(hold (Z (jo v.1))->dD (bs.map lend)=Z ((zE eI) (jk v.1))):=by
 rintro⟨a,_⟩ _ ⟨_,rfl,rfl⟩;exact⟨rfl,λh=>bR (g:=mQ) (n:=1) (bs:=[.z (eT aH a)]) (Vv a) h⟩
def f9(b:O aC):Int:=(b.map λa:aC=>a.1).sum
def gj(a:O aC):Prop:=(a.length<=100000/\Uo (a.map λb:aC=>b.1)=true)
theorem Nj(a:O aC)(b:Lp gY (a.map aH)):RP mQ [Z gY] (λr=>Ap.rt (zE eI r)) (f9 a) (Z (gj a)):=R.tp (cV (λr=>r) (Cv (d7 (jH (qm (gU 0 aH a b S)) _ (λ_=>S) (λc:aC=>(gW (ao 0 (zE aH) c S) (λq=>q.1) eI 0 λ_=>S)) λ_=>S))) (λ_=>S) λ_=>S)
theorem uD:∀v bs,(aL aH aN) v bs->bs.length=1/\(hold (Z (gj v.1))->dD (bs.map lend)=Z ((zE eI) (f9 v.1))):=by
 rintro⟨b,_⟩ _ ⟨gY,_,rfl,a,rfl⟩;exact⟨rfl,λh=>bR (g:=mQ) (n:=1) (bs:=[lend gY]) (Nj b (lN a)) h⟩
def qG(a:(O (AJ×AJ)))(q1:aC):(O (AJ×AJ)):=(let a:=(nQ a (look a q1.2.1) (look a q1.2.2.1));a)
def wX(a:(O (AJ×AJ)))(q1:aC):Prop:=((has a q1.2.1=true/\has a q1.2.2.1=true)/\(nR a (look a q1.2.1) (look a q1.2.2.1)))
theorem Hq(b:AZ)(c:O aC)(d:Lp b_1 (c.map aH))(a:(O (AJ×AJ)))(q1:aC):RP uw [Z ((zE (eT eS)) b),Z b_1,Z (mE eS a),Z ((zE eI) q1.1),Z ((zE eS) q1.2.1),Z ((zE eS) q1.2.2.1),Z ((zE eI) q1.2.2.2)] (λs=>Ap.nx ((λa:(O (AJ×AJ))=>[Z ((zE (eT eS)) b),Z b_1,Z (mE eS a),U,U,U,U]) s)) (qG  a q1) (Z (wX  a q1)):=R.tp (bC (OP U 2 a S Dq (cJ (mC (ao 2 (nE eS) a S) (ao 4 (zE eS) q1.2.1 S)) (cJ (mC (ao 2 (nE eS) a S) (ao 5 (zE eS) q1.2.2.1 S)) aW)) λa=>(bY (bx a S))))
def fV(b:AZ)(c:O aC):(O (AJ×AJ)):=(let a:=(dB b);(let a:(O (AJ×AJ)):=(c.foldl (λ(a:(O (AJ×AJ))) (q1:aC)=>(qG  a q1)) a);a))
def lu(b:AZ)(c:O aC):Prop:=((nP b)/\(let a:=(dB b);j8 (λ(a:(O (AJ×AJ))) (q1:aC)=>(qG  a q1)) (λ(a:(O (AJ×AJ))) (q1:aC)=>Z (wX  a q1)) c a))
theorem Rw(b:AZ)(c:O aC)(d:Lp b_1 (c.map aH)):RP oV [Z ((zE (eT eS)) b),Z b_1,U,U,U,U,U] (λr=>Ap.rt (mE eS r)) (fV b c) (Z (lu b c)):=R.tp (bT 2 (An Dp (cJ (ao 0 (zE (eT eS)) b S) aW)) (λ_=>S) λa=>(yr 1 c (QL d S) (λa:(O (AJ×AJ))=>[Z ((zE (eT eS)) b),Z b_1,Z (mE eS a),U,U,U,U]) a S _ (λ_ _=>S) (λ(a:(O (AJ×AJ))) (q1:aC)=>(Hq b c d a q1).r) λa=>(Es 2 (λr=>r) a S (λ_=>S) λ_=>S)))
theorem Ds:∀v bs,(aZ (eT eS) (aL aH aN)) v bs->bs.length=2/\(hold (Z (lu v.1 v.2.1))->mG (bs.map lend)=Z ((mE eS) (fV v.1 v.2.1))):=by
 rintro⟨a,c,_⟩ _ ⟨_,rfl,⟨b_1,_,rfl,b,rfl⟩⟩;exact⟨rfl,λh=>bR (g:=oV) (n:=7) (bs:=[.z (eT eS a),lend b_1]) (Rw a c (lN b)) h⟩
def bK(a:aC)(b:AJ):(Y AJ):=(if(decide (a.2.1=b))=true then(Z a.2.2.1)else(if(decide (a.2.2.1=b))=true then(Z a.2.1)else U))
theorem Vw(a:aC)(b:AJ):RP tX [Z (zE aH a),Z (zE eS b)] (λr=>Ap.rt ((zE (eO eS)) r)) (bK a b) U:=R.tp (qJ (cI (BU () (gW (ao 0 (zE aH) a S) (λq=>q.2.1) eS 1 λ_=>S) (ao 1 (zE eS) b S))) (bC (cV (λr=>r) (J1 (gW (ao 0 (zE aH) a S) (λq=>q.2.2.1) eS 2 λ_=>S)) (λ_=>S) λ_=>S)) (bY (qJ (cI (BU () (gW (ao 0 (zE aH) a S) (λq=>q.2.2.1) eS 2 λ_=>S) (ao 1 (zE eS) b S))) (bC (cV (λr=>r) (J1 (gW (ao 0 (zE aH) a S) (λq=>q.2.1) eS 1 λ_=>S)) (λ_=>S) λ_=>S)) (bY (cV (λr=>r) QF (λ_=>S) λ_=>S)))))
theorem GC:∀v bs,(aZ aH (aZ eS aN)) v bs->bs.length=2/\(hold (U)->mR (bs.map lend)=Z ((zE (eO eS)) (bK v.1 v.2.1))):=by
 rintro⟨a,b,_⟩ _ ⟨_,rfl,⟨_,rfl,rfl⟩⟩;exact⟨rfl,λh=>bR (g:=tX) (n:=2) (bs:=[.z (aH a),.z (eS b)]) (Vw a b) h⟩
def gk(b:(O (AJ×(Y aC))))(a:(O aC)×AJ):qQ ((O aC)×AJ) (O aC):=(let c:=a.1++[((look b a.2).getD default)];(let val:=((bK ((look b a.2).getD default) a.2).getD default);(qQ.nx (c,val))))
def lU(b:(O (AJ×(Y aC))))(a:(O aC)×AJ):Prop:=(((has b a.2=true/\(look b a.2).isSome=true)/\Ar a.1.length)/\(let c:=a.1++[((look b a.2).getD default)];((has b a.2=true/\(look b a.2).isSome=true)/\(bK ((look b a.2).getD default) a.2).isSome=true)))
theorem Nk(b:(O (AJ×(Y aC))))(c:AJ)(a:(O aC)×AJ):RP zP [Z ((nE (eO aH)) b),Z (zE eS c),Z ((oE aH) a.1),Z ((zE eS) a.2)] (cC (λa:(O aC)×AJ=>[Z ((nE (eO aH)) b),Z (zE eS c),Z ((oE aH) a.1),Z ((zE eS) a.2)]) (oE aH)) (gk b a ) (Z (lU b a )):=R.tp (bC (Gk 2 a.1 S (yc (mC (ao 0 (nE (eO aH)) b S) (ao 3 (zE eS) a.2 S))) λd=>(bC (bT 3 (yc (An GC (cJ (yc (mC (ao 0 (nE (eO aH)) b S) (ao 3 (zE eS) a.2 S))) (cJ (ao 3 (zE eS) a.2 S) aW)))) (λ_=>S) λval=>(bY (bx (.nx (d,val)) S))))))
def jX(b:(O (AJ×(Y aC))))(d:AJ):(O aC):=(let c:=([]:O aC);(let val:=d;(BN (O2 (λa:(O aC)×AJ=>(look b a.2).isSome) (λa:(O aC)×AJ=>((gk b a):qQ ((O aC)×AJ) (O aC))) 70 (c,val)) (λr=>r) λa:(O aC)×AJ=>a.1)))
def sW(b:(O (AJ×(Y aC))))(d:AJ):Prop:=(let c:=([]:O aC);(let val:=d;(Db (λa:(O aC)×AJ=>(look b a.2).isSome) (λa:(O aC)×AJ=>Z (has b a.2=true)) (λa:(O aC)×AJ=>((gk b a):qQ ((O aC)×AJ) (O aC))) (λa:(O aC)×AJ=>Z (lU b a)) 70 (c,val)/\(yX (O2 (λa:(O aC)×AJ=>(look b a.2).isSome) (λa:(O aC)×AJ=>((gk b a):qQ ((O aC)×AJ) (O aC))) 70 (c,val)) λa:(O aC)×AJ=>True))))
theorem X6(b:(O (AJ×(Y aC))))(c:AJ):RP vM [Z ((nE (eO aH)) b),Z (zE eS c),U,U] (λr=>Ap.rt (oE aH r)) (jX b c) (Z (sW b c)):=R.tp (bT 2 (ji (eX aH) (z4 S)) (λ_=>S) λd=>(bT 3 (ao 1 (zE eS) c S) (λ_=>S) λval=>(ZC 70 (λa:(O aC)×AJ=>[Z ((nE (eO aH)) b),Z (zE eS c),Z ((oE aH) a.1),Z ((zE eS) a.2)]) (d,val) S (λa:(O aC)×AJ=>(cI (QG (mC (ao 0 (nE (eO aH)) b S) (ao 3 (zE eS) a.2 S)) λ_=>S))) (λa:(O aC)×AJ=>((Nk b c a).r:R _ _ (cC (λa:(O aC)×AJ=>[Z ((nE (eO aH)) b),Z (zE eS c),Z ((oE aH) a.1),Z ((zE eS) a.2)]) (oE aH)))) (λr=>r) (λ_=>S) λa=>(Es 2 (λr=>r) a.1 S (λ_=>S) λ_=>S))))
theorem X7:∀v bs,(aM (eO aH) (aZ eS aN)) v bs->bs.length=2/\(hold (Z (sW v.1 v.2.1))->vN (bs.map lend)=Z ((oE aH) (jX v.1 v.2.1))):=by
 rintro⟨a,b,_⟩ _ ⟨_,_,rfl,(rfl|rfl),⟨_,rfl,rfl⟩⟩
 all_goals exact⟨rfl,λh=>bR (g:=vM) (n:=4) (bs:=[nE (eO aH) a,.z (eS b)]) (X6 a b) h⟩
def eV(val:AJ)(a:(O (AJ×(Y aC)))×AZ)(c:aC):(O (AJ×(Y aC)))×AZ:=(let b:=(bK c val);(let d:(O (AJ×(Y aC)))×AZ:=(if(b.isSome&&(!has a.1 (b.getD default)))=true then(let e:=put a.1 (b.getD default) (Z c);(let f:=a.2++[(b.getD default)];(e,f)))else(a.1,a.2));(d.1,d.2)))
def jq(val:AJ)(b:(O (AJ×(Y aC)))×AZ)(c:aC):Prop:=(let a:=(bK c val);((a.isSome=true->a.isSome=true)/\((a.isSome&&(!has b.1 (a.getD default)))=true->((a.isSome=true/\b.1.length<1000)/\(let d:=put b.1 (a.getD default) (Z c);(a.isSome=true/\Ar b.2.length))))))
theorem Vx(g:O aC)(j:Lp gY (g.map aH))(e:AJ)(f:AJ)(val:AJ)(a:(O (AJ×(Y aC)))×AZ)(b:aC):RP Gw [Z gY,Z (zE eS e),Z (zE eS f),Z ((mE (eO aH)) a.1),Z ((oE eS) a.2),Z (zE eS val),Z (zE aH b),U] (λs=>Ap.nx ((λa:(O (AJ×(Y aC)))×AZ=>[Z gY,Z (zE eS e),Z (zE eS f),Z ((mE (eO aH)) a.1),Z ((oE eS) a.2),Z (zE eS val),U,U]) s)) (eV val a b) (Z (jq val a b)):=R.tp (bC (bT 7 (An GC (cJ (ao 6 (zE aH) b S) (cJ (ao 5 (zE eS) val S) aW))) (λ_=>S) λc=>(bC (yq (λd:(O (AJ×(Y aC)))×AZ=>[Z gY,Z (zE eS e),Z (zE eS f),Z ((mE (eO aH)) d.1),Z ((oE eS) d.2),Z (zE eS val),Z (zE aH b),Z ((zE (eO eS)) c)]) (J4 (cI (QG (ao 7 (zE (eO eS)) c S) λ_=>S)) (cI (OI (yc (ao 7 (zE (eO eS)) c S)) (ao 3 (nE (eO aH)) a.1 S)))) (bC (Zy U 3 a.1 S (J1 (ao 6 (zE aH) b S)) (yc (ao 7 (zE (eO eS)) c S)) λh=>(bC (Gk 4 a.2 S (yc (ao 7 (zE (eO eS)) c S)) λi=>(bY (bx (h,i) S)))))) (bY (bx (a.1,a.2) S)) λd=>(bY (bx (d.1,d.2) S))))))
def jr(e:O aC)(c:AZ×(O (AJ×(Y aC)))):qQ (AZ×(O (AJ×(Y aC)))) (Y (O aC)):=(let b:=c.1;let f:=b.drop 1;let val:=at' b 0;(let a:(O (AJ×(Y aC)))×AZ:=(e.foldl (λ(a:(O (AJ×(Y aC)))×AZ) (d:aC)=>(eV val a d)) (c.2,f));(qQ.nx (a.2,a.1))))
def um(e:O aC)(b:AZ×(O (AJ×(Y aC)))):Prop:=(((0:Int)=0/\0<b.1.length)/\(let d:=b.1;let f:=d.drop 1;let val:=at' d 0;j8 (λ(c:(O (AJ×(Y aC)))×AZ) (a:aC)=>(eV val c a)) (λ(c:(O (AJ×(Y aC)))×AZ) (a:aC)=>Z (jq val c a)) e (b.2,f)))
theorem Vy(c:O aC)(f:Lp gY (c.map aH))(d:AJ)(e:AJ)(a:AZ×(O (AJ×(Y aC)))):RP Gx [Z gY,Z (zE eS d),Z (zE eS e),Z ((mE (eO aH)) a.2),Z ((oE eS) a.1),U,U,U] (cC (λa:AZ×(O (AJ×(Y aC)))=>[Z gY,Z (zE eS d),Z (zE eS e),Z ((mE (eO aH)) a.2),Z ((oE eS) a.1),U,U,U]) (qE aH)) (jr c a ) (Z (um c a )):=R.tp (bC (VQ 5 4 a.1 S (B6 0) λh val=>(bC (yr 0 c (QL f S) (λb:(O (AJ×(Y aC)))×AZ=>[Z gY,Z (zE eS d),Z (zE eS e),Z ((mE (eO aH)) b.1),Z ((oE eS) b.2),Z (zE eS val),U,U]) (a.2,h) S _ (λ_ _=>S) (λ(b:(O (AJ×(Y aC)))×AZ) (g:aC)=>(Vx c f d e val b g).r) λb=>(bY (bx (.nx (b.2,b.1)) S))))))
def qe(e:O aC)(b:AJ)(c:AJ):(Y (O aC)):=(let d:=([(b,U)]:(O (AJ×(Y aC))));(let f:=[b];(BN (O2 (λa:AZ×(O (AJ×(Y aC)))=>(!a.1.isEmpty)) (λa:AZ×(O (AJ×(Y aC)))=>((jr e a):qQ (AZ×(O (AJ×(Y aC)))) (Y (O aC)))) 70 (f,d)) (λr=>r) λa:AZ×(O (AJ×(Y aC)))=>(if(!has a.2 c)=true then U else(Z (jX a.2 c).reverse)))))
def yI(b:O aC)(e:AJ)(f:AJ):Prop:=(let c:=([(e,U)]:(O (AJ×(Y aC))));(let d:=[e];(Db (λa:AZ×(O (AJ×(Y aC)))=>(!a.1.isEmpty)) (λa:AZ×(O (AJ×(Y aC)))=>U) (λa:AZ×(O (AJ×(Y aC)))=>((jr b a):qQ (AZ×(O (AJ×(Y aC)))) (Y (O aC)))) (λa:AZ×(O (AJ×(Y aC)))=>Z (um b a)) 70 (d,c)/\(yX (O2 (λa:AZ×(O (AJ×(Y aC)))=>(!a.1.isEmpty)) (λa:AZ×(O (AJ×(Y aC)))=>((jr b a):qQ (AZ×(O (AJ×(Y aC)))) (Y (O aC)))) 70 (d,c)) λa:AZ×(O (AJ×(Y aC)))=>((!has a.2 f)=false->(sW a.2 f))))))
theorem eg(d:O aC)(f:Lp gY (d.map aH))(b:AJ)(c:AJ):RP Dc [Z gY,Z (zE eS b),Z (zE eS c),U,U,U,U,U] (λr=>Ap.rt (qE aH r)) (qe d b c) (Z (yI d b c)):=R.tp (bT 3 (r8 (ao 1 (zE eS) b S) QF) (λ_=>S) λg=>(bT 4 (ji (dY (ao 1 (zE eS) b S) (eX eS)) (z4 S)) (λ_=>S) λh=>(ZC 70 (λa:AZ×(O (AJ×(Y aC)))=>[Z gY,Z (zE eS b),Z (zE eS c),Z ((mE (eO aH)) a.2),Z ((oE eS) a.1),U,U,U]) (h,g) S (λa:AZ×(O (AJ×(Y aC)))=>(Pv (iU (ao 4 (lE eS) a.1 S)))) (λa:AZ×(O (AJ×(Y aC)))=>((Vy d f b c a).r:R _ _ (cC (λa:AZ×(O (AJ×(Y aC)))=>[Z gY,Z (zE eS b),Z (zE eS c),Z ((mE (eO aH)) a.2),Z ((oE eS) a.1),U,U,U]) (qE aH)))) (λr=>r) (λ_=>S) λa=>(qJ (cI (OI (ao 2 (zE eS) c S) (ao 3 (nE (eO aH)) a.2 S))) (bC (cV (λr=>r) (ZG (e:=aH)) (λ_=>S) (λv=>by cases v<;>rfl))) (bY (cV (λr=>r) (cx (iA (d7 (An X7 (N9 (ao 3 (nE (eO aH)) a.2 S) (cJ (ao 2 (zE eS) c S) aW)))))) (λ_=>S) (λv=>by cases v<;>rfl)))))))
theorem fw:∀v bs,(aL aH (aZ eS (aZ eS aN))) v bs->bs.length=3/\(hold (Z (yI v.1 v.2.1 v.2.2.1))->Dd (bs.map lend)=Z ((qE aH) (qe v.1 v.2.1 v.2.2.1))):=by
 rintro⟨d,b,a,_⟩ _ ⟨gY,_,rfl,c,⟨_,rfl,⟨_,rfl,rfl⟩⟩⟩;exact⟨rfl,λh=>bR (g:=Dc) (n:=8) (bs:=[lend gY,.z (eS b),.z (eS a)]) (eg d (lN c) b a) h⟩
def cM(c:O aC)(b:(O (AJ×AJ)))(d:Unit)(a:dF):qQ (Unit) (Y (O aC)):=(if(decide ((look b a.1)=(look b a.2.1)))=true then(qQ.rt (qe c a.1 a.2.1))else(qQ.nx r9))
def lX(c:O aC)(b:(O (AJ×AJ)))(d:Unit)(a:dF):Prop:=((has b a.1=true/\has b a.2.1=true)/\((decide ((look b a.1)=(look b a.2.1)))=true->(yI c a.1 a.2.1)))
theorem Hr(e:dH)(i:O aC)(j:Lp b_1 (i.map aH))(f:AZ)(h:O aC)(g:O dF)(c:O aC)(b:(O (AJ×AJ)))(d:Unit)(a:dF):RP wU [Z (zE bU e),Z b_1,Z ((zE (eT eS)) f),Z ((zE (eT aH)) h),Z ((zE (eT fL)) g),Z (oE aH c),Z (mE eS b),Z (zE fL a)] (cC (λd:Unit=>[Z (zE bU e),Z b_1,Z ((zE (eT eS)) f),Z ((zE (eT aH)) h),Z ((zE (eT fL)) g),Z (oE aH c),Z (mE eS b),U]) (qE aH)) (cM c b d a) (Z (lX c b d a)):=R.tp (bC (qJ (cI (BU () (mC (ao 6 (nE eS) b S) (gW (ao 7 (zE fL) a S) (λq=>q.1) eS 0 λ_=>S)) (mC (ao 6 (nE eS) b S) (gW (ao 7 (zE fL) a S) (λq=>q.2.1) eS 1 λ_=>S)))) (bC (cV .rt (An fw (oO (iU (ao 5 (lE aH) c S)) (cJ (gW (ao 7 (zE fL) a S) (λq=>q.1) eS 0 λ_=>S) (cJ (gW (ao 7 (zE fL) a S) (λq=>q.2.1) eS 1 λ_=>S) aW)))) (λ_=>S) (λv=>by cases v<;>rfl))) (bY (bY (bx (.nx r9) S)))))
def fJ(d:dH)(e:O aC):(Y (O aC)):=(let q1:=d;(let c:=((q1.2.1.filter λa:aC=>(!lO a e)).map λa:aC=>a);(let f:=(fV q1.1 c);(BN (sy (λ(b:Unit) (g:dF)=>((cM c f b g):qQ (Unit) (Y (O aC)))) q1.2.2 r9) (λr=>r) λb:Unit=>U))))
def lA(f:dH)(g:O aC):Prop:=(let q1:=f;(q1.2.1.length<=100000/\(let c:=((q1.2.1.filter λe:aC=>(!lO e g)).map λe:aC=>e);((lu q1.1 c)/\(let d:=(fV q1.1 c);(Gm (λ(a:Unit) (b:dF)=>((cM c d a b):qQ (Unit) (Y (O aC)))) (λ(a:Unit) (b:dF)=>Z (lX c d a b)) q1.2.2 r9/\(yX (sy (λ(a:Unit) (b:dF)=>((cM c d a b):qQ (Unit) (Y (O aC)))) q1.2.2 r9) λa:Unit=>True)))))))
theorem Rx(a:dH)(b:O aC)(f:Lp b_1 (b.map aH)):RP q9 [Z (zE bU a),Z b_1,U,U,U,U,U,U] (λr=>Ap.rt (qE aH r)) (fJ a b) (Z (lA a b)):=R.tp (Kc (ao 0 (zE bU) a S) _ (λ_=>S) λq1=>(bT 5 (iB (Er (ao 3 (zE (eT aH)) q1.2.1 S)) _ (λ_=>S) (λg:aC=>(cI (Kh () (ao 1 (zE aH) g S) (gU 0 aH b f (congrArg Z (f.get S)))))) (λg:aC=>(ao 1 (zE aH) g S)) (λ_=>S) λ_=>S) (λ_=>S) λd=>(bT 6 (An Ds (cJ (ao 2 (zE (eT eS)) q1.1 S) (oO (iU (ao 5 (lE aH) d S)) aW))) (λ_=>S) λh=>(Zw 4 q1.2.2 (QK S) (λc:Unit=>[Z (zE bU a),Z b_1,Z ((zE (eT eS)) q1.1),Z ((zE (eT aH)) q1.2.1),Z ((zE (eT fL)) q1.2.2),Z (oE aH d),Z (mE eS h),U]) r9 S _ (λ_ _=>S) (λ(c:Unit) (i:dF)=>((Hr a b f q1.1 q1.2.1 q1.2.2 d h c i).r:R _ _ (cC (λc:Unit=>[Z (zE bU a),Z b_1,Z ((zE (eT eS)) q1.1),Z ((zE (eT aH)) q1.2.1),Z ((zE (eT fL)) q1.2.2),Z (oE aH d),Z (mE eS h),U]) (qE aH)))) (λr=>r) (λ_=>S) λc=>(cV (λr=>r) (ZG (e:=aH)) (λ_=>S) (λv=>by cases v<;>rfl))))))
theorem Ry:∀v bs,(aZ bU (aL aH aN)) v bs->bs.length=2/\(hold (Z (lA v.1 v.2.1))->nD (bs.map lend)=Z ((qE aH) (fJ v.1 v.2.1))):=by
 rintro⟨a,b,_⟩ _ ⟨_,rfl,⟨b_1,_,rfl,c,rfl⟩⟩;exact⟨rfl,λh=>bR (g:=q9) (n:=8) (bs:=[.z (bU a),lend b_1]) (Rx a b (lN c)) h⟩
def aJ:Nat->dH->(O aC)->(Y (O aC))->Int->(Y (O aC))
 |0,_,_,_,_=>default
 |n+1,fK,Fl,nY,a=>(if(decide (a<=(f9 (nY.getD default))))=true then U else(let f:=(fJ fK (nY.getD default));(if f.isNone=true then nY else(let c:=(((f.getD []).filter λb:aC=>(!lO b Fl)).map λb:aC=>b);(if(!(!c.isEmpty))=true then U else(let d:=(aJ n fK Fl (Z ((nY.getD default)++(BM c U (Z 1)))) a);(let a:Int:=(if d.isSome=true then(let a:=(f9 (d.getD default));a)else a);(let e:=(aJ n fK (Fl++(BM c U (Z 1))) nY a);(if e.isNone=true then d else e)))))))))
def cj:Nat->dH->(O aC)->(Y (O aC))->Int->Prop
 |0,_,_,_,_=>False
 |n+1,fK,Fl,nY,a=>((nY.isSome=true/\(gj (nY.getD default)))/\((decide (a<=(f9 (nY.getD default))))=false->((nY.isSome=true/\(lA fK (nY.getD default)))/\(let d:=(fJ fK (nY.getD default));(d.isNone=false->((d.isSome=true/\(d.getD []).length<=100000)/\(let b:=(((d.getD []).filter λe:aC=>(!lO e Fl)).map λe:aC=>e);((!(!b.isEmpty))=false->(((nY.isSome=true/\Ar ((nY.getD default).length+(BM b U (Z 1)).length))/\(cj n fK Fl (Z ((nY.getD default)++(BM b U (Z 1)))) a))/\(let c:=(aJ n fK Fl (Z ((nY.getD default)++(BM b U (Z 1)))) a);((c.isSome=true->(c.isSome=true/\(gj (c.getD default))))/\(let a:Int:=(if c.isSome=true then(let a:=(f9 (c.getD default));a)else a);(Ar (Fl.length+(BM b U (Z 1)).length)/\(cj n fK (Fl++(BM b U (Z 1))) nY a))))))))))))))
def sX(n:Nat)(l:∀v bs,(aZ bU (aL aH (aZ (eO (eL aH)) (aZ eI aN)))) v bs->bs.length=4/\(hold (Z (cj n v.1 v.2.1 v.2.2.1 v.2.2.2.1))->dG n (bs.map lend)=Z ((zE (eO (eL aH))) (aJ n v.1 v.2.1 v.2.2.1 v.2.2.2.1))))(c:dH)(g:O aC)(d:Lp b_1 (g.map aH))(b:(Y (O aC)))(a:Int):R (nF (dG n)) [Z (zE bU c),Z b_1,Z ((zE (eO (eL aH))) b),Z (zE eI a),U,U,U,U] (λr=>Ap.rt ((zE (eO (eL aH))) r)):=(qJ (cI (FB (An uD (oO (jt (yc (ao 2 (zE (eO (eL aH))) b S))) aW)) (ao 3 (zE eI) a S))) (bC (cV (λr=>r) QF (λ_=>S) λ_=>S)) (bY (bT 4 (An Ry (cJ (ao 0 (zE bU) c S) (oO (jt (yc (ao 2 (zE (eO (eL aH))) b S))) aW))) (λv=>by cases v<;>rfl) λi=>(qJ (cI (gN (No 4 aH i S))) (bC (cV (λr=>r) (ao 2 (zE (eO (eL aH))) b S) (λ_=>S) λ_=>S)) (bY (bT 5 (iB (qm (iU (ir (No 4 aH i S)))) _ (λ_=>S) (λh:aC=>(cI (Kh () (ao 1 (zE aH) h S) (gU 0 aH g d (congrArg Z (d.get S)))))) (λh:aC=>(ao 1 (zE aH) h S)) (λ_=>S) λ_=>S) (λ_=>S) λe=>(qJ (Gj (Pv (iU (ao 5 (lE aH) e S)))) (bC (cV (λr=>r) QF (λ_=>S) λ_=>S)) (bY (bT 6 (An l (cJ (ao 0 (zE bU) c S) (oO (gU 1 aH g d S) (cJ (J1 (yd (vC (jt (yc (ao 2 (zE (eO (eL aH))) b S))) (d7 (G0 (iU (ao 5 (lE aH) e S)) Xj (Xk (B6 1))))))) (cJ (ao 3 (zE eI) a S) aW))))) (λ_=>S) λf=>(yq (λa:Int=>[Z (zE bU c),Z b_1,Z ((zE (eO (eL aH))) b),Z (zE eI a),Z (qE aH i),Z (oE aH e),Z ((zE (eO (eL aH))) f),U]) (cI (QG (ao 6 (zE (eO (eL aH))) f S) λ_=>S)) (bC (bT 3 (An uD (oO (jt (yc (ao 6 (zE (eO (eL aH))) f S))) aW)) (λ_=>S) λa=>(bY (bx a S)))) (bY (bx a S)) λa=>(bT 7 (An l (cJ (ao 0 (zE bU) c S) (oO (jt (yd (vC (gU 1 aH g d S) (d7 (G0 (iU (ao 5 (lE aH) e S)) Xj (Xk (B6 1))))))) (cJ (ao 2 (zE (eO (eL aH))) b S) (cJ (ao 3 (zE eI) a S) aW))))) (λ_=>S) λj=>(cV (λr=>r) (nq (TD (cI (rn (ao 7 (zE (eO (eL aH))) j S) λ_=>S)) (ao 6 (zE (eO (eL aH))) f S) (ao 7 (zE (eO (eL aH))) j S))) (λ_=>S) λ_=>S))))))))))))
theorem Ht(n:Nat)(f:∀v bs,(aZ bU (aL aH (aZ (eO (eL aH)) (aZ eI aN)))) v bs->bs.length=4/\(hold (Z (cj n v.1 v.2.1 v.2.2.1 v.2.2.2.1))->dG n (bs.map lend)=Z ((zE (eO (eL aH))) (aJ n v.1 v.2.1 v.2.2.1 v.2.2.2.1))))(b:dH)(a:O aC)(e:Lp b_1 (a.map aH))(c:(Y (O aC)))(d:Int):(sX n f b a e c d).v=aJ (n+1) b a c d:=by kernel_rfl
theorem Hu(n:Nat)(f:∀v bs,(aZ bU (aL aH (aZ (eO (eL aH)) (aZ eI aN)))) v bs->bs.length=4/\(hold (Z (cj n v.1 v.2.1 v.2.2.1 v.2.2.2.1))->dG n (bs.map lend)=Z ((zE (eO (eL aH))) (aJ n v.1 v.2.1 v.2.2.1 v.2.2.2.1))))(b:dH)(a:O aC)(e:Lp b_1 (a.map aH))(c:(Y (O aC)))(d:Int):(sX n f b a e c d).D=Z (cj (n+1) b a c d):=by kernel_rfl
theorem nT:∀(n:Nat),∀v bs,(aZ bU (aL aH (aZ (eO (eL aH)) (aZ eI aN)))) v bs->bs.length=4/\(hold (Z (cj n v.1 v.2.1 v.2.2.1 v.2.2.2.1))->dG n (bs.map lend)=Z ((zE (eO (eL aH))) (aJ n v.1 v.2.1 v.2.2.1 v.2.2.2.1)))
 |0=>by
  rintro⟨a,e,b,c,_⟩ _ ⟨_,rfl,⟨b_1,_,rfl,d,⟨_,rfl,⟨_,rfl,rfl⟩⟩⟩⟩;exact⟨rfl,λh=>absurd h id⟩
 |n+1=>by
  rintro⟨a,e,b,c,_⟩ _ ⟨_,rfl,⟨b_1,_,rfl,d,⟨_,rfl,⟨_,rfl,rfl⟩⟩⟩⟩;exact⟨rfl,λh=>(On (g:=nF (dG n)) (n:=8) (bs:=[.z (bU a),lend b_1,.z ((eO (eL aH)) b),.z (eI c)]) (sX n (nT n) a e (lN d) b c) ((congrArg hold (Hu n (nT n) a e (lN d) b c)).mpr h)).trans (congrArg (λr=>Z ((zE (eO (eL aH))) r)) (Ht n (nT n) a e (lN d) b c))⟩
def wK(a:AZ)(b:O aC):(O AZ):=(dM (fV a b))
def rG(a:AZ)(b:O aC):Prop:=((lu a b)/\(lq (fV a b)))
theorem Rz(a:AZ)(b:O aC)(c:Lp b_1 (b.map aH)):RP oW [Z ((zE (eT eS)) a),Z b_1] (λr=>Ap.rt ((oE (eT eS)) r)) (wK a b) (Z (rG a b)):=R.tp (cV (λr=>r) (An Dr (MG (An Ds (cJ (ao 0 (zE (eT eS)) a S) (oO (gU 1 aH b c S) aW))) aW)) (λ_=>S) λ_=>S)
theorem RB:∀v bs,(aZ (eT eS) (aL aH aN)) v bs->bs.length=2/\(hold (Z (rG v.1 v.2.1))->mH (bs.map lend)=Z ((oE (eT eS)) (wK v.1 v.2.1))):=by
 rintro⟨a,c,_⟩ _ ⟨_,rfl,⟨b_1,_,rfl,b,rfl⟩⟩;exact⟨rfl,λh=>bR (g:=oW) (n:=2) (bs:=[.z (eT eS a),lend b_1]) (Rz a c (lN b)) h⟩
def dU(b:dH):(O AZ):=(let q1:=b;(let c:=(aJ fuel b [] (Z []) ((jk q1.2.1)+1));(wK q1.1 ((q1.2.1.filter λa:aC=>(!lO a (c.getD default))).map λa:aC=>a))))
def qg(b:dH):Prop:=(let q1:=b;(((jo q1.2.1)/\(cj fuel b [] (Z []) ((jk q1.2.1)+1)))/\(let c:=(aJ fuel b [] (Z []) ((jk q1.2.1)+1));((q1.2.1.length<=100000/\(∀a∈q1.2.1,c.isSome=true))/\(rG q1.1 ((q1.2.1.filter λa:aC=>(!lO a (c.getD default))).map λa:aC=>a))))))
theorem Vz(a:dH):RP tY [Z (zE bU a),U,U,U,U] (λr=>Ap.rt ((oE (eT eS)) r)) (dU a) (Z (qg a)):=R.tp (Kc (ao 0 (zE bU) a S) _ (λ_=>S) λq1=>(bT 4 (An (nT fuel) (cJ (ao 0 (zE bU) a S) (oO (jt (yd (ji (eX aH) (z4 S)))) (cJ (J1 (yd (ji (eX aH) (z4 S)))) (cJ (nq (lD (An Gz (cJ (ao 2 (zE (eT aH)) q1.2.1 S) aW)) (B6 1))) aW))))) (λ_=>S) λc=>(cV (λr=>r) (An RB (cJ (ao 1 (zE (eT eS)) q1.1 S) (oO (jt (yd (Il (Er (ao 2 (zE (eT aH)) q1.2.1 S)) _ (λ_=>S) (λb:aC=>(cI (Kh () (ao 1 (zE aH) b S) (jt (yc (ao 0 (zE (eO (eL aH))) c S)))))) (λb:aC=>(ao 1 (zE aH) b S))))) aW))) (λ_=>S) λ_=>S)))
theorem VB:∀v bs,(aZ bU aN) v bs->bs.length=1/\(hold (Z (qg v.1))->p8 (bs.map lend)=Z ((oE (eT eS)) (dU v.1))):=by
 rintro⟨a,_⟩ _ ⟨_,rfl,rfl⟩;exact⟨rfl,λh=>bR (g:=tY) (n:=5) (bs:=[.z (bU a)]) (Vz a) h⟩
def jy(b:O AZ):(O (AJ×Int)):=(EJ ((yC b).flatMap λq1:IP=>(q1.2.map λa:AJ=>(a,q1.1))))
def wL(b:O AZ):Prop:=((∀q1∈(yC b),(∀a∈q1.2,True))/\((yC b).flatMap λq1:IP=>(q1.2.map λa:AJ=>(a,q1.1))).length<1000)
theorem X8(a:O AZ)(b:Lp gY (a.map (eT eS))):RP vO [Z gY] (λr=>Ap.rt (mE eI r)) (jy a) (Z (wL a)):=R.tp (cV (λr=>r) (UY (Me (SW (gU 0 (eT eS) a b S)) _ (λ_=>S) (λq1:IP=>(MW (sN (ao 1 (zE (eT eS)) q1.2 S)) _ (λ_=>S) (λc:AJ=>(Zz (ao 2 (zE eS) c S) (ao 0 (zE eI) q1.1 S))))))) (λ_=>S) λ_=>S)
theorem Yc:∀v bs,(aL (eT eS) aN) v bs->bs.length=1/\(hold (Z (wL v.1))->vP (bs.map lend)=Z ((mE eI) (jy v.1))):=by
 rintro⟨b,_⟩ _ ⟨gY,_,rfl,a,rfl⟩;exact⟨rfl,λh=>bR (g:=vO) (n:=1) (bs:=[lend gY]) (X8 b (lN a)) h⟩
def dW(d:O AZ)(c:O aC):(O aC):=(let b:=(jy d);((c.filter λa:aC=>(decide ((look b a.2.1)=(look b a.2.2.1)))).map λa:aC=>a))
def lB(d:O AZ)(c:O aC):Prop:=((wL d)/\(let b:=(jy d);(c.length<=100000/\(∀a∈c,(has b a.2.1=true/\has b a.2.2.1=true)))))
theorem Fo(b:O AZ)(e:Lp gY (b.map (eT eS)))(c:O aC):RP kh [Z gY,Z ((zE (eT aH)) c),U] (λr=>Ap.rt (oE aH r)) (dW b c) (Z (lB b c)):=R.tp (bT 2 (An Yc (oO (gU 0 (eT eS) b e S) aW)) (λ_=>S) λd=>(cV (λr=>r) (Il (Er (ao 1 (zE (eT aH)) c S)) _ (λ_=>S) (λa:aC=>(cI (BU () (mC (ao 0 (nE eI) d S) (gW (ao 1 (zE aH) a S) (λq=>q.2.1) eS 1 λ_=>S)) (mC (ao 0 (nE eI) d S) (gW (ao 1 (zE aH) a S) (λq=>q.2.2.1) eS 2 λ_=>S))))) (λa:aC=>(ao 1 (zE aH) a S))) (λ_=>S) λ_=>S))
theorem Fp:∀v bs,(aL (eT eS) (aZ (eT aH) aN)) v bs->bs.length=2/\(hold (Z (lB v.1 v.2.1))->iY (bs.map lend)=Z ((oE aH) (dW v.1 v.2.1))):=by
 rintro⟨c,a,_⟩ _ ⟨gY,_,rfl,b,⟨_,rfl,rfl⟩⟩;exact⟨rfl,λh=>bR (g:=kh) (n:=3) (bs:=[lend gY,.z (eT aH a)]) (Fo c (lN b) a) h⟩
def rH(b:Unit)(a:dH):Unit:=r9
def Du(b:Unit)(a:dH):Prop:=(pB a)
theorem RD(vx:dH)(c:O dH)(b:Unit)(a:dH):RP vQ [Z (zE bU vx),Z (lE bU c),Z (zE bU a),U,U] (λs=>Ap.nx ((λb:Unit=>[Z (zE bU vx),Z (lE bU c),U,U,U]) s)) (rH  b a) (Z (Du  b a)):=R.tp (bC (Tk (An Fj (cJ (ao 2 (zE bU) a S) aW)) (bY (bx r9 S))))
def iu(vx:dH):MX:=(let e:=(jg vx);(let d:Unit:=(e.foldl (λ(d:Unit) (a:dH)=>(rH  d a)) r9);(let c:=(jN (e.flatMap λa:dH=>((dU a).map λf:AZ=>f)));(let b:=(f9 (dW c vx.2.1));(c,b,((jk vx.2.1)-b))))))
def pC(vx:dH):Prop:=((sV vx)/\(let c:=(jg vx);(j8 (λ(d:Unit) (a:dH)=>(rH  d a)) (λ(d:Unit) (a:dH)=>Z (Du  d a)) c r9/\(let d:Unit:=(c.foldl (λ(d:Unit) (a:dH)=>(rH  d a)) r9);((((∀a∈c,((qg a)/\(∀b∈(dU a),True)))/\(c.flatMap λa:dH=>((dU a).map λb:AZ=>b)).length<=100000)/\((c.flatMap λa:dH=>((dU a).map λb:AZ=>b)).length<64/\∀x∈(c.flatMap λa:dH=>((dU a).map λb:AZ=>b)),x.isEmpty=false))/\(let e:=(jN (c.flatMap λa:dH=>((dU a).map λb:AZ=>b)));(((lB e vx.2.1)/\(gj (dW e vx.2.1)))/\(let f:=(f9 (dW e vx.2.1));(jo vx.2.1)))))))))
theorem dP(vx:dH):RP rK [Z (zE bU vx),U,U,U,U] (λr=>Ap.rt (zE U6 r)) (iu vx) (Z (pC vx)):=R.tp (bT 1 (An Lq (cJ (ao 0 (zE bU) vx S) aW)) (λ_=>S) λa=>(yr 1 a (Op S) (λe:Unit=>[Z (zE bU vx),Z (lE bU a),U,U,U]) r9 S _ (λ_ _=>S) (λ(e:Unit) (b:dH)=>(RD vx a e b).r) λe=>(bT 3 (Im (d7 (gX (Me (qm (iU (ao 1 (lE bU) a S))) _ (λ_=>S) (λb:dH=>(MW (HH (An VB (cJ (ao 0 (zE bU) b S) aW))) _ (λ_=>S) (λf:AZ=>(ao 1 (zE (eT eS)) f S)))))))) (λ_=>S) λd=>(bT 4 (An uD (oO (jt (yd (An Fp (oO (iU (ao 3 (lE (eT eS)) d S)) (cJ (gW (ao 0 (zE bU) vx S) (λq=>q.2.1) (eT aH) 1 λ_=>S) aW))))) aW)) (λ_=>S) λc=>(UN 3 [Z (zE bU vx),Z (lE bU a),U,Z ((zE (eL (eT eS))) d),Z (zE eI c)] S (cV (λr=>r) (J6 (ao 3 (zE (eL (eT eS))) d S) (ao 4 (zE eI) c S) (Zo (An Gz (cJ (gW (ao 0 (zE bU) vx S) (λq=>q.2.1) (eT aH) 1 λ_=>S) aW)) (ao 4 (zE eI) c S))) (λ_=>S) λ_=>S))))))
theorem Fq:∀v bs,(aZ bU aN) v bs->bs.length=1/\(hold (Z (pC v.1))->fP (bs.map lend)=Z ((zE U6) (iu v.1))):=by
 rintro⟨vx,_⟩ _ ⟨_,rfl,rfl⟩;exact⟨rfl,λh=>bR (g:=rK) (n:=5) (bs:=[.z (bU vx)]) (dP vx) h⟩
def dX(b:O AZ)(c:AZ):Bool:=(if((!true)||(!((b.map λa:AZ=>((iR (eT eS a))&&(decide ((0:Int)<(a.length:Int))))).all id)))=true then false else(if(!decide (b=(jN (b.map λa:AZ=>(iT a)))))=true then false else(decide ((iT (b.map λa:AZ=>a).flatten)=(iT c)))))
def gJ(b:O AZ)(c:AZ):Prop:=(((!true)=false->b.length<=100000)/\(((!true)||(!((b.map λa:AZ=>((iR (eT eS a))&&(decide ((0:Int)<(a.length:Int))))).all id)))=false->(((b.length<=100000/\(∀a∈b,a.length<64))/\((b.map λa:AZ=>(iT a)).length<64/\∀x∈(b.map λa:AZ=>(iT a)),x.isEmpty=false))/\((!decide (b=(jN (b.map λa:AZ=>(iT a)))))=false->(((b.length<=100000/\((b.map λa:AZ=>a).length<=1000/\(b.map λa:AZ=>a).flatten.length<=100000))/\(b.map λa:AZ=>a).flatten.length<64)/\c.length<64)))))
theorem Ft(a:O AZ)(c:Lp gY (a.map (eT eS)))(d:AZ):RP kj [Z gY,Z ((zE (eT eS)) d)] (λr=>Ap.rt (zE eB r)) (dX a d) (Z (gJ a d)):=R.tp (qJ (J5 (Gj (Us (X2 BS (gU 0 (eT eS) a c S) true λ_=>S))) (Gj (Us (OF (d7 (jH (qm (gU 0 (eT eS) a c S)) _ (λ_=>S) (λb:AZ=>(LA (Zt iR (ao 0 (zE (eT eS)) b S)) (G' (Xl (ao 0 (zE (eT eS)) b S)) (B6 0)))) λ_=>S)))))) (bC (cV (λr=>r) (Cp (.bl false) eB false S) (λ_=>S) λ_=>S)) (bY (qJ (cI (Zr () (gU 0 (eT eS) a c S) (d7 (Im (d7 (Ab (qm (gU 0 (eT eS) a c S)) _ (λ_=>S) (λb:AZ=>(qP (d7 (UG (ao 0 (zE (eT eS)) b S))))))))))) (bC (cV (λr=>r) (Cp (.bl false) eB false S) (λ_=>S) λ_=>S)) (bY (cV (λr=>r) (IF () (d7 (Ik (iU (WG (d7 (jH (qm (gU 0 (eT eS) a c S)) _ (λ_=>S) (λb:AZ=>(yd (ng (ao 0 (zE (eT eS)) b S)))) λ_=>S)))))) (d7 (UG (ao 1 (zE (eT eS)) d S)))) (λ_=>S) λ_=>S)))))
theorem uV:∀v bs,(aL (eT eS) (aZ (eT eS) aN)) v bs->bs.length=2/\(hold (Z (gJ v.1 v.2.1))->fu (bs.map lend)=Z ((zE eB) (dX v.1 v.2.1))):=by
 rintro⟨c,a,_⟩ _ ⟨gY,_,rfl,b,⟨_,rfl,rfl⟩⟩;exact⟨rfl,λh=>bR (g:=kj) (n:=2) (bs:=[lend gY,.z (eT eS a)]) (Ft c (lN b) a) h⟩
def lC(b:O AZ)(q1:aC):(O AZ):=(let d:=(at' ((b.filter λa:AZ=>(decide (q1.2.1∈a))).map λa:AZ=>a) 0);(let c:=(at' ((b.filter λa:AZ=>(decide (q1.2.2.1∈a))).map λa:AZ=>a) 0);(let b:(O AZ):=(if(!decide (d=c))=true then(let b:=(((b.filter λa:AZ=>(!lO a [d,c])).map λa:AZ=>a)++[(iT (d++c))]);b)else b);b)))
def uW(b:O AZ)(q1:aC):Prop:=((b.length<=100000/\In ((b.filter λa:AZ=>(decide (q1.2.1∈a))).map λa:AZ=>a).length 0)/\(let d:=(at' ((b.filter λa:AZ=>(decide (q1.2.1∈a))).map λa:AZ=>a) 0);((b.length<=100000/\In ((b.filter λa:AZ=>(decide (q1.2.2.1∈a))).map λa:AZ=>a).length 0)/\(let c:=(at' ((b.filter λa:AZ=>(decide (q1.2.2.1∈a))).map λa:AZ=>a) 0);((!decide (d=c))=true->((b.length<=100000/\(Ar (d.length+c.length)/\(d++c).length<64))/\Ar (((b.filter λa:AZ=>(!lO a [d,c])).map λa:AZ=>a).length+[(iT (d++c))].length)))))))
theorem Fv(e:AZ)(f:O aC)(g:Lp b_1 (f.map aH))(a:O AZ)(q1:aC):RP sI [Z ((zE (eT eS)) e),Z b_1,Z ((oE (eL eS)) a),Z ((zE eI) q1.1),Z ((zE eS) q1.2.1),Z ((zE eS) q1.2.2.1),Z ((zE eI) q1.2.2.2),U,U] (λs=>Ap.nx ((λa:(O AZ)=>[Z ((zE (eT eS)) e),Z b_1,Z ((oE (eL eS)) a),U,U,U,U,U,U]) s)) (lC  a q1) (Z (uW  a q1)):=R.tp (bC (bT 7 (lF (d7 (iB (qm (iU (ao 2 (lE (eL eS)) a S))) _ (λ_=>S) (λb:AZ=>(cI (Ha (ao 0 (zE eS) q1.2.1 S) (jt (ao 1 (zE (eL eS)) b S))))) (λb:AZ=>(ao 1 (zE (eL eS)) b S)) (λ_=>S) λ_=>S)) (B6 0)) (λ_=>S) λd=>(bC (bT 8 (lF (d7 (iB (qm (iU (ao 2 (lE (eL eS)) a S))) _ (λ_=>S) (λb:AZ=>(cI (Ha (ao 0 (zE eS) q1.2.2.1 S) (jt (ao 1 (zE (eL eS)) b S))))) (λb:AZ=>(ao 1 (zE (eL eS)) b S)) (λ_=>S) λ_=>S)) (B6 0)) (λ_=>S) λc=>(bC (yq (λa:(O AZ)=>[Z ((zE (eT eS)) e),Z b_1,Z ((oE (eL eS)) a),Z ((zE eI) q1.1),Z ((zE eS) q1.2.1),Z ((zE eS) q1.2.2.1),Z ((zE eI) q1.2.2.2),Z ((zE (eL eS)) d),Z ((zE (eL eS)) c)]) (cI (Zr () (jt (ao 7 (zE (eL eS)) d S)) (jt (ao 8 (zE (eL eS)) c S)))) (bC (bT 2 (vC (d7 (iB (qm (iU (ao 2 (lE (eL eS)) a S))) _ (λ_=>S) (λb:AZ=>(cI (Kh () (ao 2 (zE (eL eS)) b S) (d7 (ji (dY (ao 0 (zE (eL eS)) d S) (dY (ao 1 (zE (eL eS)) c S) (eX (eL eS)))) (z4 S)))))) (λb:AZ=>(ao 2 (zE (eL eS)) b S)) (λ_=>S) λ_=>S)) (d7 (ji (dY (yd (Ik (d7 (vC (jt (ao 7 (zE (eL eS)) d S)) (jt (ao 8 (zE (eL eS)) c S)))))) (eX (eL eS))) (z4 S)))) (λ_=>S) λa=>(bY (bx a S)))) (bY (bx a S)) λa=>(bY (bx a S))))))))
def lV(d:AZ)(c:O aC):(O AZ):=(let a:=(d.map λb:AJ=>[b]);(let a:(O AZ):=(c.foldl (λ(a:O AZ) (q1:aC)=>(lC  a q1)) a);(jN (a.map λe:AZ=>e))))
def pQ(d:AZ)(c:O aC):Prop:=(d.length<=100000/\(let a:=(d.map λe:AJ=>[e]);(j8 (λ(a:O AZ) (q1:aC)=>(lC  a q1)) (λ(a:O AZ) (q1:aC)=>Z (uW  a q1)) c a/\(let a:(O AZ):=(c.foldl (λ(a:O AZ) (q1:aC)=>(lC  a q1)) a);(a.length<=100000/\((a.map λb:AZ=>b).length<64/\∀x∈(a.map λb:AZ=>b),x.isEmpty=false))))))
theorem Np(b:AZ)(c:O aC)(d:Lp b_1 (c.map aH)):RP mO [Z ((zE (eT eS)) b),Z b_1,U,U,U,U,U,U,U] (λr=>Ap.rt ((oE (eT eS)) r)) (lV b c) (Z (pQ b c)):=R.tp (bT 2 (jH (Er (ao 0 (zE (eT eS)) b S)) _ (λ_=>S) (λe:AJ=>(yd (ji (dY (ao 0 (zE eS) e S) (eX eS)) (z4 S)))) λ_=>S) (λ_=>S) λa=>(yr 1 c (QL d S) (λa:(O AZ)=>[Z ((zE (eT eS)) b),Z b_1,Z ((oE (eL eS)) a),U,U,U,U,U,U]) a S _ (λ_ _=>S) (λ(a:O AZ) (q1:aC)=>(Fv b c d a q1).r) λa=>(cV (λr=>r) (Im (d7 (jH (qm (iU (ao 2 (lE (eL eS)) a S))) _ (λ_=>S) (λf:AZ=>(qP (jt (ao 0 (zE (eL eS)) f S)))) λ_=>S))) (λ_=>S) λ_=>S)))
theorem Nq:∀v bs,(aZ (eT eS) (aL aH aN)) v bs->bs.length=2/\(hold (Z (pQ v.1 v.2.1))->jQ (bs.map lend)=Z ((oE (eT eS)) (lV v.1 v.2.1))):=by
 rintro⟨a,c,_⟩ _ ⟨_,rfl,⟨b_1,_,rfl,b,rfl⟩⟩;exact⟨rfl,λh=>bR (g:=mO) (n:=9) (bs:=[.z (eT eS a),lend b_1]) (Np a c (lN b)) h⟩
def lW(b:dH)(c:Unit)(a:AZ):qQ (Unit) Bool:=(if((!decide ((cX a b.2.2)=([]:O dF)))||(!decide (((lV a (aU a b.2.1)).length:Int)=1)))=true then(qQ.rt false)else(qQ.nx r9))
def uF(b:dH)(c:Unit)(a:AZ):Prop:=((nO a b.2.2)/\((!decide ((cX a b.2.2)=([]:O dF)))=false->((nM a b.2.1)/\(pQ a (aU a b.2.1)))))
theorem Nr(a:dH)(d:O AZ)(e:Lp b_1 (d.map (eT eS)))(c:Unit)(b:AZ):RP zQ [Z (zE bU a),Z b_1,Z ((zE (eT eS)) b)] (cC (λc:Unit=>[Z (zE bU a),Z b_1,U]) (zE eB)) (lW a c b) (Z (uF a c b)):=R.tp (bC (qJ (J5 (cI (Zr () (d7 (An yH (cJ (ao 2 (zE (eT eS)) b S) (cJ (gW (ao 0 (zE bU) a S) (λq=>q.2.2) (eT fL) 2 λ_=>S) aW)))) (d7 (ji (eX fL) (z4 S))))) (cI (Xi () (D5 (d7 (An Nq (cJ (ao 2 (zE (eT eS)) b S) (oO (jt (yd (An wC (cJ (ao 2 (zE (eT eS)) b S) (cJ (gW (ao 0 (zE bU) a S) (λq=>q.2.1) (eT aH) 1 λ_=>S) aW))))) aW))))) (B6 1)))) (bC (cV .rt (Cp (.bl false) eB false S) (λ_=>S) λ_=>S)) (bY (bY (bx (.nx r9) S)))))
def sY(b:dH)(d:O AZ):Bool:=(BN (sy (λ(a:Unit) (c:AZ)=>((lW b a c):qQ (Unit) Bool)) d r9) (λr=>r) λa:Unit=>true)
def wM(c:dH)(d:O AZ):Prop:=(Gm (λ(a:Unit) (b:AZ)=>((lW c a b):qQ (Unit) Bool)) (λ(a:Unit) (b:AZ)=>Z (uF c a b)) d r9/\(yX (sy (λ(a:Unit) (b:AZ)=>((lW c a b):qQ (Unit) Bool)) d r9) λa:Unit=>True))
theorem Yd(a:dH)(b:O AZ)(d:Lp b_1 (b.map (eT eS))):RP vR [Z (zE bU a),Z b_1,U] (λr=>Ap.rt (zE eB r)) (sY a b) (Z (wM a b)):=R.tp (Zw 1 b (QL d S) (λc:Unit=>[Z (zE bU a),Z b_1,U]) r9 S _ (λ_ _=>S) (λ(c:Unit) (e:AZ)=>((Nr a b d c e).r:R _ _ (cC (λc:Unit=>[Z (zE bU a),Z b_1,U]) (zE eB)))) (λr=>r) (λ_=>S) λc=>(cV (λr=>r) (Cp (.bl true) eB true S) (λ_=>S) λ_=>S))
theorem Ye:∀v bs,(aZ bU (aL (eT eS) aN)) v bs->bs.length=2/\(hold (Z (wM v.1 v.2.1))->vU (bs.map lend)=Z ((zE eB) (sY v.1 v.2.1))):=by
 rintro⟨a,c,_⟩ _ ⟨_,rfl,⟨b_1,_,rfl,b,rfl⟩⟩;exact⟨rfl,λh=>bR (g:=vR) (n:=3) (bs:=[.z (bU a),lend b_1]) (Yd a c (lN b)) h⟩
def jY(a:Int):Bool:=((Eh (eI a))&&(!(BH (eI a))))
theorem VD(a:Int):RP tZ [Z (zE eI a)] (λr=>Ap.rt (zE eB r)) (jY a) U:=R.tp (cV (λr=>r) (LA (Zt Eh (ao 0 (zE eI) a S)) (oT (Zt BH (ao 0 (zE eI) a S)))) (λ_=>S) λ_=>S)
theorem GJ:∀v bs,(aZ eI aN) v bs->bs.length=1/\(hold (U)->qb (bs.map lend)=Z ((zE eB) (jY v.1))):=by
 rintro⟨a,_⟩ _ ⟨_,rfl,rfl⟩;exact⟨rfl,λh=>bR (g:=tZ) (n:=1) (bs:=[.z (eI a)]) (VD a) h⟩
def jz(a:dH)(b:O AZ):Int:=(b.map λd:AZ=>((aU d a.2.1).map λc:aC=>c.1).sum).sum
def nU(b:dH)(c:O AZ):Prop:=((c.length<=100000/\(∀a∈c,(((nM a b.2.1)/\(aU a b.2.1).length<=100000)/\Uo ((aU a b.2.1).map λd:aC=>d.1)=true)))/\Uo (c.map λa:AZ=>((aU a b.2.1).map λd:aC=>d.1).sum)=true)
theorem RG(a:dH)(b:O AZ)(c:Lp b_1 (b.map (eT eS))):RP oU [Z (zE bU a),Z b_1] (λr=>Ap.rt (zE eI r)) (jz a b) (Z (nU a b)):=R.tp (cV (λr=>r) (Cv (d7 (Ab (qm (gU 1 (eT eS) b c S)) _ (λ_=>S) (λe:AZ=>(nq (Cv (d7 (jH (qm (d7 (An wC (cJ (ao 1 (zE (eT eS)) e S) (cJ (gW (ao 0 (zE bU) a S) (λq=>q.2.1) (eT aH) 1 λ_=>S) aW))))) _ (λ_=>S) (λd:aC=>(gW (ao 0 (zE aH) d S) (λq=>q.1) eI 0 λ_=>S)) λ_=>S)))))))) (λ_=>S) λ_=>S)
theorem RJ:∀v bs,(aZ bU (aL (eT eS) aN)) v bs->bs.length=2/\(hold (Z (nU v.1 v.2.1))->mF (bs.map lend)=Z ((zE eI) (jz v.1 v.2.1))):=by
 rintro⟨a,c,_⟩ _ ⟨_,rfl,⟨b_1,_,rfl,b,rfl⟩⟩;exact⟨rfl,λh=>bR (g:=oU) (n:=2) (bs:=[.z (bU a),lend b_1]) (RG a c (lN b)) h⟩
def VF(g:B9):Bool:=(let d:=(bB (bJ g 0) 9);(let j:=(1+((at' d 6)%7));let o:=(eI ((at' d 7)%12));let e:=j;let f:=o;(let h:Int×Dt:=(if(decide ((((at' d 6) / (7:Int))%8)=3))=true then(let y1:=(8+0);let y2:=(eI (12+0));let e:=y1;let f:=y2;(e,f))else(e,f));(let b:=(kZ g 0 h.1 (F2 h.2) ((at' d 8)%5));(let c:=b;(let m:=((fG c.1 c.2.1).map λn:AZ=>(jx b n)).sum;(let i:=(iu b);(if((!(iR (U6 i)))||(!decide ((3:Int)=3)))=true then false else(let a:=i;(if((!(dX a.1 c.1))||((!(sY b a.1))||((!(jY a.2.1))||(!(jY a.2.2)))))=true then false else(if((!decide (a.2.1=(jz b a.1)))||((!decide (a.2.1=m))||(!decide (a.2.2=((c.2.1.map λl:aC=>l.1).sum-a.2.1)))))=true then false else((decide (((iu b).2.1,(iu b).2.2)=(a.2.1,a.2.2)))&&(dX (iu b).1 c.1)))))))))))))
def VG(f:B9):Prop:=(((jW f 0)/\(iJ (bJ f 0) 9))/\(let d:=(bB (bJ f 0) 9);((In d.length 6/\In d.length 7)/\(let n:=(1+((at' d 6)%7));let o:=(eI ((at' d 7)%12));let h:=n;let j:=o;(In d.length 6/\(let e:Int×Dt:=(if(decide ((((at' d 6) / (7:Int))%8)=3))=true then(let y1:=(8+0);let y2:=(eI (12+0));let h:=y1;let j:=y2;(h,j))else(h,j));(((e.2=eI (F2 e.2)/\In d.length 8)/\(rC f 0 e.1 (F2 e.2) ((at' d 8)%5)))/\(let c:=(kZ f 0 e.1 (F2 e.2) ((at' d 8)%5));(let b:=c;(((((lR b.1 b.2.1)/\(fG b.1 b.2.1).length<=100000)/\(∀g∈(fG b.1 b.2.1),(sU c g)))/\Uo ((fG b.1 b.2.1).map λg:AZ=>(jx c g))=true)/\(let l:=((fG b.1 b.2.1).map λg:AZ=>(jx c g)).sum;((pC c)/\(let m:=(iu c);(((!(iR (U6 m)))||(!decide ((3:Int)=3)))=false->(let a:=m;(((gJ a.1 b.1)/\((!(dX a.1 b.1))=false->(wM c a.1)))/\(((!(dX a.1 b.1))||((!(sY c a.1))||((!(jY a.2.1))||(!(jY a.2.2)))))=false->(((nU c a.1)/\((!decide (a.2.1=(jz c a.1)))=false->((!decide (a.2.1=l))=false->(b.2.1.length<=100000/\Uo (b.2.1.map λi:aC=>i.1)=true))))/\(((!decide (a.2.1=(jz c a.1)))||((!decide (a.2.1=l))||(!decide (a.2.2=((b.2.1.map λi:aC=>i.1).sum-a.2.1)))))=false->((pC c)/\((decide (((iu c).2.1,(iu c).2.2)=(a.2.1,a.2.2)))=true->((pC c)/\(gJ (iu c).1 b.1)))))))))))))))))))))))
theorem tw(e:B9)(j:Lp gY (e.map eI)):RP ZM [Z gY,U,U,U,U,U,U,U,U,U,U,U] (λr=>Ap.rt (zE eB r)) (VF e) (Z (VG e)):=R.tp (bT 1 (An pN (cJ (nq (An wB (oO (gU 0 eI e j S) (cJ (B6 0) aW)))) (cJ (B6 9) aW))) (λ_=>S) λd=>(Zu 2 3 (nq (lD (B6 1) (ig (lF (iU (ao 1 (lE eI) d S)) (B6 6)) 7 ()))) (PP (ig (lF (iU (ao 1 (lE eI) d S)) (B6 7)) 12 ())) λg h=>(yq (λf:Int×Dt=>[Z gY,Z (oE eI d),Z ((zE eI) f.1),Z ((zE eD) f.2),U,U,U,U,U,U,U,U]) (cI (BU () (ig (Ij (lF (iU (ao 1 (lE eI) d S)) (B6 6)) 7 ()) 8 ()) (B6 3))) (bC (Zu 2 3 (nq (lD (B6 8) (B6 0))) (PP (nq (lD (B6 12) (B6 0)))) λg h=>(bY (bx (g,h) S)))) (bY (bx (g,h) S)) λf=>(bT 4 (An Ro (oO (gU 0 eI e j S) (cJ (B6 0) (cJ (ao 2 (zE eI) f.1 S) (cJ (To (ao 3 (zE eD) f.2 S) F2 eI) (cJ (ig (lF (iU (ao 1 (lE eI) d S)) (B6 8)) 5 ()) aW)))))) (λ_=>S) λb=>(Kc (ao 4 (zE bU) b S) _ (λ_=>S) λc=>(bT 7 (Cv (d7 (Ab (qm (d7 (An M8 (cJ (ao 5 (zE (eT eS)) c.1 S) (cJ (ao 3 (zE (eT aH)) c.2.1 S) aW))))) _ (λ_=>S) (λn:AZ=>(nq (An XM (cJ (ao 0 (zE bU) b S) (cJ (ao 1 (zE (eT eS)) n S) aW)))))))) (λ_=>S) λm=>(bT 8 (An Fq (cJ (ao 4 (zE bU) b S) aW)) (λ_=>S) λi=>(qJ (J5 (Gj (Us (Zt iR (ao 8 (zE U6) i S)))) (cI (Xi () (e7 (ao 8 (zE U6) i S) 3 λ_=>⟨_,rfl,rfl⟩) (B6 3)))) (bC (cV (λr=>r) (Cp (.bl false) eB false S) (λ_=>S) λ_=>S)) (bY (Kc (ao 8 (zE U6) i S) _ (λ_=>S) λa=>(qJ (J5 (Gj (Us (An uV (oO (jt (ao 9 (zE (eL (eT eS))) a.1 S)) (cJ (ao 5 (zE (eT eS)) c.1 S) aW))))) (J5 (Gj (Us (An Ye (cJ (ao 4 (zE bU) b S) (oO (jt (ao 9 (zE (eL (eT eS))) a.1 S)) aW))))) (J5 (Gj (Us (An GJ (cJ (ao 10 (zE eI) a.2.1 S) aW)))) (Gj (Us (An GJ (cJ (ao 11 (zE eI) a.2.2 S) aW))))))) (bC (cV (λr=>r) (Cp (.bl false) eB false S) (λ_=>S) λ_=>S)) (bY (qJ (J5 (cI (Xi () (ao 10 (zE eI) a.2.1 S) (An RJ (cJ (ao 4 (zE bU) b S) (oO (jt (ao 9 (zE (eL (eT eS))) a.1 S)) aW))))) (J5 (cI (Xi () (ao 10 (zE eI) a.2.1 S) (ao 7 (zE eI) m S))) (cI (Xi () (ao 11 (zE eI) a.2.2 S) (Zo (Cv (d7 (jH (Er (ao 3 (zE (eT aH)) c.2.1 S)) _ (λ_=>S) (λl:aC=>(gW (ao 0 (zE aH) l S) (λq=>q.1) eI 0 λ_=>S)) λ_=>S))) (ao 10 (zE eI) a.2.1 S)))))) (bC (cV (λr=>r) (Cp (.bl false) eB false S) (λ_=>S) λ_=>S)) (bY (cV (λr=>r) (LA (BU () (ln (An Fq (cJ (ao 4 (zE bU) b S) aW)) (λq=>(q.2.1,q.2.2)) nI (Z 1) U S S λ_=>S) (OR (ao 10 (zE eI) a.2.1 S) (ao 11 (zE eI) a.2.2 S))) (An uV (oO (jt (gW (An Fq (cJ (ao 4 (zE bU) b S) aW)) (λq=>q.1) (eL (eT eS)) 0 λ_=>S)) (cJ (ao 5 (zE (eT eS)) c.1 S) aW)))) (λ_=>S) λ_=>S)))))))))))))))
theorem Ll:∀v bs,(aL eI aN) v bs->bs.length=1/\(hold (Z (VG v.1))->F_law (bs.map lend)=Z ((zE eB) (VF v.1))):=by
 rintro⟨b,_⟩ _ ⟨gY,_,rfl,a,rfl⟩;exact⟨rfl,λh=>bR (g:=ZM) (n:=12) (bs:=[lend gY]) (tw b (lN a)) h⟩
theorem P5(h:∀a:O Int,a.length<=63->VG a/\VF a=true):(∀a:O Int,a.length<=63->F_law [.z (.lst (a.map .int))]=Z (.z (.bl true)))/\∀a:O Int,a.length<=63->F_law [.l (a.map .int)]=Z (.z (.bl true)):=
 ⟨λa b=>((Ll (a,r9) [.z (.lst (a.map .int))] ⟨_,_,rfl,rfl,rfl⟩).2 (h a b).1).trans (by rw[(h a b).2]),λa b=>((Ll (a,r9) [.l (a.map .int)] ⟨_,_,rfl,rfl,rfl⟩).2 (h a b).1).trans (by rw[(h a b).2])⟩
end
theorem RK(a:O Int)(k:Int)(h0:0<=k)(h1:k<=1000):jW a k:=by
 unfold jW;exact⟨λh=>BE h0 (by simpa using h),λ_=>Pd h0 ()⟩
theorem be(k:Nat)(s:Int×O Int×Int)(d:k<1000)(h:(0<=s.1/\s.1<1999999973)/\s.2.1.length=k/\(∀x∈s.2.1,0<=x)/\0<=s.2.2):kW s k/\(0<=(c7 s k).1/\(c7 s k).1<1999999973)/\(c7 s k).2.1.length=k+1/\(∀x∈(c7 s k).2.1,0<=x)/\0<=(c7 s k).2.2:=by
 obtain⟨h1,h2,b,c⟩:=h;have a:In 2 (if(decide ((0:Int)<s.2.2))=true then(1:Int)else 0):=by split<;>exact BE () ()
 refine⟨⟨Pd h1.1 (),a,?_⟩,jO _ (),?_,?_,Int.ediv_nonneg c ()⟩
 ·show s.2.1.length<=1000000;omega
 ·show(s.2.1++[_]).length=k+1;rw[zC,h2];rfl
 ·intro x hx;rcases List.mem_append.mp hx with hx|hx
  ·exact b x hx
  ·cases ba.mp hx;have:=vG (xs:=[((((s.1*((s.1%65521)+40487))+(7*k))+5)%1999999973),(s.2.2%1000000)]) a;simp only[js,JP,or_false]at this;rcases this with e|e<;>rw[e]
   ·exact(jO _ ()).1
   ·exact(jO _ ()).1
theorem RM(c m:Int)(h0:0<=m)(h1:m<=1000):iJ c m/\(bB c m).length=m.toNat/\∀x∈bB c m,0<=x:=by
 have b:∀st a:Int,(0<=st/\st<1999999973)->0<=a->pq c m [] st a/\(kY c m [] st a).length=m.toNat/\∀x∈kY c m [] st a,0<=x:=λst a hs hd=>by
  have:=uO (P:=λs k=>Z (kW s k)) (λk s=>(0<=s.1/\s.1<1999999973)/\s.2.1.length=k/\(∀x∈s.2.1,0<=x)/\0<=s.2.2) (step:=λs k=>c7 s k) m.toNat (st,[],a) ⟨hs,rfl,λx h=>(by cases h),hd⟩ λk s d h=>be k s () h;exact⟨⟨O4 h0 (),this.1⟩,this.2.2.1,this.2.2.2.1⟩
 refine b _ _ (jO _ ()) ?_;dsimp only;split<;>(try split)<;>omega
theorem lY{m:O (AJ×α)}:has m x=true↔x∈m.map (·.1):=by
 unfold has;rw[kz,KB];constructor
 ·rintro⟨q,a,h⟩;exact⟨q,a,QA h⟩
 ·rintro⟨q,a,h⟩;exact⟨q,a,ZA h⟩
theorem Dv[Inhabited α]{pre AS:O (AJ×α)}{n:AJ}{h:α}(a:n∉pre.map (·.1)):look (pre++(n,h)::AS) n=h:=by
 unfold look;have:pre.find? (λq=>decide (q.1=n))=U:=eh.mpr λq b e=>a (List.mem_map.mpr ⟨q,b,QA e⟩);rw[List.find?_append,this];simp
theorem XL{pre AS:O (AJ×α)}{n:AJ}{h v:α}(c:n∉pre.map (·.1))(b:n∉AS.map (·.1)):put (pre++(n,h)::AS) n v=pre++(n,v)::AS:=by
 unfold put;rw[zt (lY.mpr (by simp))];have a:∀l:O (AJ×α),n∉l.map (·.1)->l.map (λq=>if q.1=n then(q.1,v)else q)=l:=λl d=>by
  conv=>rhs;rw[<-hI l]
  refine qA λq f=>?_;rw[zD λe=>d (List.mem_map.mpr ⟨q,f,e⟩)];rfl
 rw[qh,zo,a pre c,a AS b];simp
theorem Pa[Inhabited α]{m:O (AJ×α)}(h:x∈m.map (·.1)):(x,look m x)∈m:=by
 unfold look;cases a:m.find? λq=>decide (q.1=x)with
 |none=>
  obtain⟨q,b,rfl⟩:=List.mem_map.mp h;have:=eh.mp a q b;simp at this
 |some q=>
  have h1:=jV a;have h2:q.1=x:=by simpa using List.find?_some a
  show(x,q.2)∈m;rw[<-h2];exact h1
theorem Dw[Inhabited α]{m:O (AJ×α)}(nd:(m.map (·.1)).Nodup){q:AJ×α}(h:q∈m):look m q.1=q.2:=by
 obtain⟨a,AS,rfl⟩:=h9 h;have:q.1∉a.map (·.1):=λe=>by
  rw[qh,zo,kb]at nd;exact nd.2.2 _ e _ (zg ..) rfl
 exact Dv this
def mn(one a:AJ):AJ:=if Gi a one=true then a else one
def jn(one a h:AJ):AJ:=if h=one\/h=a then mn one a else h
theorem Lr(a b:AJ):mn a b=a\/mn a b=b:=by unfold mn;split;exact .inr rfl;exact .inl rfl
def jm(m:O (AJ×AJ))(one a:AJ):O (AJ×AJ):=m.map λq=>(q.1,jn one a q.2)
theorem ZR(m:O (AJ×AJ))(one a:AJ):(jm m one a).map (·.1)=m.map (·.1):=by unfold jm;rw[Q2];rfl
theorem lw{one a:AJ}(nd:(m.map (·.1)).Nodup)(h:x∈m.map (·.1)):look (jm m one a) x=jn one a (look m x):=by
 have h1:=Pa h;have:(x,jn one a (look m x))∈jm m one a:=List.mem_map.mpr ⟨_,h1,rfl⟩;exact Dw (by rw[ZR];exact nd) this
theorem C0(one a:AJ):∀(b pre:O (AJ×AJ)),((pre++b).map (·.1)).Nodup->(pre++b).length<1000 →
  j8 (λ(c:(O (AJ×AJ))) (name:AJ)=>(eU one a (mn one a) c name)) (λ(c:(O (AJ×AJ))) (name:AJ)=>Z (qF one a (mn one a) c name)) (b.map (·.1)) (pre++b) ∧
  (b.map (·.1)).foldl (λ(c:(O (AJ×AJ))) (name:AJ)=>(eU one a (mn one a) c name)) (pre++b)=pre++jm b one a
 |[],pre,_,_=>⟨trivial,rfl⟩
 |(n,h)::AS,pre,nd,hl=>by
  have f:n∉pre.map (·.1):=λe=>by
   rw[qh,zo,kb]at nd;exact nd.2.2 _ e _ (zg ..) rfl
  have i:n∉AS.map (·.1):=by
   rw[qh,zo,kb,cd]at nd;exact nd.2.1.1
  have g:has (pre++(n,h)::AS) n=true:=lY.mpr (by simp);have e:eU one a (mn one a) (pre++(n,h)::AS) n=pre++(n,jn one a h)::AS:=by
   unfold eU;dsimp only;rw[Dv f];unfold jn;by_cases q:h=one\/h=a
   ·rw[zt q,zt (by simpa using q),XL f i]
   ·rw[zD q,zD (by simpa using q)]
  have d:=C0 one a AS (pre++[(n,jn one a h)]) (by simpa using nd) (by simpa using hl);rw[ZT]at d;refine⟨⟨⟨⟨g,λ_=>g⟩,λ_=>hl⟩,?_⟩,?_⟩
  ·show j8 _ _ _ (eU one a (mn one a) (pre++(n,h)::AS) n);rw[e];exact d.1
  ·rw[zo,qr,e];rw[show pre++(n,jn one a h)::AS=pre++([(n,jn one a h)]++AS) by simp,d.2];unfold jm;simp
theorem tm(one a:AJ)(nd:(m.map (·.1)).Nodup)(b:m.length<1000):nR m one a/\nQ m one a=jm m one a:=C0 one a m [] nd b
theorem ZS:∀(a m:O (AJ×AJ)),((m++a).map (·.1)).Nodup->a.foldl (λm q=>put m q.1 q.2) m=m++a
 |[],m,_=>by simp
 |q::a,m,nd=>by
  rw[qr];have:put m q.1 q.2=m++[q]:=by
   unfold put;rw[zD];intro e;have e:=lY.mp e;rw[qh,zo,kb]at nd;exact nd.2.2 _ e _ (zg ..) rfl
  rw[this,ZS a (m++[q]) (by simpa using nd)];simp
theorem Dy(n_:AZ)(nd:n_.Nodup)(a:n_.length<1000):nP n_/\dB n_=n_.map λn=>(n,n):=by
 refine⟨⟨a,by omega⟩,?_⟩;unfold dB EJ;rw[ZS _ [] (by rw[k6,Q2];show(n_.map id).Nodup;rw[hI];exact nd)];rfl
structure Hd (n_:AZ) (m:List (Str×Str)):Prop where
 keys:m.map (·.1)=n_
 nd:n_.Nodup
 len:n_.length<1000
 mem:∀x∈n_,look m x∈n_
 idem:∀x∈n_,look m (look m x)=look m x
theorem Hd.kn(h:Hd n_ m):(m.map (·.1)).Nodup:=by rw[h.keys];exact h.nd
theorem Hd.ml(h:Hd n_ m):m.length<1000:=by rw[<-zl (f:=(·.1)),h.keys];exact h.len
theorem Hd.has(h:Hd n_ m)(hx:x∈n_):has m x=true:=lY.mpr (by rw[h.keys];exact hx)
theorem Hd.lone(nd:n_.Nodup)(b:n_.length<1000):Hd n_ (n_.map λn=>(n,n)):=by
 have k:(n_.map λn=>(n,n)).map (·.1)=n_:=by rw[Q2];show n_.map id=n_;rw[hI]
 have a:∀x∈n_,look (n_.map λn=>(n,n)) x=x:=λx hx=>Dw (q:=(x,x)) (by rw[k];exact nd) (List.mem_map.mpr ⟨x,hx,rfl⟩);exact⟨k,nd,b,λx hx=>by rw[a x hx];exact hx,λx hx=>by rw[a x hx,a x hx]⟩
theorem uX(nd:n_.Nodup)(hx:x∈n_):look (n_.map λn=>(n,n)) x=x:=
 Dw (q:=(x,x)) (by rw[Q2];show(n_.map id).Nodup;rw[hI];exact nd) (List.mem_map.mpr ⟨x,hx,rfl⟩)
theorem Hd.uo(h:Hd n_ m){one a:AJ}(hx:x∈n_):look (jm m one a) x=jn one a (look m x):=lw h.kn (by rw[h.keys];exact hx)
theorem Hd.join(h:Hd n_ m){a b:AJ}(c:a∈n_)(hb:b∈n_):Hd n_ (jm m (look m a) (look m b)):=by
 have g:=h.mem a c;have f:=h.mem b hb;refine⟨(ZR _ _ _).trans h.keys,h.nd,h.len,λx hx=>?_,λx hx=>?_⟩
 ·rw[h.uo hx];unfold jn;split
  ·rcases Lr (look m a) (look m b)with e|e<;>rw[e]<;>assumption
  ·exact h.mem x hx
 ·have d:jn (look m a) (look m b) (look m x)∈n_:=by
   unfold jn;split
   ·rcases Lr (look m a) (look m b)with e|e<;>rw[e]<;>assumption
   ·exact h.mem x hx
  rw[h.uo hx,h.uo d];unfold jn;by_cases q:look m x=look m a\/look m x=look m b
  ·rw[zt q];rcases Lr (look m a) (look m b)with e|e
   ·rw[e,h.idem a c,zt (.inl S)]
   ·rw[e,h.idem b hb,zt (.inr S)]
  ·rw[zD q,h.idem x hx,zD q]
theorem oI(a:AJ):jm m a a=m:=by
 unfold jm
 conv=>rhs;rw[<-hI m]
 refine qA λq _=>?_;unfold jn mn;have:Gi a a=false:=by simp[Gi]
 rw[this];by_cases e:q.2=a
 ·rw[zt (.inl e),zD (),<-e];rfl
 ·rw[zD (by simp[e])];rfl
abbrev d9:=Int×AJ×AJ×Int
def Rs(n_:AZ)(rs:O d9):Prop:=∀r∈rs,r.2.1∈n_/\r.2.2.1∈n_
def jb(m:O (AJ×AJ))(r:d9):O (AJ×AJ):=jm m (look m r.2.1) (look m r.2.2.1)
def hb(n_:AZ)(rs:O d9):O (AJ×AJ):=rs.foldl jb (dB n_)
theorem Fk(nd:n_.Nodup)(a:n_.length<1000):Hd n_ (dB n_):=by rw[(Dy n_ nd a).2];exact Hd.lone nd a
theorem Io(n_:AZ)(rs:O d9)(r:d9):hb n_ (rs++[r])=jb (hb n_ rs) r:=YN (l:=rs) (l':=[r])
theorem NO:∀{xs ys:AZ},xs.Nodup->(∀x∈xs,x∈ys)->xs.length<=ys.length
 |[],_,_,_=>QP _
 |x::xs,ys,nd,h=>by
  obtain⟨b,c⟩:=cd.mp nd;have hx:=h x (zg ..);have:=NO (ys:=ys.erase x) c λz a=>(kK (λe:z=x=>b (e▸a))).mpr (h z (zi _ a));rw[YU hx]at this;have:=kR hx;rw[ZI];omega
theorem Ls(a:AJ):pF a a:=by unfold pF;rw[ltCps_eq];simp
theorem Pb{a b c:AJ}(h:pF a b)(h':pF b c):pF a c:=by
 unfold pF at *
 rw[ltCps_eq]at *
 simp only[JU]at *
 exact nl (α:=Nat) h h'
theorem M3(a b:AJ):pF (mn a b) a/\pF (mn a b) b:=by
 unfold mn;by_cases h:Gi b a=true
 ·rw[zt h];exact⟨((C8 b a).mp h).1,Ls b⟩
 ·rw[zD h];refine⟨Ls a,?_⟩;have h:Gi b a=false:=by simpa using h
  unfold Gi at h;unfold pF;rw[ltCps_eq];exact h
def D9(n_:AZ)(m:O (AJ×AJ)):Prop:=∀x∈n_,pF (look m x) x
theorem RE(nd:n_.Nodup)(a:n_.length<1000):D9 n_ (dB n_):=λx hx=>by
 rw[(Dy n_ nd a).2,uX nd hx];exact Ls x
theorem D9.jb(l:D9 n_ m)(h:Hd n_ m)(r:d9):D9 n_ (jb m r):=λx hx=>by
 show pF (look (jm m (look m r.2.1) (look m r.2.2.1)) x) x;rw[h.uo hx];unfold jn;split
 ·rename_i e;rcases e with e|e
  ·exact Pb (M3 _ _).1 (e▸l x hx)
  ·exact Pb (M3 _ _).2 (e▸l x hx)
 ·exact l x hx
theorem Dz{α:Type}[DecidableEq α]:∀{xs ys:O α},xs.Nodup->ys.Nodup->(∀x,x∈xs↔x∈ys)->xs.Perm ys
 |[],ys,_,_,h=>by
  cases ys with
  |nil=>exact .refl _
  |cons y ys=>exact absurd ((h y).mpr (zg ..)) (by simp)
 |x::xs,ys,nx,ny,h=>by
  obtain⟨b,c⟩:=cd.mp nx;have hx:=(h x).mp (zg ..);refine(List.Perm.cons x (Dz (ys:=ys.erase x) c (ny.erase x) λz=>?_)).trans (yf hx).symm;constructor
  ·intro a;have:z≠x:=λe=>b (e▸a);exact(kK this).mpr ((h z).mp (zi _ a))
  ·intro a;have d:z≠x:=λe=>by subst e;exact(List.Nodup.not_mem_erase ny) a
   have:=(h z).mpr (fm a);rcases List.mem_cons.mp this with e|e
   ·exact absurd e d
   ·exact e
theorem BV{α:Type}(c:Array α):∀(n:Nat) (a:Array α),((bb n c).foldl (·++·) a).size=a.size+n*c.size
 |0,a=>by simp
 |n+1,a=>by
  rw[ym,qr,BV c n,Kk,gd];omega
theorem Qk(x:AJ)(k:Int):(Txt.mul x k).length<=x.length*k.toNat:=by
 unfold Txt.mul;split
 ·exact QP _
 split
 ·rename_i h0 h;simp only[yk,beq_iff_eq]at h;rcases h with h|h
  ·subst h;simp
  ·rw[h];simp
 ·show(Array.size _)<=_;rw[BV];have:x.cps.size=x.length:=rfl;rw[this,n0];simp
def LT:AJ:=("abcdefghijklmnopqrstuvwxyz":AJ)
theorem Yg:LT.length=26:=by decide +kernel
theorem wN(h:n<=1000):Ar n:=Zs h ()
theorem Yh(xs:O Int)(l:6<=xs.length)(b:AJ)(hs:b.length<=5)(at_:Int)(k:Nat)(a:AZ)(g:k<200)(h:a.length=k/\∀n∈a,n.length<=12):nH xs LT b at_ a k/\(gM xs LT b at_ a k).length=k+1/\∀n∈gM xs LT b at_ a k,n.length<=12:=by
 have j:=Zs (slice_le b U (Z at_)) hs;have i:=Zs (slice_le b (Z at_) U) hs;have c1:=Km LT ((↑k+at' xs 2)%15);have f:=jO (k:Int) (m:=8) ();have hd:(0:Int)<=(k:Int) / 8/\(k:Int) / 8<26:=by omega
 refine⟨⟨⟨BE () (),Ad () (by rw[Yg];decide)⟩,⟨wN (),wN (by rw[yD];omega)⟩,⟨BE () (),λ_=>⟨BE hd.1 (by rw[Yg];exact hd.2),by omega,by omega,by rw[Km];decide⟩⟩,wN ()⟩,?_⟩;have d:∀n:AJ,n.length<=12->(a++[n]).length=k+1/\∀m∈a++[n],m.length<=12:=λn e=>⟨by simp[h.1],λm c=>by
  rcases List.mem_append.mp c with c|c
  ·exact h.2 m c
  ·cases ba.mp c;exact e⟩
 unfold gM;dsimp only;split
 ·exact d _ (by have:=Qk (ch LT ((k:Int) / 8)) (1+(k:Int)%8);rw[Km]at this;exact Zs this ())
 ·exact d _ (by rw[yD,yD,c1];omega)
theorem NJ(xs:AZ)(n:Nat)(h:∀x∈xs,x.length<=n):(Txt.join "" xs).length<=xs.length*n:=by
 have h1:=StrLaws.join_length_le ("":AJ) xs;rw[<-StrLaws.glued_eq_join]at h1;have h2:(xs.map (·.length)).sum<=xs.length*n:=by
  clear h1
  induction xs with
  |nil=>simp
  |cons a l c=>
   have:=c λx hx=>h x (zi _ hx);have:=h a (zg ..);simp only[zo,JY,ZI,gd];omega
 have b:("":AJ).length=0:=rfl;rw[b,Nat.mul_zero]at h1;exact Zs h1 ()
theorem ib(xs:AZ)(h:∀x∈xs,x.length=1):(xs.map (·.length)).sum=xs.length:=by
 induction xs with
 |nil=>rfl
 |cons a l b=>
  have:=b λx hx=>h x (zi _ hx);have:=h a (zg ..);simp only[zo,JY,ZI];omega
theorem rj(xs:O Int)(i:6<=xs.length)(a:Int)(h0:0<=a)(h1:a<=200):uf xs a/\(cW xs a).length=a.toNat/\∀n∈cW xs a,n.length<=12:=by
 have e:=jO (at' xs 0) (m:=6) ();have st:∀b:AJ,b.length<=5->sJ xs a LT b/\(nJ xs a LT b).length=a.toNat/\∀n∈nJ xs a LT b,n.length<=12:=λb hs=>by
  have:=uO (P:=λf k=>Z (nH xs LT b (at' xs 1%((b.length:Int)+1)) f k)) (step:=λf k=>gM xs LT b (at' xs 1%((b.length:Int)+1)) f k) (λk s=>s.length=k/\∀n∈s,n.length<=12) a.toNat [] ⟨rfl,λn h=>(by cases h)⟩ λk s d h=>Yh xs i b hs _ k s () h;exact⟨⟨⟨BE () (),by omega⟩,O4 h0 (),this.1⟩,this.2⟩
 have c1:∀x∈((rng 0 (at' xs 0%6).toNat).map λc:Int=>ch LT (at' xs c / 40%26)),x.length=1:=λx hx=>by
  obtain⟨k,_,rfl⟩:=List.mem_map.mp hx;exact Km _ _
 have:=st (Txt.join "" ((rng 0 (at' xs 0%6).toNat).map λc:Int=>ch LT (at' xs c / 40%26))) (by
  have:=NJ _ 1 λx hx=>kl (c1 x hx);rw[zl,Cr]at this;omega)
 refine⟨⟨⟨⟨⟨⟨BE () (),O4 e.1 ()⟩,by rw[Cr];omega⟩,λk d=>?_⟩,?_⟩,this.1⟩,this.2⟩
 ·obtain⟨j,l,rfl⟩:=ZJ d;exact⟨BE () (),Ad () (by rw[show("abcdefghijklmnopqrstuvwxyz":AJ)=LT from rfl,Yg];decide)⟩
 ·rw[show("abcdefghijklmnopqrstuvwxyz":AJ)=LT from rfl,ib _ c1,zl,Cr];have g:("":AJ).length=0:=rfl;rw[g];omega
def Tr(F:O d9):AJ->O d9->AJ->Prop
 |s,[],e=>s=e
 |s,r::p,e=>r∈F/\∃t,bK r s=Z t/\Tr F t p e
def Fy(F:O d9)(x y:AJ):Prop:=∃p,Tr F x p y
theorem rJ{r:d9}(h:bK r x=Z y):(r.2.1=x/\r.2.2.1=y)\/(r.2.2.1=x/\r.2.1=y):=by
 unfold bK at h;by_cases h1:r.2.1=x
 ·rw[ZA h1,zt rfl]at h;exact .inl ⟨h1,kf h⟩
 ·rw[ZN h1,zD ()]at h;by_cases h2:r.2.2.1=x
  ·rw[ZA h2,zt rfl]at h;exact .inr ⟨h2,kf h⟩
  ·rw[ZN h2,zD ()]at h;cases h
theorem ZV{r:d9}(a:r.2.1≠r.2.2.1)(h:bK r x=Z y):bK r y=Z x:=by
 unfold bK;rcases rJ h with⟨h1,h2⟩|⟨h1,h2⟩
 ·have:r.2.1≠y:=λz=>a (z.trans h2.symm);rw[ZN this,zD (),ZA h2,zt rfl,h1]
 ·rw[ZA h2,zt rfl,h1]
theorem Tr.app{F:O d9}:∀{p:O d9} {x y z:AJ} {q:O d9},Tr F x p y->Tr F y q z->Tr F x (p++q) z
 |[],_,_,_,_,h,h'=>by cases h;exact h'
 |_::_,_,_,_,_,⟨m,t,e,h⟩,h'=>⟨m,t,e,h.app h'⟩
theorem Tr.rev{F:O d9}(a:∀r∈F,r.2.1≠r.2.2.1):∀{p:O d9} {x y:AJ},Tr F x p y->Tr F y p.reverse x
 |[],_,_,h=>by cases h;rfl
 |r::p,x,y,⟨m,t,e,h⟩=>by
  rw[Ki];exact(h.rev a).app ⟨m,x,ZV (a r m) e,rfl⟩
theorem Fy.symm{F:O d9}(a:∀r∈F,r.2.1≠r.2.2.1){x y:AJ}:Fy F x y->Fy F y x:=λ⟨p,h⟩=>⟨_,h.rev a⟩
theorem Fy.trans{F:O d9}{z:AJ}:Fy F x y->Fy F y z->Fy F x z:=λ⟨_,h⟩ ⟨_,h'⟩=>⟨_,h.app h'⟩
theorem Tr.mono{F G:O d9}:∀{p:O d9} {x y:AJ},Tr F x p y->(∀r∈p,r∈G)->Tr G x p y
 |[],_,_,h,_=>h
 |r::p,_,_,⟨_,t,e,h⟩,hg=>⟨hg r (zg ..),t,e,h.mono λz a=>hg z (zi _ a)⟩
theorem Tr.mem{F:O d9}:∀{p:O d9} {x y:AJ},Tr F x p y->∀r∈p,r∈F
 |[],_,_,_,_,h=>by cases h
 |r::p,_,_,⟨m,_,_,h⟩,z,a=>by
  rcases List.mem_cons.mp a with rfl|a
  ·exact m
  ·exact h.mem z a
theorem BF{P:O α->Prop}(h0:P [])(h1:∀l x,P l->P (l++[x]))(l:O α):P l:=by
 have:∀m:O α,P m.reverse:=λm=>by
  induction m with
  |nil=>exact h0
  |cons x m a=>rw[Ki];exact h1 _ x a
 have:=this l.reverse;rwa [List.reverse_reverse]at this
theorem Hd.hb(nd:n_.Nodup)(e:n_.length<1000){rs:O d9}:Rs n_ rs->Hd n_ (hb n_ rs):=by
 induction rs using BF with
 |h0=>intro _;exact Fk nd e
 |h1 rs r f=>
  intro a;obtain⟨d,c⟩:=a r (by simp);rw[Io];exact(f λz b=>a z (zS _ b)).join d c
theorem Se(nd:n_.Nodup)(g:n_.length<1000){pre:O d9}:∀{a:O d9},Rs n_ (pre++a)->∀x∈n_,∀y∈n_,look (hb n_ pre) x=look (hb n_ pre) y->look (hb n_ (pre++a)) x=look (hb n_ (pre++a)) y:=λ{a}=>by
 induction a using BF with
 |h0=>intro _ x hx y b e;rw[qv];exact e
 |h1 a r h=>
  intro c x hx y b e;rw[<-ZT]at c ⊢;have d:Rs n_ (pre++a):=λz f=>c z (zS _ f);have H:=Hd.hb nd g d;rw[Io];unfold jb;rw[H.uo hx,H.uo b,h d x hx y b e]
theorem Lx(nd:n_.Nodup)(i:n_.length<1000){rs:O d9}(c:Rs n_ rs){r:d9}(h:r∈rs):look (hb n_ rs) r.2.1=look (hb n_ rs) r.2.2.1:=by
 obtain⟨a,d,rfl⟩:=h9 h;have j:Rs n_ ((a++[r])++d):=λz b=>c z (by simpa using b);obtain⟨g,f⟩:=c r h;have e:a++r::d=(a++[r])++d:=by simp
 rw[e];refine Se nd i j _ g _ f ?_;have H:=Hd.hb nd i (rs:=a) λz b=>c z (zS _ b);rw[Io];unfold jb;rw[H.uo g,H.uo f];unfold jn;rw[zt (.inl S),zt (.inr S)]
theorem VH{n_:AZ}(nd:n_.Nodup)(b:n_.length<1000){F:O d9}(a:Rs n_ F):∀{p:O d9} {x y:AJ},Tr F x p y->look (hb n_ F) x=look (hb n_ F) y
 |[],_,_,h=>by cases h;rfl
 |r::p,_,_,⟨m,t,e,h⟩=>by
  rw[<-VH nd b a h];have:=Lx nd b a m;rcases rJ e with⟨h1,h2⟩|⟨h1,h2⟩
  ·rw[<-h1,<-h2];exact this
  ·rw[<-h1,<-h2];exact this.symm
theorem MD(n_:AZ):∀(rs:O d9) (m:O (AJ×AJ)),Rs n_ rs->Hd n_ m →
  j8 (λ(a:(O (AJ×AJ))) (q1:aC)=>(iK a q1)) (λ(a:(O (AJ×AJ))) (q1:aC)=>Z (uz a q1)) rs m/\rs.foldl (λ(a:(O (AJ×AJ))) (q1:aC)=>(iK a q1)) m=rs.foldl jb m/\Hd n_ (rs.foldl jb m)
 |[],m,_,h=>⟨trivial,rfl,h⟩
 |r::rs,m,hr,h=>by
  obtain⟨b,hb⟩:=hr r (zg ..);obtain⟨d,e⟩:=tm (look m r.2.1) (look m r.2.2.1) h.kn h.ml;have e:iK m r=jb m r:=e;obtain⟨i1,i2,c⟩:=MD n_ rs (jb m r) (λx hx=>hr x (zi _ hx)) (h.join b hb);refine⟨⟨⟨⟨h.has b,h.has hb⟩,d⟩,?_⟩,?_,c⟩
  ·show j8 _ _ rs (iK m r);rw[e];exact i1
  ·rw[qr,qr,e];exact i2
theorem Yi(nd:n_.Nodup)(a:n_.length<1000){rs:O d9}(b:Rs n_ rs):wH n_ rs/\mJ n_ rs=hb n_ rs/\Hd n_ (hb n_ rs):=by
 obtain⟨i1,i2,c⟩:=MD n_ rs _ b (Fk nd a);exact⟨⟨(Dy n_ nd a).1,i1⟩,i2,c⟩
theorem Yj{n_:AZ}(nd:n_.Nodup)(a:n_.length<1000):∀(rs:O d9) (m:O (AJ×AJ)),Rs n_ rs->Hd n_ m->D9 n_ m->D9 n_ (rs.foldl jb m)
 |[],m,_,_,l=>l
 |r::rs,m,hr,h,l=>by
  obtain⟨b,hb⟩:=hr r (zg ..);exact Yj nd a rs (jb m r) (λx hx=>hr x (zi _ hx)) (h.join b hb) (l.jb h r)
theorem Pf(h:Hd n_ m)(z:AJ):pP m z/\cF m z=n_.filter λy=>decide (look m y=z):=by
 have l:=h.len;refine⟨⟨by rw[h.keys];omega,λy a=>h.has (by rw[<-h.keys];exact a)⟩,?_⟩;unfold cF;rw[h.keys];exact Qr _
def pt(n_:AZ)(m:O (AJ×AJ))(x:AJ):AZ:=n_.filter λy=>decide (look m y=look m x)
def st(n_:AZ)(m:O (AJ×AJ)):O AZ:=(n_.filter λw=>decide (look m w=w)).map (pt n_ m)
theorem RN(h:Hd n_ m):lq m/\dM m=st n_ m:=by
 have l:=h.len;refine⟨⟨by rw[h.keys];omega,λw a=>⟨h.has (by rw[<-h.keys];exact a),λ_=>(Pf h w).1⟩⟩,?_⟩;unfold dM st;rw[h.keys];refine qA λw a=>?_;have e:look m w=w:=QA (List.mem_filter.mp a).2;rw[(Pf h w).2];unfold pt;rw[e]
theorem Yk(r:d9):bK r r.2.1=Z r.2.2.1:=by
 unfold bK;rw[ZA rfl,zt rfl]
theorem Fy.more{F G:O d9}(h:∀r∈F,r∈G):Fy F x y->Fy G x y:=λ⟨p,t⟩=>⟨p,t.mono λz a=>h z (t.mem z a)⟩
theorem bi(nd:N.Nodup)(l:N.length<1000){rs:O d9}:Rs N rs->(∀r∈rs,r.2.1≠r.2.2.1)->∀x∈N,∀y∈N,look (hb N rs) x=look (hb N rs) y->Fy rs x y:=by
 induction rs using BF with
 |h0=>
  intro _ _ x hx y b h;have e:hb N []=dB N:=rfl;rw[e,(Dy N nd l).2,uX nd hx,uX nd b]at h;exact⟨[],h⟩
 |h1 rs r c=>
  intro j f x hx y b h;have m:Rs N rs:=λz a=>j z (zS _ a);have c:=c m λz a=>f z (zS _ a);have H:=Hd.hb nd l m;have n:r∈rs++[r]:=by simp
  obtain⟨q,o⟩:=j r n;rw[Io]at h;unfold jb at h;rw[H.uo hx,H.uo b]at h;have d:∀{u v:AJ},Fy rs u v->Fy (rs++[r]) u v:=Fy.more λz a=>zS _ a;have p:Fy (rs++[r]) r.2.1 r.2.2.1:=⟨[r],n,_,Yk r,rfl⟩;have i:∀u∈N,look (hb N rs) u=look (hb N rs) r.2.1\/look (hb N rs) u=look (hb N rs) r.2.2.1->Fy (rs++[r]) u r.2.1:=λu g z=>by
   rcases z with z|z
   ·exact d (c u g _ q z)
   ·exact(d (c u g _ o z)).trans (p.symm f)
  by_cases px:look (hb N rs) x=look (hb N rs) r.2.1\/look (hb N rs) x=look (hb N rs) r.2.2.1<;>by_cases py:look (hb N rs) y=look (hb N rs) r.2.1\/look (hb N rs) y=look (hb N rs) r.2.2.1
  ·exact(i x hx px).trans ((i y b py).symm f)
  ·unfold jn at h;rw[zt px,zD py]at h;rcases Lr (look (hb N rs) r.2.1) (look (hb N rs) r.2.2.1)with e|e
   ·exact absurd (.inl (h.symm.trans e)) py
   ·exact absurd (.inr (h.symm.trans e)) py
  ·unfold jn at h;rw[zD px,zt py]at h;rcases Lr (look (hb N rs) r.2.1) (look (hb N rs) r.2.2.1)with e|e
   ·exact absurd (.inl (h.trans e)) px
   ·exact absurd (.inr (h.trans e)) px
  ·unfold jn at h;rw[zD px,zD py]at h;exact d (c x hx y b h)
theorem zu(nd:N.Nodup)(b:N.length<1000){rs:O d9}(a:Rs N rs)(d:∀r∈rs,r.2.1≠r.2.2.1)(hx:x∈N)(c:y∈N):look (hb N rs) x=look (hb N rs) y↔Fy rs x y:=
 ⟨bi nd b a d x hx y c,λ⟨_,t⟩=>VH nd b a t⟩
theorem F6{α:Type}[DecidableEq α]:∀{xs ys:O α},xs.Nodup->(∀x∈xs,x∈ys)->xs.length<=ys.length
 |[],_,_,_=>QP _
 |x::xs,ys,nd,h=>by
  obtain⟨b,c⟩:=cd.mp nd;have hx:=h x (zg ..);have:=F6 (ys:=ys.erase x) c λz a=>(kK (λe:z=x=>b (e▸a))).mpr (h z (zi _ a));rw[YU hx]at this;have:=kR hx;rw[ZI];omega
abbrev Cm:=O (AJ×(Y aC))
inductive Bk (F:List d9) (s:Str):Cm->Prop
 |base:Bk F s [(s,none)]
 |snoc {L:Cm} {x:Str} {r:d9} {y:Str}:Bk F s L->x∉L.map (·.1)->r∈F->bK r x=some y->y∈L.map (·.1)->Bk F s (L++[(x,some r)])
theorem Bk.facts{F:O d9}{s:AJ}(e:Rs n_ F)(hs:s∈n_){L:Cm}(h:Bk F s L):(L.map (·.1)).Nodup/\(∀x∈L.map (·.1),x∈n_)/\s∈L.map (·.1):=by
 induction h with
 |base=>exact⟨cd.mpr ⟨λz=>(by cases z),JE⟩,λx hx=>by cases ba.mp hx;exact hs,ba.mpr rfl⟩
 |@snoc L x r y h hx m o i g=>
  obtain⟨i1,i2,f⟩:=g;rw[qh];refine⟨List.nodup_append.mpr ⟨i1,cd.mpr ⟨λz=>(by cases z),JE⟩,λa d b hb z=>?_⟩,λz c=>?_,zS _ f⟩
  ·cases ba.mp hb;have z:a=x:=z;rw[z]at d;exact hx d
  ·rcases List.mem_append.mp c with c|c
   ·exact i2 z c
   ·cases ba.mp c;rcases rJ o with⟨h1,_⟩|⟨h1,_⟩
    ·show x∈n_;rw[<-h1];exact(e r m).1
    ·show x∈n_;rw[<-h1];exact(e r m).2
theorem Bk.len{F:O d9}{s:AJ}(a:Rs n_ F)(hs:s∈n_){L:Cm}(h:Bk F s L):L.length<=n_.length:=by
 obtain⟨h1,h2,_⟩:=h.facts a hs;have:=F6 h1 h2;rwa [zl]at this
theorem mI{L:Cm}{v:Y d9}(h:x∉L.map (·.1)):put L x v=L++[(x,v)]:=by
 unfold put;rw[zD λz=>h (lY.mp z)]
theorem ED{n_:AZ}{F:O d9}{s:AJ}(u:Rs n_ F)(hs:s∈n_)(A:n_.length<64)(p:∀r∈F,r.2.1≠r.2.2.1){here:AJ}:∀(R:O d9),(∀r∈R,r∈F)->∀(L:Cm) (q:AZ),Bk F s L->here∈L.map (·.1)->q.length<=L.length →
  j8 (λ(i:Cm×AZ) (a:aC)=>(eV here i a)) (λ(i:Cm×AZ) (a:aC)=>Z (jq here i a)) R (L,q) ∧
  ∃g ad,R.foldl (λ(i:Cm×AZ) (a:aC)=>(eV here i a)) (L,q)=(g,q++ad)/\g.map (·.1)=L.map (·.1)++ad/\Bk F s g/\∀r∈R,∀y,bK r here=Z y->y∈g.map (·.1)
 |[],_,L,q,b,_,_=>⟨trivial,L,[],by rw[qv];rfl,by rw[qv],b,λr h=>(by cases h)⟩
 |r::R,hR,L,q,b,hh,hq=>by
  have v:=hR r (zg ..);have C:=b.len u hs;have n:∀(j:Cm) (a1:AZ),eV here (L,q) r=(j,q++a1)->jq here (L,q) r->j.map (·.1)=L.map (·.1)++a1->Bk F s j->(∀y,bK r here=Z y->y∈j.map (·.1))->(q++a1).length<=j.length->(j8 (λ(i:Cm×AZ) (a:aC)=>(eV here i a)) (λ(i:Cm×AZ) (a:aC)=>Z (jq here i a)) (r::R) (L,q)/\∃g ad,(r::R).foldl (λ(i:Cm×AZ) (a:aC)=>(eV here i a)) (L,q)=(g,q++ad)/\g.map (·.1)=L.map (·.1)++ad/\Bk F s g/\∀z∈r::R,∀y,bK z here=Z y->y∈g.map (·.1)):=λj a1 e d k b1 c B=>by
   obtain⟨i1,g,ad,i2,o,x,w⟩:=ED u hs A p R (λz l=>hR z (zi _ l)) j (q++a1) b1 (by rw[k];exact zS _ hh) B;refine⟨⟨d,by show j8 _ _ R (eV here (L,q) r);rw[e];exact i1⟩,g,a1++ad,?_,?_,x,λz l y f=>?_⟩
   ·rw[qr,e,i2,ZT]
   ·rw[o,k,ZT]
   ·rcases List.mem_cons.mp l with rfl|l
    ·rw[o];exact zS _ (c y f)
    ·exact w z l y f
  cases ho:bK r here with
  |none=>
   refine n L [] ?_ ?_ (by rw[qv]) b (λy f=>by rw[ho]at f;cases f) (by rw[qv];exact hq)
   ·unfold eV;dsimp only;rw[ho,qv];rfl
   ·unfold jq;dsimp only;rw[ho];exact⟨λz=>z,λz=>(by cases z)⟩
  |some t=>
   by_cases m:t∈L.map (·.1)
   ·have c:(!has L t)=false:=by rw[lY.mpr m];rfl
    refine n L [] ?_ ?_ (by rw[qv]) b (λy f=>by rw[ho]at f;cases f;exact m) (by rw[qv];exact hq)
    ·unfold eV;dsimp only;rw[ho,qv,show(!has L ((Z t).getD default))=false from c];rfl
    ·unfold jq;dsimp only;rw[ho,show(!has L ((Z t).getD default))=false from c];exact⟨λz=>z,λz=>(by cases z)⟩
   ·have c:(!has L t)=true:=by
     cases q:has L t with
     |false=>rfl
     |true=>exact absurd (lY.mp q) m
    refine n (L++[(t,Z r)]) [t] ?_ ?_ (by rw[qh];rfl) (.snoc b m v (ZV (p r v) ho) hh) (λy f=>by rw[ho]at f;cases f;rw[qh];exact z5 _ (ba.mpr S)) (by rw[zC,zC];show _+1<=_+1;omega)
    ·unfold eV;dsimp only;rw[ho,show(!has L ((Z t).getD default))=true from c];show(put L t (Z r),q++[t])=_;rw[mI m]
    ·unfold jq;dsimp only;rw[ho];exact⟨λz=>z,λ_=>⟨⟨rfl,by omega⟩,rfl,wN (by show q.length<=1000;omega)⟩⟩
structure Iq (F:List d9) (s:Str) (q:AZ) (L:Cm):Prop where
 b:Bk F s L
 sub:∀x∈q,x∈L.map (·.1)
 len:q.length<=L.length
 cl:∀x∈L.map (·.1),x∉q->∀r∈F,∀y,bK r x=some y->y∈L.map (·.1)
theorem outer{n_:AZ}{F:O d9}{s:AJ}(g:Rs n_ F)(hs:s∈n_)(o:n_.length<64)(m:∀r∈F,r.2.1≠r.2.2.1):∀(n:Nat) (q:AZ) (L:Cm),Iq F s q L->n_.length-L.length+q.length<n->∃f,Iq F s [] f ∧
  O2 (λa:AZ×Cm=>(!a.1.isEmpty)) (λa:AZ×Cm=>((jr F a):qQ (AZ×Cm) (Y (O aC)))) n (q,L)=.nx ([],f) ∧
  Db (λa:AZ×Cm=>(!a.1.isEmpty)) (λa:AZ×Cm=>U) (λa:AZ×Cm=>((jr F a):qQ (AZ×Cm) (Y (O aC)))) (λa:AZ×Cm=>Z (um F a)) n (q,L)
 |0,_,_,_,h=>by omega
 |n+1,[],L,i,_=>⟨L,i,rfl,trivial,λz=>(by cases z)⟩
 |n+1,h::q,L,i,hm=>by
  have B:=i.sub h (zg ..);have w:=i.len;rw[ZI]at w hm;obtain⟨d,f,ad,e,k,b,c⟩:=ED g hs o m (here:=h) F (λr h=>h) L q i.b B ();have D:f.length=L.length+ad.length:=by
   have:=congrArg dV k;rwa [zC,zl,zl]at this
  have C:=b.len g hs;have i':Iq F s (q++ad) f:=by
   refine⟨b,λx hx=>?_,by rw[zC];omega,λx hx l=>?_⟩
   ·rw[k];rcases List.mem_append.mp hx with hx|hx
    ·exact zS _ (i.sub x (zi _ hx))
    ·exact z5 _ hx
   ·rw[k]at hx;rcases List.mem_append.mp hx with hx|hx
    ·by_cases j:x=h
     ·subst j;exact c
     ·intro r v y p;rw[k];refine zS _ (i.cl x hx (λz=>?_) r v y p);rcases List.mem_cons.mp z with z|z
      ·exact j z
      ·exact l (zS _ z)
    ·exact absurd (z5 _ hx) l
  have st:jr F (h::q,L)=.nx (q++ad,f):=by
   unfold jr;dsimp only;rw[show at' (h::q) (0:Int)=h from Et _ 0 (by simp),show(h::q).drop 1=q from rfl,e]
  obtain⟨u,i2,t,A⟩:=outer g hs o m n (q++ad) f i' (by rw[zC];omega);refine⟨u,i2,?_,trivial,λ_=>⟨?_,?_⟩⟩
  ·unfold O2;rw[zt (show(!(h::q,L).1.isEmpty)=true from S),st];exact t
  ·show um F (h::q,L);refine⟨⟨rfl,by show 0<(h::q).length;simp⟩,?_⟩;dsimp only;rw[show at' (h::q) (0:Int)=h from Et _ 0 (by simp)];exact d
  ·dsimp only;rw[st];exact A
theorem back{F:O d9}{s:AJ}(H:∀r∈F,r.2.1≠r.2.2.1){L:Cm}(h:Bk F s L):(L.map (·.1)).Nodup->∀x∈L.map (·.1),∃w,Tr F x w s/\w.Nodup/\(∀r∈w,r.2.1∈L.map (·.1)/\r.2.2.1∈L.map (·.1))/\w.length<L.length ∧
  ∀(a:Cm),(∀k∈L.map (·.1),look a k=look L k/\has a k=true)->∀(n:Nat) (c:O d9),w.length<n->c.length+w.length<=100 →
   O2 (λd:(O aC)×AJ=>(look a d.2).isSome) (λd:(O aC)×AJ=>((gk a d):qQ ((O aC)×AJ) (O aC))) n (c,x)=.nx (c++w,s) ∧
   Db (λd:(O aC)×AJ=>(look a d.2).isSome) (λd:(O aC)×AJ=>Z (has a d.2=true)) (λd:(O aC)×AJ=>((gk a d):qQ ((O aC)×AJ) (O aC))) (λd:(O aC)×AJ=>Z (lU a d)) n (c,x):=by
 induction h with
 |base=>
  intro _ x hx;cases ba.mp hx;refine⟨[],rfl,JE,λr h=>(by cases h),Nat.zero_lt_succ _,λa h2 n c i _=>?_⟩;obtain⟨l,g⟩:=h2 s (ba.mpr S);have l:look a s=U:=l.trans (Dv (pre:=[]) (AS:=[]) (λz=>by cases z));cases n with
  |zero=>cases i
  |succ n=>
   refine⟨?_,g,λz=>?_⟩
   ·unfold O2;rw[zD (by show ¬ (look a s).isSome=true;rw[l];decide),qv]
   ·have z:(look a s).isSome=true:=z;rw[l]at z;cases z
 |@snoc L y r z b t m o p A=>
  intro nd x hx;rw[qh]at nd hx ⊢;have u:=(List.nodup_append.mp nd).1;have v:∀k∈L.map (·.1),look (L++[(y,Z r)]) k=look L k:=λk e=>by
   have:=Pa e;have h1:(k,look L k)∈L++[(y,Z r)]:=zS _ this;exact Dw (m:=L++[(y,Z r)]) (by rw[qh];exact nd) h1
  rcases List.mem_append.mp hx with hx|hx
  ·obtain⟨w,t1,t2,t3,D,j⟩:=A u x hx;refine⟨w,t1,t2,λq f=>⟨zS _ (t3 q f).1,zS _ (t3 q f).2⟩,by rw[zC];omega,λa h2=>j a λk e=>?_⟩;obtain⟨a1,a2⟩:=h2 k (zS _ e);exact⟨a1.trans (v k e),a2⟩
  ·have ex:x=y:=ba.mp hx;subst ex;obtain⟨w,t1,t2,t3,D,j⟩:=A u z p;have B:r∉w:=λq=>by
    obtain⟨a1,a2⟩:=t3 r q;rcases rJ o with⟨h1,_⟩|⟨h1,_⟩
    ·exact t (h1▸a1)
    ·exact t (h1▸a2)
   refine⟨r::w,⟨m,z,o,t1⟩,cd.mpr ⟨B,t2⟩,λq f=>?_,by rw[zC,ZI];show _+1<_+1;omega,λa h2 n c i G=>?_⟩
   ·rcases List.mem_cons.mp f with rfl|f
    ·rcases rJ o with⟨h1,h2⟩|⟨h1,h2⟩
     ·exact⟨z5 _ (by rw[h1];exact ba.mpr S),zS _ (by rw[h2];exact p)⟩
     ·exact⟨zS _ (by rw[h2];exact p),z5 _ (by rw[h1];exact ba.mpr S)⟩
    ·exact⟨zS _ (t3 q f).1,zS _ (t3 q f).2⟩
   ·obtain⟨l,g⟩:=h2 x (z5 _ (ba.mpr S));have l:look a x=Z r:=l.trans (Dv (pre:=L) (AS:=[]) t);rw[ZI]at i G;cases n with
    |zero=>cases i
    |succ n=>
     have st:gk a (c,x)=.nx (c++[r],z):=by
      unfold gk;dsimp only;rw[l];show qQ.nx (c++[r],(bK r x).getD default)=_;rw[o];rfl
     obtain⟨E,C⟩:=j a (λk e=>by
      obtain⟨a1,a2⟩:=h2 k (zS _ e);exact⟨a1.trans (v k e),a2⟩) n (c++[r]) () (by rw[zC];show _+1+_<=100;omega)
     refine⟨?_,g,λ_=>⟨?_,?_⟩⟩
     ·unfold O2;rw[zt (by show(look a x).isSome=true;rw[l];rfl),st];show O2 _ _ n (c++[r],z)=_;rw[E,ZT];rfl
     ·show lU a (c,x);unfold lU;dsimp only;rw[l];exact⟨⟨⟨g,rfl⟩,wN (by show c.length<=1000;omega)⟩,⟨g,rfl⟩,by show(bK r x).isSome=true;rw[o];rfl⟩
     ·dsimp only;rw[st];exact C
theorem iL{F:O d9}(f:Rs n_ F)(n:n_.length<64)(d:∀r∈F,r.2.1≠r.2.2.1){s e:AJ}(hs:s∈n_):yI F s e/\(∀p,qe F s e=Z p->Tr F s p e/\p.Nodup)/\(qe F s e=U->¬ Fy F s e):=by
 have E:Iq F s [s] [(s,U)]:=⟨.base,λx hx=>hx,zk _,λx hx A=>absurd hx A⟩;obtain⟨L,i,B,g⟩:=outer f hs n d 70 [s] [(s,U)] E (by show n_.length-1+1<70;omega);have I:0<n_.length:=kR hs;obtain⟨f1,f2,G⟩:=i.b.facts f hs;have K:=i.b.len f hs;have l:∀{p:O d9} {x y:AJ},Tr F x p y->x∈L.map (·.1)->y∈L.map (·.1):=by
  intro p
  induction p with
  |nil=>intro x y h hx;cases h;exact hx
  |cons r p D=>
   intro x y h hx;obtain⟨m,t,o,h⟩:=h;exact D h (i.cl x hx (λz=>by cases z) r m t o)
 unfold yI qe;dsimp only;rw[B];by_cases a:e∈L.map (·.1)
 ·have c:(!has L e)=false:=by rw[lY.mpr a];rfl
  obtain⟨w,t1,t2,t3,J,u⟩:=back d i.b f1 e a;obtain⟨j,v⟩:=u L (λk C=>⟨rfl,lY.mpr C⟩) 70 [] () (by show 0+_<=100;omega);have tb:jX L e=w:=by
   unfold jX;dsimp only;rw[j];rfl
  have H:sW L e:=by
   unfold sW;dsimp only;rw[j];exact⟨v,trivial⟩
  refine⟨⟨g,λ_=>H⟩,λp hp=>?_,λh=>?_⟩
  ·have hp:(if(!has L e)=true then U else(Z (jX L e).reverse))=Z p:=hp;rw[c,zD (),tb]at hp;cases hp;exact⟨t1.rev d,(List.reverse_perm w).nodup_iff.mpr t2⟩
  ·have h:(if(!has L e)=true then U else(Z (jX L e).reverse))=U:=h;rw[c,zD ()]at h;cases h
 ·have c:(!has L e)=true:=by
   cases q:has L e with
   |false=>rfl
   |true=>exact absurd (lY.mp q) a
  refine⟨⟨g,λz=>?_⟩,λp hp=>?_,λ_ ⟨p,h⟩=>a (l h G)⟩
  ·rw[c]at z;cases z
  ·have hp:(if(!has L e)=true then U else(Z (jX L e).reverse))=Z p:=hp;rw[c,zt rfl]at hp;cases hp
abbrev CF:=AJ×AJ×Int
def wt(L:O d9):Int:=(L.map λr:d9=>r.1).sum
theorem MS:wt []=0:=rfl
theorem iI(r:d9)(L:O d9):wt (r::L)=r.1+wt L:=by unfold wt;rw[zo,JY]
theorem RQ{A B:O d9}(h:A.Perm B):wt A=wt B:=by
 induction h with
 |nil=>rfl
 |cons x _ a=>rw[iI,iI,a]
 |swap x y l=>rw[iI,iI,iI,iI];omega
 |trans _ _ i1 i2=>exact i1.trans i2
theorem Ly:∀{L:O d9},(∀r∈L,1<=r.1)->0<=wt L
 |[],_=>Kt 0
 |r::L,h=>by
  have:=Ly (L:=L) λz a=>h z (zi _ a);have:=h r (zg ..);rw[iI];omega
theorem Lz:∀{A B:O d9},A.Nodup->(∀r∈A,r∈B)->(∀r∈B,1<=r.1)->wt A<=wt B
 |[],B,_,_,h=>Ly h
 |a::A,B,nd,hs,h=>by
  obtain⟨d,f⟩:=cd.mp nd;have hx:=hs a (zg ..);have:=Lz (A:=A) (B:=B.erase a) f (λz b=>(kK (λe:z=a=>d (e▸b))).mpr (hs z (zi _ b))) λr c=>h r (fm c);rw[RQ (yf hx),iI,iI];omega
theorem LC(p:d9->Bool):∀L:O d9,wt (L.filter p)+wt (L.filter λr=>!p r)=wt L
 |[]=>rfl
 |r::L=>by
  have:=LC p L;cases h:p r with
  |true=>rw[xf h,xi (by rw[h];decide),iI,iI];omega
  |false=>rw[xi (by rw[h];decide),xf (by rw[h];rfl),iI,iI];omega
def lf(R C:O d9):O d9:=R.filter λx=>!lO x C
theorem nW{R C:O d9}{r:d9}:r∈lf R C↔r∈R/\r∉C:=by
 unfold lf;rw[QQ,QY,<-pO,jM]
def Fe(R:O d9)(B:O CF)(C:O d9):Prop:=∀b∈B,¬ Fy (lf R C) b.1 b.2.1
structure Gb (N:AZ) (R:List d9) (B:List CF):Prop where
 nd:N.Nodup
 len:N.length<64
 rs:Rs N R
 ne:∀r∈R,r.2.1≠r.2.2.1
 rd:R.Nodup
 rl:R.length<64
 va:∀r∈R,1<=r.1/\r.1<=1000000
 bs:∀b∈B,(b.1∈N/\b.2.1∈N)/\b.1≠b.2.1
 bl:B.length<1000
variable{R:O d9}{B:O CF}
theorem Gb.l3(g:Gb N R B):N.length<1000:=by have:=g.len;omega
theorem VJ{L:O d9}(b:L.length<=1000)(h:∀r∈L,1<=r.1/\r.1<=1000000):jo L:=by
 refine⟨by omega,?_⟩;unfold Uo;rw[ZH,zz,zl,qc];refine⟨b,λk c=>?_⟩;obtain⟨r,a,rfl⟩:=List.mem_map.mp c;have:=h r a;exact ZA (show _/\_ by omega)
theorem ZW(g:Gb N R B)(C:O d9):∀a:O CF,(∀b∈a,b∈B) →
  Gm (λ(f:Unit) (i:dF)=>((cM (lf R C) (hb N (lf R C)) f i):qQ (Unit) (Y (O aC)))) (λ(f:Unit) (i:dF)=>Z (lX (lf R C) (hb N (lf R C)) f i)) a r9 ∧
  ((sy (λ(f:Unit) (i:dF)=>((cM (lf R C) (hb N (lf R C)) f i):qQ (Unit) (Y (O aC)))) a r9=.nx r9/\∀b∈a,¬ Fy (lf R C) b.1 b.2.1) ∨
   ∃p,sy (λ(f:Unit) (i:dF)=>((cM (lf R C) (hb N (lf R C)) f i):qQ (Unit) (Y (O aC)))) a r9=.rt (Z p)/\p.Nodup/\∃b∈B,Tr (lf R C) b.1 p b.2.1)
 |[],_=>⟨trivial,.inl ⟨rfl,λb h=>(by cases h)⟩⟩
 |b::a,hB=>by
  have sub:∀r∈lf R C,r∈R:=λr l=>(nW.mp l).1;have n:Rs N (lf R C):=λr l=>g.rs r (sub r l);have u:∀r∈lf R C,r.2.1≠r.2.2.1:=λr l=>g.ne r (sub r l);obtain⟨⟨m,s⟩,-⟩:=g.bs b (hB b (zg ..));have H:=Hd.hb g.nd g.l3 n;obtain⟨d,a1,a2⟩:=iL n g.len u (e:=b.2.1) m;have t:=zu g.nd g.l3 n u m s;obtain⟨i1,i2⟩:=ZW g C a λz j=>hB z (zi _ j);have o:lX (lf R C) (hb N (lf R C)) r9 b:=⟨⟨H.has m,H.has s⟩,λ_=>d⟩;by_cases c:look (hb N (lf R C)) b.1=look (hb N (lf R C)) b.2.1
  ·have st:cM (lf R C) (hb N (lf R C)) r9 b=.rt (qe (lf R C) b.1 b.2.1):=by
    unfold cM;rw[ZA c];rfl
   cases q:qe (lf R C) b.1 b.2.1 with
   |none=>exact absurd (t.mp c) (a2 q)
   |some p=>
    rw[q]at st;refine⟨⟨o,by dsimp only;rw[st];trivial⟩,.inr ⟨p,by unfold sy;rw[st],(a1 p q).2,b,hB b (zg ..),(a1 p q).1⟩⟩
  ·have st:cM (lf R C) (hb N (lf R C)) r9 b=.nx r9:=by
    unfold cM;rw[ZN c];rfl
   refine⟨⟨o,by dsimp only;rw[st];exact i1⟩,?_⟩;rcases i2 with⟨e1,e2⟩|⟨p,e1,e2⟩
   ·refine .inl ⟨by unfold sy;rw[st];exact e1,λz j=>?_⟩;rcases List.mem_cons.mp j with rfl|j
    ·exact λw=>c (t.mpr w)
    ·exact e2 z j
   ·exact .inr ⟨p,by unfold sy;rw[st];exact e1,e2⟩
theorem NL(g:Gb N R B)(C:O d9):lA (N,R,B) C/\((fJ (N,R,B) C=U/\Fe R B C)\/∃p,fJ (N,R,B) C=Z p/\p.Nodup/\∃b∈B,Tr (lf R C) b.1 p b.2.1):=by
 have sub:∀r∈lf R C,r∈R:=λr c=>(nW.mp c).1;have e:Rs N (lf R C):=λr c=>g.rs r (sub r c);obtain⟨a,e1,-⟩:=Yi g.nd g.l3 e;have a:lu N (lf R C):=a;have e1:fV N (lf R C)=hb N (lf R C):=e1;obtain⟨i1,i2⟩:=ZW g C B λb h=>h;have f:=g.rl;unfold lA fJ;dsimp only;rw[Qr];have d:(R.filter λvx:aC=>!lO vx C)=lf R C:=rfl;rw[d,e1];refine⟨⟨by omega,a,i1,?_⟩,?_⟩
 ·unfold yX;split<;>trivial
 ·rcases i2 with⟨q1,q2⟩|⟨p,q1,q2⟩
  ·rw[q1];exact .inl ⟨rfl,q2⟩
  ·rw[q1];exact .inr ⟨p,rfl,q2⟩
theorem Rl(n:Nat)(g:dH)(b a:O d9)(c:Int):aJ (n+1) g b (Z a) c=(if(decide (c<=wt a))=true then U else(let f:=(fJ g a);(if f.isNone=true then Z a else(let d:=(((f.getD []).filter λvx:aC=>(!lO vx b)).map λvx:aC=>vx);(if(!(!d.isEmpty))=true then U else(let e:=(aJ n g b (Z (a++(BM d U (Z 1)))) c);(let i:Int:=(if e.isSome=true then wt (e.getD default)else c);(let h:=(aJ n g (b++(BM d U (Z 1))) (Z a) i);(if h.isNone=true then e else h))))))))):=rfl
theorem N1(n:Nat)(g:dH)(b a:O d9)(d:Int):cj (n+1) g b (Z a) d=(((Z a).isSome=true/\(gj a))/\((decide (d<=wt a))=false->(((Z a).isSome=true/\(lA g a))/\(let f:=(fJ g a);(f.isNone=false->((f.isSome=true/\(f.getD []).length<=100000)/\(let c:=(((f.getD []).filter λvx:aC=>(!lO vx b)).map λvx:aC=>vx);((!(!c.isEmpty))=false->((((Z a).isSome=true/\Ar (a.length+(BM c U (Z 1)).length))/\(cj n g b (Z (a++(BM c U (Z 1)))) d))/\(let e:=(aJ n g b (Z (a++(BM c U (Z 1)))) d);((e.isSome=true->(e.isSome=true/\(gj (e.getD default))))/\(let h:Int:=(if e.isSome=true then wt (e.getD default)else d);(Ar (b.length+(BM c U (Z 1)).length)/\(cj n g (b++(BM c U (Z 1))) (Z a) h)))))))))))))):=rfl
structure Cu (R:List d9) (B:List CF) (held cu C:List d9):Prop where
 nd:C.Nodup
 sub:∀r∈C,r∈R
 fe:Fe R B C
 co:∀r∈cu,r∈C
 av:∀r∈held,r∉C
theorem iX(x:α)(xs:O α):P1.BM (x::xs) U (Z 1)=[x]:=by
 have:=Xp (xs:=x::xs) (k:=1) (by simp);exact this
theorem LN(g:Gb N R B):∀(n:Nat) (f i:O d9) (m:Int),(f++i).Nodup->(∀r∈f++i,r∈R)->R.length<n+(f++i).length →
  cj n (N,R,B) f (Z i) m ∧
  (aJ n (N,R,B) f (Z i) m=U->∀C,Cu R B f i C->m<=wt C) ∧
  (∀C,aJ n (N,R,B) f (Z i) m=Z C->Cu R B [] [] C/\wt C<m/\∀j,Cu R B f i j->wt C<=wt j)
 |0,f,i,m,nd,sub,hl=>by
  have:=F6 nd sub;omega
 |n+1,f,i,m,nd,sub,hl=>by
  obtain⟨nh,t,dj⟩:=List.nodup_append.mp nd;have u:∀r∈i,r∈R:=λr d=>sub r (z5 _ d);have al:=F6 nd sub;have rl:=g.rl;rw[zC]at al hl;have v:∀{L:O d9},L.Nodup->(∀r∈L,r∈R)->gj L:=λ{L} n1 A=>by
   have:=F6 n1 A;exact VJ () λr d=>g.va r (A r d)
  have pos:∀r∈R,1<=r.1:=λr d=>(g.va r d).1;obtain⟨F,bo⟩:=NL g i;rw[Rl,N1];by_cases J:m<=wt i
  ·rw[ZA J];refine⟨⟨⟨rfl,v t u⟩,λz=>(by cases z)⟩,λ_ C l=>?_,λC z=>(by cases z)⟩;exact oa J (Lz t l.co λr d=>pos r (l.sub r d))
  rw[ZN J,zD ()];rcases bo with⟨b1,b2⟩|⟨p,b1,b2,b,hb,b3⟩
  ·rw[b1];refine⟨⟨⟨rfl,v t u⟩,λ_=>⟨⟨rfl,F⟩,λz=>(by cases z)⟩⟩,λz=>(by cases z),λC z=>?_⟩;cases z;exact⟨⟨t,u,b2,λr h=>(by cases h),λr h=>(by cases h)⟩,by omega,λj l=>Lz t l.co λr d=>pos r (l.sub r d)⟩
  ·rw[b1];dsimp only;rw[show(Z p).getD []=p from rfl,Qr];have E:∀r∈p,r∈R/\r∉i:=λr d=>nW.mp (b3.mem r d);have a5:∀C,Cu R B f i C->∃r∈p,r∈C/\r∉f:=λC l=>by
    refine Classical.byContradiction λz=>l.fe b hb ⟨p,b3.mono λr d=>nW.mpr ⟨(E r d).1,λy=>z ⟨r,d,y,λw=>l.av r w y⟩⟩⟩
   have pl:=F6 b2 λr d=>(E r d).1;cases P:p.filter λvx:aC=>!lO vx f with
   |nil=>
    have no:∀C,¬ Cu R B f i C:=λC l=>by
     obtain⟨r,h1,h2,h3⟩:=a5 C l;have:r∈p.filter λvx:aC=>!lO vx f:=List.mem_filter.mpr ⟨h1,by
      cases q:lO r f with
      |false=>rfl
      |true=>exact absurd (jM.mp q) h3⟩
     rw[P]at this;cases this
    refine⟨⟨⟨rfl,v t u⟩,λ_=>⟨⟨rfl,F⟩,λ_=>⟨⟨rfl,by omega⟩,λz=>(by cases z)⟩⟩⟩,λ_ C l=>absurd l (no C),λC z=>(by cases z)⟩
   |cons c cs=>
    have G:=List.mem_filter.mp (show c∈p.filter λvx:aC=>!lO vx f by rw[P];exact zg ..);have a8:c∉f:=λz=>by have:=G.2;rw[jM.mpr z]at this;cases this
    have a6:=(E c G.1).2;have a4:=(E c G.1).1;rw[iX];have X:(f++(i++[c])).Nodup:=by
     rw[<-ZT];refine List.nodup_append.mpr ⟨nd,cd.mpr ⟨λz=>(by cases z),JE⟩,λa x b' a3 e=>?_⟩;cases ba.mp a3;rcases List.mem_append.mp x with x|x
     ·exact a8 (e▸x)
     ·exact a6 (e▸x)
    have a7:((f++[c])++i).Nodup:=by
     have:((f++[c])++i).Perm (f++(i++[c])):=by
      rw[ZT];exact List.Perm.append_left _ mY
     exact this.nodup_iff.mpr X
    have A:∀r∈f++(i++[c]),r∈R:=λr d=>by
     rw[<-ZT]at d;rcases List.mem_append.mp d with d|d
     ·exact sub r d
     ·cases ba.mp d;exact a4
    have s2:∀r∈(f++[c])++i,r∈R:=λr d=>A r (by
     rcases List.mem_append.mp d with d|d
     ·rcases List.mem_append.mp d with d|d
      ·exact zS _ d
      ·exact z5 _ (z5 _ d)
     ·exact z5 _ (zS _ d))
    obtain⟨x1,x2,x3⟩:=LN g n f (i++[c]) m X A (by rw[zC,zC];show _<_+(_+(_+1));omega);have split:∀j,Cu R B f i j->Cu R B f (i++[c]) j\/Cu R B (f++[c]) i j:=λj h=>by
     by_cases z:c∈j
     ·refine .inl ⟨h.nd,h.sub,h.fe,λr d=>?_,h.av⟩;rcases List.mem_append.mp d with d|d
      ·exact h.co r d
      ·cases ba.mp d;exact z
     ·refine .inr ⟨h.nd,h.sub,h.fe,h.co,λr d=>?_⟩;rcases List.mem_append.mp d with d|d
      ·exact h.av r d
      ·cases ba.mp d;exact z
    have Q:=λlm=>LN g n (f++[c]) i lm a7 s2 (by rw[zC,zC];show _<_+((_+1)+_);omega);have a2:Ar (i.length+[c].length):=wN (by show _+1<=1000;omega);have a1:Ar (f.length+[c].length):=wN (by show _+1<=1000;omega);cases hx:aJ n (N,R,B) f (Z (i++[c])) m with
    |none=>
     obtain⟨y1,y2,M⟩:=Q m;have a0:=x2 hx;refine⟨⟨⟨rfl,v t u⟩,λ_=>⟨⟨rfl,F⟩,λ_=>⟨⟨rfl,by show p.length<=_;omega⟩,λ_=>⟨⟨⟨rfl,a2⟩,x1⟩,λz=>(by cases z),a1,y1⟩⟩⟩⟩,?_,?_⟩
     ·intro z C l;have z:(if(aJ n (N,R,B) (f++[c]) (Z i) m).isNone=true then U else aJ n (N,R,B) (f++[c]) (Z i) m)=U:=z;cases o:aJ n (N,R,B) (f++[c]) (Z i) m with
      |none=>exact(split C l).elim (a0 C) (y2 o C)
      |some D=>rw[o]at z;cases z
     ·intro C z;have z:(if(aJ n (N,R,B) (f++[c]) (Z i) m).isNone=true then U else aJ n (N,R,B) (f++[c]) (Z i) m)=Z C:=z;cases o:aJ n (N,R,B) (f++[c]) (Z i) m with
      |none=>rw[o]at z;cases z
      |some D=>
       rw[o]at z;cases z;obtain⟨I,w2,H⟩:=M _ o;exact⟨I,w2,λj l=>(split j l).elim (λq=>by have:=a0 j q;omega) (H j)⟩
    |some s=>
     obtain⟨y1,y2,M⟩:=Q (wt s);obtain⟨K,v2,W⟩:=x3 _ hx;refine⟨⟨⟨rfl,v t u⟩,λ_=>⟨⟨rfl,F⟩,λ_=>⟨⟨rfl,by show p.length<=_;omega⟩,λ_=>⟨⟨⟨rfl,a2⟩,x1⟩,λ_=>⟨rfl,v K.nd K.sub⟩,a1,y1⟩⟩⟩⟩,?_,?_⟩
     ·intro z C l;have z:(if(aJ n (N,R,B) (f++[c]) (Z i) (wt s)).isNone=true then Z s else aJ n (N,R,B) (f++[c]) (Z i) (wt s))=U:=z;cases o:aJ n (N,R,B) (f++[c]) (Z i) (wt s)with
      |none=>rw[o]at z;cases z
      |some D=>rw[o]at z;cases z
     ·intro C z;have z:(if(aJ n (N,R,B) (f++[c]) (Z i) (wt s)).isNone=true then Z s else aJ n (N,R,B) (f++[c]) (Z i) (wt s))=Z C:=z;cases o:aJ n (N,R,B) (f++[c]) (Z i) (wt s)with
      |none=>
       rw[o]at z;cases z;exact⟨K,v2,λj l=>(split j l).elim (W j) (y2 o j)⟩
      |some D=>
       rw[o]at z;cases z;obtain⟨I,w2,H⟩:=M _ o;exact⟨I,by omega,λj l=>(split j l).elim (λq=>by have:=W j q;omega) (H j)⟩
theorem Gb.sub(g:Gb N R B){R':O d9}(h:∀r∈R',r∈R):Rs N R'/\∀r∈R',r.2.1≠r.2.2.1:=⟨λr a=>g.rs r (h r a),λr a=>g.ne r (h r a)⟩
theorem Fw{C:O d9}:∀r∈lf R C,r∈R:=λr a=>(nW.mp a).1
def ct(g:dH):O d9:=(aJ fuel g [] (Z []) (jk g.2.1+1)).getD default
theorem cq(g:Gb N R B):Cu R B [] [] R:=by
 refine⟨g.rd,λr h=>h,λb hb ⟨p,t⟩=>?_,λr h=>(by cases h),λr h=>(by cases h)⟩;cases p with
 |nil=>exact(g.bs b hb).2 t
 |cons r p=>exact(nW.mp t.1).2 (nW.mp t.1).1
theorem ZX(g:Gb N R B)(u:B=[]\/R.length<=12):qg (N,R,B)/\Cu R B [] [] (ct (N,R,B))/\(∀a,Cu R B [] [] a->wt (ct (N,R,B))<=wt a)/\dU (N,R,B)=st N (hb N (lf R (ct (N,R,B)))):=by
 have pos:∀r∈R,1<=r.1:=λr c=>(g.va r c).1;have w:=g.rl;have n:cj fuel (N,R,B) [] (Z []) (wt R+1)/\∃C,aJ fuel (N,R,B) [] (Z []) (wt R+1)=Z C/\Cu R B [] [] C/\∀a,Cu R B [] [] a->wt C<=wt a:=by
  rcases u with e|c
  ·obtain⟨v,bo⟩:=NL g [];have o:¬ wt R+1<=wt []:=by have:=Ly pos;rw[MS];omega
   have b1:fJ (N,R,B) []=U/\Fe R B []:=by
    rcases bo with b|⟨p,_,_,b,hb,_⟩
    ·exact b
    ·rw[e]at hb;cases hb
   show cj (31+1) (N,R,B) [] (Z []) (wt R+1)/\∃C,aJ (31+1) (N,R,B) [] (Z []) (wt R+1)=Z C/\_;rw[Rl,N1,ZN o,b1.1];refine⟨⟨⟨rfl,VJ () λr h=>(by cases h)⟩,λ_=>⟨⟨rfl,v⟩,λz=>(by cases z)⟩⟩,[],rfl,⟨JE,λr h=>(by cases h),b1.2,λr h=>(by cases h),λr h=>(by cases h)⟩,λa m=>?_⟩;rw[MS];exact Ly λr c=>pos r (m.sub r c)
  ·obtain⟨x1,j,l⟩:=LN g fuel [] [] (wt R+1) JE (λr h=>(by cases h)) (by show R.length<32+0;omega);refine⟨x1,?_⟩;cases h:aJ fuel (N,R,B) [] (Z []) (wt R+1)with
   |none=>have:=j h R (cq g);omega
   |some C=>
    obtain⟨y1,y2,q⟩:=l C h;exact⟨C,rfl,y1,q⟩
 obtain⟨d,C,e,c1,c2⟩:=n;have s:ct (N,R,B)=C:=by
  show(aJ fuel (N,R,B) [] (Z []) (wt R+1)).getD default=C;rw[e];rfl
 rw[s];have t:=(g.sub (R':=lf R C) Fw).1;obtain⟨f,e1,h1⟩:=Yi g.nd g.l3 t;have f:lu N (lf R C):=f;have e1:fV N (lf R C)=hb N (lf R C):=e1;have i:=RN h1;unfold qg dU;dsimp only;rw[Qr,show jk R=wt R from rfl,e];refine⟨⟨⟨VJ () g.va,d⟩,⟨by omega,λ_ _=>S⟩,?_⟩,c1,c2,?_⟩
 ·show rG N (lf R C);refine⟨f,?_⟩;rw[e1];exact i.1
 ·show dM (fV N (lf R C))=_;rw[e1];exact i.2
theorem gP:y∈pt N m x↔y∈N/\look m y=look m x:=by
 unfold pt;rw[QQ,zz]
theorem IQ(h:look m x=look m y):pt N m x=pt N m y:=by
 unfold pt;rw[h]
theorem gQ(h:Hd N m){p:AZ}:p∈st N m↔∃x∈N,p=pt N m x:=by
 unfold st;rw[KB];constructor
 ·rintro⟨w,a,rfl⟩;exact⟨w,(List.mem_filter.mp a).1,rfl⟩
 ·rintro⟨x,hx,rfl⟩;exact⟨look m x,List.mem_filter.mpr ⟨h.mem x hx,ZA (h.idem x hx)⟩,IQ (h.idem x hx)⟩
theorem jA(h:Hd N m):(st N m).flatten.Perm N:=by
 refine Dz ?_ h.nd λx=>?_
 ·unfold List.Nodup;rw[List.pairwise_flatten];refine⟨λl c=>?_,?_⟩
  ·obtain⟨x,hx,rfl⟩:=(gQ h).mp c;exact h.nd.filter _
  ·unfold st;rw[kF];refine JI (λ{a b} ha hb z x hx y d e=>z ?_) (h.nd.filter _);have a1:=QA (List.mem_filter.mp ha).2;have b1:=QA (List.mem_filter.mp hb).2;subst e;rw[<-a1,<-b1,<-(gP.mp hx).2,<-(gP.mp d).2]
 ·rw[db];constructor
  ·rintro⟨l,c,hx⟩;obtain⟨y,d,rfl⟩:=(gQ h).mp c;exact(gP.mp hx).1
  ·intro hx;exact⟨pt N m x,(gQ h).mpr ⟨x,hx,rfl⟩,gP.mpr ⟨hx,rfl⟩⟩
theorem Z0(h:Hd N m)(x y:AJ):P1.same (st N m) x y↔x∈N/\y∈N/\look m x=look m y:=by
 constructor
 ·rintro⟨s,hs,hx,a⟩;obtain⟨z,b,rfl⟩:=(gQ h).mp hs;have h1:=gP.mp hx;have h2:=gP.mp a;exact⟨h1.1,h2.1,h1.2.trans h2.2.symm⟩
 ·rintro⟨hx,a,e⟩;exact⟨pt N m x,(gQ h).mpr ⟨x,hx,rfl⟩,gP.mpr ⟨hx,rfl⟩,gP.mpr ⟨a,e.symm⟩⟩
theorem LK(h:Hd N m){s:AZ}(hs:s∈st N m):s≠[]:=by
 obtain⟨x,hx,rfl⟩:=(gQ h).mp hs;intro z;have:x∈pt N m x:=gP.mpr ⟨hx,rfl⟩;rw[z]at this;cases this
theorem VL(d:N.Pairwise pF)(l:D9 N m){n:AJ}(f:n∈N)(e:look m n=n):∃t,pt N m n=n::t:=by
 have a:n∈pt N m n:=gP.mpr ⟨f,rfl⟩;have hs:(pt N m n).Pairwise pF:=d.filter _;cases b:pt N m n with
 |nil=>rw[b]at a;cases a
 |cons y t=>
  have c:=gP.mp (show y∈pt N m n by rw[b];exact zg ..);have h1:pF n y:=by have:=l y c.1;rw[c.2,e]at this;exact this
  rw[b]at a hs;rcases List.mem_cons.mp a with e2|e2
  ·exact⟨t,by rw[e2]⟩
  ·have:=BR h1 ((dl.mp hs).1 n e2);exact⟨t,by rw[this]⟩
theorem Z1{a b:AJ}{xs:AZ}(h:pF a b)(c:a≠b):Mt (a::xs) (b::ys)=true:=by
 unfold Mt S1.xW;show(!S1.ql (Sum.inr b::kT ys) (Sum.inr a::kT xs))=true;unfold S1.ql;rw[zD (λe=>c (Sum.inr.inj e).symm)];unfold S1.YZ;unfold pF at h;rw[ltCps_eq]at h;simpa using h
theorem Md(c:N.Pairwise pF)(h:Hd N m)(l:D9 N m):Wd N (st N m):=by
 have f:=jA h;refine⟨λs hs=>LK h hs,λs hs=>?_,f.nodup_iff.mpr h.nd,λx hx=>f.mem_iff.mp hx,?_⟩
 ·obtain⟨x,hx,rfl⟩:=(gQ h).mp hs;exact c.filter _
 ·unfold st;rw[kF];have g:(N.filter λname:AJ=>decide (look m name=name)).Pairwise λa b=>pF a b/\a≠b:=(c.filter _).and (h.nd.filter _);refine JI ?_ g;intro a b d hb e;rw[QQ,zz]at d hb;obtain⟨t1,e1⟩:=VL c l d.1 d.2;obtain⟨t2,e2⟩:=VL c l hb.1 hb.2;rw[e1,e2];exact Z1 e.1 e.2
theorem CC{α:Type}(f g:α->Int):∀ps:O α,(ps.map λp=>f p+g p).sum=(ps.map f).sum+(ps.map g).sum
 |[]=>rfl
 |p::ps=>by
  have:=CC f g ps;rw[zo,zo,zo,JY,JY,JY];omega
theorem MA{α:Type}{f g:α->Int}:∀{ps:O α},(∀p∈ps,f p<=g p)->(ps.map f).sum<=(ps.map g).sum
 |[],_=>Kt _
 |p::ps,h=>by
  have:=MA (f:=f) (g:=g) (ps:=ps) λq a=>h q (zi _ a);have:=h p (zg ..);rw[zo,zo,JY,JY];omega
theorem RI{w:Int}{x:AJ}:∀{ps:O AZ},x∉ps.flatten->(ps.map λp=>if x∈p then w else 0).sum=0
 |[],_=>rfl
 |p::ps,h=>by
  rw[qS,yi]at h;rw[zo,JY,zD λz=>h (.inl z),RI λz=>h (.inr z)];rfl
theorem Mc{w:Int}{x:AJ}:∀{ps:O AZ},ps.flatten.Nodup->x∈ps.flatten->(ps.map λp=>if x∈p then w else 0).sum=w
 |[],_,h=>by cases h
 |p::ps,nd,h=>by
  rw[qS]at nd h;obtain⟨c,a,b⟩:=List.nodup_append.mp nd;rw[zo,JY];by_cases hx:x∈p
  ·rw[zt hx,RI λz=>b x hx x z rfl];omega
  ·rw[zD hx,Mc a ((List.mem_append.mp h).resolve_left hx)];omega
theorem rM{ps:O AZ}(nd:ps.flatten.Nodup):∀L:O d9,(∀r∈L,r.2.1∈ps.flatten)->wt L=(ps.map λp=>wt (L.filter λr=>decide (r.2.1∈p))).sum
 |[],_=>by
  have:∀a:O AZ,(a.map λp=>wt (([]:O d9).filter λr=>decide (r.2.1∈p))).sum=0:=λa=>by
   induction a with
   |nil=>rfl
   |cons p ps b=>
    rw[zo,JY,b];rfl
  rw[this];rfl
 |r::L,h=>by
  have b:=rM nd L λz c=>h z (zi _ c);have e:(ps.map λp=>wt ((r::L).filter λr=>decide (r.2.1∈p)))=ps.map λp=>(if r.2.1∈p then r.1 else 0)+wt (L.filter λr=>decide (r.2.1∈p)):=qA λp _=>by
   by_cases hp:r.2.1∈p
   ·rw[xf (by simpa using hp),iI,zt hp]
   ·rw[xi (by simpa using hp),zD hp];omega
  rw[e,CC,Mc nd (h r (zg ..)),iI,b]
def Sd(S:AZ)(rs:O d9):Prop:=∀r∈rs,(r.2.1∈S/\r.2.2.1∈S)\/(r.2.1∉S/\r.2.2.1∉S)
theorem Ip{S:AZ}{F:O d9}(sd:Sd S F):∀{p:O d9} {x y:AJ},Tr F x p y->x∈S->Tr (F.filter λr=>decide (r.2.1∈S)) x p y/\y∈S
 |[],x,y,h,hx=>⟨h,by cases h;exact hx⟩
 |r::p,x,y,⟨m,t,e,h⟩,hx=>by
  rcases sd r m with⟨a,b⟩|⟨a,b⟩
  ·have c:t∈S:=by
    rcases rJ e with⟨h1,h2⟩|⟨h1,h2⟩
    ·rw[<-h2];exact b
    ·rw[<-h2];exact a
   obtain⟨i1,i2⟩:=Ip sd h c;exact⟨⟨List.mem_filter.mpr ⟨m,ZA a⟩,t,e,i1⟩,i2⟩
  ·exfalso;rcases rJ e with⟨h1,h2⟩|⟨h1,h2⟩
   ·exact a (h1▸hx)
   ·exact b (h1▸hx)
def ow(R:O d9)(B:O CF)(p:AZ):dH:=(p,R.filter (λr=>decide (r.2.1∈p)),B.filter λb=>decide (b.1∈p)&&decide (b.2.1∈p))
theorem RV{p:AZ}{r:d9}:r∈(ow R B p).2.1↔r∈R/\r.2.1∈p:=by
 show r∈R.filter _↔_;rw[QQ,zz]
theorem He{p:AZ}{b:CF}:b∈(ow R B p).2.2↔b∈B/\b.1∈p/\b.2.1∈p:=by
 show b∈B.filter _↔_;rw[QQ,ZH,zz,zz]
def Rm(N:AZ)(R:O d9)(B:O CF):Prop:=∀p∈st N (hb N R),(ow R B p).2.2=[]\/(p.length<=8/\(ow R B p).2.1.length<=12)
theorem Gb.hd(g:Gb N R B):Hd N (hb N R):=Hd.hb g.nd g.l3 g.rs
theorem Gb.sd(g:Gb N R B){p:AZ}(hp:p∈st N (hb N R)):Sd p R:=λr a=>by
 obtain⟨x,hx,rfl⟩:=(gQ g.hd).mp hp;have j:=Lx g.nd g.l3 g.rs a;obtain⟨c,b⟩:=g.rs r a;by_cases h:look (hb N R) r.2.1=look (hb N R) x
 ·exact .inl ⟨gP.mpr ⟨c,h⟩,gP.mpr ⟨b,j▸h⟩⟩
 ·exact .inr ⟨λz=>h (gP.mp z).2,λz=>h (j.trans (gP.mp z).2)⟩
theorem Gb.own(g:Gb N R B){p:AZ}(hp:p∈st N (hb N R)):Gb p (ow R B p).2.1 (ow R B p).2.2:=by
 obtain⟨x,hx,e⟩:=(gQ g.hd).mp hp;have fl:=Z3 (λy=>decide (look (hb N R) y=look (hb N R) x)) N;have d:=Z3 (λr:d9=>decide (r.2.1∈p)) R;have bl:=Z3 (λb:CF=>decide (b.1∈p)&&decide (b.2.1∈p)) B;have f:=g.len;have c:=g.rl;have l3:=g.bl;refine⟨by rw[e];exact g.nd.filter _,?_,λr a=>?_,λr a=>g.ne r (RV.mp a).1,g.rd.filter _,?_,λr a=>g.va r (RV.mp a).1,λb hb=>?_,?_⟩
 ·rw[e];exact ja fl f
 ·obtain⟨h1,h2⟩:=RV.mp a;rcases g.sd hp r h1 with z|z
  ·exact z
  ·exact absurd h2 z.1
 ·exact ja d c
 ·obtain⟨h1,h2⟩:=He.mp hb;exact⟨h2,(g.bs b h1).2⟩
 ·exact ja bl l3
def kp(N:AZ)(R:O d9)(B:O CF):O d9:=R.filter λr=>!lO r (ct (ow R B (pt N (hb N R) r.2.1)))
theorem sZ:∀r∈kp N R B,r∈R:=λr a=>(List.mem_filter.mp a).1
theorem RW(g:Gb N R B){p:AZ}(hp:p∈st N (hb N R)):(kp N R B).filter (λr=>decide (r.2.1∈p))=lf (ow R B p).2.1 (ct (ow R B p)):=by
 obtain⟨x,hx,e⟩:=(gQ g.hd).mp hp;unfold kp lf;show _=(R.filter λr:d9=>decide (r.2.1∈p)).filter _;rw[Ya,Ya];refine ko λr a=>?_;by_cases h:r.2.1∈p
 ·have:pt N (hb N R) r.2.1=p:=by
   rw[e]at h ⊢;exact IQ (gP.mp h).2
  rw[this];exact Bool.and_comm _ _
 ·rw[ZN h,yT,yY]
theorem LQ(g:Gb N R B){p:AZ}(hp:p∈st N (hb N R))(hx:x∈p):Fy (kp N R B) x y↔y∈p/\Fy (lf (ow R B p).2.1 (ct (ow R B p))) x y:=by
 rw[<-RW g hp];constructor
 ·rintro⟨q,t⟩;obtain⟨h1,h2⟩:=Ip (λr a=>g.sd hp r (sZ r a)) t hx;exact⟨h2,q,h1⟩
 ·rintro⟨_,c⟩;exact c.more λr a=>(List.mem_filter.mp a).1
theorem Gb.ahG(g:Gb N R B)(hx:x∈N):pt N (hb N R) x∈st N (hb N R)/\x∈pt N (hb N R) x:=⟨(gQ g.hd).mpr ⟨x,hx,rfl⟩,gP.mpr ⟨hx,rfl⟩⟩
theorem Z2{p:AZ}(a:Rm N R B)(hp:p∈st N (hb N R)):(ow R B p).2.2=[]\/(ow R B p).2.1.length<=12:=(a p hp).imp id λz=>z.2
theorem MH(g:Gb N R B)(d:Rm N R B):∀b∈B,¬ Fy (kp N R B) b.1 b.2.1:=λb hb c=>by
 obtain⟨a,e⟩:=(g.bs b hb).1;obtain⟨hp,hx⟩:=g.ahG a;obtain⟨h1,h2⟩:=(LQ g hp hx).mp c;obtain⟨-,c1,-⟩:=ZX (g.own hp) (Z2 d hp);exact c1.fe b (He.mpr ⟨hb,hx,h1⟩) h2
theorem u8{r:d9}:r∈lf R (kp N R B)↔r∈R/\r∈ct (ow R B (pt N (hb N R) r.2.1)):=by
 rw[nW];refine⟨λ⟨h1,h2⟩=>⟨h1,?_⟩,λ⟨h1,h2⟩=>⟨h1,λz=>?_⟩⟩
 ·refine Classical.byContradiction λz=>h2 (List.mem_filter.mpr ⟨h1,?_⟩);cases q:lO r (ct (ow R B (pt N (hb N R) r.2.1)))with
  |false=>rfl
  |true=>exact absurd (jM.mp q) z
 ·have:=(List.mem_filter.mp z).2;rw[jM.mpr h2]at this;cases this
theorem P3(g:Gb N R B)(n:Rm N R B){C:O d9}(d:Cu R B [] [] C):wt (lf R (kp N R B))<=wt C:=by
 have j:=jA g.hd;have nd:(st N (hb N R)).flatten.Nodup:=j.nodup_iff.mpr g.nd;have l:∀r∈R,r.2.1∈(st N (hb N R)).flatten:=λr a=>j.mem_iff.mpr (g.rs r a).1;rw[rM nd (lf R (kp N R B)) λr a=>l r (Fw r a),rM nd C λr a=>l r (d.sub r a)];refine MA λp hp=>?_;obtain⟨-,c1,c2,-⟩:=ZX (g.own hp) (Z2 n hp);have e:wt ((lf R (kp N R B)).filter λr=>decide (r.2.1∈p))=wt (ct (ow R B p)):=by
  refine RQ (Dz ((g.rd.filter _).filter _) c1.nd λr=>?_);rw[QQ,u8,zz];have i:r.2.1∈p->pt N (hb N R) r.2.1=p:=λh=>by
   obtain⟨x,hx,e⟩:=(gQ g.hd).mp hp;rw[e]at h ⊢;exact IQ (gP.mp h).2
  constructor
  ·rintro⟨⟨h1,h2⟩,f⟩;rw[i f]at h2;exact h2
  ·intro h;obtain⟨h1,h2⟩:=RV.mp (c1.sub r h);refine⟨⟨h1,?_⟩,h2⟩;rw[i h2];exact h
 rw[e];refine c2 _ ⟨d.nd.filter _,λr a=>?_,λb hb c=>?_,λr h=>(by cases h),λr h=>(by cases h)⟩
 ·obtain⟨h1,h2⟩:=List.mem_filter.mp a;exact RV.mpr ⟨d.sub r h1,QA h2⟩
 ·refine d.fe b (He.mp hb).1 (c.more λr a=>?_);obtain⟨h1,h2⟩:=nW.mp a;obtain⟨f,m⟩:=RV.mp h1;exact nW.mpr ⟨f,λz=>h2 (List.mem_filter.mpr ⟨z,ZA m⟩)⟩
theorem VN(g:Gb N R B):Rs N (kp N R B)/\∀r∈kp N R B,r.2.1≠r.2.2.1:=g.sub sZ
theorem GK(g:Gb N R B)(hx:x∈N)(a:y∈N):look (hb N (kp N R B)) x=look (hb N (kp N R B)) y↔Fy (kp N R B) x y:=zu g.nd g.l3 (VN g).1 (VN g).2 hx a
theorem Pg(g:Gb N R B):Hd N (hb N (kp N R B)):=Hd.hb g.nd g.l3 (VN g).1
theorem p9(K:O d9)(a:K=R.filter λr=>lO r K):wt K+wt (lf R K)=wt R:=by
 have:=LC (λr=>lO r K) R;rw[<-a]at this;exact this
theorem RX(g:Gb N R B):kp N R B=R.filter λr=>lO r (kp N R B):=by
 conv=>lhs;unfold kp
 refine ko λr a=>?_;cases q:lO r (kp N R B)with
 |true=>exact(List.mem_filter.mp (jM.mp q)).2
 |false=>
  cases z:(!lO r (ct (ow R B (pt N (hb N R) r.2.1))))with
  |false=>rfl
  |true=>
   have:r∈kp N R B:=List.mem_filter.mpr ⟨a,z⟩;rw[jM.mpr this]at q;cases q
theorem OL(g:Gb N R B)(i:Rm N R B){r:d9}(d:r∈R):r∈kp N R B↔Fy (kp N R B) r.2.1 r.2.2.1:=by
 refine⟨λh=>⟨[r],h,_,Yk r,rfl⟩,λc=>Classical.byContradiction λu=>?_⟩;have fe:=MH g i;have H:Cu R B [] [] (R.filter λz=>!decide (look (hb N (kp N R B)) z.2.1=look (hb N (kp N R B)) z.2.2.1)):=by
  refine⟨g.rd.filter _,λz a=>(List.mem_filter.mp a).1,λb hbB ⟨p,t⟩=>?_,λr h=>(by cases h),λr h=>(by cases h)⟩;obtain⟨w,v⟩:=(g.bs b hbB).1;refine fe b hbB ((GK g w v).mp ?_);have I:∀{p:O d9} {x y:AJ},Tr (lf R (R.filter λz=>!decide (look (hb N (kp N R B)) z.2.1=look (hb N (kp N R B)) z.2.2.1))) x p y->look (hb N (kp N R B)) x=look (hb N (kp N R B)) y:=by
   intro p
   induction p with
   |nil=>intro x y t;cases t;rfl
   |cons z p A=>
    intro x y t;obtain⟨m,t1,o,t2⟩:=t;obtain⟨j,G⟩:=nW.mp m;have e:look (hb N (kp N R B)) z.2.1=look (hb N (kp N R B)) z.2.2.1:=Classical.byContradiction λq=>G (List.mem_filter.mpr ⟨j,by rw[ZN q];rfl⟩);rw[<-A t2];rcases rJ o with⟨h1,h2⟩|⟨h1,h2⟩
    ·rw[<-h1,<-h2];exact e
    ·rw[<-h1,<-h2];exact e.symm
  exact I t
 have h1:=P3 g i H;have pos:∀z∈lf R (kp N R B),1<=z.1:=λz a=>(g.va z (Fw z a)).1;have f:r∈lf R (kp N R B):=nW.mpr ⟨d,u⟩;obtain⟨l,E⟩:=g.rs r d;have h2:wt (R.filter λz=>!decide (look (hb N (kp N R B)) z.2.1=look (hb N (kp N R B)) z.2.2.1))<=wt ((lf R (kp N R B)).erase r):=by
  refine Lz (g.rd.filter _) (λz a=>?_) λz a=>pos z (fm a);obtain⟨z1,z2⟩:=List.mem_filter.mp a;have s:z≠r:=λe=>by
   subst e;rw[ZA ((GK g l E).mpr c)]at z2;cases z2
  refine(kK s).mpr (nW.mpr ⟨z1,λn=>?_⟩);obtain⟨F,C⟩:=g.rs z z1;rw[ZA ((GK g F C).mpr ⟨[z],n,_,Yk z,rfl⟩)]at z2;cases z2
 have D:=RQ (yf f);rw[iI]at D;have:=pos r f;omega
def wf[DecidableEq α](f:AJ->α)(R:O d9):Int:=wt (R.filter λr=>decide (f r.2.1=f r.2.2.1))
theorem Pi(g:Gb N R B)(s:Rm N R B)[DecidableEq α](f:AJ->α)(i:∀b∈B,f b.1≠f b.2.1):wf f R<=wt (kp N R B):=by
 have l:Cu R B [] [] (R.filter λz=>!decide (f z.2.1=f z.2.2.1)):=by
  refine⟨g.rd.filter _,λz a=>(List.mem_filter.mp a).1,λb hb ⟨p,t⟩=>i b hb ?_,λr h=>(by cases h),λr h=>(by cases h)⟩;have n:∀{p:O d9} {x y:AJ},Tr (lf R (R.filter λz=>!decide (f z.2.1=f z.2.2.1))) x p y->f x=f y:=by
   intro p
   induction p with
   |nil=>intro x y t;cases t;rfl
   |cons z p c=>
    intro x y t;obtain⟨m,t1,o,t2⟩:=t;obtain⟨d,j⟩:=nW.mp m;have e:f z.2.1=f z.2.2.1:=Classical.byContradiction λq=>j (List.mem_filter.mpr ⟨d,by rw[ZN q];rfl⟩);rw[<-c t2];rcases rJ o with⟨h1,h2⟩|⟨h1,h2⟩
    ·rw[<-h1,<-h2];exact e
    ·rw[<-h1,<-h2];exact e.symm
  exact n t
 have h1:=P3 g s l;have h2:=p9 (kp N R B) (RX g);have u:=LC (λz=>decide (f z.2.1=f z.2.2.1)) R;unfold wf;omega
theorem MU(g:Gb N R B)(d:Rm N R B):wf (look (hb N (kp N R B))) R=wt (kp N R B):=by
 unfold wf;have:(R.filter λr=>decide (look (hb N (kp N R B)) r.2.1=look (hb N (kp N R B)) r.2.2.1))=kp N R B:=by
  conv=>rhs;rw[RX g]
  refine ko λr a=>?_;obtain⟨c,b⟩:=g.rs r a;rw[JJ,zz,GK g c b,jM,OL g d a]
 rw[this]
theorem N3{β:Type}:∀(a m:O (AJ×β)),((m++a).map (·.1)).Nodup->a.foldl (λm q=>put m q.1 q.2) m=m++a
 |[],m,_=>by simp
 |q::a,m,nd=>by
  have b:¬ has m q.1=true:=λe=>by
   rw[qh,zo,kb]at nd;exact nd.2.2 _ (lY.mp e) _ (zg ..) rfl
  have e:put m q.1 q.2=m++[q]:=by unfold put;rw[zD b]
  rw[qr,e,N3 a (m++[q]) (by rw[ZT];exact nd),ZT];rfl
theorem UT{xs:O α}{q:Int×α}:q∈yC xs↔∃k:Nat,q.1=(k:Int)/\xs[k]?=Z q.2:=by
 unfold yC;rw[fq];constructor
 ·rintro⟨k,h⟩;rw[K0]at h;by_cases c:k<xs.length
  ·rw[kN c,Zp c]at h;simp only[Option.some.injEq]at h;subst h;exact⟨k,rfl,Zp c⟩
  ·rw[qV (l:=xs) ()]at h;cases d:(cf xs.length)[k]?<;>rw[d]at h<;>simp at h
 ·rintro⟨k,e,h⟩;obtain⟨c,e2⟩:=bv.mp h;refine⟨k,?_⟩;rw[K0,kN c,h];obtain⟨a,b⟩:=q;simp only at e;rw[e]
theorem S'(xs:O α):(yC xs).map (·.2)=xs:=by
 unfold yC;refine i5 λk=>?_;rw[ZE,K0];by_cases a:k<xs.length
 ·rw[kN a,Zp a];rfl
 ·rw[qV (l:=xs) ()];cases(cf xs.length)[k]?<;>rfl
structure Pt (n_:AZ) (sets:List AZ):Prop where
 ne:∀s∈sets,s≠[]
 so:∀s∈sets,s.Pairwise pF
 pm:sets.flatten.Perm n_
def HP(sets:O AZ):O (AJ×Int):=(yC sets).flatMap λq1:(Int×AZ)=>(q1.2.map λa:AJ=>(a,q1.1))
theorem Ir(sets:O AZ):(HP sets).map (·.1)=sets.flatten:=by
 have:∀es:O (Int×AZ),(es.flatMap λq1:(Int×AZ)=>(q1.2.map λb:AJ=>(b,q1.1))).map (·.1)=(es.map (·.2)).flatten:=λes=>by
  induction es with
  |nil=>rfl
  |cons q es a=>
   rw[JA,qh,a,zo,qS,Q2];congr 1;exact Qr _
 unfold HP;rw[this,S']
section
variable{sets:O AZ}(V8:Pt n_ sets)(nd:n_.Nodup)
include V8 nd
theorem Pt.fn:sets.flatten.Nodup:=V8.pm.nodup_iff.mpr nd
theorem VP:jy sets=HP sets:=by
 have:=N3 (HP sets) [] (by rw[k6,Ir];exact V8.fn nd);rw[k6]at this;exact this
theorem VR{k:Nat}{s:AZ}(a:sets[k]?=Z s)(hx:x∈s):look (jy sets) x=(k:Int):=by
 rw[VP V8 nd];have:(x,(k:Int))∈HP sets:=dd.mpr ⟨((k:Int),s),UT.mpr ⟨k,rfl,a⟩,List.mem_map.mpr ⟨x,hx,rfl⟩⟩;exact Dw (by rw[Ir];exact V8.fn nd) this
theorem XV(hx:x∈n_)(m:y∈n_):look (jy sets) x=look (jy sets) y↔P1.same sets x y:=by
 obtain⟨s,hs,xs⟩:=db.mp (V8.pm.mem_iff.mpr hx);obtain⟨t,g,b⟩:=db.mp (V8.pm.mem_iff.mpr m);obtain⟨i,hi⟩:=fq.mp hs;obtain⟨j,a⟩:=fq.mp g;rw[VR V8 nd hi xs,VR V8 nd a b];constructor
 ·intro e;have:i=j:=by omega
  subst this;rw[hi]at a;cases a;exact⟨s,hs,xs,b⟩
 ·rintro⟨u,d,n,o⟩;have e1:=qR (V8.fn nd) hs d xs n;have e2:=qR (V8.fn nd) g d b o;subst e1 e2;have p:=CG (V8.fn nd) V8.ne;have:i=j:=by
   obtain⟨c,h⟩:=bv.mp hi;obtain⟨l,f⟩:=bv.mp a;have pw:=dI.mp p;rcases jd i j with z|z|z
   ·exact absurd (h.trans f.symm) (pw i j c l z)
   ·exact z
   ·exact absurd (f.trans h.symm) (pw j i l c z)
  rw[this]
theorem Ph(hx:x∈n_):has (jy sets) x=true:=lY.mpr (by rw[VP V8 nd,Ir];exact V8.pm.mem_iff.mpr hx)
theorem dS(a:n_.length<64):wL sets:=by
 refine⟨λ_ _ _ _=>trivial,?_⟩;have:(HP sets).length=n_.length:=by rw[<-V8.pm.length_eq,<-Ir,zl]
 show(HP sets).length<1000;omega
end
theorem yJ:∀{w:O AZ},(∀s∈w,s≠[])->w.length<=w.flatten.length
 |[],_=>QP _
 |s::w,h=>by
  have:=yJ λs hs=>h s (zi _ hs);have:=hC.mpr (h s (zg ..));rw[qS,zC,ZI];omega
theorem Pj{α:Type}{step:Unit->α->Unit}{P:Unit->α->Y Prop}:∀(xs:O α),(∀x∈xs,hold (P r9 x))->j8 step P xs r9
 |[],_=>trivial
 |x::xs,h=>⟨h x (zg ..),Pj xs λz a=>h z (zi _ a)⟩
theorem Pk{α:Type}{g:O α->O (O α)}:∀{l:O (O α)},(∀p∈l,(g p).flatten.Perm p)->(l.flatMap g).flatten.Perm l.flatten
 |[],_=>.refl _
 |p::l,h=>by
  rw[JA,kP,qS];exact(h p (zg ..)).append (Pk λq a=>h q (zi _ a))
theorem Gb.lst(g:Gb N R B){R':O d9}(h:∀r∈R',r∈R):D9 N (hb N R'):=Yj g.nd g.l3 R' _ (g.sub h).1 (Fk g.nd g.l3) (RE g.nd g.l3)
theorem b7(g:Gb N R B)(j:N.Pairwise pF):jN ((st N (hb N R)).flatMap λp=>st p (hb p (lf (ow R B p).2.1 (ct (ow R B p)))))=st N (hb N (kp N R B))/\((st N (hb N R)).flatMap λp=>st p (hb p (lf (ow R B p).2.1 (ct (ow R B p))))).flatten.Perm N/\∀s∈((st N (hb N R)).flatMap λp=>st p (hb p (lf (ow R B p).2.1 (ct (ow R B p))))),s≠[]:=by
 have hd:∀p∈st N (hb N R),Hd p (hb p (lf (ow R B p).2.1 (ct (ow R B p)))):=λp hp=>Hd.hb (g.own hp).nd (g.own hp).l3 ((g.own hp).sub Fw).1;have ps:∀p∈st N (hb N R),p.Pairwise pF:=λp hp=>by
  obtain⟨x,hx,rfl⟩:=(gQ g.hd).mp hp;exact j.filter _
 have fp:((st N (hb N R)).flatMap λp=>st p (hb p (lf (ow R B p).2.1 (ct (ow R B p))))).flatten.Perm N:=(Pk λp hp=>jA (hd p hp)).trans (jA g.hd);have l:∀s∈((st N (hb N R)).flatMap λp=>st p (hb p (lf (ow R B p).2.1 (ct (ow R B p))))),s≠[]:=λs hs=>by
  obtain⟨p,hp,hs⟩:=dd.mp hs;exact LK (hd p hp) hs
 refine⟨?_,fp,l⟩;have sp:=yw ((st N (hb N R)).flatMap λp=>st p (hb p (lf (ow R B p).2.1 (ct (ow R B p)))));have h:=sp.flatten.trans fp;have n:Wd N (jN ((st N (hb N R)).flatMap λp=>st p (hb p (lf (ow R B p).2.1 (ct (ow R B p)))))):=by
  refine⟨λs hs=>l s (sp.mem_iff.mp hs),λs hs=>?_,h.nodup_iff.mpr g.nd,λx hx=>h.mem_iff.mp hx,yx _⟩;obtain⟨p,hp,hs⟩:=dd.mp (sp.mem_iff.mp hs);obtain⟨x,hx,rfl⟩:=(gQ (hd p hp)).mp hs;exact(ps p hp).filter _
 have i:=Pg g;refine bP n (Md j i (g.lst sZ)) (λx=>by rw[h.mem_iff,(jA i).mem_iff]) λx y=>?_;rw[Z0 i];constructor
 ·rintro⟨s,hs,hx,f⟩;obtain⟨p,hp,hs⟩:=dd.mp (sp.mem_iff.mp hs);obtain⟨a,b,e⟩:=(Z0 (hd p hp) x y).mp ⟨s,hs,hx,f⟩;have o:=g.own hp;have q:=o.sub (R':=lf (ow R B p).2.1 (ct (ow R B p))) Fw;have c:=(zu o.nd o.l3 q.1 q.2 a b).mp e;have d:∀z∈p,z∈N:=λz m=>by
   obtain⟨w,t,rfl⟩:=(gQ g.hd).mp hp;exact(gP.mp m).1
  exact⟨d x a,d y b,(GK g (d x a) (d y b)).mpr ((LQ g hp a).mpr ⟨b,c⟩)⟩
 ·rintro⟨hx,f,e⟩;obtain⟨hp,a⟩:=g.ahG hx;obtain⟨b,c⟩:=(LQ g hp a).mp ((GK g hx f).mp e);have o:=g.own hp;have q:=o.sub (R':=lf (ow R B (pt N (hb N R) x)).2.1 (ct (ow R B (pt N (hb N R) x)))) Fw;obtain⟨s,hs,h1,h2⟩:=(Z0 (hd _ hp) x y).mpr ⟨a,b,(zu o.nd o.l3 q.1 q.2 a b).mpr c⟩;exact⟨s,sp.mem_iff.mpr (dd.mpr ⟨_,hp,hs⟩),h1,h2⟩
theorem kw(a:N.Pairwise pF)(h:Hd N m):Pt N (st N m):=⟨λs hs=>LK h hs,λs hs=>by
 obtain⟨x,hx,rfl⟩:=(gQ h).mp hs;exact a.filter _,jA h⟩
theorem og(e:N.Pairwise pF)(nd:N.Nodup)(f:N.length<64)(h:Hd N m){L:O d9}(b:Rs N L)(g:L.length<1000):lB (st N m) L/\dW (st N m) L=L.filter λr=>decide (look m r.2.1=look m r.2.2.1):=by
 have p:=kw e h;refine⟨⟨dS p nd f,by omega,λr a=>⟨Ph p nd (b r a).1,Ph p nd (b r a).2⟩⟩,?_⟩;unfold dW;rw[Qr];refine ko λr a=>?_;obtain⟨d,c⟩:=b r a;rw[JJ,zz,zz,XV p nd d c,Z0 h];exact⟨λz=>z.2.2,λz=>⟨d,c,z⟩⟩
theorem iP(g:Gb N R B)(j:N.Pairwise pF)(d:Rm N R B):pC (N,R,B)/\iu (N,R,B)=(st N (hb N (kp N R B)),wt (kp N R B),wt R-wt (kp N R B)):=by
 obtain⟨l,e1,h1⟩:=Yi g.nd g.l3 g.rs;obtain⟨d2,e2⟩:=RN h1;have i:pA (N,R,B)=st N (hb N R):=by
  show dM (mJ N R)=_;rw[e1];exact e2
 have y:wI (N,R,B):=by
  refine⟨l,?_⟩;show lq (mJ N R);rw[e1];exact d2
 have u:jg (N,R,B)=(st N (hb N R)).map (ow R B):=by
  unfold jg;dsimp only;rw[i];refine qA λp hp=>?_;rw[Qr,Qr];rfl
 have I:=g.rl;have bl:=g.bl;have K:=g.len;obtain⟨F,x,f⟩:=b7 g j;have n:((st N (hb N R)).map (ow R B)).flatMap (λC:dH=>((dU C).map λe:AZ=>e))=(st N (hb N R)).flatMap λp=>st p (hb p (lf (ow R B p).2.1 (ct (ow R B p)))):=by
  rw[List.flatMap_map];have:∀ps:O AZ,(∀p∈ps,p∈st N (hb N R))->ps.flatMap (λa=>pS (λe:AZ=>e) (dU (ow R B a)))=ps.flatMap λp=>st p (hb p (lf (ow R B p).2.1 (ct (ow R B p)))):=λps=>by
   induction ps with
   |nil=>intro _;rfl
   |cons p ps D=>
    intro h;rw[JA,JA,D λq b=>h q (zi _ b),Qr];have hp:=h p (zg ..);have:=(ZX (g.own hp) (Z2 d hp)).2.2.2;rw[show dU (ow R B p)=_ from this];rfl
  exact this _ λp hp=>hp
 have sl:(st N (hb N R)).length<=N.length:=by
  have:=yJ (w:=st N (hb N R)) λs hs=>LK g.hd hs;rw[(jA g.hd).length_eq]at this;exact this
 have fl:((st N (hb N R)).flatMap λp=>st p (hb p (lf (ow R B p).2.1 (ct (ow R B p))))).length<=N.length:=by
  have:=yJ f;rw[x.length_eq]at this;exact this
 obtain⟨v,A⟩:=og j g.nd g.len (Pg g) g.rs ();have m:dW (st N (hb N (kp N R B))) R=kp N R B:=by
  rw[A]
  conv=>rhs;rw[RX g]
  refine ko λr c=>?_;obtain⟨o,E⟩:=g.rs r c;rw[JJ,zz,GK g o E,jM,OL g d c]
 have J:(kp N R B).length<=R.length:=Z3 _ _;unfold pC iu;dsimp only;rw[u,n,F,m];refine⟨⟨⟨⟨y,by rw[i];omega⟩,λp hp=>⟨by show R.length<=_;omega,by show B.length<=_;omega⟩⟩,Pj _ λq b=>?_,⟨⟨λq b=>⟨?_,λ_ _=>trivial⟩,by omega⟩,by omega,λs hs=>?_⟩,⟨v,VJ () λr c=>g.va r (sZ r c)⟩,VJ () g.va⟩,rfl⟩
 ·obtain⟨p,hp,rfl⟩:=List.mem_map.mp b;show _->False;intro z;rw[ZH,yk,zz,zz]at z;rcases d p hp with t|⟨H,G⟩
  ·have z1:=z.1;rw[t]at z1;cases z1
  ·have:(ow R B p).1=p:=rfl;rw[this]at z;omega
 ·obtain⟨p,hp,rfl⟩:=List.mem_map.mp b;exact(ZX (g.own hp) (Z2 d hp)).1
 ·have:=f s hs;cases s with
  |nil=>exact absurd S this
  |cons _ _=>rfl
theorem V0(g:Gb N R B)(h1:N.length<=8)(h2:R.length<=12):Rm N R B:=λp hp=>by
 obtain⟨x,hx,rfl⟩:=(gQ g.hd).mp hp;exact .inr ⟨Zs (Z3 _ _) h1,Zs (Z3 _ _) h2⟩
def DC(xs:O Int)(a:AJ)(at_:Int)(k:Int):AJ:=if(decide (((at' xs 3)%3)=1))=true then(Txt.mul (ch LT (k / (8:Int))) (1+(k%8)))else(((Txt.slice a U (Z at_))++(ch LT ((k+(at' xs 2))%15)))++(Txt.slice a (Z at_) U))
theorem Ao{α β:Type}(g:β->α):∀(l:O β) (f:O α),l.foldl (λf k=>f++[g k]) f=f++l.map g
 |[],f=>by simp
 |k::l,f=>by rw[qr,Ao g l];simp
theorem uC(xs:O Int)(a:Int):∃b at_,cW xs a=(rng 0 a.toNat).map (DC xs b at_):=by
 refine⟨_,_,(Ao (DC xs _ _) _ []).trans (k6 _)⟩
theorem Yl{a b m c:AJ}(h:(a++m)++b=(a++c)++b):m=c:=by
 have h:=congrArg (λs:AJ=>s.cps.toList) h;have h:((a.cps++m.cps)++b.cps).toList=((a.cps++c.cps)++b.cps).toList:=h;simp only[g6]at h;have:=List.append_cancel_left (List.append_cancel_right h);cases m;cases c;congr 1;exact Array.ext' this
theorem VU:∀i:Fin 30,∀j:Fin 30,Txt.mul (ch LT ((i.val:Int) / 8)) (1+(i.val:Int)%8)=Txt.mul (ch LT ((j.val:Int) / 8)) (1+(j.val:Int)%8)->i=j:=by decide +kernel
theorem hW:∀i:Fin 15,∀j:Fin 15,ch LT (i.val:Int)=ch LT (j.val:Int)->i=j:=by decide +kernel
theorem sx{x y:Int}(hx:0<=x/\x<15)(a:0<=y/\y<15)(h:ch LT x=ch LT y):x=y:=by
 have:=hW ⟨x.toNat,by omega⟩ ⟨y.toNat,by omega⟩ (by
  show ch LT ((x.toNat:Nat):Int)=ch LT ((y.toNat:Nat):Int);rw[hE hx.1,hE a.1];exact h)
 have:=congrArg Fin.val this;have:x.toNat=y.toNat:=this;omega
theorem mS{xs:O Int}{a:AJ}{at_:Int}(hi:i<15)(b:j<15)(h:DC xs a at_ i=DC xs a at_ j):i=j:=by
 unfold DC at h;by_cases e:(decide (((at' xs 3)%3)=1))=true
 ·rw[zt e,zt e]at h;exact congrArg Fin.val (VU ⟨i,by omega⟩ ⟨j,by omega⟩ h)
 ·rw[zD e,zD e]at h;have:=sx (jO _ ()) (jO _ ()) (Yl h);omega
theorem Po{g:Int->AJ}(h:∀i j:Nat,i<n->j<n->g i=g j->i=j):((rng 0 n).map g).Nodup:=by
 unfold rng;rw[Q2];unfold List.Nodup;rw[kF];refine JI ?_ (Y1 (n:=n));intro a b c hb d e;refine d (h a b (List.mem_range.mp c) (List.mem_range.mp hb) ?_);have e:g (0+(a:Int))=g (0+(b:Int)):=e;rwa [n9,n9]at e
theorem SF(xs:O Int)(a:Int)(h:a<=15):(cW xs a).Nodup:=by
 obtain⟨c,at_,e⟩:=uC xs a;rw[e];exact Po λi j hi b=>mS () ()
def Lw(c:Nat):Prop:=97<=c/\c<=122
def Nm(s:AJ):Prop:=1<=s.length/\s.length<=8/\∀c∈cs s,Lw c
theorem UM(c:Nat)(n:Int)(h:1<=n):cs (Txt.mul ⟨#[c]⟩ n)=bb n.toNat c:=by
 unfold Txt.mul;split
 ·omega
 split
 ·rename_i h;simp only[yk,beq_iff_eq]at h;rcases h with h|h
  ·subst h;rfl
  ·cases h
 ·have:∀(k:Nat) (a:Array Nat),((bb k (#[c]:Array Nat)).foldl (·++·) a).toList=a.toList++bb k c:=by
   intro k
   induction k with
   |zero=>intro a;simp
   |succ k b=>
    intro a;rw[ym,qr,b,g6,ym];simp
  exact(this _ _).trans (by simp)
theorem IU{i:Int}(h:0<=i/\i<26):ch LT i=⟨#[97+i.toNat]⟩:=by
 have:∀i:Fin 26,ch LT (i.val:Int)=⟨#[97+i.val]⟩:=by decide +kernel
 have:=this ⟨i.toNat,by omega⟩;rwa [show((⟨i.toNat,by omega⟩:Fin 26).val:Int)=i by show(i.toNat:Int)=i;omega]at this
theorem gS{i n:Int}(h:0<=i/\i<26)(h1:1<=n)(b:n<=8):Nm (Txt.mul (ch LT i) n):=by
 have e:=UM (97+i.toNat) n h1;rw[<-IU h]at e;refine⟨?_,?_,λc a=>?_⟩
 ·rw[Kz,e,eH];omega
 ·rw[Kz,e,eH];omega
 ·rw[e]at a;rw[(List.mem_replicate.mp a).2];unfold Lw;omega
theorem UC{l:AZ}{c:Nat}(h:c∈cs (Txt.join "" l)):∃q∈l,c∈cs q:=by
 cases l with
 |nil=>cases h
 |cons p ps=>
  rw[nk]at h;rcases List.mem_append.mp h with h|h
  ·exact⟨p,zg ..,h⟩
  ·obtain⟨q,a,h⟩:=dd.mp h;exact⟨q,zi _ a,h⟩
theorem VC(xs:O Int)(e:Int):∃(d:AJ) (at_:Int),(∀c∈cs d,Lw c)/\d.length<=5/\0<=at_/\at_<=(d.length:Int)/\cW xs e=(rng 0 e.toNat).map (DC xs d at_):=by
 have g:=jO (at' xs 0) (m:=6) ();have mem:∀x∈((rng 0 (at' xs 0%6).toNat).map λa:Int=>ch LT (at' xs a / 40%26)),x.length=1/\∀c∈cs x,Lw c:=λx hx=>by
  obtain⟨k,_,rfl⟩:=List.mem_map.mp hx;refine⟨Km _ _,λc b=>?_⟩;rw[IU (jO _ ())]at b;cases ba.mp b;have:=jO (at' xs k / 40) (m:=26) ();unfold Lw;omega
 refine⟨Txt.join "" ((rng 0 (at' xs 0%6).toNat).map λa:Int=>ch LT (at' xs a / 40%26)),at' xs 1%(((Txt.join "" ((rng 0 (at' xs 0%6).toNat).map λa:Int=>ch LT (at' xs a / 40%26))).length:Int)+1),λc b=>?_,?_,?_,?_,(Ao (DC xs _ _) _ []).trans (k6 _)⟩
 ·obtain⟨q,f,h⟩:=UC b;exact(mem q f).2 c h
 ·have:=NJ _ 1 λx hx=>kl (mem x hx).1;rw[zl,Cr]at this;omega
 ·exact(jO _ ()).1
 ·have:=(jO (at' xs 1) (m:=((Txt.join "" ((rng 0 (at' xs 0%6).toNat).map λa:Int=>ch LT (at' xs a / 40%26))).length:Int)+1) ()).2;omega
theorem XN{xs:O Int}{a:AJ}{at_:Int}(h1:∀c∈cs a,Lw c)(h2:a.length<=5)(h:0<=at_)(l:at_<=(a.length:Int)){k:Int}(j:0<=k/\k<15):Nm (DC xs a at_ k):=by
 unfold DC;split
 ·exact gS () () ()
 ·have d:=ac (x:=a) (n:=at_.toNat) ();have f:=uS (x:=a) (n:=at_.toNat) ();rw[hE h]at d f;have c1:=IU (i:=(k+at' xs 2)%15) (by have:=jO (k+at' xs 2) (m:=15) ();omega);have m:=jO (k+at' xs 2) (m:=15) ();have e:cs ((Txt.slice a U (Z at_)++ch LT ((k+at' xs 2)%15))++Txt.slice a (Z at_) U)=((cs a).take at_.toNat++[97+((k+at' xs 2)%15).toNat])++(cs a).drop at_.toNat:=by
   rw[Q0,Q0,d,f,c1]
  have g:((Txt.slice a U (Z at_)++ch LT ((k+at' xs 2)%15))++Txt.slice a (Z at_) U).length=a.length+1:=by
   rw[Kz,e,zC,zC,kg,KF,<-Kz];show _+1+_=_;omega
  refine⟨by rw[g];omega,by rw[g];omega,λc b=>?_⟩;rw[e]at b;rcases List.mem_append.mp b with b|b
  ·rcases List.mem_append.mp b with b|b
   ·exact h1 c (gC b)
   ·cases ba.mp b;unfold Lw;omega
  ·exact h1 c (m8 b)
theorem l8(xs:O Int)(a:Int)(h:a<=15):∀n∈cW xs a,Nm n:=by
 obtain⟨i,at_,h1,h2,b,f,e⟩:=VC xs a;rw[e];intro n d;obtain⟨k,c,rfl⟩:=List.mem_map.mp d;obtain⟨j,g,rfl⟩:=ZJ c;exact XN h1 h2 b f ()
theorem RZ{a b:Int}(c:0<=a/\a<n)(hb:0<=b/\b<n):In n (if b<a then b else a):=by split<;>exact BE () ()
theorem R0{a b:Int}(c:0<=a/\a<n)(hb:0<=b/\b<n):In n (if b>a then b else a):=by split<;>exact BE () ()
theorem Z4{a:Int}(b:n=a.toNat){x y:Int}(h:(!decide (x%(if a>1 then a else 1)=y%(if a>1 then a else 1)))=true):(0<=x%(if a>1 then a else 1)/\x%(if a>1 then a else 1)<n)/\(0<=y%(if a>1 then a else 1)/\y%(if a>1 then a else 1)<n):=by
 by_cases e:a>1
 ·rw[zt e]at h ⊢;have h1:=jO x (m:=a) ();have h2:=jO y (m:=a) ();omega
 ·rw[zD e]at h;simp at h
theorem V1{a:Int}:0<(if a>1 then a else 1):=by split<;>omega
def RT(r:d9):Prop:=((-1000:Int)<=r.1/\r.1 ≤ -1)/\Gi r.2.1 r.2.2.1=true/\r.2.2.2≠9
theorem Pl(c:n_.Pairwise λa b=>Gi a b=true){i j:Int}(h0:0<=i)(h1:i<j)(h2:j<n_.length):Gi (at' n_ i) (at' n_ j)=true:=by
 obtain⟨a,rfl⟩:∃a:Nat,i=(a:Int):=⟨i.toNat,by omega⟩;obtain⟨b,rfl⟩:∃b:Nat,j=(b:Int):=⟨j.toNat,by omega⟩;rw[Et n_ a (),Et n_ b ()];exact dI.mp c a b () () ()
theorem pT(f:O Int)(at_ d:Int)(D:0<=at_)(a1:at_<=500)(g:O Int)(A:6<=g.length)(n_:AZ)(s:n_.length=d.toNat)(k:Nat)(B:k<60)(e:O d9)(q:n_.Pairwise λa b=>Gi a b=true)(h:e.length<=k/\Rs n_ e/\∀r∈e,RT r):
  jB f at_ d g n_ e k/\(dJ f at_ d g n_ e k).length<=k+1/\Rs n_ (dJ f at_ d g n_ e k)/\∀r∈dJ f at_ d g n_ e k,RT r:=by
 obtain⟨t,n,v⟩:=RM (bJ f ((at_+1)+k)) 4 () ();have n:(bB (bJ f ((at_+1)+k)) 4).length=4:=n;unfold jB dJ;dsimp only;generalize bB (bJ f ((at_+1)+k)) 4=xs at *
 have p:=λx y=>Z4 (x:=x) (y:=y) s;have o:=@V1 d;generalize (if d>1 then d else 1)=mm at *
 have j:∀i:Nat,i<4->In xs.length (i:Int):=λi hi=>Kl ();refine⟨⟨⟨RK _ _ () (),t⟩,⟨⟨j 0 (),o⟩,j 1 (),o⟩,⟨⟨⟨j 2 (),j 2 (),j 2 ()⟩,BE () ()⟩,Ad () (Kt 3)⟩,λl=>?_⟩,?_⟩
 ·have:=p _ _ l;exact⟨⟨RZ this.1 this.2,R0 this.1 this.2,j 3 (),Ad () ()⟩,wN ()⟩
 ·split
  ·rename_i l;have:=p _ _ l;refine⟨by rw[zC];show _+1<=_;omega,λr c=>?_,λr c=>?_⟩
   ·rcases List.mem_append.mp c with c|c
    ·exact h.2.1 r c
    ·cases ba.mp c;exact⟨vG (RZ this.1 this.2),vG (R0 this.1 this.2)⟩
   ·rcases List.mem_append.mp c with c|c
    ·exact h.2.2 r c
    ·cases ba.mp c;have w:=vG (xs:=[1+at' xs 2%3,1+at' xs 2%9,1+at' xs 2%1000]) (i:=at' g 4%3) (Ad () (Kt 3));have u:=vG (xs:=[(0:Int),(2:Int),(10:Int)]) (i:=at' xs 3%3) (Ad () (Kt 3));have C:=jO (at' xs 2) (m:=3) ();have z:=jO (at' xs 2) (m:=9) ();have bk:=jO (at' xs 2) (m:=1000) ();simp only[js,JP,or_false]at w u;have l:at' xs 0%mm≠at' xs 1%mm:=by simpa using l
     refine⟨?_,?_,?_⟩
     ·show _<=0 - _/\(0:Int) - _<=_;omega
     ·show Gi (at' n_ _) (at' n_ _)=true;split<;>split<;>first|exact Pl q () () ()|(exfalso;omega)
     ·show at' _ _≠9;omega
  ·exact⟨by omega,h.2⟩
theorem gm(d:O Int)(at_ c:Int)(s:0<=at_)(a1:at_<=500)(n_:AZ)(q:n_.length=c.toNat)(k:Nat)(t:k<60)(g:O (AJ×AJ×Int))(o:n_.Pairwise λa b=>Gi a b=true)(h:g.length<=k/\∀b∈g,(b.1∈n_/\b.2.1∈n_)/\Gi b.1 b.2.1=true):
  jC d at_ c n_ g k/\(eG d at_ c n_ g k).length<=k+1/\∀b∈eG d at_ c n_ g k,(b.1∈n_/\b.2.1∈n_)/\Gi b.1 b.2.1=true:=by
 obtain⟨p,m,u⟩:=RM (bJ d ((at_+1)+k)) 8 () ();have m:(bB (bJ d ((at_+1)+k)) 8).length=8:=m;unfold jC eG;dsimp only;generalize bB (bJ d ((at_+1)+k)) 8=xs at *
 have n:=λx y=>Z4 (x:=x) (y:=y) q;have l:=@V1 c;generalize (if c>1 then c else 1)=mm at *
 have j:∀i:Nat,i<8->In xs.length (i:Int):=λi hi=>Kl ();refine⟨⟨⟨RK _ _ () (),p⟩,⟨⟨j 5 (),l⟩,j 6 (),l⟩,λe=>?_⟩,?_⟩
 ·have:=n _ _ e;exact⟨⟨RZ this.1 this.2,R0 this.1 this.2,j 7 (),Ad () ()⟩,wN ()⟩
 ·split
  ·rename_i e;have:=n _ _ e;refine⟨by rw[zC];show _+1<=_;omega,λr f=>?_⟩;rcases List.mem_append.mp f with f|f
   ·exact h.2 r f
   ·cases ba.mp f;have e:at' xs 5%mm≠at' xs 6%mm:=by simpa using e
    refine⟨⟨vG (RZ this.1 this.2),vG (R0 this.1 this.2)⟩,?_⟩;show Gi (at' n_ _) (at' n_ _)=true;split<;>split<;>first|exact Pl o () () ()|(exfalso;omega)
  ·exact⟨by omega,h.2⟩
structure Gr (g:AZ×(List d9)×(List (Str×Str×Int))):Prop where
 nd:g.1.Nodup
 len:g.1.length<=8
 rs:Rs g.1 g.2.1
 rl:g.2.1.length<=12
 so:g.1.Pairwise pF
 nm:∀n∈g.1,Nm n
 va:∀r∈g.2.1,(1<=r.1/\r.1<=1000)/\Gi r.2.1 r.2.2.1=true/\r.2.2.2≠9
 rd:g.2.1.Nodup
 bl:g.2.2.length<=4
 bs:∀b∈g.2.2,(b.1∈g.1/\b.2.1∈g.1)/\Gi b.1 b.2.1=true
theorem Rs.turn{rs:O d9}(h:Rs n_ rs):Rs n_ (rs.map λa:(Int×AJ×AJ×Int)=>(((0:Int)-a.1),a.2.1,a.2.2.1,a.2.2.2)):=λr b=>by
 obtain⟨q,c,rfl⟩:=List.mem_map.mp b;exact h q c
theorem sT{rs:O d9}(h:∀r∈rs,RT r):∀r∈(rs.map λa:(Int×AJ×AJ×Int)=>(((0:Int)-a.1),a.2.1,a.2.2.1,a.2.2.2)),(1<=r.1/\r.1<=1000)/\Gi r.2.1 r.2.2.1=true/\r.2.2.2≠9:=λr d=>by
 obtain⟨q,e,rfl⟩:=List.mem_map.mp d;obtain⟨f,c,b⟩:=h q e;exact⟨⟨show(1:Int)<=0-q.1 by omega,show(0:Int)-q.1<=1000 by omega⟩,c,b⟩
theorem pV(g:O Int)(at_ c i j:Int)(q:0<=at_)(a1:at_<=500)(m0:0<=c)(M:c<=8)(C:0<=i)(W:i<=12)(b0:0<=j)(b1:j<=4):rC g at_ c i j/\Gr (kZ g at_ c i j):=by
 obtain⟨I,o,Q⟩:=RM (bJ g at_) 6 () ();have o:(bB (bJ g at_) 6).length=6:=o;have A:∀d:O Int,6<=d.length->qD g at_ c i j d/\Gr (qC g at_ c i j d):=λd u=>by
  obtain⟨L,y,X⟩:=rj d u c m0 ();have knd:=SF d c ();have m:(iT (cW d c)).length=c.toNat:=by rw[(fj _).length_eq,y]
  have nd:(iT (cW d c)).Nodup:=(fj _).nodup_iff.mpr knd;have H:∀n_:AZ,n_.length=c.toNat->n_.Nodup->n_.Pairwise pF->(∀n∈n_,Nm n)->qz g at_ c i j d n_/\Gr (qy g at_ c i j d n_):=λn_ m nd x nm=>by
   have v:n_.Pairwise λa b=>Gi a b=true:=(x.and nd).imp λh=>(C8 _ _).mpr h;obtain⟨t1,t2,t3⟩:=uO (P:=λf k=>Z (jB g at_ c d n_ f k)) (step:=λf k=>dJ g at_ c d n_ f k) (λk s=>s.length<=k/\Rs n_ s/\∀r∈s,RT r) i.toNat [] ⟨zk 0,λr h=>(by cases h),λr h=>(by cases h)⟩ λk s E h=>pT g at_ c q a1 d u n_ m k () s v h;obtain⟨K,w,B⟩:=uO (P:=λf k=>Z (jC g at_ c n_ f k)) (step:=λf k=>eG g at_ c n_ f k) (λk s=>s.length<=k/\∀b∈s,(b.1∈n_/\b.2.1∈n_)/\Gi b.1 b.2.1=true) j.toNat [] ⟨zk 0,λr h=>(by cases h)⟩ λk s E h=>gm g at_ c q a1 n_ m k () s v h;have sl:=ja w (show j.toNat<64 by omega);have D:∀l:O d9,l.length<=i.toNat->(Rs n_ l/\∀r∈l,RT r)->qx g at_ c i j d n_ l/\Gr (qw g at_ c i j d n_ l):=λl tl ⟨tr,tv⟩=>by
    have N:=Ih l;have sp:=(mD (e:=DZ eI eS eS eI) (Ms l)).length_eq;refine⟨⟨⟨⟨by omega,by omega⟩,by rw[sp];omega⟩,⟨O4 b0 (),K⟩,j0 sl,sl⟩,nd,?_,?_,?_,x,nm,sT λr p=>tv r (tM.mp ((mD _).mem_iff.mp p)),?_,?_,?_⟩
    ·show n_.length<=8;omega
    ·exact Rs.turn λr p=>tr r (tM.mp ((mD _).mem_iff.mp p))
    ·show(pS _ _).length<=12;rw[zl,sp];omega
    ·show(pS _ (zK (DZ eI eS eS eI) (Ms l))).Nodup;unfold List.Nodup;rw[kF];exact List.Pairwise.imp (λ{a b} h e=>h (by
      obtain⟨a1,a2,G,J⟩:=a;obtain⟨b1,b2,F,z⟩:=b;injection e with e1 e2;injection e2 with e2 e3;injection e3 with e3 t;have e1:(0:Int)-a1=0-b1:=e1;have e2:a2=b2:=e2;have e3:G=F:=e3;have t:J=z:=t;rw[show a1=b1 by omega,e2,e3,t])) ((mD _).nodup_iff.mpr (JN l))
    ·show(zK _ _).length<=4;rw[(mD _).length_eq];exact Zs (Ih _) (Zs w ())
    ·exact λb hb=>B b (tM.mp ((mD _).mem_iff.mp hb))
   have:=D _ t2 t3;exact⟨⟨⟨O4 C (),t1⟩,this.1⟩,this.2⟩
  have mem:∀n,n∈iT (cW d c)->n∈cW d c:=λn h=>(fj _).mem_iff.mp h;have:=H _ m nd (oM _) (λn h=>l8 d c () n (mem n h));exact⟨⟨⟨L,by rw[y];omega⟩,this.1⟩,this.2⟩
 have:=A _ (kl o.symm);exact⟨⟨⟨RK _ _ q (),I⟩,this.1⟩,this.2⟩
def SK(B:O CF)(m:O (AJ×AJ)):Prop:=∀b∈B,look m b.1≠look m b.2.1
theorem rN(p:AZ)(R:O d9):aU p R=R.filter λr=>decide (r.2.1∈p)&&decide (r.2.2.1∈p):=by
 unfold aU;rw[Qr]
theorem XX(h:Hd N m)(d:Rs N R):jz (N,R,B) (st N m)=wf (look m) R:=by
 have fl:∀r∈R.filter (λr=>decide (look m r.2.1=look m r.2.2.1)),r.2.1∈(st N m).flatten:=λr c=>(jA h).mem_iff.mpr (d r (List.mem_filter.mp c).1).1;have e:=rM ((jA h).nodup_iff.mpr h.nd) _ fl;unfold wf;rw[e];show((st N m).map λp=>wt (aU p R)).sum=_;congr 1;refine qA λp hp=>?_;rw[rN,Ya];congr 1;refine ko λr c=>?_;obtain⟨f,g⟩:=d r c;obtain⟨x,hx,rfl⟩:=(gQ h).mp hp;rw[JJ,ZH,ZH,zz,zz,zz,gP,gP];exact⟨λ⟨⟨_,a⟩,_,b⟩=>⟨⟨f,a⟩,a.trans b.symm⟩,λ⟨⟨_,a⟩,b⟩=>⟨⟨f,a⟩,g,b.symm.trans a⟩⟩
theorem Ym:∀{L:O d9},(∀r∈L,1<=r.1/\r.1<=1000000)->0<=wt L/\wt L<=1000000*L.length
 |[],_=>⟨Kt 0,Kt 0⟩
 |r::L,h=>by
  have h1:=h r (zg ..);have h2:=Ym (L:=L) λz a=>h z (zi _ a);rw[iI,ZI];omega
theorem Yn(h:Hd N m):(st N m).length<=N.length:=by
 have:=yJ (w:=st N m) λs hs=>LK h hs;rw[(jA h).length_eq]at this;exact this
theorem ME(w:O AZ)(f:w.length<=1000)(i:R.length<64)(e:∀r∈R,1<=r.1/\r.1<=1000000):nU (N,R,B) w:=by
 have one:∀p:AZ,(aU p R).length<=R.length/\∀r∈aU p R,1<=r.1/\r.1<=1000000:=λp=>by
  rw[rN];exact⟨Z3 _ _,λr h=>e r (List.mem_filter.mp h).1⟩
 refine⟨⟨by omega,λp _=>?_⟩,?_⟩
 ·obtain⟨a,b⟩:=one p;have d:jo (aU p R):=VJ () b;exact⟨⟨show R.length<=100000 by omega,d.1⟩,d.2⟩
 ·unfold Uo;rw[ZH,zz,zl,qc];refine⟨f,λk g=>?_⟩;obtain⟨p,hp,rfl⟩:=List.mem_map.mp g;obtain⟨a,b⟩:=one p;have:=Ym b;have this:0<=((aU p R).map λc:aC=>c.1).sum/\((aU p R).map λc:aC=>c.1).sum<=1000000*((aU p R).length:Int):=this;exact ZA (show _<=((aU p R).map λc:aC=>c.1).sum/\((aU p R).map λc:aC=>c.1).sum<=_ by omega)
theorem Os(g:Gb N R B)(e:Rm N R B):SK B (hb N (kp N R B)):=λb a z=>by
 obtain⟨c,d⟩:=(g.bs b a).1;exact MH g e b a ((GK g c d).mp z)
theorem Th{w:O AZ}(h:w.Pairwise (λa b=>Mt a b=true)):jN w=w:=(O1 (.refl _) h).symm
def D0(h:AJ)(v:O AZ):O (O AZ):=(v++[[h]])::(cf v.length).map λk=>(v.take k++[at' v (k:Int)++[h]])++v.drop (k+1)
theorem My(h:AJ)(u:O (O AZ))(v:O AZ):ju h u v=u++D0 h v:=by
 have c:∀n,n<=v.length->∀u,(rng 0 n).foldl (λ(a:(O (O AZ))) (b:Int)=>(iH h v a b)) u=u++(cf n).map λk=>(v.take k++[at' v (k:Int)++[h]])++v.drop (k+1):=by
  intro n f u;have L:=uO (P:=λ_ _=>U) (step:=λ(a:(O (O AZ))) (b:Int)=>(iH h v a b)) (λk s=>s=u++(cf k).map λk=>(v.take k++[at' v (k:Int)++[h]])++v.drop (k+1)) n u (by simp) λk s d e=>⟨trivial,by
   subst e;unfold iH;dsimp only;rw[show BM v U (Z (k:Int))=v.take k from Xp (),show BM v (Z ((k:Int)+1)) U=v.drop (k+1) from Uy (k:=k+1) (),List.range_succ,qh,ZT];rfl⟩
  exact L.2
 unfold ju;dsimp only;rw[show(v.length:Int).toNat=v.length by omega,c _ (zk _),ZT];rfl
theorem M'(l:O (O AZ))(h:AJ):lg l h=l.flatMap (D0 h):=by
 have d:∀(l u:O (O AZ)),l.foldl (λ(a:(O (O AZ))) (b:O AZ)=>(ju h a b)) u=u++l.flatMap (D0 h):=by
  intro l
  induction l with
  |nil=>intro u;simp
  |cons v l c=>intro u;rw[qr,My,c,JA,ZT]
 unfold lg;dsimp only;rw[d,k6]
theorem CA(N:AZ):gF N=N.foldl (λl h=>l.flatMap (D0 h)) [[]]:=by
 unfold gF;dsimp only;congr 1;funext l h;exact M' l h
theorem Z5{h:AJ}{v d:O AZ}(m:d∈D0 h v):d=v++[[h]]\/∃a s b,v=a++s::b/\d=a++(s++[h])::b:=by
 rcases List.mem_cons.mp m with e|m
 ·exact .inl e
 ·obtain⟨k,c,e⟩:=List.mem_map.mp m;have c:=List.mem_range.mp c;refine .inr ⟨v.take k,v[k],v.drop (k+1),?_,?_⟩
  ·rw[<-Yf c,KW]
  ·rw[<-e,Et v k c,ZT];rfl
theorem oo{h:AJ}{v d:O AZ}(m:d∈D0 h v)(c:∀s∈v,s≠[]):d.flatten.Perm (v.flatten++[h])/\∀s∈d,s≠[]:=by
 rcases Z5 m with rfl|⟨a,s,b,rfl,rfl⟩
 ·refine⟨by rw[kP];exact .refl _,λs hs=>?_⟩;rcases List.mem_append.mp hs with q|q
  ·exact c s q
  ·cases ba.mp q;exact kJ _ _
 ·refine⟨?_,λt e=>?_⟩
  ·rw[kP,kP,qS,qS,ZT,ZT,ZT];refine List.Perm.append_left _ (List.Perm.append_left _ ?_);exact mY
  ·rcases List.mem_append.mp e with q|q
   ·exact c t (zS _ q)
   ·rcases List.mem_cons.mp q with rfl|q
    ·simp
    ·exact c t (z5 _ (zi _ q))
theorem DG(N:AZ):∀v∈gF N,v.flatten.Perm N/\∀s∈v,s≠[]:=by
 rw[CA]
 induction N using BF with
 |h0=>intro v a;cases ba.mp a;exact⟨.refl _,λs h=>(by cases h)⟩
 |h1 N h e=>
  intro f b;rw[YN]at b;obtain⟨v,a,m⟩:=dd.mp b;obtain⟨p,d⟩:=e v a;obtain⟨q,c⟩:=oo m d;exact⟨q.trans (p.append_right _),c⟩
theorem aS{h:AJ}{a:O AZ}{s:AZ}{b:O AZ}:a++(s++[h])::b∈D0 h (a++s::b):=by
 refine zi _ (List.mem_map.mpr ⟨a.length,List.mem_range.mpr (by simp),?_⟩);rw[Et (a++s::b) a.length (by simp),ZT];simp
theorem UA[DecidableEq α](f:AJ->α)(N:AZ):N.Nodup->∃v∈gF N,(∀s∈v,∀x∈s,∀y∈s,f x=f y)/\∀x∈N,∀y∈N,f x=f y->∃s∈v,x∈s/\y∈s:=by
 induction N using BF with
 |h0=>intro _;rw[CA];exact⟨[],ba.mpr rfl,λs h=>(by cases h),λx h=>(by cases h)⟩
 |h1 N h J=>
  intro nd;have B:=(List.nodup_append.mp nd).1;obtain⟨v,j,c1,c2⟩:=J B;obtain⟨A,K⟩:=DG N v j;have fn:v.flatten.Nodup:=A.nodup_iff.mpr B;have D:∀n,n∈D0 h v->n∈gF (N++[h]):=λn m=>by
   rw[CA]at j ⊢;rw[YN];exact dd.mpr ⟨v,j,m⟩
  have H:∀{s x},s∈v->x∈s->x∈N:=λhs hx=>A.mem_iff.mp (db.mpr ⟨_,hs,hx⟩);by_cases q:∃s∈v,∃x∈s,f x=f h
  ·obtain⟨s,hs,C,l,e0⟩:=q;have all:∀x∈N,f x=f h->x∈s:=λx hx e=>by
    obtain⟨t,c,t1,t2⟩:=c2 x hx C (H hs l) (e.trans e0.symm);rw[qR fn hs c l t2];exact t1
   obtain⟨a,b,rfl⟩:=h9 hs;have sub:∀t,t∈a++s::b->∃o∈a++(s++[h])::b,∀x∈t,x∈o:=λt c=>by
    rcases List.mem_append.mp c with z|z
    ·exact⟨t,zS _ z,λ_ h=>h⟩
    ·rcases List.mem_cons.mp z with rfl|z
     ·exact⟨_,z5 _ (zg ..),λ_ h=>zS _ h⟩
     ·exact⟨t,z5 _ (zi _ z),λ_ h=>h⟩
   have cs:∀x∈s++[h],f x=f h:=λx hx=>by
    rcases List.mem_append.mp hx with z|z
    ·exact(c1 s hs x z C l).trans e0
    ·rw[ba.mp z]
   refine⟨a++(s++[h])::b,D _ aS,λt c x hx y d=>?_,λx hx y d e=>?_⟩
   ·rcases List.mem_append.mp c with z|z
    ·exact c1 t (zS _ z) x hx y d
    ·rcases List.mem_cons.mp z with rfl|z
     ·exact(cs x hx).trans (cs y d).symm
     ·exact c1 t (z5 _ (zi _ z)) x hx y d
   ·have p:∀z∈N++[h],f z=f h->z∈s++[h]:=λz G F=>by
     rcases List.mem_append.mp G with w|w
     ·exact zS _ (all z w F)
     ·exact z5 _ w
    by_cases ex:f x=f h
    ·exact⟨_,z5 _ (zg ..),p x hx ex,p y d (e.symm.trans ex)⟩
    ·have i:x∈N:=(List.mem_append.mp hx).resolve_right λz=>ex (by rw[ba.mp z]);have g:y∈N:=(List.mem_append.mp d).resolve_right λz=>ex (by rw[e,ba.mp z]);obtain⟨t,c,t1,t2⟩:=c2 x i y g e;obtain⟨o,I,s'⟩:=sub t c;exact⟨o,I,s' x t1,s' y t2⟩
  ·have no:∀x∈N,f x≠f h:=λx hx e=>by
    obtain⟨t,c,t1,_⟩:=c2 x hx x hx rfl;exact q ⟨t,c,x,t1,e⟩
   refine⟨v++[[h]],D _ (zg ..),λt c x hx y d=>?_,λx hx y d e=>?_⟩
   ·rcases List.mem_append.mp c with z|z
    ·exact c1 t z x hx y d
    ·cases ba.mp z;rw[ba.mp hx,ba.mp d]
   ·rcases List.mem_append.mp hx with i|E<;>rcases List.mem_append.mp d with g|u
    ·obtain⟨t,c,t1,t2⟩:=c2 x i y g e;exact⟨t,zS _ c,t1,t2⟩
    ·exact absurd (by rw[e,ba.mp u]) (no x i)
    ·exact absurd (by rw[<-e,ba.mp E]) (no y g)
    ·exact⟨[h],z5 _ (ba.mpr S),E,u⟩
def fc:Nat->Nat
 |0=>1
 |n+1=>fc n*(n+1)
theorem ij{k:Nat}(h:k<=7):fc k*(k+1)<=40320:=(show ∀i:Fin 8,fc i.val*(i.val+1)<=40320 by decide) ⟨k,by omega⟩
theorem Z6(h:AJ)(v:O AZ):(D0 h v).length=v.length+1:=by
 unfold D0;rw[ZI,zl,Kj]
def Sm(k:Nat)(v:O AZ):Prop:=v.length<=k/\∀s∈v,s.length<=k
theorem F7(h:n<=60000):Ar n:=Zs h ()
theorem tq{h:AJ}{k:Nat}(f:k<=8){u:O (O AZ)}{v:O AZ}(c:Sm k v)(d:u.length<=50000):rD h u v:=by
 have g:=c.1;have L:=uO (P:=λ(a:(O (O AZ))) (b:Int)=>Z (wD h v a b)) (step:=λ(a:(O (O AZ))) (b:Int)=>(iH h v a b)) (λk s=>s.length<=50001+k) v.length (u++[v++[[h]]]) (by rw[zC];show _+1<=_;omega) λi s hi e=>by
  have i1:In v.length (i:Int):=Kl hi;have sl:=c.2 _ (vG i1);have e1:BM v U (Z (i:Int))=v.take i:=Xp ();have e2:BM v (Z ((i:Int)+1)) U=v.drop (i+1):=Uy (k:=i+1) ();refine⟨⟨⟨⟨⟨i1,F7 ?_⟩,F7 ?_⟩,F7 ?_⟩,F7 ?_⟩,?_⟩
  ·show _+1<=_;omega
  ·rw[e1,kg];show _+1<=_;omega
  ·rw[e1,e2,zC,kg,KF];show _+1+_<=_;omega
  ·omega
  ·unfold iH;dsimp only;rw[zC];show _+1<=_;omega
 refine⟨⟨F7 (by show _+1<=_;omega),F7 ()⟩,O4 () (),?_⟩;rw[show(v.length:Int).toNat=v.length by omega];exact L.1
theorem MI{h:AJ}{k:Nat}(d:k<=7):∀(l u:O (O AZ)),(∀v∈l,Sm k v)->u.length+l.length*(k+1)<=50000->j8 (λ(a:(O (O AZ))) (b:O AZ)=>(ju h a b)) (λ(a:(O (O AZ))) (b:O AZ)=>Z (rD h a b)) l u
 |[],_,_,_=>trivial
 |v::l,u,hl,hu=>by
  rw[ZI,gd]at hu;have h1:=hl v (zg ..);refine⟨tq (k:=k) () h1 (),?_⟩;dsimp only;rw[My];refine MI d l _ (λw c=>hl w (zi _ c)) ?_;rw[zC,Z6];have:=h1.1;omega
theorem SV{h:AJ}{k:Nat}{v c:O AZ}(s:Sm k v)(m:c∈D0 h v):Sm (k+1) c:=by
 rcases Z5 m with rfl|⟨a,t,b,rfl,rfl⟩
 ·refine⟨by rw[zC];show _+1<=_;have:=s.1;omega,λt e=>?_⟩;rcases List.mem_append.mp e with q|q
  ·have:=s.2 t q;omega
  ·cases ba.mp q;show 1<=_;omega
 ·refine⟨?_,λu d=>?_⟩
  ·have:=s.1;rw[zC,ZI]at this ⊢;omega
  ·rcases List.mem_append.mp d with q|q
   ·have:=s.2 u (zS _ q);omega
   ·rcases List.mem_cons.mp q with rfl|q
    ·have:=s.2 t (z5 _ (zg ..));rw[zC];show _+1<=_;omega
    ·have:=s.2 u (z5 _ (zi _ q));omega
theorem Lc{h:AJ}{k:Nat}:∀{l:O (O AZ)},(∀v∈l,Sm k v)->(l.flatMap (D0 h)).length<=l.length*(k+1)
 |[],_=>QP _
 |v::l,hl=>by
  have b:=Lc (h:=h) (l:=l) λw a=>hl w (zi _ a);have h1:=(hl v (zg ..)).1;rw[JA,zC,Z6,ZI,gd];omega
theorem PY:∀(N:AZ) (k:Nat) (l:O (O AZ)),N.length+k<=8->(∀v∈l,Sm k v)->l.length<=fc k->j8 (λ(b:(O (O AZ))) (a:AJ)=>(lg b a)) (λ(b:(O (O AZ))) (a:AJ)=>Z (wF b a)) N l
 |[],_,_,_,_,_=>trivial
 |h::N,k,l,hk,hl,hf=>by
  rw[ZI]at hk;have fb:=ij (k:=k) ();have m:=m6 (k+1) hf;refine⟨MI (k:=k) () l [] hl (by show 0+_<=_;omega),?_⟩;dsimp only;rw[M'];refine PY N (k+1) _ () (λe c=>?_) (Zs (Lc hl) m);obtain⟨v,d,q⟩:=dd.mp c;exact SV (hl v d) q
theorem sM(h:N.length<=8):zp N:=PY N 0 _ () (λv a=>by cases ba.mp a;exact⟨zk 0,λs h=>(by cases h)⟩) (zk 1)
theorem VY(h:N.length<=8):∀v∈gF N,v.length<=8:=λv b=>by
 obtain⟨p,a⟩:=DG N v b;have:=yJ a;rw[p.length_eq]at this;omega
def ho(v:O AZ)(x:AJ):Y AZ:=v.find? λs=>decide (x∈s)
theorem Nc{v:O AZ}(fn:v.flatten.Nodup){s:AZ}(hs:s∈v)(hx:x∈s):ho v x=Z s:=by
 cases e:ho v x with
 |none=>
  have e:v.find? (λs=>decide (x∈s))=U:=e;exact absurd (ZA hx) (eh.mp e s hs)
 |some t=>
  have e:v.find? (λs=>decide (x∈s))=Z t:=e;have h1:=QA (List.find?_some (p:=λs=>decide (x∈s)) e);have h2:=jV e;rw[qR fn hs h2 hx h1]
theorem nb{v:O AZ}(fn:v.flatten.Nodup)(hx:x∈v.flatten)(d:y∈v.flatten):ho v x=ho v y↔P1.same v x y:=by
 obtain⟨s,hs,xs⟩:=db.mp hx;obtain⟨t,c,a⟩:=db.mp d;rw[Nc fn hs xs,Nc fn c a];constructor
 ·intro e;cases e;exact⟨s,hs,xs,a⟩
 ·rintro⟨u,b,f,g⟩;rw[qR fn hs b xs f,qR fn c b a g]
theorem NE{v:O AZ}[DecidableEq α]{f:AJ->α}(fn:v.flatten.Nodup)(i:v.flatten.Perm N)(d:Rs N R)(l:∀x∈N,∀y∈N,(f x=f y↔P1.same v x y)):jw (N,R,B) v=wf f R:=by
 have fl:∀r∈R.filter (λr=>decide (f r.2.1=f r.2.2.1)),r.2.1∈v.flatten:=λr c=>i.mem_iff.mpr (d r (List.mem_filter.mp c).1).1;have e:=rM fn _ fl;unfold wf;rw[e];show(v.map λp=>wt (aU p R)).sum=_;congr 1;refine qA λp hp=>?_;rw[rN,Ya];congr 1;refine ko λr c=>?_;obtain⟨j,h⟩:=d r c;rw[JJ,ZH,ZH,zz,zz,zz,l _ j _ h];constructor
 ·rintro⟨a,b⟩;exact⟨a,p,hp,a,b⟩
 ·rintro⟨a,q,m,g,b⟩;rw[qR fn hp m a g];exact⟨g,b⟩
def bo(b:CF)(p:AZ):Bool:=decide (b.1∈p)&&decide (b.2.1∈p)
theorem Yo(p:AZ)(B:O CF):cX p B=B.filter λb=>decide (b.1∈p)&&decide (b.2.1∈p):=by
 unfold cX;rw[Qr]
theorem V2{p:AZ}:gO p B=[]↔∀b∈B,¬ (b.1∈p/\b.2.1∈p):=by
 have e:gO p B=B.filter λb=>decide (b.1∈p)&&decide (b.2.1∈p):=Yo p B;rw[e,mq];refine forall_congr' λb=>forall_congr' λ_=>?_;rw[ZH,zz,zz]
def fr(B:O CF)(v:O AZ):Bool:=(v.map λa:AZ=>(decide ((gO a B)=([]:O dF)))).all id
theorem PM{v:O AZ}:fr B v=true↔∀b∈B,¬ P1.same v b.1 b.2.1:=by
 unfold fr;rw[qc];constructor
 ·rintro h b hb ⟨s,hs,x,y⟩;exact V2.mp (QA (h _ (List.mem_map.mpr ⟨s,hs,rfl⟩))) b hb ⟨x,y⟩
 ·intro h t a;obtain⟨s,hs,rfl⟩:=List.mem_map.mp a;exact ZA (V2.mpr λb hb ⟨x,y⟩=>h b hb ⟨s,hs,x,y⟩)
theorem IN(a:Int)(v:O AZ):fH N R B a v=if fr B v=true then(if jw (N,R,B) v>a then jw (N,R,B) v else a)else a:=rfl
theorem OO:∀(L:O (O AZ)) (a:Int),a<=L.foldl (fH N R B) a
 |[],a=>Kt a
 |v::L,a=>by
  rw[qr];refine oa ?_ (OO L _);rw[IN];split
  ·split<;>omega
  ·exact Kt a
theorem PF{M:Int}:∀(L:O (O AZ)) (a:Int),a<=M->(∀v∈L,fr B v=true->jw (N,R,B) v<=M)->L.foldl (fH N R B) a<=M
 |[],a,h,_=>h
 |v::L,a,h,hL=>by
  rw[qr];refine PF L _ ?_ λw b=>hL w (zi _ b);rw[IN];split
  ·have:=hL v (zg ..) (by assumption);split<;>omega
  ·exact h
theorem Pc{w:O AZ}(b:fr B w=true):∀(L:O (O AZ)) (a:Int),w∈L->jw (N,R,B) w<=L.foldl (fH N R B) a
 |v::L,a,h=>by
  rw[qr];rcases List.mem_cons.mp h with rfl|h
  ·refine oa ?_ (OO L _);rw[IN,zt b];split<;>omega
  ·exact Pc b L _ h
theorem sw(g:Gb N R B)(j:Rm N R B):(gF N).foldl (fH N R B) 0=wt (kp N R B):=by
 have t:=PF (N:=N) (R:=R) (B:=B) (M:=wt (kp N R B)) (gF N) 0 (Ly λr o=>(g.va r (sZ r o)).1) λv d i=>by
  obtain⟨c,n⟩:=DG N v d;have fn:v.flatten.Nodup:=c.nodup_iff.mpr g.nd;have q:∀x∈N,∀y∈N,(ho v x=ho v y↔P1.same v x y):=λx hx y h=>nb fn (c.mem_iff.mpr hx) (c.mem_iff.mpr h);rw[NE fn c g.rs q];refine Pi g j (ho v) λb hb e=>?_;obtain⟨p,m⟩:=(g.bs b hb).1;exact PM.mp i b hb ((q _ p _ m).mp e)
 obtain⟨v,d,c1,c2⟩:=UA (look (hb N (kp N R B))) N g.nd;obtain⟨c,n⟩:=DG N v d;have fn:v.flatten.Nodup:=c.nodup_iff.mpr g.nd;have i:fr B v=true:=PM.mpr λb hb ⟨s,hs,x,y⟩=>Os g j b hb (c1 s hs _ x _ y);have l:=Pc (N:=N) (R:=R) i (gF N) 0 d;rw[NE (f:=look (hb N (kp N R B))) fn c g.rs λx hx y h=>⟨λe=>c2 x hx y h e,λ⟨s,hs,a,b⟩=>c1 s hs x a y b⟩,MU g j]at l;omega
structure PH (n_:AZ) (P:List AZ) (m:List (Str×Str)):Prop where
 sub:∀p∈P,∀y∈p,y∈n_
 cov:∀x∈n_,∃p∈P,x∈p
 cls:∀p∈P,∀x∈p,∀y∈n_,(y∈p↔look m x=look m y)
 ne:∀p∈P,p≠[]
 nd:∀p∈P,p.Nodup
 uni:∀p∈P,∀q∈P,∀x,x∈p->x∈q->p=q
 len:P.length<=n_.length
 pn:P.Nodup
 srt:∀p∈P,p.Pairwise pF
theorem sR(nd:n_.Nodup)(c:n_.length<1000):PH n_ (n_.map λname:AJ=>[name]) (dB n_):=by
 rw[(Dy n_ nd c).2];have inv:∀p,p∈(n_.map λname:AJ=>[name])->∃n∈n_,p=[n]:=λp hp=>by
  obtain⟨n,a,e⟩:=List.mem_map.mp hp;exact⟨n,a,e.symm⟩
 refine⟨λp hp y b=>?_,λx hx=>⟨[x],List.mem_map.mpr ⟨x,hx,rfl⟩,ba.mpr rfl⟩,λp hp x hx y b=>?_,λp hp e=>?_,λp hp=>?_,λp hp q d x h1 h2=>?_,by rw[zl];exact zk _,?_,λp hp=>?_⟩
 ·obtain⟨n,a,rfl⟩:=inv p hp;cases ba.mp b;exact a
 ·obtain⟨n,a,rfl⟩:=inv p hp;cases ba.mp hx;rw[uX nd a,uX nd b,ba];exact⟨λe=>e.symm,λe=>e.symm⟩
 ·obtain⟨n,a,rfl⟩:=inv p hp;cases e
 ·obtain⟨n,a,rfl⟩:=inv p hp;exact cd.mpr ⟨λz=>(by cases z),JE⟩
 ·obtain⟨n,a,rfl⟩:=inv p hp;obtain⟨g,f,rfl⟩:=inv q d;cases ba.mp h1;cases ba.mp h2;rfl
 ·unfold List.Nodup;rw[kF];exact nd.imp λh e=>h (by injection e)
 ·obtain⟨n,a,rfl⟩:=inv p hp;exact List.pairwise_singleton _ _
theorem FV{P:O AZ}{a:AJ}(h:∃p∈P,a∈p):In ((P.filter λpart:AZ=>(decide (a∈part))).map λpart:AZ=>part).length (0:Int)/\at' ((P.filter λpart:AZ=>(decide (a∈part))).map λpart:AZ=>part) (0:Int)∈P/\a∈at' ((P.filter λpart:AZ=>(decide (a∈part))).map λpart:AZ=>part) (0:Int):=by
 obtain⟨p,hp,c⟩:=h;have m:p∈((P.filter λpart:AZ=>(decide (a∈part))).map λpart:AZ=>part):=List.mem_map.mpr ⟨p,List.mem_filter.mpr ⟨hp,ZA c⟩,rfl⟩;have i:In ((P.filter λpart:AZ=>(decide (a∈part))).map λpart:AZ=>part).length (0:Int):=Kl (k:=0) (kR m);refine⟨i,?_⟩;obtain⟨q,b,e⟩:=List.mem_map.mp (vG i);rw[<-e];exact⟨(List.mem_filter.mp b).1,QA (List.mem_filter.mp b).2⟩
theorem LS{P:O AZ}(h:Hd n_ m)(p:PH n_ P m){one d:AZ}{a b:AJ}(h1:one∈P)(h2:d∈P)(t:a∈one)(hb:b∈d)(D:one≠d):
  (one++d).length<=n_.length/\PH n_ (((P.filter λpart:AZ=>(!lO part [one,d])).map λpart:AZ=>part)++[(iT (one++d))]) (jm m (look m a) (look m b)):=by
 have G:=p.sub _ h1 _ t;have F:=p.sub _ h2 _ hb;have B:(one++d).Nodup:=List.nodup_append.mpr ⟨p.nd _ h1,p.nd _ h2,λx hx y g e=>D (p.uni _ h1 _ h2 x hx (e▸g))⟩;have u:∀x∈one++d,x∈n_:=λx hx=>(List.mem_append.mp hx).elim (p.sub _ h1 _) (p.sub _ h2 _);have c1:∀y∈n_,(y∈one↔look m y=look m a):=λy g=>(p.cls _ h1 _ t y g).trans ⟨Eq.symm,Eq.symm⟩;have c2:∀y∈n_,(y∈d↔look m y=look m b):=λy g=>(p.cls _ h2 _ hb y g).trans ⟨Eq.symm,Eq.symm⟩;have old:∀q,q∈((P.filter λpart:AZ=>(!lO part [one,d])).map λpart:AZ=>part)↔q∈P/\q≠one/\q≠d:=λq=>by
  rw[Qr,QQ,QY,<-pO,jM];simp
 have s:∀y,y∈iT (one++d)↔y∈one\/y∈d:=λy=>(fj _).mem_iff.trans yi;have E:∀q,q∈P->q≠one->q≠d->∀x∈q,look m x≠look m a/\look m x≠look m b:=λq c i j x hx=>by
  have l:=p.sub _ c _ hx;exact⟨λe=>i (p.uni _ c _ h1 x hx ((c1 x l).mpr e)),λe=>j (p.uni _ c _ h2 x hx ((c2 x l).mpr e))⟩
 refine⟨NO B u,⟨λq c y g=>?_,λx hx=>?_,λq c x hx y g=>?_,λq c=>?_,λq c=>?_,λq c v o x hx n=>?_,?_,?_,λq c=>?_⟩⟩
 ·rcases List.mem_append.mp c with c|c
  ·exact p.sub _ ((old q).mp c).1 _ g
  ·cases ba.mp c;exact u y ((fj _).mem_iff.mp g)
 ·obtain⟨q,c,n⟩:=p.cov x hx;by_cases e:q=one\/q=d
  ·refine⟨_,List.mem_append.mpr (.inr (ba.mpr S)),(s x).mpr ?_⟩;rcases e with rfl|rfl
   ·exact .inl n
   ·exact .inr n
  ·exact⟨q,List.mem_append.mpr (.inl ((old q).mpr ⟨c,λz=>e (.inl z),λz=>e (.inr z)⟩)),n⟩
 ·rcases List.mem_append.mp c with c|c
  ·obtain⟨c,i,j⟩:=(old q).mp c;have l:=p.sub _ c _ hx;have f:=E q c i j x hx;rw[h.uo l,h.uo g,p.cls _ c _ hx y g];unfold jn;rw[zD (λz=>z.elim f.1 f.2)];by_cases e:look m y=look m a\/look m y=look m b
   ·rw[zt e];constructor
    ·intro z;rw[z]at f;exact absurd e (λw=>w.elim f.1 f.2)
    ·intro z;rcases Lr (look m a) (look m b)with w|w<;>rw[w]at z
     ·exact absurd z f.1
     ·exact absurd z f.2
   ·rw[zD e]
  ·cases ba.mp c;have C:=(s x).mp hx;have l:=u x (List.mem_append.mpr C);rw[s,h.uo l,h.uo g,c1 y g,c2 y g];unfold jn;rw[zt (C.elim (λz=>.inl ((c1 x l).mp z)) (λz=>.inr ((c2 x l).mp z)))];by_cases e:look m y=look m a\/look m y=look m b
   ·rw[zt e];exact⟨λ_=>S,λ_=>e⟩
   ·rw[zD e];refine⟨λz=>absurd z e,λz=>?_⟩;rcases Lr (look m a) (look m b)with w|w<;>rw[w]at z
    ·exact .inl z.symm
    ·exact .inr z.symm
 ·rcases List.mem_append.mp c with c|c
  ·exact p.ne _ ((old q).mp c).1
  ·cases ba.mp c;intro e;have:=(s a).mpr (.inl t);rw[e]at this;cases this
 ·rcases List.mem_append.mp c with c|c
  ·exact p.nd _ ((old q).mp c).1
  ·cases ba.mp c;exact(fj _).nodup_iff.mpr B
 ·have A:∀q,q∈P->q≠one->q≠d->x∈q->x∈iT (one++d)->False:=λq c i j e1 e2=>
   ((s x).mp e2).elim (λz=>i (p.uni _ c _ h1 x e1 z)) (λz=>j (p.uni _ c _ h2 x e1 z))
  rcases List.mem_append.mp c with c|c<;>rcases List.mem_append.mp o with o|o
  ·exact p.uni _ ((old q).mp c).1 _ ((old v).mp o).1 x hx n
  ·cases ba.mp o;obtain⟨z,i,j⟩:=(old q).mp c;exact(A q z i j hx n).elim
  ·cases ba.mp c;obtain⟨z,i,j⟩:=(old v).mp o;exact(A v z i j n hx).elim
  ·exact(ba.mp c).trans (ba.mp o).symm
 ·rw[zC,Qr];have:(P.filter λpart:AZ=>(!lO part [one,d])).length<P.length:=by
   rw[List.length_filter_lt_length_iff_exists];refine⟨one,h1,?_⟩;rw[QY,Bool.not_eq_false];exact jM.mpr (zg ..)
  have:=p.len;show _+1<=_;omega
 ·rw[kb];refine⟨by rw[Qr];exact p.pn.filter _,cd.mpr ⟨λz=>(by cases z),JE⟩,λx hx y g e=>?_⟩;cases ba.mp g;obtain⟨z,i,j⟩:=(old x).mp hx;have:a∈x:=by rw[e];exact(s a).mpr (.inl t)
  exact i (p.uni _ z _ h1 a this t)
 ·rcases List.mem_append.mp c with c|c
  ·exact p.srt _ ((old q).mp c).1
  ·cases ba.mp c;exact oM _
theorem Yp{P:O AZ}(h:Hd n_ m)(c:n_.length<64)(p:PH n_ P m){r:d9}(b:r.2.1∈n_)(hb:r.2.2.1∈n_):
  jf P r/\PH n_ (dh P r) (jm m (look m r.2.1) (look m r.2.2.1)):=by
 obtain⟨i1,o1,a1⟩:=FV (p.cov _ b);obtain⟨i2,a,a2⟩:=FV (p.cov _ hb);have pl:=p.len;unfold jf dh;dsimp only;generalize at' ((P.filter λpart:AZ=>(decide (r.2.1∈part))).map λpart:AZ=>part) (0:Int)=one at *
 generalize at' ((P.filter λpart:AZ=>(decide (r.2.2.1∈part))).map λpart:AZ=>part) (0:Int)=other at *
 by_cases e:one=other
 ·subst e;refine⟨⟨⟨by omega,i1⟩,⟨by omega,i2⟩,λz=>by simp at z⟩,?_⟩;rw[zD (by simp),(p.cls _ o1 _ a1 _ hb).mp a2,oI];exact p
 ·obtain⟨c1,c2⟩:=LS h p o1 a a1 a2 e;rw[zC]at c1;refine⟨⟨⟨by omega,i1⟩,⟨by omega,i2⟩,λ_=>⟨⟨by omega,?_,?_⟩,?_⟩⟩,?_⟩
  ·show _<=1000000;omega
  ·rw[zC];omega
  ·have:=c2.len;rw[zC]at this;show _<=1000000;omega
  ·rw[zt (by simp[e])];exact c2
theorem LR{n_:AZ}(c:n_.length<64):∀(rs:O d9) (P:O AZ) (m:O (AJ×AJ)),Rs n_ rs->Hd n_ m->PH n_ P m →
  j8 (λ(a:O AZ) (q1:d9)=>(dh a q1)) (λ(a:O AZ) (q1:d9)=>Z (jf a q1)) rs P/\PH n_ (rs.foldl (λ(a:O AZ) (q1:d9)=>(dh a q1)) P) (rs.foldl jb m)
 |[],_,_,_,_,p=>⟨trivial,p⟩
 |r::rs,P,m,hr,h,p=>by
  obtain⟨e,hb⟩:=hr r (zg ..);obtain⟨d,q⟩:=Yp h c p e hb;have b:=LR c rs (dh P r) (jb m r) (λx hx=>hr x (zi _ hx)) (h.join e hb) q;exact⟨⟨d,b.1⟩,b.2⟩
theorem t7(nd:n_.Nodup)(a:n_.length<64){rs:O d9}(b:Rs n_ rs):lR n_ rs/\∃P,fG n_ rs=jN P/\PH n_ P (hb n_ rs):=by
 obtain⟨d,p⟩:=LR a rs _ _ b (Fk nd ()) (sR nd ());have pl:=p.len;refine⟨⟨by omega,d,by show dV _<=100000;exact Zs pl (),by show(pS _ _).length<64;rw[zl];exact ja pl a,λx hx=>?_⟩,_,congrArg jN (Qr _),p⟩;obtain⟨y,c,rfl⟩:=List.mem_map.mp hx;have:=p.ne _ c;cases y
 ·exact absurd S this
 ·rfl
theorem eK(s:n_.Pairwise pF)(h:Hd n_ m)(l:D9 n_ m){P:O AZ}(p:PH n_ P m):dM m=jN P:=by
 have ks:=h.keys;have v:∀q∈P,∀x∈q,cF m (look m x)=q:=λq c x hx=>by
  unfold cF;rw[Qr,ks];refine yU (Dz (h.nd.filter _) (p.nd _ c) λz=>?_) (s.filter _) (p.srt _ c);rw[QQ,zz];constructor
  ·rintro⟨i,e⟩;exact(p.cls q c x hx z i).mpr e.symm
  ·intro i;have w:=p.sub _ c _ i;exact⟨w,((p.cls q c x hx z w).mp i).symm⟩
 have first:∀n∈n_,look m n=n->∃t,cF m n=n::t:=λn g e=>by
  have o:n∈cF m n:=by
   unfold cF;rw[Qr,ks,QQ,zz];exact⟨g,e⟩
  have B:(cF m n).Pairwise pF:=by
   unfold cF;rw[Qr,ks];exact s.filter _
  cases d:cF m n with
  |nil=>rw[d]at o;cases o
  |cons y t=>
   have j:y∈cF m n:=by rw[d];exact zg ..
   unfold cF at j;rw[Qr,ks,QQ,zz]at j;have h1:pF n y:=by have:=l y j.1;rw[j.2]at this;exact this
   rw[d]at o B;rcases List.mem_cons.mp o with e2|e2
   ·exact⟨t,by rw[e2]⟩
   ·have:=BR h1 ((dl.mp B).1 n e2);exact⟨t,by rw[this]⟩
 refine O1 (Dz ?_ p.pn λq=>?_) ?_
 ·unfold dM List.Nodup;rw[ks,kF];refine JI ?_ (h.nd.filter _);intro a b f hb C e;rw[QQ,zz]at f hb;obtain⟨t1,e1⟩:=first a f.1 f.2;obtain⟨t2,e2⟩:=first b hb.1 hb.2;rw[e1,e2]at e;exact C (by injection e)
 ·unfold dM;rw[ks,KB];constructor
  ·rintro⟨n,g,rfl⟩;rw[QQ,zz]at g;obtain⟨q,c,hx⟩:=p.cov n g.1;have:=v q c n hx;rw[g.2]at this;rw[this];exact c
  ·intro c;cases d:q with
   |nil=>exact absurd d (p.ne _ c)
   |cons x t=>
    have hx:x∈q:=by rw[d];exact zg ..
    have A:=p.sub _ c _ hx;refine⟨look m x,List.mem_filter.mpr ⟨h.mem x A,ZA (h.idem x A)⟩,?_⟩;rw[v q c x hx,d]
 ·unfold dM;rw[ks,kF];have D:(n_.filter λname:AJ=>decide (look m name=name)).Pairwise λa b=>pF a b/\a≠b:=(s.filter _).and (h.nd.filter _);refine JI ?_ D;intro a b f hb u;rw[QQ,zz]at f hb;obtain⟨t1,e1⟩:=first a f.1 f.2;obtain⟨t2,e2⟩:=first b hb.1 hb.2;rw[e1,e2];exact Z1 u.1 u.2
theorem V3(nd:N.Nodup)(f:N.length<64)(c:N.Pairwise pF)(a:Rs N R):lR N R/\fG N R=st N (hb N R):=by
 obtain⟨d,P,e,b⟩:=t7 nd f a;have h:Hd N (hb N R):=Hd.hb nd () a;refine⟨d,?_⟩;rw[e,<-eK c h (Yj nd () R _ a (Fk nd ()) (RE nd ())) b];exact(RN h).2
theorem sP{p:AZ}(h:Hd p m)(c:p≠[])(d:∀x∈p,∀y∈p,look m x=look m y):st p m=[p]:=by
 have all:∀q∈st p m,q=p:=λq f=>by
  obtain⟨x,hx,rfl⟩:=(gQ h).mp f;exact dg.mpr λy e=>ZA (d y e x hx)
 have fl:=(jA h).length_eq;have pl:=hC.mpr c
 match hs:st p m,all,fl with
 |[],_,fl=>exact absurd fl (by show ¬ 0=_;omega)
 |[a],all,_=>rw[all a (zg ..)]
 |a::b::t,all,fl=>
  rw[all a (zg ..),all b (zi _ (zg ..)),qS,qS,zC,zC]at fl;omega
theorem Z7{K F:O d9}{p:AZ}(nd:N.Nodup)(c:N.length<1000)(d:Rs N K)(kn:∀r∈K,r.2.1≠r.2.2.1)(hp:p∈st N (hb N K))(sub:∀r∈K,r.2.1∈p->r.2.2.1∈p->r∈F)(fr:Rs p F)(fn:∀r∈F,r.2.1≠r.2.2.1):st p (hb p F)=[p]:=by
 have o:Hd N (hb N K):=Hd.hb nd c d;obtain⟨f,v,e0⟩:=(gQ o).mp hp;have h:p.Nodup:=by rw[e0];exact nd.filter _
 have pl:p.length<1000:=by rw[e0];exact ja (Z3 _ _) c
 have a:∀{y},y∈p↔y∈N/\look (hb N K) y=look (hb N K) f:=λ{y}=>by rw[e0];exact gP
 have sd:Sd p K:=λr b=>by
  obtain⟨u,l⟩:=d r b;have:=Lx nd c d b;by_cases q:look (hb N K) r.2.1=look (hb N K) f
  ·exact .inl ⟨a.mpr ⟨u,q⟩,a.mpr ⟨l,this.symm.trans q⟩⟩
  ·exact .inr ⟨λz=>q (a.mp z).2,λz=>q (this.trans (a.mp z).2)⟩
 refine sP (Hd.hb h pl fr) (λe=>?_) λx hx y g=>?_
 ·have:f∈p:=a.mpr ⟨v,rfl⟩;rw[e]at this;cases this
 ·obtain⟨s,j⟩:=a.mp hx;obtain⟨n,m⟩:=a.mp g;obtain⟨t,i⟩:=(zu nd c d kn s n).mp (j.trans m.symm);refine(zu h pl fr fn hx g).mpr ⟨t,(Ip sd i hx).1.mono λr b=>?_⟩;have w:=(Ip sd i hx).1.mem r b;obtain⟨h1,h2⟩:=List.mem_filter.mp w;have h2:=QA h2;rcases sd r h1 with q|q
  ·exact sub r h1 q.1 q.2
  ·exact absurd h2 q.1
theorem fg(g:Gb N R B){p:AZ}(hp:p∈st N (hb N R)):p∈st p (hb p (ow R B p).2.1):=by
 have o:=g.own hp;rw[Z7 g.nd g.l3 g.rs g.ne hp (λr b a _=>RV.mpr ⟨b,a⟩) o.rs o.ne];exact ba.mpr rfl
theorem cw(g:Gb N R B){p:AZ}(hp:p∈st N (hb N R)):kp p (ow R B p).2.1 (ow R B p).2.2=(kp N R B).filter (λr=>decide (r.2.1∈p)):=by
 have o:=g.own hp;have e1:ow (ow R B p).2.1 (ow R B p).2.2 p=ow R B p:=by
  have e:(ow R B p).2.1.filter (λr=>decide (r.2.1∈p))=(ow R B p).2.1:=dg.mpr λr c=>ZA (RV.mp c).2;have d:(ow R B p).2.2.filter (λb=>decide (b.1∈p)&&decide (b.2.1∈p))=(ow R B p).2.2:=dg.mpr λb hb=>by
   obtain⟨-,a,b⟩:=He.mp hb;rw[ZA a,ZA b];rfl
  show(p,(ow R B p).2.1.filter (λr=>decide (r.2.1∈p)),(ow R B p).2.2.filter (λb=>decide (b.1∈p)&&decide (b.2.1∈p)))=_;rw[e,d];rfl
 have k:=RW o (fg g hp);rw[e1]at k;rw[RW g hp,<-k];exact(dg.mpr λr c=>ZA (RV.mp (sZ r c)).2).symm
theorem Xt(g:Gb N R B){p:AZ}(hp:p∈st N (hb N R)):aU p R=(ow R B p).2.1:=by
 rw[rN];refine ko λr c=>?_;rcases g.sd hp r c with⟨a,b⟩|⟨a,b⟩
 ·rw[ZA a,ZA b];rfl
 ·rw[ZN a];rfl
theorem XW(g:Gb N R B)(m:N.length<=8)(t:R.length<=12){p:AZ}(hp:p∈st N (hb N R)):sU (N,R,B) p/\jx (N,R,B) p=wt ((kp N R B).filter (λr=>decide (r.2.1∈p))):=by
 have o:=g.own hp;have u:=g.hd;have pl:p.length<=8:=by
  obtain⟨x,hx,rfl⟩:=(gQ u).mp hp;exact Zs (Z3 _ _) m
 have f:(ow R B p).2.1.length<=12:=Zs (Z3 _ _) t;have bl:B.length<1000:=g.bl;have I:(ow R B p).2.2.length<1000:=o.bl;rw[<-cw g hp];have e1:=Xt g hp;have e2:cX p B=(ow R B p).2.2:=Yo p B;have l:Rm p (ow R B p).2.1 (ow R B p).2.2:=V0 o pl f;have s:=sw o l;unfold sU jx;dsimp only;rw[e1,e2];generalize (ow R B p).2.1=R' at *
 generalize (ow R B p).2.2=B' at *
 have y:jo R':=VJ () o.va;have H:∀q:AZ,(eF q R').length<=12/\∀r∈eF q R',1<=r.1/\r.1<=1000000:=λq=>by
  have:eF q R'=_:=rN q R';rw[this];exact⟨Zs (Z3 _ _) f,λr d=>o.va r (List.mem_filter.mp d).1⟩
 refine⟨⟨⟨show R.length<=100000 by omega,show B.length<=100000 by omega⟩,λ_=>y,λ_=>⟨sM pl,?_⟩⟩,?_⟩
 ·have C:∀(L:O (O AZ)) (a:Int),(∀v∈L,v.length<=8)->j8 (λ(c:Int) (e:O AZ)=>(fH p R' B' c e)) (λ(c:Int) (e:O AZ)=>Z (uy p R' B' c e)) L a:=by
   intro L
   induction L with
   |nil=>intro a _;trivial
   |cons v L z=>
    intro a i;have D:=i v (zg ..);refine⟨⟨⟨by omega,λw _=>show B'.length<=100000 by omega⟩,λ_=>?_⟩,z _ λw n=>i w (zi _ n)⟩;exact ME v () o.rl o.va
  exact C _ _ (VY pl)
 ·by_cases j:B'=[]
  ·subst j;rw[zt (by simp)];have G:=Pi o l (λ_=>r9) λb h=>(by cases h);have E:=Lz (A:=kp p R' []) (B:=R') (o.rd.filter _) sZ λr d=>(o.va r d).1;have F:wf (λ_=>r9) R'=wt R':=by unfold wf;rw[dg.mpr λ_ _=>ZA rfl]
   show wt R'=_;omega
  ·rw[zD (by simpa using j)];exact s
theorem w4(g:Gb N R B)(l:N.Pairwise pF)(q:Rm N R B):wM (N,R,B) (st N (hb N (kp N R B)))/\sY (N,R,B) (st N (hb N (kp N R B)))=true:=by
 have m:=Pg g;have o:=g.len;have bl:=g.bl;have t:=g.rl;have all:=Ux (step:=λ(e:Unit) (f:AZ)=>((lW (N,R,B) e f):qQ (Unit) Bool)) (P:=λ(e:Unit) (f:AZ)=>Z (uF (N,R,B) e f)) (st N (hb N (kp N R B))) λp hp=>by
  obtain⟨n,s,e0⟩:=(gQ m).mp hp;have h:∀{y},y∈p↔y∈N/\look (hb N (kp N R B)) y=look (hb N (kp N R B)) n:=λ{y}=>by rw[e0];exact gP
  have j:p.Nodup:=by rw[e0];exact g.nd.filter _
  have ps:p.Pairwise pF:=by rw[e0];exact l.filter _
  have pl:p.length<64:=by rw[e0];exact ja (Z3 _ _) o
  have fi:∀{r},r∈aU p R↔r∈R/\r.2.1∈p/\r.2.2.1∈p:=λ{r}=>by
   rw[rN,QQ,ZH,zz,zz]
  have fs:Rs p (aU p R):=λr c=>(fi.mp c).2;obtain⟨d,e1⟩:=V3 j pl ps fs;have d:pQ p (aU p R):=d;have e1:lV p (aU p R)=st p (hb p (aU p R)):=e1;have e2:=Z7 g.nd g.l3 (VN g).1 (VN g).2 hp (F:=aU p R) (λr c a b=>fi.mpr ⟨sZ r c,a,b⟩) fs λr c=>g.ne r (fi.mp c).1;have e3:cX p B=[]:=by
   rw[Yo];refine mq.mpr λb i z=>?_;rw[ZH,zz,zz]at z;exact Os g q b i ((h.mp z.1).2.trans (h.mp z.2).2.symm)
  refine⟨⟨show B.length<=100000 by omega,λ_=>⟨show R.length<=100000 by omega,d⟩⟩,.inl ?_⟩;show(if((!decide ((cX p B)=([]:O dF)))||(!decide (((lV p (aU p R)).length:Int)=1)))=true then(qQ.rt false)else(qQ.nx r9))=(qQ.nx r9:qQ Unit Bool);rw[e3,e1,e2];rfl
 refine⟨⟨all.2,by rw[all.1];exact trivial⟩,?_⟩;show BN (sy _ _ _) _ _=true;rw[all.1];rfl
theorem Yq(nd:N.Nodup)(c:N.length<64)(e:N.Pairwise pF)(h:Hd N m)(l:D9 N m):gJ (st N m) N/\dX (st N m) N=true:=by
 have sl:=Yn h;have W:=Md e h l;have fl:=(jA h).length_eq;have f:((st N m).map λa:AZ=>(iT a))=st N m:=by
  conv=>rhs;rw[<-Qr (st N m)]
  exact qA λs hs=>(yU (fj s) (oM s) (W.so s hs))
 have g:((st N m).map λa:AZ=>a)=st N m:=Qr _;have j:∀s∈st N m,s.length<64:=λs hs=>by
  obtain⟨x,hx,rfl⟩:=(gQ h).mp hs;exact ja (Z3 _ _) c
 have i:∀s∈st N m,s.isEmpty=false:=λs hs=>by
  have:=LK h hs;cases s with
  |nil=>exact absurd S this
  |cons _ _=>rfl
 have n:(((st N m).map λa:AZ=>((iR (eT eS a))&&(decide ((0:Int)<(a.length:Int))))).all id)=true:=List.all_eq_true.mpr λb d=>by
  obtain⟨s,hs,rfl⟩:=List.mem_map.mp d;have:=hC.mpr (LK h hs);show(true&&decide ((0:Int)<(s.length:Int)))=true;rw[ZA ()];rfl
 unfold gJ dX;rw[f,g,n,Th W.st];refine⟨⟨λ_=>by omega,λ_=>⟨⟨⟨by omega,j⟩,by omega,i⟩,λ_=>⟨⟨⟨by omega,by omega,by omega⟩,by omega⟩,c⟩⟩⟩,?_⟩;rw[zD (),zD (by simp)];exact ZA (yU (((fj _).trans (jA h)).trans (fj N).symm) (oM _) (oM _))
theorem Pw{a b:AJ}(h:Gi a b=true):a≠b:=((C8 _ _).mp h).2
theorem MM(c:O Int)(_:c.length<=63):VG c/\VF c=true:=by
 obtain⟨G,t,X⟩:=RM (bJ c 0) 9 () ();have t:(bB (bJ c 0) 9).length=9:=t;unfold VG VF;dsimp only;generalize bB (bJ c 0) 9=xs at *
 have h:∀i:Nat,i<9->In xs.length (i:Int):=λi hi=>Kl ();have W:=jO (at' xs 6) (m:=7) ();have m2:=jO (at' xs 7) (m:=12) ();have A:=jO (at' xs 8) (m:=5) ();have hs:∃e a:Int,(if(decide ((((at' xs 6) / (7:Int))%8)=3))=true then(8+0,eI (12+0))else(1+((at' xs 6)%7),eI ((at' xs 7)%12)))=(e,eI a)/\0<=e/\e<=8/\0<=a/\a<=12:=by
  split
  ·exact⟨8,12,rfl,by decide,by decide,by decide,by decide⟩
  ·exact⟨_,_,rfl,by omega,by omega,by omega,by omega⟩
 generalize (if(decide ((((at' xs 6) / (7:Int))%8)=3))=true then(8+0,eI (12+0))else(1+((at' xs 6)%7),eI ((at' xs 7)%12)))=s3 at *
 obtain⟨e,a,rfl,a1,a2,D,I⟩:=hs;have ea:F2 (eI a)=a:=rfl;dsimp only;rw[ea];obtain⟨F,s⟩:=pV c 0 e a (at' xs 8%5) () () a1 a2 D I A.1 ();generalize kZ c 0 e a (at' xs 8%5)=gr at *
 obtain⟨N,R,B⟩:=gr;have len:N.length<=8:=s.len;have u:R.length<=12:=s.rl;have bl:B.length<=4:=s.bl;have f:N.Pairwise pF:=s.so;have g:Gb N R B:=⟨s.nd,by omega,s.rs,λr d=>Pw (s.va r d).2.1,s.rd,by omega,λr d=>⟨(s.va r d).1.1,by have:=(s.va r d).1.2;omega⟩,λb o=>⟨(s.bs b o).1,Pw (s.bs b o).2⟩,by omega⟩;have n:Rm N R B:=V0 g () ();obtain⟨b1,b2⟩:=iP g f n;obtain⟨p1,p2⟩:=V3 g.nd g.len f g.rs;have j:∀p∈st N (hb N R),_:=λp hp=>XW g len u hp;have H:((st N (hb N R)).map λl:AZ=>(jx (N,R,B) l)).sum=wt (kp N R B):=by
  rw[qA λp hp=>(j p hp).2];exact(rM ((jA g.hd).nodup_iff.mpr g.nd) _ λr d=>(jA g.hd).mem_iff.mpr (g.rs r (sZ r d)).1).symm
 obtain⟨w,Q⟩:=Yq g.nd g.len f (Pg g) (g.lst sZ);obtain⟨z,d2⟩:=w4 g f n;have sl:=Yn (Pg g);have M:nU (N,R,B) (st N (hb N (kp N R B))):=ME _ () g.rl g.va;have P:jz (N,R,B) (st N (hb N (kp N R B)))=wt (kp N R B):=(XX (Pg g) g.rs).trans (MU g n);have E:jo R:=VJ () g.va;have a0:=Yn g.hd;have y:Uo ((st N (hb N R)).map λl:AZ=>(jx (N,R,B) l))=true:=by
  unfold Uo;rw[ZH,zz,zl,qc];refine⟨by omega,λk C=>?_⟩;obtain⟨p,hp,rfl⟩:=List.mem_map.mp C;have fl:((kp N R B).filter (λr=>decide (r.2.1∈p))).length<=12:=Zs (Z3 _ _) (Zs (Z3 _ _) u);have:=Ym (L:=(kp N R B).filter (λr=>decide (r.2.1∈p))) λr d=>g.va r (sZ r (List.mem_filter.mp d).1);rw[(j p hp).2];exact ZA ()
 dsimp only;rw[p2,H,b2];dsimp only;rw[Q,d2,P];have v:∀x:Int,jY x=true:=λx=>S;rw[v,v];have J:(R.map λK:aC=>K.1).sum=wt R:=rfl;rw[J];refine⟨⟨⟨RK _ _ () (),G⟩,⟨h 6 (),h 7 ()⟩,h 6 (),⟨⟨rfl,h 8 ()⟩,F⟩,⟨⟨⟨p1,by omega⟩,λp hp=>(j p hp).1⟩,y⟩,b1,λ_=>⟨⟨w,λ_=>z⟩,λ_=>⟨⟨M,λ_ _=>E⟩,λ_=>⟨b1,λ_=>⟨b1,w⟩⟩⟩⟩⟩,?_⟩;have it:∀q,iR (U6 q)=true:=λq=>S;simp[it]
theorem H1:∀a:O Int,a.length<=63->F_law [.z (.lst (a.map .int))]=Z (.z (.bl true)):=(P5 MM).1
theorem H2:∀a:O Int,a.length<=63->F_law [.l (a.map .int)]=Z (.z (.bl true)):=(P5 MM).2
end G30
end
open PySem PySem.W PyProof.Rows
namespace PySem.W.Fast
def tw14000840041962479790:=0
def tw3145306292072350860:=0
def tw10253902548330451151:=0
def tw495076332468694119:=0
def tw9884707581099856245:=0
def tw10885782872345330118:=0
def tw2594398717865598075:=0
def tw6828372810856124191:=0
def tw2298769600806804104:=0
def tw7624408309623930982:=0
def tw11721366104232283755:=0
def tw17698799754539696247:=0
def tw9497337485009167991:=0
def tw8969077361324100596:=0
def tw10667924377511020486:=0
def tw10796458123960910895:=0
def tw13363525615578602952:=0
def tw17853551582146378829:=0
def tw6397918605594682746:=0
def tw15222364710410790936:=0
def tw7318273079671989297:=0
def tw16256580914618537469:=0
def tw5060674477800066249:=0
def tw14758133023794963132:=0
def tw12280664241871894893:=0
def tw8856534980201712195:=0
def tw7450037687293969472:=0
def tw18424881109962502655:=0
def tw12053515719274247847:=0
def tw12964830307469745900:=0
def tw10961190693000013809:=0
def tw13401112027640582912:=0
def tw4969268585937547793:=0
def tw5396890034712976816:=0
def tw16767196220916015962:=0
def tw10559092526171172682:=0
def tw12022546667361258929:=0
def tw8931531847531177843:=0
def tw1095593690821933296:=0
def tw8748386002081285108:=0
def tw13008555834089215096:=0
def tw5366387738591975586:=0
def tw7108223252447823064:=0
def tw8868775934490740133:=0
def tw13950830108460183950:=0
def tw7197455203008650196:=0
def tw4848256240108069767:=0
def tw4355285351951045330:=0
def tw414795953561207208:=0
def tw11911690995639682057:=0
def tw18191380365545264437:=0
def tw12671388681270052668:=0
def tw574826690438111050:=0
def tw10679650259331893841:=0
def tw11535233746614772826:=0
def tw3587046843440389047:=0
def tw5015778875527914674:=0
def tw13349052816600412880:=0
def tw9174976723048687664:=0
def tw1153684389434809983:=0
def tw11678103729188131158:=0
def tw12931468694405481020:=0
def tw14466371043242329370:=0
def tw3114747950718036373:=0
def tw6056639533144111179:=0
def tw11099413828299725665:=0
def tw11920412864964496179:=0
def tw6526801870502048167:=0
def tw9188200641594923794:=0
def tw10898665654963164253:=0
def tw14642811130452341191:=0
def tw11075398308700987500:=0
def tw16136364510195703146:=0
def tw1556511026444915223:=0
def tw3737181967384816898:=0
def tw10347055078808561984:=0
def tw1888134323288655494:=0
def tw280800219708352386:=0
def tw17218583553563431532:=0
def tw16684544497329511046:=0
def tw344039687949467429:=0
def tw10800769391409135612:=0
def tw12167579493665364694:=0
def tw11950821955479121266:=0
def tw27777211736157858:=0
def tw15221333002563288781:=0
def tw8188972899622444442:=0
def tw16632292127728272857:=0
def tw14909736031386024208:=0
def tw2796361507275296093:=0
def tw9896546091566422267:=0
def tw18416114196865504748:=0
def tw4906147992496339682:=0
def tw14840178950369877051:=0
def tw2313790453227903193:=0
def tw13358218191773598529:=0
def tw15976022975260102449:=0
def tw7532670332733565614:=0
def tw12526465980790416686:=0
def tw2951777567452206595:=0
def tw3318586109689486464:=0
def tw11780020325047848364:=0
def tw12234462610660833874:=0
def tw14529117230814572451:=0
def tw17213854674226920604:=0
def tw1900292421459994980:=0
def tw6032304945241170598:=0
def tw3780979604671852526:=0
def tw13447352851442031431:=0
def tw9658298426105492191:=0
def tw17816674877808326328:=0
def tw13230474672060897331:=0
def tw14756400227863211244:=0
def tw7692827238077869007:=0
def tw8586817611209520827:=0
def tw1712912531142411061:=0
def tw3391773903841641779:=0
def tw10087696655149125915:=0
def tw16740637146119669636:=0
def tw1781996440963009143:=0
def tw8764918233215321807:=0
def tw11075581818808432776:=0
def tw14998550434408478812:=0
def tw15711773569673215903:=0
def tw15085283609706630481:=0
def tw9497750047651043387:=0
def tw9255344742210833971:=0
def tw9499483211217027116:=0
def tw7251250999447936506:=0
def tw3524932116340030384:=0
def tw1305452341649335946:=0
def tw11104195391969971135:=0
def tw9384359951454174609:=0
def tw17168513324834270337:=0
def tw9604081804979007717:=0
def tw6487891072412966145:=0
end PySem.W.Fast
set_option maxRecDepth 100000 in
set_option maxHeartbeats 0 in
theorem PySem.Challenge.cw_onefolk_k30_best_joinings_holds : PySem.Challenge.rw_onefolk_k30_best_joinings.Holds := by
 w_on;refine PySem.W.holds_law (by decide +kernel) λsaid=>?_
 k_head;(case hw=>w_witness2)
 k_fill
 refine P1.FU (l:=PySem.Challenge.rw_onefolk_k30_best_joinings) (T:=G30.T) (k:=40) (x := "_law_script") (st:=G30.s_law) (F_law:=G30.F_law) (λt=>t.x_law) ⟨rfl,by decide,by decide⟩ rfl (λw mg base t=>G30.EF t) rfl rfl G30.H1 G30.H2 (λ_ _ _ _ _ _ _=>rfl) (λw h Y=>PySem.W.kIn_of Y) ?F
 case F=>
  intro w mg h KX G
  refine' ⟨P1.lQ KX G _ _ _ _,P1.lQ KX G _ _ _ _,P1.lQ KX G _ _ _ _,P1.lQ KX G _ _ _ _,P1.lQ KX G _ _ _ _,P1.lQ KX G _ _ _ _,P1.lQ KX G _ _ _ _,P1.lQ KX G _ _ _ _,P1.lQ KX G _ _ _ _,P1.lQ KX G _ _ _ _,P1.lQ KX G _ _ _ _,P1.lQ KX G _ _ _ _,P1.lQ KX G _ _ _ _,P1.lQ KX G _ _ _ _,P1.lQ KX G _ _ _ _,P1.lQ KX G _ _ _ _,P1.lQ KX G _ _ _ _,P1.lQ KX G _ _ _ _,P1.lQ KX G _ _ _ _,P1.lQ KX G _ _ _ _,P1.lQ KX G _ _ _ _,P1.lQ KX G _ _ _ _,P1.lQ KX G _ _ _ _,P1.lQ KX G _ _ _ _,P1.lQ KX G _ _ _ _,P1.lQ KX G _ _ _ _,P1.lQ KX G _ _ _ _,P1.lQ KX G _ _ _ _,P1.lQ KX G _ _ _ _,P1.lQ KX G _ _ _ _,P1.lQ KX G _ _ _ _,P1.lQ KX G _ _ _ _,qq KX G _,qq KX G _,qq KX G _,qq KX G _,qq KX G _,qq KX G _,qq KX G _,qq KX G _,qq KX G _,qq KX G _,qq KX G _,qq KX G _,qq KX G _,qq KX G _,qq KX G _,P1.OV KX G _,P1.OV KX G _⟩
  all_goals try (show _=_;k_is)
  all_goals try kernel_rfl
