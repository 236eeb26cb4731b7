import PyProof.Rows.All
import Wide.All
import OpenK.AllK
import Wide.FinOn
import Lean
import PySem.Challenge.RW_onefolk_k16_whole_heaviest_holding
open PySem.Heap renaming get?_push_of_some->ze,get?_push_size->zw,lt_size->zD,size_push->qr,get?_update_ne->kc,get?_update_self->k8,get?_update_other->k4,get?_push_ne->ow,size_update->pI
open List renaming mem_cons_self->zg,mem_cons_of_mem->zh,length_map->zk,map_cons->zt,mem_append_left->zv,size_toArray->zC,length_append->z4,getElem?_eq_getElem->z5,getElem?_map->Zp,mem_append_right->Zs,length_cons->ZE,getElem?_append_left->qa,getElem?_cons_succ->qc,all_eq_true->qf,foldl_cons->qo,append_nil->qq,append_assoc->qv,map_append->qB,mem_cons->Qr,getElem?_append_right->QA,map_map->QE,getElem?_eq_none->QI,not_mem_nil->QN,length_drop->QO,map_congr_left->QQ,mem_of_getElem?->Q1,getElem?_replicate->Q4,any_eq_true->ja,rel_of_pairwise_cons->js,getElem_of_mem->jv,map_nil->JJ,nodup_nil->JO,length_take->JP,foldl_append->JU,pairwise_mergeSort->ka,filterMap_cons->kb,take_append_drop->kq,find?_cons->ky,any_cons->kC,mergeSort_perm->kF,filter_cons->kK,filter_cons_of_pos->kL,filter_cons_of_neg->kM,mem_singleton->kQ,length_pos_of_mem->kR,mem_append->kX,length_set->k5,all_cons->k6,lookup_cons_self->k7,reverse_cons->Kb,map_id'->Kk,zip_cons_cons->KB,append_of_mem->KF,mem_map->KL,pairwise_map->KP,nodup_append->KS,length_range->KU,getElem_mem->K2,getElem_map->ya,map_id->yi,mem_of_mem_take->ym,mem_of_mem_drop->yn,replicate_succ->yv,mem_range->yY,getD_eq_getElem?_getD->y7,mapM_toArray->Ya,getElem?_set->Yf,length_erase_of_mem->YI,nodup_range->YR,replicate->ab,mem_filter->bt,getElem?_eq_some_iff->bv,nodup_cons->bT,range->cd,pairwise_cons->cV,pairwise_iff_getElem->dc,getD->dg,filter_eq_self->dl,length->dm,mem_reverse->dq,take_of_length_le->dw,take_succ_eq_append_getElem->dF,map->dJ,length_replicate->dV,getElem?_toArray->ef,of_mem_zip->eh,nil_append->et,mem_erase_of_ne->ey,eq_nil_of_length_eq_zero->eR,getElem?_range->fD,length_reverse->fO,perm_cons->gH,mem_filterMap->hE,find?_eq_none->hI,perm_append_singleton->hQ,sum_cons->hY,flatMap_cons->ic,filter_congr->il,drop_eq_getElem_cons->ix,all_map->i4,cons_ne_nil->jr,find?_range_eq_none->jL,any_map->jM,length_nil->j0,forIn_cons->kl,getElem?_set_self->k0,drop_eq_nil_of_le->ld,range_succ_eq_map->lg,pairwise_lt_range->ll,filter_eq_nil_iff->lr,length_singleton->lz,countP_mono_left->ma,getElem?_set_ne->ms,mem_iff_getElem->mu,length_eraseIdx->mL,pairwise_append->m8,le_trans->nf,nil_perm->nq,perm_nil->nw,filterMap_map->nH,getElem_range->n7,getElem?_drop->ol,ext_getElem?->pf,lookup_cons->pD,le_antisymm->pG,countP_cons->pJ,map_fst_zip->pK,perm_middle->pL,take_length->qs,map_id_fun'->q7,map_reverse->ra,cons_append->rc
open Nat renaming le_refl->zi,ne_of_lt->zI,le_of_ble_eq_true->zS,le_trans->ZI,lt_of_lt_of_le->Z3,lt_succ_self->qA,lt_succ_of_lt->qV,zero_le->QY,le_of_lt->jS,lt_irrefl->kg,not_lt_zero->ku,le_succ->Kj,zero_add->yz,ne_of_gt->yA,le_of_eq->yB,succ_le_succ->YO,lt_trans->en,mod_lt->ew,lt_of_le_of_lt->hH,lt_trichotomy->h9,not_lt->iT,le_add_right->i0,succ_pos->jH,zero_lt_succ->jV,min_self->n0,succ_mul->n4,mul_comm->n5,add_zero->oh,le_of_succ_le->ov
open Bool renaming false_eq_true->zo,and_eq_true->ZH,false_ne_true->ZT,not_eq_true'->Q3,eq_iff_iff->Jn,not_true->JI,not_false->JS,false_and->ko,and_false->KM,true_and->ye,and_true->yf,or_eq_true->yo,false_or->hO,decide_and->kZ,or_false->m9
open Array renaming getElem?_eq_getElem->ZO,length_toList->ZU,getElem?_toList->qh,getElem?_eq_none->ke,size_append->K0,toList_map->YU,perm_iff_toList_perm->db,getD->eu,mem_toList_iff->eH,toList_append->fU,toList_filterMap->lq,mem_of_getElem?->mq,getElem_toList->mv,getElem_of_mem->mO,getElem?_range->m6,toList->nD,forIn_toList->ot,toList_push->oC,toList_inj->pH,replicate->re
open Or renaming inr->JE,inl->kB
open Int renaming toNat_natCast->KW,le_refl->yk,toNat_of_nonneg->gF,emod_lt_of_pos->hF,zero_add->jU,emod_nonneg->kH
open Unit renaming unit->sn
local macro_rules|`(())=>`(by first|omega|decide)
open Option renaming isSome_some->y0,isSome_iff_exists->dv,isSome_map->h6,bind_some->i5,getD_none->pC,getD_some->q5,map_some->rd,map_map->rm
open PySem.SetTable renaming insertAt->bc,below->bn,turns->ca,bits->cb,grown->cf,sizeAbove->cD,runEnd->cF,layClean->cP,probe->da,leap->dd,fits->dz,fresh->hC,relaid->kG,laid->nA,slot->nC,put->oa,orStandIn->oe,tooFull->pO,advance->pR,fill->rW,has->r9
open Prod renaming ext->gG,fst->pF,mk->rK
open Option renaming some->U,none->Z
abbrev O:=List
abbrev Y:=Option
theorem S{α:Sort u}{a:α}:a=a:=rfl
open PySem renaming Value->A0,Addr->A1,Shared->A2,Program->A3,World->A4,Around->A5,Heap->A6,wpAny->A7,model->A8,starEach->A9,sizeLine->AA,Stmt->AB,Keyword->AC,backTo->AD,Obj->AE,codeAny->AF,compareOp->AG,bootBuiltins->AH,Paired->AI,Str->AJ
abbrev sa(x:AJ):=(x==("__debug__":AJ))=false
open PyProof.Rows renaming envOfC->AK,wpS_bind->AL,arrOf->AM
open PySem.W (instObj methodObj keepIn cellsFrom_some fnOf codeIn nsIn mg_of)
set_option maxRecDepth 100000
set_option maxHeartbeats 4000000
set_option linter.all false
set_option Elab.async false
open PySem PySem.Spec PyProof.Rows
variable{w:A4}{i:Nat}{t:SetTable}{x:AJ}{a:A1}{prog:A3}{us:O A0}{u:A0}{κ:Type}{h:A6}{items:Array A0}{P:A3}{α β:Type}{e:Expr}{n:Nat}{mg:AJ->Y A0}{base:A6}{l:PySem.W.OpenLaw}{env:Env}{m:O (AJ×AJ)}{AN:O (A1×AE)}{s:A2}{it:A1}{j:Nat}{M:Model}{A:A5}{v:A0}{Q:Bool->A2->Prop}{hi:Y Int}{D:A1}{es:O Expr}{pos:Pos}{y:AJ}{ys:O Int}{c tg:Expr}{body:O AB}{fp:O A1}{iter:Expr}{lo:Y Int}{pl:O Nat}{C:A1}{op:CmpOp}{AQ:O A0}{name:AJ}{tpos:Pos}{fd:FuncData}{apos:Pos}{qual:AJ}{scope:Scope}{osl:Array (Y A0)}{sl:A1}{p2 cpos:Pos}{XP:(AJ->Y A0)->A6->Prop}{YP:A4->A6->Prop}{cl:O (AJ×A1)}{is:O Nat}{ifs:O Expr}{elt tgt:Expr}{el:A1->Env->Sem Unit}{B:A5->Bool->Prop}{RR:A0->A1->Result->A2->Prop}{ep:Nat}{kd:SortKind}{mask:Nat}{owner:Array (Y Nat)}{elts:O Expr}{x1:Nat}{γ δ:Type}{os:OsState}{bmB:O A0}{newId initId:String}{a_:A1}
abbrev AZ:=O PySem.Str
abbrev B7:=PySem.Value->PySem.Shared->Prop
abbrev B1:=PySem.W.Frag
abbrev B9:=O Int
abbrev zb:=@wpAny_bind
abbrev zd:=@wpAny_pure
abbrev zl:=@if_pos
abbrev zz:=@if_neg
abbrev Zl:=@decide_eq_true
abbrev ZA:=@decide_eq_false
abbrev ZN:=@decide_eq_true_eq
abbrev ZY:=@if_false
abbrev ZZ:=@wpAny_newObj_type
abbrev qi:=@PySem.W.mg_none_of
abbrev qk:=@if_true
abbrev qS:=@wpAny_holding
abbrev Qb:=@wpAny_typeOf
abbrev QP:=@of_decide_eq_true
abbrev QR:=@wpAny_mono
abbrev QU:=@wpAny_call_entry
abbrev Q2:=@wpAny_setState_of
abbrev jI:=@wpAny_truthy_bool
abbrev j3:=@Option.some.inj
abbrev JA:=@decide_eq_false_iff_not
abbrev JY:=@wpAny_callSpecial?_slot
abbrev kf:=@wpAny_field
abbrev ki:=@wpAny_isInstance
abbrev km:=@wpAny_rule
abbrev kr:=@codeAny_builtin
abbrev kz:=@List.cons.injEq
abbrev kA:=@decide_false
abbrev kD:=@PySem.mem_of_lookup
abbrev kU:=@wpAny_passesOwn
abbrev k9:=@wpAny_pyIter_list
abbrev Ki:=@decide_true
abbrev Kn:=@Calls.call_function_entry
abbrev Kt:=@Heap.SameBut.update
abbrev Kx:=@wpAny_comprehension_free
abbrev KA:=@List.Pairwise.imp_of_mem
abbrev KG:=@Heap.IsSliceOf.new
abbrev KI:=@wpAny_getItem_str_slice
abbrev KO:=@wpAny_sequenceKey
abbrev yb:=@wpAny_newList
abbrev yT:=@wpAny_load
abbrev y3:=@Obj.data_mapFields
abbrev y8:=@Ne.symm
abbrev y9:=@wpAny_storeSet_of
abbrev YA:=@wpAny_standAt
abbrev YE:=@PySem.F.args_tuple_add_2
abbrev YN:=@wpAny_forIn_list
abbrev YV:=@PySem.F.entry_tuple_add
abbrev YY:=@F.plain_set_update_loop
variable{K:B1}{N:AZ}{E:B7}{ts ps n_:AZ}
namespace L2
abbrev AY:=Sum Int AJ
def lJ:AY->A0->Bool
 |.inl k,v=>Value.isInt k v
 |.inr x,v=>Value.isStrOf x v
def oS(w:A4):AY->Int
 |.inl k=>hashInt k
 |.inr x=>hashStr w x
theorem bO:∀{k:AY} {v:A0},lJ k v=true->(∃i t,k=Sum.inl i/\v=Value.int i t)\/(∃x t,k=Sum.inr x/\v=Value.str x t)
 |.inl i,v,h=>by
  obtain⟨t,e⟩:=Value.isInt_shape (k:=i) (v:=v) h;exact .inl ⟨i,t,rfl,e⟩
 |.inr x,v,h=>by
  obtain⟨t,e⟩:=Value.isStrOf_shape (x:=x) (v:=v) h;exact .inr ⟨x,t,rfl,e⟩
theorem XI(i:Int)(t:Tok):lJ (.inl i) (.int i t)=true:=by simp[lJ,Value.isInt]
theorem dE(x:AJ)(t:Tok):lJ (.inr x) (.str x t)=true:=by simp[lJ,Value.isStrOf]
theorem lw(a b:Int):decide ((Sum.inl a:AY)=Sum.inl b)=(a==b):=by
 by_cases e:a=b
 ·subst e;simp
 ·have h:¬ (Sum.inl a:AY)=Sum.inl b:=λq=>e (Sum.inl.inj q);rw[ZA h];exact(beq_eq_false_iff_ne.mpr e).symm
theorem cq(a b:AJ):decide ((Sum.inr a:AY)=Sum.inr b)=decide (a=b):=by
 by_cases e:a=b
 ·subst e;simp
 ·have h:¬ (Sum.inr a:AY)=Sum.inr b:=λq=>e (Sum.inr.inj q);rw[ZA h,ZA e]
theorem bm(a:Int)(b:AJ):decide ((Sum.inl a:AY)=Sum.inr b)=false:=ZA (λq=>nomatch q)
theorem SV(a:AJ)(b:Int):decide ((Sum.inr a:AY)=Sum.inl b)=false:=ZA (λq=>nomatch q)
def bG(prog:A3)(w:A4):PySem.KeyKind prog w AY where
 is:=lJ
 hash:=oS w
 inj:=λv a b ha hb=>by
  rcases bO ha with⟨i,t,rfl,rfl⟩|⟨x,t,rfl,rfl⟩
  ·rcases bO hb with⟨j,u,rfl,e⟩|⟨y,u,rfl,e⟩
   ·injection e with e1 _;rw[e1]
   ·exact nomatch e
  ·rcases bO hb with⟨j,u,rfl,e⟩|⟨y,u,rfl,e⟩
   ·exact nomatch e
   ·injection e with e1 _;rw[e1]
 byValue:=λk v h=>by
  rcases bO h with⟨i,t,rfl,rfl⟩|⟨x,t,rfl,rfl⟩<;>rfl
 pyHash:=λc h=>by
  rcases bO c with⟨i,t,rfl,rfl⟩|⟨x,t,rfl,rfl⟩
  ·exact wpAny_pyHash_int h
  ·exact wpAny_pyHash_str h
 eqBool:=λd c h=>by
  rcases bO d with⟨i,t,rfl,rfl⟩|⟨x,t,rfl,rfl⟩
  ·rcases bO c with⟨j,u,rfl,rfl⟩|⟨y,u,rfl,rfl⟩
   ·rw[lw]at h;exact wpAny_eqBool_int h
   ·rw[bm]at h;exact SeqAt.EqAt.int_str i t y u _ _ _ _ h
  ·rcases bO c with⟨j,u,rfl,rfl⟩|⟨y,u,rfl,rfl⟩
   ·rw[SV]at h;exact SeqAt.EqAt.str_int x t j u _ _ _ _ h
   ·rw[cq]at h;exact wpAny_eqBool_str h
 «strs»:=λk x t v h=>by
  rcases bO h with⟨i,u,rfl,e⟩|⟨y,u,rfl,e⟩
  ·exact nomatch e
  ·injection e with e1 _;subst e1;cases v<;>rfl
theorem Sy(prog:A3)(w:A4)(i:Int)(t:Tok):(bG prog w).is (.inl i) (.int i t)=true:=XI i t
theorem SJ(prog:A3)(w:A4)(x:AJ)(t:Tok):(bG prog w).is (.inr x) (.str x t)=true:=dE x t
end L2
namespace L2
inductive V where
 |non|bl (b:Bool)|int (i:Int)|str (x:Str)|byt (b:Array UInt8)|flt (b:UInt64)|ref (a:Addr)|ty (n:String)
 deriving DecidableEq
def At:V->A0->Prop
 |.non,u=>u=Value.none
 |.bl b,u=>u=Value.bool b
 |.int i,u=>∃t,u=Value.int i t
 |.str x,u=>∃t,u=Value.str x t
 |.byt b,u=>∃t,u=Value.bytes b t
 |.flt b,u=>∃t,u=Value.float b t
 |.ref a,u=>u=Value.ref a
 |.ty n,u=>u=Value.type n
abbrev AX:O V->O A0->Prop:=AI At
theorem AX.length{xs:O V}{us:O A0}(r:AX xs us):xs.length=us.length:=Paired.length r
theorem AX.get:∀{xs:O V} {us:O A0} {i:Nat} {x:V},AX xs us->xs[i]?=U x->∃u,us[i]?=U u/\At x u
 |_,_,_,_,.nil,e=>by simp at e
 |_,_,0,_,.cons r _,e=>by simp at e;subst e;exact⟨_,rfl,r⟩
 |_,_,i+1,x,.cons _ t,e=>by
  obtain⟨u,h1,h2⟩:=AX.get (i:=i) (x:=x) t (by simpa using e);exact⟨u,by simpa using h1,h2⟩
theorem AX.set{x:V}{u:A0}(r:At x u):∀{xs:O V} {us:O A0} (i:Nat),AX xs us->AX (xs.set i x) (us.set i u)
 |_,_,_,.nil=>.nil
 |_,_,0,.cons _ t=>.cons r t
 |_,_,i+1,.cons q t=>.cons q (AX.set r i t)
theorem AX.append:∀{xs ys:O V} {us a:O A0},AX xs us->AX ys a->AX (xs++ys) (us++a)
 |_,_,_,_,.nil,s=>s
 |_,_,_,_,.cons r t,s=>.cons r (AX.append t s)
theorem AX.take:∀{xs:O V} {us:O A0} (n:Nat),AX xs us->AX (xs.take n) (us.take n)
 |_,_,0,_=>.nil
 |_,_,_+1,.nil=>.nil
 |_,_,n+1,.cons r t=>.cons r (AX.take n t)
theorem AX.drop:∀{xs:O V} {us:O A0} (n:Nat),AX xs us->AX (xs.drop n) (us.drop n)
 |_,_,0,r=>r
 |_,_,_+1,.nil=>.nil
 |_,_,n+1,.cons _ t=>AX.drop n t
def JD:Y V->Y A0->Prop
 |some v,U u=>At v u
 |none,Z=>True
 |_,_=>False
def KV:O (κ×V)->O (κ×A0)->Prop:=AI λ(p:κ×V) (q:κ×A0)=>p.1=q.1/\At p.2 q.2
def kV:AY->V
 |.inl i=>.int i
 |.inr x=>.str x
inductive HO where
 |lst (xs:List V)
 |tup (xs:List V)
 |dK (AO:List (AY×V))|dT (AO:List (List AY×V))
 |set (S:Int->Bool) (n:Nat)
 |ins (C dx:Addr) (fs:List (Str×V))
 |own (x:Addr)
 |xd (fs:List (Str×V))
 |met (f x:Addr)
 |rng (lo hi:Int)
 |yw (o:Obj) (u:HO)
 |tbl (ps:Array Value)
 |ext (φ:Heap->Prop)
abbrev Hp:=A1->Y HO
def B6(H:Hp)(a:A1)(o:HO):Hp:=λb=>if b=a then U o else H b
theorem bK{H:Hp}{o:HO}:B6 H a o a=U o:=by unfold B6;rw[zl rfl]
theorem aV{H:Hp}{b:A1}{o:HO}(h:b≠a):B6 H a o b=H b:=by unfold B6;rw[zz h]
def nJ(h:A6)(a:A1)(items:Array A0):Prop:=∃o,h.get? a=U o/\o.cls=.type "tuple" ∧ (∃n,o.data=.seq items n)/\o.dict=Z
theorem nJ.weak(x:nJ h a items):IsTup h a items:=let ⟨o,e,c,d,_⟩:=x;⟨o,e,c,d⟩
theorem nJ.new(h:A6)(items:Array A0):nJ (h.push { cls:=.type "tuple",data:=.seq items }) h.objs.size items:=⟨_,zw _ rfl,rfl,⟨_,rfl⟩,rfl⟩
theorem qO{H:Hp}{b:A1}{o u:HO}(h:H a=U o)(h':H b=U u)(d:o≠u):a≠b:=by
 intro e;subst e;rw[h]at h';exact d (j3 h')
theorem eE{H:Hp}{b:A1}{o:HO}(h:H a=U o)(h':H b=Z):a≠b:=by
 intro e;subst e;rw[h]at h';cases h'
section
variable(P:A3)(w:A4)
def ju(H:Hp)(h:A6)(a:A1):HO->Prop
 |.lst xs=>xs.length<=AA/\∃(AQ:O A0) (n:Nat),AX xs AQ/\h.get? a=U { cls:=.type "list",data:=.seq AQ.toArray n }
 |.tup xs=>xs.length<=AA/\∃AQ:O A0,AX xs AQ/\nJ h a AQ.toArray
 |.dK AO=>AO.length<=AA/\(a==sysModules)=false/\∃vs,KV AO vs/\h.DictOf (bG P w) a vs
 |.dT AO=>AO.length<=AA/\(a==sysModules)=false/\∃xs:O (O AY×A1×A0),
   AI (λ(p:O AY×V) (q:O AY×A1×A0)=>p.1=q.1/\H q.2.1=U (.tup (p.1.map kV))/\At p.2 q.2.2) AO xs ∧
   ∃o es ep,h.get? a=U o/\o.ExactDict/\o.data=.dict es ep/\es.toList=xs.map (entryOfKey (tupleKind (bG P w)))/\(xs.map (·.1)).Nodup
 |.set S n=>h.SetOf (intKind P w) a S n
 |.ins C dx fs=>H dx=U (.own a)/\fs.length<=1000/\dx≠a/\h.get? a=U (instObj C dx) ∧
   ∃mA,h.Ns1 dx mA/\(∀f,JD (fs.lookup f) (mA f))/\PySem.Within mA (fs.map (·.1))
 |.own _=>∃o,h.get? a=U o
 |.xd fs=>∃mA,h.Ns1 a mA/\∀f,JD (fs.lookup f) (mA f)
 |.rng lo hi=>∃t u v,h.get? a=U { cls:=.type "range",data:=.fields #[.int lo t,.int hi u,.int 1 v] }
 |.yw o u=>h.get? a=U o/\ju H h a u
 |.tbl ps=>h.get? a=U { cls:=.none,data:=.fields ps }
 |.met f x=>h.get? a=U (methodObj (.ref f) (.ref x))
 |.ext b=>b h/\(∃o,h.get? a=U o)/\∀h1 h2:A6,b h1->(∀o,h1.get? a=U o->h2.get? a=U o)->b h2
def CV(H:Hp)(h:A6):Prop:=∀a o,H a=U o->ju P w H h a o
end
section
variable{H H':Hp}{h':A6}{o:HO}
theorem ju.lt(x:ju P w H h a o):a<h.objs.size:=by
 cases o with
 |lst xs=>obtain⟨_,_,_,_,e⟩:=x;exact zD e
 |tup xs=>obtain⟨_,_,_,p⟩:=x;exact p.weak.lt
 |dK AO=>obtain⟨_,_,_,_,o,_,_,e,_⟩:=x;exact zD e
 |dT AO=>obtain⟨_,_,_,_,o,_,_,e,_⟩:=x;exact zD e
 |set S n=>obtain⟨o,_,_,_,e,_⟩:=x;exact zD e
 |ins C dx fs=>obtain⟨_,_,_,e,_⟩:=x;exact zD e
 |own y=>obtain⟨_,e⟩:=x;exact zD e
 |xd fs=>obtain⟨_,⟨_,_,_,e,_⟩,_⟩:=x;exact zD e
 |rng lo hi=>obtain⟨_,_,_,e⟩:=x;exact zD e
 |yw c u=>obtain⟨e,_⟩:=x;exact zD e
 |tbl ps=>exact zD (show h.get? a=U _ from x)
 |met f y=>exact zD (show h.get? a=U _ from x)
 |ext b=>obtain⟨_,⟨_,e⟩,_⟩:=x;exact zD e
theorem Paired.afy{α β:Type}{F G:α->β->Prop}:∀{d:O α} {c:O β},AI F d c->(∀a b,F a b->G a b)->AI G d c
 |_,_,.nil,_=>.nil
 |_,_,.cons r t,f=>.cons (f _ _ r) (Paired.afy t f)
theorem Paired.imp'{F G:α->β->Prop}(f:∀a b,F a b->G a b){d:O α}{c:O β}(r:AI F d c):AI G d c:=Paired.afy r f
theorem ju.stay(x:ju P w H h a o)(k:∀b u,(b=a\/H b=U (.own a))->h.get? b=U u->h'.get? b=U u)
  (ho:∀b,H b=U (.own a)->H' b=U (.own a)) (j:∀b xs,H b=U (.tup xs)->H' b=U (.tup xs)):ju P w H' h' a o:=by
 induction o with
 |lst xs=>obtain⟨z,AQ,n,r,e⟩:=x;exact⟨z,AQ,n,r,k _ _ (.inl rfl) e⟩
 |tup xs=>obtain⟨z,AQ,r,g,e,c⟩:=x;exact⟨z,AQ,r,g,k _ _ (.inl rfl) e,c⟩
 |dK AO=>obtain⟨z,y,vs,r,g,es,ep,e,c⟩:=x;exact⟨z,y,vs,r,g,es,ep,k _ _ (.inl rfl) e,c⟩
 |dT AO=>
  obtain⟨z,y,xs,r,g,es,ep,e,c⟩:=x;exact⟨z,y,xs,Paired.afy r λp q z=>⟨z.1,j _ _ z.2.1,z.2.2⟩,g,es,ep,k _ _ (.inl rfl) e,c⟩
 |set S n=>obtain⟨g,es,ep,t,e,c⟩:=x;exact⟨g,es,ep,t,k _ _ (.inl rfl) e,c⟩
 |ins C dx fs=>
  obtain⟨d,z,ne,e,mA,⟨i,es,ep,e2,c⟩,r⟩:=x;exact⟨ho _ d,z,ne,k _ _ (.inl rfl) e,mA,⟨i,es,ep,k _ _ (.inr d) e2,c⟩,r⟩
 |own y=>obtain⟨g,e⟩:=x;exact⟨g,k _ _ (.inl rfl) e⟩
 |xd fs=>obtain⟨mA,⟨i,es,ep,e,c⟩,r⟩:=x;exact⟨mA,⟨i,es,ep,k _ _ (.inl rfl) e,c⟩,r⟩
 |rng lo hi=>obtain⟨t,u,v,e⟩:=x;exact⟨t,u,v,k _ _ (.inl rfl) e⟩
 |yw g u l=>obtain⟨e,q⟩:=x;exact⟨k _ _ (.inl rfl) e,l q⟩
 |tbl ps=>
  have e:h.get? a=U { cls:=.none,data:=.fields ps }:=x;show h'.get? a=U { cls:=.none,data:=.fields ps };exact k a _ (.inl rfl) e
 |met f y=>
  have e:h.get? a=U (methodObj (.ref f) (.ref y)):=x;show h'.get? a=U (methodObj (.ref f) (.ref y));exact k a _ (.inl rfl) e
 |ext m=>obtain⟨p,⟨o,e⟩,st⟩:=x;exact⟨st _ _ p λo q=>k _ _ (.inl rfl) q,⟨o,k _ _ (.inl rfl) e⟩,st⟩
theorem CV.lt(x:CV P w H h)(e:H a=U o):a<h.objs.size:=(x a o e).lt
theorem CV.fresh(x:CV P w H h)(e:h.objs.size<=a):H a=Z:=by
 cases q:H a with
 |none=>rfl
 |some u=>exact absurd (Z3 (x.lt q) e) (kg _)
theorem CV.kept(x:CV P w H h)(k:∀b u,h.get? b=U u->h'.get? b=U u):CV P w H h':=λa o e=>
 (x a o e).stay (λb u _ q=>k b u q) (λ_ q=>q) λ_ _ q=>q
theorem CV.laid(x:CV P w H h)(k:∀b u,h.get? b=U u->h'.get? b=U u)(hp:h.objs.size<=a)(new:ju P w (B6 H a o) h' a o):CV P w (B6 H a o) h':=λb u e=>by
 have d:=x.fresh hp;by_cases hb:b=a
 ·subst hb;rw[bK]at e;cases e;exact new
 ·rw[aV hb]at e;exact(x b u e).stay (λc v _ q=>k c v q) (λc q=>by rw[aV (eE q d)];exact q) λc xs q=>by rw[aV (eE q d)];exact q
end
def Rd(H:Hp)(a:A1)(u:HO):Prop:=H a=U u\/∃o,H a=U (.yw o u)
theorem Rd.ok{H:Hp}{u:HO}(r:Rd H a u)(x:CV P w H h):ju P w H h a u:=by
 rcases r with r|⟨o,r⟩
 ·exact x a u r
 ·obtain⟨_,q⟩:=x a _ r;exact q
def Fm:Y HO->Prop
 |some (.lst _)=>True
 |some (.dK _)=>True
 |some (.dT _)=>True
 |some (.set _ _)=>True
 |some (.ins _ _ _)=>True
 |some (.ext _)=>True
 |_=>False
section
variable{H:Hp}{h':A6}{x e:A1}{o':HO}
theorem CV.write(ok:CV P w H h)(a:Fm (H x))(he:e=x\/H e=U (.own x))(k:∀b u,b≠e->h.get? b=U u->h'.get? b=U u)(j:∃u,h'.get? e=U u)
  (new:ju P w (B6 H x o') h' x o'):CV P w (B6 H x o') h':=λb u q=>by
 have i:∀c y,H c=U (.own y)->c≠x:=λc y r z=>by subst z;rw[r]at a;exact a
 have l:∀c xs,H c=U (.tup xs)->c≠x:=λc xs r z=>by subst z;rw[r]at a;exact a
 by_cases hb:b=x
 ·subst hb;rw[bK]at q;cases q;exact new
 ·rw[aV hb]at q;by_cases f:b=e
  ·have g:H b=U (.own x):=by
    rcases he with z|z
    ·exact absurd (f.trans z) hb
    ·rw[f];exact z
   rw[q]at g;cases g;obtain⟨v,m⟩:=j;exact⟨v,by rw[f];exact m⟩
  ·refine(ok b u q).stay (λc v d r=>k c v ?_ r) (λc r=>by rw[aV (i c b r)];exact r) λc xs r=>by rw[aV (l c xs r)];exact r
   rcases d with rfl|d
   ·exact f
   ·rintro rfl;rcases he with z|z
    ·exact i c b d z
    ·rw[d]at z;cases z;exact hb rfl
end
structure Un (fs ex:List Addr) (H H':Hp) (h h':Heap):Prop where
 keep:∀b o,h.get? b=some o->H b=none->b∉fs->b∉ex->h'.get? b=some o
 slot:∀b o,h.get? b=some o->H b=none->b∈fs->b∉ex->∃sl,h'.get? b=some { o with slots:=sl }
 free:∀b o,h.get? b=some o->H b=none->b∉ex->H' b=none
 there:∀b o,h.get? b=some o->b∉ex->∃o',h'.get? b=some o'
 tups:∀b xs,H b=some (.tup xs)->H' b=some (.tup xs)
 Ih:∀b o u,H b=some (.yw o u)->H' b=some (.yw o u)
 Mv:∀b ps,H b=some (.tbl ps)->∃more,H' b=some (.tbl (ps++more))
section
variable{fs fs' ex ex':O A1}{H H1 H2:Hp}{h1 h2 h':A6}{x e:A1}{o:HO}
theorem Un.any(u:Un fs ex H H1 h h1){b:A1}{a:AE}(q:h.get? b=U a)(n:H b=Z)(hx:b∉ex):∃sl,h1.get? b=U { a with slots:=sl }:=by
 by_cases hb:b∈fs
 ·exact u.slot b a q n hb hx
 ·exact⟨a.slots,u.keep b a q n hb hx⟩
theorem Un.kept(k:∀b u,h.get? b=U u->h'.get? b=U u):Un fs ex H H h h':=
 ⟨λb a q _ _ _=>k b a q,λb a q _ _ _=>⟨a.slots,k b a q⟩,λ_ _ _ n _=>n,λb a q _=>⟨a,k b a q⟩,λ_ _ q=>q,λ_ _ _ q=>q,λ_ ps q=>⟨#[],by rw[q];simp⟩⟩
theorem Un.refl:Un fs ex H H h h:=Un.kept λ_ _ q=>q
theorem Un.laid(k:∀b u,h.get? b=U u->h'.get? b=U u)(hp:h.objs.size<=a)(c:H a=Z):Un fs ex H (B6 H a o) h h' where
 keep:=λb u q _ _ _=>k b u q
 slot:=λb u q _ _ _=>⟨u.slots,k b u q⟩
 free:=λb u q n _=>by rw[aV (zI (Z3 (zD q) hp))];exact n
 there:=λb u q _=>⟨u,k b u q⟩
 tups:=λb xs q=>by rw[aV (eE q c)];exact q
 Ih:=λb u xs q=>by rw[aV (eE q c)];exact q
 Mv:=λb ps q=>⟨#[],by rw[aV (eE q c),q];simp⟩
theorem Un.write(a:Fm (H x))(he:e=x\/H e=U (.own x))(k:∀b u,b≠e->h.get? b=U u->h'.get? b=U u)(f:∃u,h'.get? e=U u):Un fs ex H (B6 H x o) h h':=by
 have hx:∀b,H b=Z->b≠x:=λb n z=>by subst z;rw[n]at a;exact a
 have hb:∀b,H b=Z->b≠e:=λb n z=>by
  subst z;rcases he with r|r
  ·exact hx b n r
  ·rw[n]at r;cases r
 have c:∀b u,H b=U u->¬ Fm (U u)->b≠x:=λb u q nm z=>by subst z;rw[q]at a;exact nm a
 refine⟨λb u q n _ _=>k b u (hb b n) q,λb u q n _ _=>⟨u.slots,k b u (hb b n) q⟩,λb u q n _=>by rw[aV (hx b n)];exact n,λb u q _=>?_,
  λb xs q=>by rw[aV (c b _ q λz=>z)];exact q,λb u xs q=>by rw[aV (c b _ q λz=>z)];exact q,λb ps q=>⟨#[],by rw[aV (c b _ q λz=>z),q];simp⟩⟩
 by_cases d:b=e
 ·subst d;exact f
 ·exact⟨u,k b u d q⟩
end
def HU(h:A6)(H:Hp):O A1:=(cd h.objs.size).filter λa=>(H a).isSome
def Qg(h:A6)(H:Hp):A6:=PySem.W.hideAll h (HU h H)
theorem tP(h:A6)(H:Hp):(Qg h H).objs.size=h.objs.size:=PySem.W.hideAll_size _ _
theorem Sb{H:Hp}{b:A1}{o:AE}(e:h.get? b=U o)(n:H b=Z):(Qg h H).get? b=U o:=
 PySem.W.hideAll_get _ e λa=>by
  have q:(H b).isSome=true:=(bt.mp a).2;rw[n]at q;simp at q
theorem UB{H:Hp}{b:A1}{o:AE}(e:(Qg h H).get? b=U o):h.get? b=U o/\H b=Z:=by
 have e':h.get? b=U o:=PySem.W.of_hideAll (HU h H) e;refine⟨e',?_⟩;cases q:H b with
 |none=>rfl
 |some x=>
  have a:b∈HU h H:=bt.mpr ⟨List.mem_range.mpr (zD e'),by simp[q]⟩;have z:(Qg h H).get? b=Z:=PySem.W.hideAll_none (HU h H) a;rw[z]at e;cases e
def dS(g h:A6)(L:A1):O (A1×AE):=(cd h.objs.size).filterMap λa=>if a=L\/(g.get? a).isSome=true then Z else(h.get? a).map λo=>(a,o)
def AS(g h:A6)(L d:A1):O (A1×AE):=(dS g h L).filter λp=>decide (p.1≠d)
end L2
namespace L2
structure Mod (K:B1) (mg:Str->Option Value) (base:Heap):Prop where
 kin:K.In base
 glob:base.Ns mainGlobals mg
 blt:∃mb,base.Ns builtinsNs mb/\∀x:Str,x ≠ "__name__" → mb x=bootBuiltins x
 nolimit:base.NoLimit
structure Cx where
 prog:Program
 w:World
 K:B1
 mg:Str->Option Value
 base:Heap
 A:Around
 N:AZ
 s₀:Shared
 H₀:Hp
 env:Env
 outer:List Env
 stack:List Env
 ex:List Addr
 fn:Str->Bool
 calm:Bool
 pn:List (Addr×Obj)
 xe:B7
abbrev sg(X:Cx):=A8 X.prog X.w
def DB(l:O Env):O A1:=l.filterMap (·.frame)
abbrev Cx.fs(X:Cx):O A1:=DB X.outer
def D4(a:Scope)(x:AJ):Prop:=a.names.lookup x=U .local\/a.names.lookup x=U .cell\/a.names.lookup x=U .free
def DV(a:Scope)(x:AJ):Prop:=a.names.lookup x=U .local\/a.names.lookup x=U .cell
def LW(env:Env)(h:A6)(m:AJ->Y A0)(x:AJ)(u:A0):Prop:=
 (env.kindOf x=U .local/\m x=U u)\/((env.kindOf x=U .cell\/env.kindOf x=U .free)/\∃c,env.cells.lookup x=U c/\h.IsCell c (U u))
structure Cx.Ok (X:Cx):Prop where
 mod:Mod X.K X.mg X.base
 kind:X.env.scope.kind=.function
 glob:X.env.globals=mainGlobals
 blt:X.env.builtins=builtinsNs
 above:X.s₀.heap.objs.size<=X.env.locals
 inj:∀x y c,X.env.cells.lookup x=some c->X.env.cells.lookup y=some c->x=y
 has:∀x,(X.env.kindOf x=some .cell\/X.env.kindOf x=some .free)->∃c,X.env.cells.lookup x=some c
 cab:∀x c,X.fn x=true->X.env.cells.lookup x=some c->X.s₀.heap.objs.size<=c
 hd:X.calm=true->X.A.handled=none
 frames:X.A.frames=some X.stack
 stk:X.stack=X.outer\/(X.stack=X.env::X.outer/\X.env.frame=some X.env.locals)
 exf:∀b∈X.ex,b≠X.env.locals/\∀x c,X.env.cells.lookup x=some c->c≠b
 bs:∀b o,X.base.get? b=some o->X.s₀.heap.get? b=some o/\X.H₀ b=none
 bsz:X.base.objs.size<=X.s₀.heap.objs.size
 ab3:∀b o,X.base.get? b=some o->b∉X.ex
 afB:∀b∈X.ex,b∉X.fs
 JF:X.s₀.heap.FunFrames X.base X.outer
 frf:∀b∈X.fs,X.H₀ b=none
structure AU (X:Cx) (AN:List (Addr×Obj)) (σ:List (Option V)) (H:Hp) (s:Shared):Prop where
 ok:X.Ok
 os:s.os=X.s₀.os
 bare:AllBare s.gens
 base:Un X.fs X.ex X.H₀ H X.s₀.heap s.heap
 loc:∃m,s.heap.Ns X.env.locals m/\∀(i:Nat) (x:Str) (v:V),X.N[i]?=some x->σ[i]?=some (some v)->D4 X.env.scope x->∃u,At v u/\LW X.env s.heap m x u
 cell:∀x c,X.env.cells.lookup x=some c->∃v,s.heap.IsCell c v
 free:H X.env.locals=none
 uw:∀x c,X.env.cells.lookup x=some c->H c=none
 pin:∀p∈X.pn++AN,s.heap.get? p.1=some p.2/\H p.1=none/\p.1≠X.env.locals/\p.1∉X.fs/\∀v,p.2.data≠.cell v
 hok:CV X.prog X.w H s.heap
 len:σ.length=X.N.length
section
variable{X:Cx}{σ:O (Y V)}{H H':Hp}{h':A6}
theorem Cx.Ok.anu(ok:X.Ok){b:A1}{o:AE}(e:X.base.get? b=U o):b∉X.fs:=λhb=>by
 have:=(ok.JF.mem hb).1;rw[e]at this;cases this
theorem AU.bs(I:AU X AN σ H s):∀b o,X.base.get? b=U o->s.heap.get? b=U o/\H b=Z:=λb o e=>
 ⟨I.base.keep b o (I.ok.bs b o e).1 (I.ok.bs b o e).2 (I.ok.anu e) (I.ok.ab3 b o e),I.base.free b o (I.ok.bs b o e).1 (I.ok.bs b o e).2 (I.ok.ab3 b o e)⟩
theorem AU.bk(I:AU X AN σ H s):∀b o,X.base.get? b=U o->s.heap.get? b=U o:=λb o e=>(I.bs b o e).1
theorem AU.mod(I:AU X AN σ H s):Mod X.K X.mg X.base:=I.ok.mod
theorem AU.kIn(I:AU X AN σ H s):X.K.In s.heap:=I.ok.mod.kin.keeps I.bk
theorem AU.lt(I:AU X AN σ H s):X.env.locals<s.heap.objs.size:=let ⟨_,hn,_⟩:=I.loc;hn.lt
theorem AU.sz(I:AU X AN σ H s):X.s₀.heap.objs.size<=s.heap.objs.size:=ZI I.ok.above (jS I.lt)
theorem AU.anv(I:AU X AN σ H s)(h:s.heap.objs.size<=a):a∉X.fs:=λhb=>by
 obtain⟨_,o,ho,_⟩:=I.ok.JF.mem hb;exact absurd (Z3 (zD ho) (ZI I.sz h)) (kg _)
theorem AU.cne(I:AU X AN σ H s):∀x c,X.env.cells.lookup x=U c->c≠X.env.locals:=λx c e z=>by
 obtain⟨v,o,ho,a⟩:=I.cell x c e;obtain⟨m,⟨o',es,ep,d,b,_⟩,_⟩:=I.loc;rw[z,d]at ho;cases ho;rw[b]at a;cases a
theorem AU.JF(I:AU X AN σ H s):s.heap.FunFrames X.base X.outer:=by
 have all:∀(l:O Env),(∀b∈DB l,b∈X.fs)->X.s₀.heap.FunFrames X.base l->s.heap.FunFrames X.base l:=by
  intro l
  induction l with
  |nil=>intro _ _;trivial
  |cons env r g=>
   intro hs f;obtain⟨i,⟨L,o,c,j,ho,h⟩,d⟩:=f;have a:L∈X.fs:=hs L (by unfold DB;rw[kb,c];exact zg);obtain⟨sl,e⟩:=I.base.slot L o ho (I.ok.frf L a) a λz=>I.ok.afB L z a;exact⟨i,⟨L,_,c,j,e,h⟩,g (λb hb=>hs b (by unfold DB;rw[kb,c];exact zh _ hb)) d⟩
 exact all X.outer (λ_ hb=>hb) I.ok.JF
theorem AU.stack(I:AU X AN σ H s):s.heap.FunFrames X.base X.stack:=by
 rcases I.ok.stk with e|⟨e,b⟩
 ·rw[e];exact I.JF
 ·rw[e];obtain⟨m,a,_⟩:=I.loc;refine .cons (by rw[I.ok.kind];decide) b a ?_ I.JF;exact Heap.get?_none_of_le (ZI I.ok.bsz I.ok.above)
theorem AU.Qh(I:AU X AN σ H s):∀b∈DB X.stack,b∈X.env.locals::X.fs:=λb hb=>by
 rcases I.ok.stk with e|⟨e,a⟩
 ·rw[e]at hb;exact zh _ hb
 ·rw[e]at hb;unfold DB at hb;rw[kb,a]at hb;exact hb
theorem AU.YF(I:AU X AN σ H s):∀b∈DB X.stack,H b=Z:=λb hb=>by
 rcases List.mem_cons.mp (I.Qh b hb)with e|hb
 ·rw[e];exact I.free
 ·obtain⟨_,o,ho,_⟩:=I.ok.JF.mem hb;exact I.base.free b o ho (I.ok.frf b hb) λz=>I.ok.afB b z hb
theorem AU.step{g':Array GenState}{t':Nat}{d':Drawn}{ch:O A1}(I:AU X AN σ H s)
  (f:∀b∈ch,(b∈X.ex\/X.s₀.heap.objs.size<=b)/\b≠X.env.locals/\(∀x c,X.env.cells.lookup x=U c->c≠b)/\∀p∈X.pn++AN,p.1≠b)
  (keep:∀b o,b≠X.env.locals->b∉X.fs->b∉ch->s.heap.get? b=U o->H b=Z->h'.get? b=U o)
  (slot:∀b o,b≠X.env.locals->b∈X.fs->b∉ch->s.heap.get? b=U o->H b=Z->∃sl,h'.get? b=U { o with slots:=sl }) (free:∀b o,b∉ch->s.heap.get? b=U o->H b=Z->H' b=Z)
  (M:∀b o,b∉ch->s.heap.get? b=U o->∃o',h'.get? b=U o')
  (K:∀b xs,H b=U (.tup xs)->H' b=U (.tup xs)) (G:∀b o u,H b=U (.yw o u)->H' b=U (.yw o u)) (B:∀b ps,H b=U (.tbl ps)->∃more,H' b=U (.tbl (ps++more)))
  (C:∀m,s.heap.Ns X.env.locals m->h'.Ns X.env.locals m) (N:CV X.prog X.w H' h') (hg:AllBare g'):
  AU X AN σ H' { s with heap:=h',gens:=g',drawn:=d',toks:=t' }:=by
 have A:∀b o,X.s₀.heap.get? b=U o->b≠X.env.locals:=λb o e=>zI (Z3 (zD e) I.ok.above);have g:∀b o,X.s₀.heap.get? b=U o->b∉X.ex->b∉ch:=λb o e hx hb=>by
  rcases(f b hb).1 with z|z
  ·exact hx z
  ·exact absurd (Z3 (zD e) z) (kg _)
 have t:∀x c,X.env.cells.lookup x=U c->∀v,s.heap.IsCell c v->h'.IsCell c v:=λx c e v ⟨o,ho,h⟩=>by
  have a:c∉ch:=λz=>(f c z).2.2.1 x c e rfl;by_cases j:c∈X.fs
  ·obtain⟨sl,q⟩:=slot c o (I.cne x c e) j a ho (I.uw x c e);exact⟨_,q,h⟩
  ·exact⟨o,keep c o (I.cne x c e) j a ho (I.uw x c e),h⟩
 refine⟨I.ok,I.os,hg,⟨λb o e n hb hx=>?_,λb o e n hb hx=>?_,λb o e n hx=>?_,λb o e hx=>?_,λb xs e=>K b xs (I.base.tups b xs e),λb o xs e=>G b o xs (I.base.Ih b o xs e),λb ps e=>?_⟩,?_,λx c e=>?_,?_,λx c e=>?_,λp hp=>?_,N,I.len⟩
 ·exact keep b o (A b o e) hb (g b o e hx) (I.base.keep b o e n hb hx) (I.base.free b o e n hx)
 ·obtain⟨sl,e1⟩:=I.base.slot b o e n hb hx;obtain⟨E,e2⟩:=slot b _ (A b o e) hb (g b o e hx) e1 (I.base.free b o e n hx);exact⟨E,e2⟩
 ·obtain⟨o',e1⟩:=I.base.there b o e hx;exact free b o' (g b o e hx) e1 (I.base.free b o e n hx)
 ·obtain⟨o',e1⟩:=I.base.there b o e hx;exact M b o' (g b o e hx) e1
 ·obtain⟨L,e1⟩:=I.base.Mv b ps e;obtain⟨D,e2⟩:=B b _ e1;exact⟨L++D,by rw[e2,Array.append_assoc]⟩
 ·obtain⟨m,F,J⟩:=I.loc;refine⟨m,C m F,λi x v e1 e2 e3=>?_⟩;obtain⟨u,r,l⟩:=J i x v e1 e2 e3;refine⟨u,r,?_⟩;rcases l with l|⟨k,c,e,z⟩
  ·exact .inl l
  ·exact .inr ⟨k,c,e,t x c e _ z⟩
 ·obtain⟨v,z⟩:=I.cell x c e;exact⟨v,t x c e v z⟩
 ·obtain⟨m,⟨o,_,_,ho,_⟩,_⟩:=I.loc;exact free _ o (λz=>(f _ z).2.1 S) ho I.free
 ·obtain⟨v,o,ho,h⟩:=I.cell x c e;exact free c o (λz=>(f c z).2.2.1 x c e S) ho (I.uw x c e)
 ·obtain⟨e,n,ne,y,d⟩:=I.pin p hp;have a:p.1∉ch:=λz=>(f p.1 z).2.2.2 p hp rfl;exact⟨keep p.1 p.2 ne y a e n,free p.1 p.2 a e n,ne,y,d⟩
theorem AU.un{t':Nat}(I:AU X AN σ H s)(u:Un X.fs [] H H' s.heap h')(i:CV X.prog X.w H' h'):AU X AN σ H' { s with heap:=h',toks:=t' }:=by
 obtain⟨m,⟨o,es,ep,ho,r⟩,_⟩:=id I.loc;obtain⟨sl,h⟩:=u.any ho I.free (by simp);exact I.step (g':=s.gens) (d':=s.drawn) (ch:=[]) (λ_ z=>nomatch z) (λb o _ hb _ e n=>u.keep b o e n hb (by simp)) (λb o _ hb _ e n=>u.slot b o e n hb (by simp)) (λb o _ e n=>u.free b o e n (by simp)) (λb o _ e=>u.there b o e (by simp)) u.tups u.Ih u.Mv (λj d=>by
  obtain⟨o',g,c,a,f⟩:=d;rw[ho]at a;cases a;exact⟨_,g,c,h,f⟩) i I.bare
theorem AU.call{g':Array GenState}{t':Nat}{d':Drawn}{ch:O A1}(I:AU X AN σ H s)(u:Un (DB X.stack) ch H H' s.heap h')(q:CV X.prog X.w H' h')(hg:AllBare g')
  (g:∀b∈ch,(b∈X.ex\/X.s₀.heap.objs.size<=b)/\b≠X.env.locals/\(∀x c,X.env.cells.lookup x=U c->c≠b)/\∀p∈X.pn++AN,p.1≠b):
  AU X AN σ H' { s with heap:=h',gens:=g',drawn:=d',toks:=t' }:=by
 obtain⟨m,⟨o,es,ep,ho,r⟩,_⟩:=id I.loc;obtain⟨sl,d⟩:=u.any ho I.free λz=>(g _ z).2.1 rfl;exact I.step (ch:=ch) g (λb o d hb a e n=>u.keep b o e n (λz=>(List.mem_cons.mp (I.Qh b z)).elim d hb) a) (λb o _ _ a e n=>u.any e n a) (λb o a e n=>u.free b o e n a) (λb o a e=>u.there b o e a) u.tups u.Ih u.Mv (λt i=>by
  obtain⟨o',l,h,f,j⟩:=i;rw[ho]at f;cases f;exact⟨_,l,h,d,j⟩) q hg
theorem AU.turned{t':Nat}(I:AU X AN σ H s)(k:∀b o,b≠it->s.heap.get? b=U o->h'.get? b=U o)(h:H it=Z)(f:it≠X.env.locals)(h1:it∈X.ex\/X.s₀.heap.objs.size<=it)(h2:∀x c,X.env.cells.lookup x=U c->c≠it)(i:∀p∈X.pn++AN,p.1≠it):AU X AN σ H { s with heap:=h',toks:=t' }:=by
 have d:∀b u,H b=U u->b≠it:=λb u e z=>by rw[z,h]at e;cases e
 refine I.step (g':=s.gens) (d':=s.drawn) (ch:=[it]) (λb hb=>?_) (λb o _ _ a e _=>k b o (λz=>a (by simp[z])) e) (λb o _ _ a e _=>⟨o.slots,k b o (λz=>a (by simp[z])) e⟩) (λ_ _ _ _ n=>n)
  (λb o a e=>⟨o,k b o (λz=>a (by simp[z])) e⟩) (λ_ _ e=>e) (λ_ _ _ e=>e) (λb ps e=>⟨#[],by rw[e];simp⟩) (λm g=>?_) (λb u e=>?_) I.bare
 ·have e:b=it:=by simpa using hb
  subst e;exact⟨h1,f,h2,i⟩
 ·obtain⟨o,es,ep,ho,r⟩:=g;exact⟨o,es,ep,k _ o (y8 f) ho,r⟩
 ·refine(I.hok b u e).stay (λc v a q=>k c v ?_ q) (λ_ q=>q) λ_ _ q=>q;rcases a with z|z
  ·rw[z];exact d b u e
  ·exact d c _ z
theorem AU.tok(I:AU X AN σ H s)(t:Nat):AU X AN σ H { s with toks:=t }:=I.un (h':=s.heap) (t':=t) Un.refl I.hok
theorem AU.kept{t':Nat}(I:AU X AN σ H s)(k:∀b u,s.heap.get? b=U u->h'.get? b=U u):AU X AN σ H { s with heap:=h',toks:=t' }:=I.un (Un.kept k) (I.hok.kept k)
theorem AU.laid{a:A1}{o:HO}{t':Nat}(I:AU X AN σ H s)(k:∀b u,s.heap.get? b=U u->h'.get? b=U u)(hp:s.heap.objs.size<=a)(new:ju X.prog X.w (B6 H a o) h' a o):
  AU X AN σ (B6 H a o) { s with heap:=h',toks:=t' }:=I.un (Un.laid k hp (I.hok.fresh hp)) (I.hok.laid k hp new)
theorem AU.write{x e:A1}{o:HO}{t':Nat}(I:AU X AN σ H s)(a:Fm (H x))(he:e=x\/H e=U (.own x))(k:∀b u,b≠e->s.heap.get? b=U u->h'.get? b=U u)(c:∃u,h'.get? e=U u)
  (new:ju X.prog X.w (B6 H x o) h' x o):AU X AN σ (B6 H x o) { s with heap:=h',toks:=t' }:=I.un (Un.write a he k c) (I.hok.write a he k c new)
theorem AU.Qi{a:O (A1×AE)}(I:AU X AN σ H s)(h:∀p∈a,s.heap.get? p.1=U p.2/\H p.1=Z/\p.1≠X.env.locals/\p.1∉X.fs/\∀v,p.2.data≠.cell v):AU X a σ H s:=
 ⟨I.ok,I.os,I.bare,I.base,I.loc,I.cell,I.free,I.uw,λp hp=>(List.mem_append.mp hp).elim (λz=>I.pin p (zv _ z)) (h p),I.hok,I.len⟩
theorem SM(c:N.Nodup)(a:N[i]?=U x)(b:N[j]?=U x):i=j:=by
 obtain⟨h1,e1⟩:=bv.mp a;obtain⟨h2,e2⟩:=bv.mp b;exact(List.getElem_inj c).mp (e1.trans e2.symm)
theorem l0{v:V}{Q:Unit->A2->Prop}(I:AU X AN σ H s)(hN:X.N.Nodup)(hi:X.N[i]?=U x)(hx:DV X.env.scope x)(r:At v u)(h:∀s',AU X AN (σ.set i (U v)) H s'->(∃a,Heap.SameBut a s.heap s'.heap/\(a=X.env.locals\/X.env.cells.lookup x=U a))->Q sn s')(hf:X.fn x=true\/X.env.scope.names.lookup x=U .local:=by first|exact .inl rfl|exact .inr rfl|assumption):A7 M A (storeName X.env x u) Q E s:=by
 obtain⟨m,G,hl⟩:=id I.loc;have b3:(X.env.scope.kind==.class||(X.env.scope.kind==.module&&X.env.locals !=X.env.globals))=false:=by rw[I.ok.kind];rfl
 have a1:i<σ.length:=by rw[I.len];exact(bv.mp hi).1
 have cne:=I.cne;have a2:∀{a:A1} {h':A6},(∃o,s.heap.get? a=U o/\H a=Z)->Heap.SameBut a s.heap h'->CV X.prog X.w H h':=λ{a h'} ha hs b ob e=>by
  obtain⟨_,_,P⟩:=ha;refine(I.hok b ob e).stay (λc B f q=>(hs.2 c ?_).trans q) (λ_ q=>q) λ_ _ q=>q;rintro rfl;rcases f with rfl|f
  ·rw[P]at e;cases e
  ·rw[P]at f;cases f
 rcases hx with g|g
 ·refine wpAny_storeName_local g G (λh' a5 hs=>?_) b3;obtain⟨oL,_,_,a3,_⟩:=id G;refine h _ ⟨I.ok,I.os,I.bare,⟨λb o e n hb hx=>?_,λb o e n hb hx=>?_,I.base.free,λb o e hx=>?_,I.base.tups,I.base.Ih,I.base.Mv⟩,⟨_,a5,λj y C e1 e2 e3=>?_⟩,λy c e=>?_,I.free,I.uw,λp hp=>?_,a2 ⟨oL,a3,I.free⟩ hs,by simpa using I.len⟩ ⟨_,hs,.inl rfl⟩
  ·exact(hs.2 b (zI (Z3 (zD e) I.ok.above))).trans (I.base.keep b o e n hb hx)
  ·obtain⟨sl,e1⟩:=I.base.slot b o e n hb hx;exact⟨sl,(hs.2 b (zI (Z3 (zD e) I.ok.above))).trans e1⟩
  ·obtain⟨o',e1⟩:=I.base.there b o e hx;exact⟨o',(hs.2 b (zI (Z3 (zD e) I.ok.above))).trans e1⟩
  ·by_cases l:j=i
   ·subst l;rw[hi]at e1;cases e1;rw[k0 a1]at e2;cases e2;exact⟨u,r,.inl ⟨g,by simp⟩⟩
   ·rw[ms (y8 l)]at e2;obtain⟨D,K,q⟩:=hl j y C e1 e2 e3;refine⟨D,K,?_⟩;rcases q with⟨k,e⟩|⟨k,c,e,z⟩
    ·refine .inl ⟨k,?_⟩;have:y≠x:=λe=>l (SM hN e1 (e▸hi));simp[this,e]
    ·exact .inr ⟨k,c,e,z.sameBut hs (cne y c e)⟩
  ·obtain⟨B,z⟩:=I.cell y c e;exact⟨B,z.sameBut hs (cne y c e)⟩
  ·obtain⟨e,n,ne,J,d⟩:=I.pin p hp;exact⟨(hs.2 p.1 ne).trans e,n,ne,J,d⟩
 ·have F:X.fn x=true:=by
   rcases hf with z|z
   ·exact z
   ·rw[z]at g;cases g
  obtain⟨c,f⟩:=I.ok.has x (.inl g);obtain⟨B,z⟩:=I.cell x c f;refine wpAny_storeName_cell I.ok.kind g f z (λh' L hs=>?_);obtain⟨oc,W,b0⟩:=id z;refine h { s with heap:=h' } ⟨I.ok,I.os,I.bare,⟨λb o e n hb hx=>?_,λb o e n hb hx=>?_,I.base.free,λb o e hx=>?_,I.base.tups,I.base.Ih,I.base.Mv⟩,⟨m,G.sameBut hs (y8 (cne x c f)),λj y C e1 e2 e3=>?_⟩,λy t e=>?_,I.free,I.uw,λp hp=>?_,a2 ⟨oc,W,I.uw x c f⟩ hs,by simpa using I.len⟩ ⟨c,hs,.inr f⟩
  ·exact(hs.2 b (zI (Z3 (zD e) (I.ok.cab x c F f)))).trans (I.base.keep b o e n hb hx)
  ·obtain⟨sl,e1⟩:=I.base.slot b o e n hb hx;exact⟨sl,(hs.2 b (zI (Z3 (zD e) (I.ok.cab x c F f)))).trans e1⟩
  ·obtain⟨o',e1⟩:=I.base.there b o e hx;exact⟨o',(hs.2 b (zI (Z3 (zD e) (I.ok.cab x c F f)))).trans e1⟩
  ·by_cases l:j=i
   ·subst l;rw[hi]at e1;cases e1;rw[k0 a1]at e2;cases e2;exact⟨u,r,.inr ⟨.inl g,c,f,L⟩⟩
   ·rw[ms (y8 l)]at e2;obtain⟨D,K,q⟩:=hl j y C e1 e2 e3;refine⟨D,K,?_⟩;rcases q with q|⟨k,t,e,z'⟩
    ·exact .inl q
    ·refine .inr ⟨k,t,e,z'.sameBut hs ?_⟩;rintro rfl;exact l (SM hN e1 (I.ok.inj _ _ _ e f▸hi))
  ·by_cases a0:t=c
   ·subst a0;exact⟨_,L⟩
   ·obtain⟨w2,z2⟩:=I.cell y t e;exact⟨w2,z2.sameBut hs a0⟩
  ·obtain⟨e,n,ne,J,d⟩:=I.pin p hp;refine⟨(hs.2 p.1 ?_).trans e,n,ne,J,d⟩;intro q;rw[q,W]at e;have q':oc=p.2:=j3 e;exact d B (by rw[<-q'];exact b0)
theorem CZ{v:V}{Q:Unit->A2->Prop}(I:AU X AN σ H s)(c:X.N.Nodup)(hi:X.N[i]?=U x)(hx:DV X.env.scope x)(r:At v u)(h:∀s',AU X AN (σ.set i (U v)) H s'->Q sn s')(b:X.fn x=true\/X.env.scope.names.lookup x=U .local:=by first|exact .inl rfl|exact .inr rfl|assumption):A7 M A (storeName X.env x u) Q E s:=
 l0 I c hi hx r (λs' a _=>h s' a) b
theorem AU.call'{s':A2}{ch:O A1}(I:AU X AN σ H s)(ho:s'.os=s.os)(u:Un (DB X.stack) ch H H' s.heap s'.heap)(d:CV X.prog X.w H' s'.heap)(hg:AllBare s'.gens)
  (a:∀b∈ch,(b∈X.ex\/X.s₀.heap.objs.size<=b)/\b≠X.env.locals/\(∀x c,X.env.cells.lookup x=U c->c≠b)/\∀p∈X.pn++AN,p.1≠b):AU X AN σ H' s':=by
 obtain⟨h',g',d',t',o'⟩:=s';have e:o'=s.os:=ho;subst e;exact I.call (g':=g') (t':=t') (d':=d') u d hg a
end
abbrev XK:=A0->Y A1->Hp->Prop
abbrev St:=O (Y V)
abbrev VK:=V->Hp->Prop
abbrev TE:=St->Hp->VK->Prop
abbrev TT:=St->Hp->(Bool->Hp->Prop)->Prop
abbrev TA:=St->Hp->(O V->Hp->Prop)->Prop
structure C8 where
 nx:St->Hp->Prop
 rt:VK
 bk:St->Hp->Prop:=λ_ _=>False
 ct:St->Hp->Prop:=λ_ _=>False
abbrev TS:=C8->St->Hp->Prop
def EP(X:Cx)(AN:O (A1×AE))(σ:St)(Q:VK)(u:A0)(s':A2):Prop:=∃v H',AU X AN σ H' s'/\At v u/\Q v H'
def TP(X:Cx)(AN:O (A1×AE))(σ:St)(Q:Bool->Hp->Prop)(b:Bool)(s':A2):Prop:=∃H',AU X AN σ H' s'/\Q b H'
def AP(X:Cx)(AN:O (A1×AE))(σ:St)(Q:O V->Hp->Prop)(us:O A0)(s':A2):Prop:=∃vs H',AU X AN σ H' s'/\AX vs us/\Q vs H'
def SP(X:Cx)(AN:O (A1×AE))(D:C8)(f:Flow)(s':A2):Prop:=
 match f with
 |.next=>∃ σ' H',AU X AN σ' H' s'/\D.nx σ' H'
 |.brk=>∃ σ' H',AU X AN σ' H' s'/\D.bk σ' H'
 |.cont=>∃ σ' H',AU X AN σ' H' s'/\D.ct σ' H'
 |.ret u=>∃v σ' H',AU X AN σ' H' s'/\At v u/\D.rt v H'
def PE(X:Cx)(e:Expr)(t:TE):Prop:=
 ∀(AN:O (A1×AE)) (s:A2) (σ:St) (H:Hp) (Q:VK),AU X AN σ H s->t σ H Q->A7 (sg X) X.A (eval e X.env) (EP X AN σ Q) X.xe s
def PT(X:Cx)(e:Expr)(t:TT):Prop:=
 ∀(AN:O (A1×AE)) (s:A2) (σ:St) (H:Hp) (Q:Bool->Hp->Prop),AU X AN σ H s->t σ H Q->A7 (sg X) X.A (isTrue e X.env (eval e X.env)) (TP X AN σ Q) X.xe s
def PW(X:Cx)(e:Expr)(t:TT):Prop:=
 ∀(a:Sem A0) (AN:O (A1×AE)) (s:A2) (σ:St) (H:Hp) (Q:Bool->Hp->Prop),AU X AN σ H s->t σ H Q->A7 (sg X) X.A (isTrue e X.env a) (TP X AN σ Q) X.xe s
theorem PW.pt{X:Cx}{t:TT}(h:PW X e t):PT X e t:=h _
def PA(X:Cx)(es:O Expr)(t:TA):Prop:=
 ∀(pos:Pos) (AN:O (A1×AE)) (s:A2) (σ:St) (H:Hp) (Q:O V->Hp->Prop),AU X AN σ H s->t σ H Q->A7 (sg X) X.A (spliced (AD pos (A9 es X.env))) (AP X AN σ Q) X.xe s
def PS(X:Cx)(st:AB)(t:TS):Prop:=
 ∀(AN:O (A1×AE)) (s:A2) (σ:St) (H:Hp) (D:C8),AU X AN σ H s->t D σ H->A7 (sg X) X.A (exec st X.env) (SP X AN D) X.xe s
def Wo(X:Cx)(st:O AB)(t:TS):Prop:=
 ∀(AN:O (A1×AE)) (s:A2) (σ:St) (H:Hp) (D:C8),AU X AN σ H s->t D σ H->A7 (sg X) X.A (execs st X.env) (SP X AN D) X.xe s
theorem jw{t:Sem α}{Q b:α->A2->Prop}(h:A7 M A t Q E s)(c:∀a s,Q a s->b a s):A7 M A t b E s:=QR h c λ_ _ x=>x
end L2
namespace L2
section
variable{X:Cx}
def Pp(i:Nat):TE:=λσ H Q=>∃v,σ[i]?=U (U v)/\Q v H
def tC(v:V):TE:=λ_ H Q=>Q v H
theorem yU(j:X.N[i]?=U x)(q:D4 X.env.scope x)(d:sa x:=by decide)(o:(x==("__classdict__":AJ))=false:=by decide):PE X (.Name x pos) (Pp i):=by
 intro AN s σ H Q I h;obtain⟨v,e,h⟩:=h;obtain⟨m,t,p⟩:=I.loc;obtain⟨u,r,l⟩:=p i x v j e q;have b:EP X AN σ Q u s:=⟨v,H,I,r,h⟩;rcases l with⟨a,n⟩|⟨a,c,f,g⟩
 ·exact wpAny_Name (wpAny_loadName_local I.ok.kind a t n b) d
 ·rcases a with a|a
  ·exact wpAny_Name (wpAny_loadName_cell I.ok.kind a f g b) d
  ·exact wpAny_Name (wpAny_loadName_free I.ok.kind a f g b o) d
theorem sM{i j pos}:PE X (.Constant (.int i) j pos) (tC (.int i)):=λ_ _ _ H _ I h=>wpAny_Constant_int ⟨.int i,H,I.tok _,⟨_,rfl⟩,h⟩
theorem mB{b j pos}:PE X (.Constant (.bool b) j pos) (tC (.bl b)):=λ_ _ _ H _ I h=>Constant_bool ⟨.bl b,H,I,rfl,h⟩
theorem ny{j pos}:PE X (.Constant .none j pos) (tC .non):=λ_ _ _ H _ I h=>Constant_none ⟨.non,H,I,rfl,h⟩
theorem rn{x j pos}:PE X (.Constant (.str x) j pos) (tC (.str x)):=λ_ _ _ H _ I h=>Calls.Constant_str ⟨.str x,H,I.tok _,⟨_,rfl⟩,h⟩
def Gl(X:Cx)(x:AJ):Prop:=X.env.kindOf x=U .globalImplicit
theorem YG{σ:St}{H:Hp}{Q:B7}(I:AU X AN σ H s)(hg:Gl X x)(a:X.mg x=U u)(h:Q u s)(b:sa x:=by decide):A7 (sg X) X.A (eval (.Name x pos) X.env) Q E s:=
 Calls.Name_function_global I.ok.kind hg (Calls.loadGlobal_global (by rw[I.ok.glob];exact I.mod.glob.keeps I.bk) a h) b
theorem Qj{σ:St}{H:Hp}{Q:B7}(I:AU X AN σ H s)(hg:Gl X x)(a:X.mg x=Z)(c:AH x=U u)(h:Q u s)(d:x ≠ "__name__":=by decide)(b:sa x:=by decide):A7 (sg X) X.A (eval (.Name x pos) X.env) Q E s:=by
 obtain⟨e,h1,h2⟩:=I.mod.blt;exact Calls.Name_function_global I.ok.kind hg (Calls.loadGlobal_builtin (by rw[I.ok.glob];exact I.mod.glob.keeps I.bk) a (by rw[I.ok.blt];exact h1.keeps I.bk) ((h2 x d).trans c) h) b
theorem YH{v:V}(hg:Gl X x)(a:X.mg x=U u)(r:At v u)(b:sa x:=by decide):PE X (.Name x pos) (tC v):=
 λ_ _ _ H _ I h=>YG I hg a ⟨v,H,I,r,h⟩ b
theorem Ji{v:V}(hg:Gl X x)(a:X.mg x=Z)(c:AH x=U u)(r:At v u)(d:x ≠ "__name__":=by decide)(b:sa x:=by decide):PE X (.Name x pos) (tC v):=
 λ_ _ _ H _ I h=>Qj I hg a c ⟨v,H,I,r,h⟩ d b
variable{a b:Expr}{ta tb:TE}
variable{tA tB':TT}{AS:O Expr}
def SC(t u:TT):TT:=λσ H Q=>t σ H λc H1=>if c=true then u σ H1 Q else Q false H1
def S3(t u:TT):TT:=λσ H Q=>t σ H λc H1=>if c=true then Q true H1 else u σ H1 Q
def gf(t:TT):TT:=λσ H Q=>t σ H λc H1=>Q (!c) H1
theorem Se(ha:PT X a tA):PW X (.BoolOp .And [a] pos) tA:=by
 intro wh AN s σ H Q I h;refine isTrue_and (jw (ha AN s σ H Q I h) λc b e=>?_);cases c with
 |true=>exact isTrue_and_nil e
 |false=>exact e
theorem lv(ha:PT X a tA):PW X (.BoolOp .Or [a] pos) tA:=by
 intro wh AN s σ H Q I h;refine isTrue_or (jw (ha AN s σ H Q I h) λc b e=>?_);cases c with
 |false=>exact isTrue_or_nil e
 |true=>exact e
theorem ox(ha:PT X a tA)(hb:PW X (.BoolOp .And (b::AS) pos) tB'):PW X (.BoolOp .And (a::b::AS) pos) (SC tA tB'):=by
 intro wh AN s σ H Q I h;refine isTrue_and (jw (ha AN s σ H _ I h) λc s1 ⟨H1,I1,q1⟩=>?_);cases c with
 |true=>exact hb wh AN s1 σ H1 Q I1 q1
 |false=>exact⟨H1,I1,q1⟩
theorem Xs(ha:PT X a tA)(hb:PW X (.BoolOp .Or (b::AS) pos) tB'):PW X (.BoolOp .Or (a::b::AS) pos) (S3 tA tB'):=by
 intro wh AN s σ H Q I h;refine isTrue_or (jw (ha AN s σ H _ I h) λc s1 ⟨H1,I1,q1⟩=>?_);cases c with
 |true=>exact⟨H1,I1,q1⟩
 |false=>exact hb wh AN s1 σ H1 Q I1 q1
theorem ax(ha:PT X a tA):PT X (.UnaryOp .Not a pos) (gf tA):=by
 intro AN s σ H Q I h;exact isTrue_not (ha AN s σ H (λc H1=>Q (!c) H1) I h)
def hV(ta tb:TE):TE:=λσ H Q=>ta σ H λx H1=>∃c,x=.bl c/\if c=true then tb σ H1 Q else Q (.bl false) H1
def nh(ta:TE):TE:=λσ H Q=>ta σ H λx H1=>∃c,x=.bl c/\Q (.bl (!c)) H1
theorem gp{op}{t:TE}(h:PE X a t):PE X (.BoolOp op [a] pos) t:=λAN s σ H Q I b=>BoolOp_one (h AN s σ H Q I b)
theorem lj(ha:PE X a ta)(hb:PE X (.BoolOp .And (b::AS) pos) tb):PE X (.BoolOp .And (a::b::AS) pos) (hV ta tb):=by
 intro AN s σ H Q I h;refine BoolOp_and (jw (ha AN s σ H _ I h) λv s1 ⟨x,H1,I1,r1,q1⟩=>?_);obtain⟨c,rfl,q1⟩:=q1;cases r1;refine jI ?_;cases c with
 |true=>exact hb AN s1 σ H1 Q I1 q1
 |false=>exact⟨.bl false,H1,I1,rfl,q1⟩
theorem g9(ha:PE X a ta):PE X (.UnaryOp .Not a pos) (nh ta):=by
 intro AN s σ H Q I h;refine UnaryOp_ (jw (ha AN s σ H _ I h) λv s1 ⟨x,H1,I1,r1,q1⟩=>?_);obtain⟨c,rfl,q1⟩:=q1;cases r1;exact not_of (jI ⟨.bl (!c),H1,I1,rfl,q1⟩)
end
end L2
namespace L2
def yS(K:B1)(H:Hp)(a:A1)(xs:O V):Prop:=
 Rd H a (.lst xs) ∨
  ∃(o:AE) (AQ:Array A0) (n:Nat),K.lookup a=U o/\o.cls=.type "list" ∧ o.dict=Z/\o.data=.seq AQ n/\AQ.size<=AA/\AX xs AQ.toList
def BR(K:B1)(H:Hp)(a:A1)(xs:O V):Prop:=
 Rd H a (.tup xs) ∨
  ∃(o:AE) (AQ:Array A0) (n:Nat),K.lookup a=U o/\(o.cls=.type "tuple" ∧ o.dict=Z)/\o.data=.seq AQ n/\AQ.size<=AA/\AX xs AQ.toList
def MY:A0->Y V
 |.none=>U .non
 |.bool b=>U (.bl b)
 |.int i _=>U (.int i)
 |.str x _=>U (.str x)
 |.bytes b _=>U (.byt b)
 |.float b _=>U (.flt b)
 |.ref a=>U (.ref a)
 |.type n=>U (.ty n)
 |_=>Z
theorem At.abs{x:V}(r:At x u):MY u=U x:=by
 cases x with
 |non=>cases r;rfl
 |bl _=>cases r;rfl
 |int _=>obtain⟨t,rfl⟩:=r;rfl
 |str _=>obtain⟨t,rfl⟩:=r;rfl
 |byt _=>obtain⟨t,rfl⟩:=r;rfl
 |flt _=>obtain⟨t,rfl⟩:=r;rfl
 |ref _=>cases r;rfl
 |ty _=>cases r;rfl
theorem At.inj{x y:V}{u:A0}(r:At x u)(q:At y u):x=y:=j3 (r.abs.symm.trans q.abs)
theorem AX.inj:∀{xs ys:O V} {us:O A0},AX xs us->AX ys us->xs=ys
 |_,_,_,.nil,.nil=>rfl
 |_,_,_,.cons r t,.cons r' t'=>by rw[r.inj r',AX.inj t t']
section
variable{X:Cx}{σ:St}{H:Hp}{xs ys:O V}
theorem AU.list(I:AU X AN σ H s)(h:yS X.K H a xs):∃AQ:O A0,AX xs AQ/\PlainL s.heap a AQ.toArray/\xs.length<=AA:=by
 rcases h with h|⟨o,AQ,n,c,b,d,hs,f,r⟩
 ·obtain⟨z,AQ,n,r,e⟩:=h.ok I.hok;exact⟨AQ,r,⟨_,n,e,rfl,rfl,rfl⟩,z⟩
 ·refine⟨AQ.toList,r,⟨o,n,I.kIn a o c,b,d,by simpa using hs⟩,?_⟩;have e:=r.length;simp only[ZU]at e;omega
theorem AU.tuple(I:AU X AN σ H s)(h:BR X.K H a xs):∃AQ:O A0,AX xs AQ/\IsTup s.heap a AQ.toArray/\xs.length<=AA:=by
 rcases h with h|⟨o,AQ,n,c,b,hs,d,r⟩
 ·obtain⟨z,AQ,r,p⟩:=h.ok I.hok;exact⟨AQ,r,p.weak,z⟩
 ·refine⟨AQ.toList,r,⟨o,I.kIn a o c,b.1,n,by simpa using hs⟩,?_⟩;have e:=r.length;simp only[ZU]at e;omega
theorem AU.SN(I:AU X AN σ H s)(h:yS X.K H a xs)(h':yS X.K H a ys):xs=ys:=by
 obtain⟨AQ,r,⟨o,n,e,_,_,d⟩,_⟩:=I.list h;obtain⟨g,f,⟨o',i,e',_,_,b⟩,_⟩:=I.list h';rw[e]at e';cases e';rw[d]at b;injection b with c _;have:AQ=g:=by simpa using congrArg nD c
 subst this;exact r.inj f
theorem AU.N8(I:AU X AN σ H s)(h:BR X.K H a xs)(h':BR X.K H a ys):xs=ys:=by
 obtain⟨AQ,r,⟨o,e,_,n,d⟩,_⟩:=I.tuple h;obtain⟨g,f,⟨o',e',_,i,b⟩,_⟩:=I.tuple h';rw[e]at e';cases e';rw[d]at b;injection b with c _;have:AQ=g:=by simpa using congrArg nD c
 subst this;exact r.inj f
end
abbrev Cx.wish(X:Cx)(E:B7):Cx:={ X with xe:=E }
abbrev Cx.nox(X:Cx):Cx:=X.wish λ_ _=>False
theorem Cx.Ok.wish{X:Cx}(ok:X.Ok)(E:B7):(X.wish E).Ok:=
 ⟨ok.mod,ok.kind,ok.glob,ok.blt,ok.above,ok.inj,ok.has,ok.cab,ok.hd,ok.frames,ok.stk,ok.exf,ok.bs,ok.bsz,ok.ab3,ok.afB,ok.JF,ok.frf⟩
theorem Cx.Ok.yV{X:Cx}(ok:(X.wish E).Ok):X.Ok:=
 ⟨ok.mod,ok.kind,ok.glob,ok.blt,ok.above,ok.inj,ok.has,ok.cab,ok.hd,ok.frames,ok.stk,ok.exf,ok.bs,ok.bsz,ok.ab3,ok.afB,ok.JF,ok.frf⟩
section
variable{X:Cx}{σ:St}{H:Hp}
theorem AU.wish(I:AU X AN σ H s)(E:B7):AU (X.wish E) AN σ H s:=⟨I.ok.wish E,I.os,I.bare,I.base,I.loc,I.cell,I.free,I.uw,I.pin,I.hok,I.len⟩
theorem AU.yV(I:AU (X.wish E) AN σ H s):AU X AN σ H s:=⟨I.ok.yV,I.os,I.bare,I.base,I.loc,I.cell,I.free,I.uw,I.pin,I.hok,I.len⟩
theorem SP.yV{D:C8}{f:Flow}{s':A2}(h:SP (X.wish E) AN D f s'):SP X AN D f s':=by
 cases f with
 |next=>obtain⟨σ',H',I,q⟩:=h;exact⟨σ',H',I.yV,q⟩
 |brk=>obtain⟨σ',H',I,q⟩:=h;exact⟨σ',H',I.yV,q⟩
 |cont=>obtain⟨σ',H',I,q⟩:=h;exact⟨σ',H',I.yV,q⟩
 |ret u=>obtain⟨v,σ',H',I,r,q⟩:=h;exact⟨v,σ',H',I.yV,r,q⟩
theorem Wo.nox{st:O AB}{t:TS}(h:Wo X.nox st t):Wo X st t:=λAN s σ H D I a=>
 QR (h AN s σ H D (I.wish _) a) (λ_ _ q=>q.yV) λ_ _ z=>False.elim z
end
section
variable{X:Cx}{st:AB}{AS:O AB}{t u:TS}{te:TE}
def ij:TS:=λD σ H=>D.nx σ H
def cy(t u:TS):TS:=λD σ H=>t { D with nx:=u D } σ H
theorem sB:Wo X [] ij:=λ_ _ σ H _ I h=>wpAny_execs_nil ⟨σ,H,I,h⟩
theorem VS(h1:PS X st t)(h2:Wo X AS u):Wo X (st::AS) (cy t u):=by
 intro AN s σ H D I h;refine wpAny_execs_cons (jw (h1 AN s σ H { D with nx:=u D } I h) λf b q=>?_);cases f with
 |next=>
  obtain⟨σ',H',a,q⟩:=q;exact h2 AN b σ' H' D a q
 |ret v=>exact q
 |brk=>exact q
 |cont=>exact q
theorem AU.quiet{σ:St}{H:Hp}(I:AU X AN σ H s):interactive X.env=false:=by simp[interactive,I.ok.kind]
def sv(te:TE):TS:=λD σ H=>te σ H λ_ H1=>D.nx σ H1
theorem Qk(he:PE X e te)(hs:swapsWith e Z pos.line X.env=pure false:=by rfl):PS X (.Expr e pos) (sv te):=by
 intro AN s σ H D I h;exact wpAny_Expr_any (jw (he AN s σ H _ I h) λv s1 ⟨x,H1,I1,r1,q1⟩=>⟨σ,H1,I1,q1⟩) I.quiet hs
def WO(te:TE):TS:=λD σ H=>te σ H D.rt
theorem S4(he:PE X e te):PS X (.Return (U e) pos) (WO te):=by
 intro AN s σ H D I h;exact wpAny_Return_some (jw (he AN s σ H _ I h) λv s1 ⟨x,H1,I1,r1,q1⟩=>⟨x,σ,H1,I1,r1,q1⟩)
def ac(c:TT)(t u:TS):TS:=λD σ H=>c σ H λb H1=>if b=true then t D σ H1 else u D σ H1
theorem cv{a b:O AB}{tc:TT}(e:PT X c tc)(ha:Wo X a t)(hb:Wo X b u):PS X (.If c a b pos) (ac tc t u):=by
 intro AN s σ H D I h;refine wpAny_If (jw (e AN s σ H _ I h) λd s1 ⟨H1,I1,q1⟩=>?_);cases d with
 |true=>exact ha AN s1 σ H1 D I1 q1
 |false=>exact hb AN s1 σ H1 D I1 q1
end
abbrev TG:=V->St->Hp->(St->Hp->Prop)->Prop
abbrev EF:=O V->St->Hp->(St->Hp->Prop)->Prop
def PG(X:Cx)(a:Expr)(t:TG):Prop:=
 ∀(AN:O (A1×AE)) (s:A2) (σ:St) (H:Hp) (v:V) (u:A0) (Q:St->Hp->Prop),AU X AN σ H s->At v u->t v σ H Q →
  A7 (sg X) X.A (assign a X.env u) (λ_ s'=>∃ σ' H',AU X AN σ' H' s'/\Q σ' H') X.xe s
def D3(X:Cx)(ts:O Expr)(t:EF):Prop:=
 ∀(AN:O (A1×AE)) (s:A2) (σ:St) (H:Hp) (vs:O V) (us:O A0) (Q:St->Hp->Prop),AU X AN σ H s->AX vs us->t vs σ H Q →
  A7 (sg X) X.A (assignInOrder ((assignEach ts X.env).map (·.2)) us) (λ_ s'=>∃ σ' H',AU X AN σ' H' s'/\Q σ' H') X.xe s
section
variable{X:Cx}
def P3(i:Nat):TG:=λv σ H Q=>Q (σ.set i (U v)) H
theorem YJ(c:X.N.Nodup)(hi:X.N[i]?=U x)(hx:DV X.env.scope x)(b:X.fn x=true\/X.env.scope.names.lookup x=U .local:=by first|exact .inl rfl|exact .inr rfl|assumption):PG X (.Name x pos) (P3 i):=by
 intro AN s σ H v u Q I r h;exact wpAny_assign_Name (CZ I c hi hx r (λs' a=>⟨_,H,a,h⟩) b)
def rX:EF:=λvs σ H Q=>vs=[]/\Q σ H
def ly(t:TG)(u:EF):EF:=λvs σ H Q=>∃v r,vs=v::r/\t v σ H λσ' H'=>u r σ' H' Q
theorem UK:D3 X [] rX:=by
 intro AN s σ H vs us Q I r h;obtain⟨e,h⟩:=h;subst e;cases r;exact assignInOrder_nil ⟨σ,H,I,h⟩
theorem nr{t:TG}{u:EF}(h1:PG X e t)(h2:D3 X es u)(hs:(assignEach (e::es) X.env).map (·.2)=assign e X.env::(assignEach es X.env).map (·.2):=by rfl):D3 X (e::es) (ly t u):=by
 intro AN s σ H vs us Q I r h;obtain⟨v,b,e1,h⟩:=h;subst e1;cases r with
 |cons r a=>
  rw[hs];refine assignInOrder_cons (jw (h1 AN s σ H _ _ _ I r h) λ_ s1 ⟨σ1,H1,I1,q1⟩=>?_);exact h2 AN s1 σ1 H1 _ _ Q I1 a q1
def ua(K:B1)(n:Nat)(t:EF):TG:=λv σ H Q=>∃a xs,v=.ref a/\BR K H a xs/\xs.length=n/\t xs σ H Q
theorem i6{k:Nat}{t:EF}(j:X.calm=true)(h:D3 X es t)(m:(assignEach es X.env).length=n:=by rfl)(f:(assignEach es X.env).findIdx? (·.1)=Z:=by rfl):PG X (.Tuple es k pos) (ua X.K n t):=by
 intro AN s σ H v u Q I r c;obtain⟨a,xs,e1,g,l,c⟩:=c;subst e1;cases r;obtain⟨AQ,d,i,q⟩:=I.tuple g;refine assign_Tuple_tuple (I.ok.hd j) i (by simp[m,<-l,d.length]) f λh' hx=>?_;have p:AU X AN σ H { s with heap:=h' }:=I.kept (t':=s.toks) λb o e=>hx b o (zI (zD e)) e;exact h AN _ σ H xs _ Q p (by simpa using d) c
def NO(te:TE)(g:TG):TS:=λD σ H=>te σ H λx H1=>g x σ H1 D.nx
theorem tJ{te:TE}{g:TG}(he:PE X e te)(hg:PG X tg g)(hs:swapsWithSole [tg] e pos.line X.env=pure false:=by rfl)(a:swappedStores [tg] e X.env=pure Z:=by rfl)(h1:(assignEach [tg] X.env).map (·.2)=[assign tg X.env]:=by rfl):PS X (.Assign [tg] e pos) (NO te g):=by
 intro AN s σ H D I h;refine wpAny_Assign_stores (jw (he AN s σ H _ I h) λv s1 ⟨x,H1,I1,r1,q1⟩=>?_) hs a;rw[h1];exact jw (hg AN s1 σ H1 x v _ I1 r1 q1) λ_ b q=>q
theorem RU{te:TE}{pos':Pos}(c:X.N.Nodup)(hi:X.N[i]?=U x)(hx:DV X.env.scope x)(he:PE X e te)(hs:swapsWith e (U (.Name x pos')) pos.line X.env=pure false:=by rfl)(a:X.fn x=true\/X.env.scope.names.lookup x=U .local:=by first|exact .inl rfl|exact .inr rfl|assumption):
  PS X (.Assign [.Name x pos'] e pos) (NO te (P3 i)):=by
 intro AN s σ H D I h;refine wpAny_Assign_Name (jw (he AN s σ H _ I h) λv s1 ⟨y,H1,I1,r1,q1⟩=>?_) hs;exact CZ I1 c hi hx r1 (λd b=>⟨_,H1,b,q1⟩) a
def TL(i j:Nat)(ta:TA):TS:=λD σ H=>ta σ H λvs H1=>∃v w,vs=[v,w]/\D.nx ((σ.set i (U v)).set j (U w)) H1
theorem ti{a b:Expr}{ta:TA}{px py pt:Pos}{kt k2 pt2}(z:X.calm=true)(g:X.N.Nodup)(hi:X.N[i]?=U x)(m:X.N[j]?=U y)(B:i≠j)(hx:X.env.scope.names.lookup x=U .local)(l:X.env.scope.names.lookup y=U .local)(ha:PA X [a,b] ta)(F:swappedStores [.Tuple [.Name x px,.Name y py] kt pt] (.Tuple [a,b] k2 pt2) X.env=pure (U [x,y]))(hs:swapsWithSole [.Tuple [.Name x px,.Name y py] kt pt] (.Tuple [a,b] k2 pt2) pos.line X.env=pure false:=by rfl):
  PS X (.Assign [.Tuple [.Name x px,.Name y py] kt pt] (.Tuple [a,b] k2 pt2) pos) (TL i j ta):=by
 intro AN s σ H D I h;rw[exec_Assign_arm];refine zb (YA ?_);rw[hs];refine zb (zd ?_);rw[zz ()];refine zb (Tuple_ (jw (ha _ AN s σ H _ I h) λus s1 ⟨vs,H1,I1,r1,q1⟩=>?_));obtain⟨v,w,e1,q1⟩:=q1;subst e1;obtain⟨d,c,rfl,u,G⟩:∃d c,us=[d,c]/\At v d/\At w c:=by
  cases r1 with
  |cons p q=>
   cases q with
   |cons p' n=>
    cases n;exact⟨_,_,rfl,p,p'⟩
 refine ZZ ?_ (by show 2<=AA;decide);have E:AU X AN σ H1 { s1 with heap:=s1.heap.push { cls:=.type "tuple",data:=.seq [d,c].toArray } }:=I1.kept (t':=s1.toks) λb o e=>ze _ e;rw[F];refine zb (zd ?_);show A7 (sg X) X.A (do rule "assign.swapped-stores"; let items <-unpackItems (.ref s1.heap.objs.size) 2 Z;assignInOrder [λv=>bindName X.env y v,λv=>bindName X.env x v] items.reverse;pure Flow.next) _ _ _;refine zb (km (zb (unpackItems_tuple (items:=#[d,c]) (I.ok.hd z) (IsTup.new s1.heap _) λh' C=>?_)));have t:=E.kept (h':=h') (t':=s1.toks) λb o e=>C b o (zI (zD e)) e;show A7 _ _ (assignInOrder [λv=>bindName X.env y v,λv=>bindName X.env x v] [c,d] >>= λ_=>pure Flow.next) _ _ _;refine zb (assignInOrder_cons (wpAny_bindName (CZ t g m (.inl l) G (λL J=>?_) (.inr l))));refine assignInOrder_cons (wpAny_bindName (CZ J g hi (.inl hx) u (λK f=>assignInOrder_nil (zd ?_)) (.inr hx)));rw[List.set_comm _ _ (y8 B)]at f;exact⟨_,H1,f,q1⟩
def SZ(c:TT)(tb:TS):TS:=λD σ H=>∃W:Nat->St->Hp->Prop,(∃m,W m σ H)/\∀m σ H,W m σ H →
 c σ H λb H1=>if b=true then ∃N:St->Hp->Prop,(∀ σ' H',N σ' H'->∃a,a<m/\W a σ' H')/\tb { D with nx:=N,ct:=N,bk:=D.nx } σ H1 else D.nx σ H1
theorem dr{tc:TT}{tb:TS}(hp:PassesOwn (sg X) X.A X.env X.xe)(q:PT X c tc)(hb:Wo X body tb):PS X (.While c body [] pos) (SZ tc tb):=by
 intro AN s σ H D I h;obtain⟨W,⟨y,u⟩,turn⟩:=h;refine wpAny_While (codeAny_whileLoop (λn s'=>∃ σ' H',AU X AN σ' H' s'/\W n σ' H') ?_ y ⟨σ,H,I,u⟩);rintro n x ⟨e,H1,z,t⟩;refine kU hp (jw (q AN x e H1 _ z (turn n e H1 t)) λb s2 ⟨H2,I2,q2⟩=>?_);cases b with
 |true=>
  obtain⟨N,p,q2⟩:=q2;rw[zl rfl];refine kU hp (jw (hb AN s2 e H2 _ I2 q2) λf B g=>?_);cases f with
  |next=>
   obtain⟨a,d,i,l⟩:=g;obtain⟨m,j,o⟩:=p a d l;exact⟨m,j,a,d,i,o⟩
  |cont=>
   obtain⟨a,d,i,l⟩:=g;obtain⟨m,j,o⟩:=p a d l;exact⟨m,j,a,d,i,o⟩
  |brk=>exact g
  |ret v=>exact g
 |false=>
  rw[zz ZT];exact wpAny_execs_nil ⟨e,H2,I2,q2⟩
end
structure It where
 go:Nat->Hp->Prop
 yld:Nat->Hp->V->Hp->Prop
 stop:Nat->Hp->Prop
def wI(X:Cx)(AN:O (A1×AE))(H:Hp)(b:A1):Prop:=
 H b=Z/\b≠X.env.locals/\b∉X.fs/\(b∈X.ex\/X.s₀.heap.objs.size<=b)/\(∀x c,X.env.cells.lookup x=U c->c≠b)/\∀p∈X.pn++AN,p.1≠b
theorem AU.Wq{X:Cx}{σ:St}{H H':Hp}{b:A1}(I:AU X AN σ H s)(hb:s.heap.objs.size<=b)(a:H' b=Z):wI X AN H' b:=by
 refine⟨a,yA (Z3 I.lt hb),I.anv hb,.inr (ZI I.sz hb),λx c e z=>?_,λp hp z=>?_⟩
 ·obtain⟨v,q⟩:=I.cell x c e;exact absurd (Z3 q.lt (by rw[z];exact hb)) (kg _)
 ·exact absurd (Z3 (zD (I.pin p hp).1) (by rw[z];exact hb)) (kg _)
structure CI (P:Program) (w:World) (K:B1) (tg:Expr) (J:It) (fp:List Addr) (it:Addr) (tn:Nat->Heap->Prop):Prop where
 mem:it∈fp
 obj:∀i h,tn i h->∀b∈fp,∃o,h.get? b=some o/\∀v,o.data≠.cell v
 keep:∀i h h',tn i h->(∀b∈fp,∀o,h.get? b=some o->h'.get? b=some o)->tn i h'
 item:∀(X:Cx),X.prog=P->X.w=w->X.K=K->X.calm=true->∀(i:Nat) (AN:List (Addr×Obj)) (s:Shared) (σ:St) (H:Hp) (E:B7),AU X AN σ H s->(∀b∈fp,wI X AN H b)->tn i s.heap->J.go i H →
  wpAny (model P w) X.A (pyNext (.ref it)) (λr s1=>∃u,r=some u ∧
   wpAny (model P w) X.A (letOwnedTupleGo tg (.ref it) u) (λ_ s2=>∃x H',AU X AN σ H' s2/\At x u/\J.yld i H x H'/\tn (i+1) s2.heap/\∀b∈fp,H' b=none) E s1) E s
 done:∀(X:Cx),X.prog=P->X.w=w->X.K=K->X.calm=true->∀(i:Nat) (AN:List (Addr×Obj)) (s:Shared) (σ:St) (H:Hp) (E:B7),AU X AN σ H s->(∀b∈fp,wI X AN H b)->tn i s.heap->J.stop i H →
  wpAny (model P w) X.A (pyNext (.ref it)) (λr s1=>r=none/\AU X AN σ H s1) E s
 self:∀(A:Around) (i:Nat) (s:Shared) (Q:B7) (E:B7),tn i s.heap->Q (.ref it) s->wpAny (model P w) A (pyIter (.ref it)) Q E s
abbrev TI:=St->Hp->(It->Hp->Prop)->Prop
def P5(X:Cx)(AN:O (A1×AE))(σ:St)(tg:Expr)(R:It->Hp->Prop)(c:A0)(a:A2):Prop:=
 ∃(it:A1) (fp:O A1) (tn:Nat->A6->Prop) (J:It) (H':Hp),c=.ref it/\AU X AN σ H' a/\CI X.prog X.w X.K tg J fp it tn/\tn 0 a.heap/\(∀b∈fp,wI X AN H' b)/\R J H'
def PI(X:Cx)(tg iter:Expr)(b:TI):Prop:=
 ∀(AN:O (A1×AE)) (s:A2) (σ:St) (H:Hp) (R:It->Hp->Prop),AU X AN σ H s->b σ H R →
  A7 (sg X) X.A (eval iter X.env) (λv a=>A7 (sg X) X.A (pyIter v) (P5 X AN σ tg R) X.xe a) X.xe s
theorem Oa{o:AE}{n:String}{vs:Array A0}{Q:Unit->A2->Prop}(ho:s.heap.get? it=U o)(b:o.cls=.type n)(d:o.data=.fields vs)(c:["enumerate","zip","dict_itemiterator","dict_reverseitemiterator","odict_iterator","itertools.zip_longest","itertools.pairwise"].contains n=false)(a:Q sn s):A7 M A (letOwnedTupleGo tg (.ref it) u) Q E s:=by
 unfold letOwnedTupleGo;cases tg<;>first
  |exact zd a
  |(cases u<;>first
    |exact zd a
    |(refine zb (yT ho ?_)
      rw[b,d];show A7 M A (if(["enumerate","zip","dict_itemiterator","dict_reverseitemiterator","odict_iterator","itertools.zip_longest","itertools.pairwise"].contains n&&vs[0]?==U (rawInt _))=true then _ else _) Q E s;rw[zz (by intro h;rw[c,ko]at h;cases h)];exact zd a))
def HH(K:B1)(a:A1):It:=
 ⟨λi H=>∃xs x,yS K H a xs/\xs[i]?=U x,λi H x H'=>H'=H/\∀xs,yS K H a xs->xs[i]?=U x,λi H=>∃xs,yS K H a xs/\xs.length<=i⟩
def MR(K:B1)(a:A1):It:=
 ⟨λi H=>∃xs x,BR K H a xs/\xs[i]?=U x,λi H x H'=>H'=H/\∀xs,BR K H a xs->xs[i]?=U x,λi H=>∃xs,BR K H a xs/\xs.length<=i⟩
def IS(lo:Int)(n:Nat):It:=⟨λi _=>i<n,λi H x H'=>H'=H/\x=.int (lo+i),λi _=>n<=i⟩
theorem w4(a it:A1):CI P w K tg (HH K a) [it] it (λi h=>h.IsListIter it a i) where
 mem:=by simp
 obj:=λi h st b hb=>by
  have e:b=it:=by simpa using hb
  subst e;obtain⟨o,e,c,d⟩:=st;exact⟨o,e,λv z=>by rw[d]at z;cases z⟩
 keep:=λi h h' st k=>st.at λo e=>k it (by simp) o e
 item:=by
  intro X y n j A i AN s σ H E I g st hg;subst y n j;obtain⟨xs,x,f,hx⟩:=hg;obtain⟨AQ,l,p,C⟩:=I.list f;obtain⟨u,J,D⟩:=l.get hx;obtain⟨f0,f1,f2,t,q,m⟩:=g it (by simp);refine wpAny_pyNext_list_item st p.isList (x:=u) (by simpa using J) λh' B F=>?_;have L:AU X AN σ H { s with heap:=h' }:=I.turned (t':=s.toks) (λb o hb e=>(F.2 b hb).trans e) f0 f1 t q m;obtain⟨o,e,c,d⟩:=id B;exact⟨u,rfl,Oa (s:={ s with heap:=h' }) e c d () ⟨x,H,L,D,⟨rfl,λys G=>by rw[I.SN G f];exact hx⟩,B,λb hb=>(g b hb).1⟩⟩
 done:=by
  intro X y n j A i AN s σ H E I g st hg;subst y n j;obtain⟨xs,f,hx⟩:=hg;obtain⟨AQ,l,p,C⟩:=I.list f;obtain⟨f0,f1,f2,t,q,m⟩:=g it (by simp);have M:=l.length;exact wpAny_pyNext_list_end (I.ok.hd A) st p.isList (by simp;omega) λh' eb=>⟨rfl,I.turned (t':=s.toks) (λb o hb e=>eb b o hb e) f0 f1 t q m⟩
 self:=λ_ _ _ _ _ st h=>wpAny_pyIter_listiter st h
theorem Wr(a it:A1):CI P w K tg (MR K a) [it] it (λi h=>h.IsTupleIter it a i) where
 mem:=by simp
 obj:=λi h st b hb=>by
  have e:b=it:=by simpa using hb
  subst e;obtain⟨o,e,c,d⟩:=st;exact⟨o,e,λv z=>by rw[d]at z;cases z⟩
 keep:=λi h h' st k=>st.at λo e=>k it (by simp) o e
 item:=by
  intro X y n j A i AN s σ H E I g st hg;subst y n j;obtain⟨xs,x,f,hx⟩:=hg;obtain⟨AQ,l,p,C⟩:=I.tuple f;obtain⟨u,J,D⟩:=l.get hx;obtain⟨f0,f1,f2,t,q,m⟩:=g it (by simp);refine wpAny_pyNext_tuple_item st (show s.heap.IsTuple a AQ.toArray from p) (x:=u) (by simpa using J) λh' B F=>?_;have L:AU X AN σ H { s with heap:=h' }:=I.turned (t':=s.toks) (λb o hb e=>(F.2 b hb).trans e) f0 f1 t q m;obtain⟨o,e,c,d⟩:=id B;exact⟨u,rfl,Oa (s:={ s with heap:=h' }) e c d () ⟨x,H,L,D,⟨rfl,λys G=>by rw[I.N8 G f];exact hx⟩,B,λb hb=>(g b hb).1⟩⟩
 done:=by
  intro X y n j A i AN s σ H E I g st hg;subst y n j;obtain⟨xs,f,hx⟩:=hg;obtain⟨AQ,l,p,C⟩:=I.tuple f;obtain⟨f0,f1,f2,t,q,m⟩:=g it (by simp);have M:=l.length;exact wpAny_pyNext_tuple_end (I.ok.hd A) st (show s.heap.IsTuple a AQ.toArray from p) (by simp;omega) λh' eb=>⟨rfl,I.turned (t':=s.toks) (λb o hb e=>eb b o hb e) f0 f1 t q m⟩
 self:=λ_ _ _ _ _ st h=>wpAny_pyIter_tupleiter st h
theorem Ws(it:A1)(lo:Int)(n:Nat):CI P w K tg (IS lo n) [it] it (λi h=>IsRangeIter h it (lo+(i:Nat)*1) ((n:Int)-(i:Nat)) 1) where
 mem:=by simp
 obj:=λi h st b hb=>by
  have e:b=it:=by simpa using hb
  subst e;exact⟨_,st,λv z=>by
   have u:Data.fields _=Data.cell v:=z;cases u⟩
 keep:=λi h h' st k=>k it (by simp) _ st
 item:=by
  intro X g f m c i AN s σ H E I a st hg;subst g f m;obtain⟨f0,f1,f2,l,j,d⟩:=a it (by simp);have W:=Walks.range (prog:=X.prog) (w:=X.w) (I.ok.hd c) it lo 1 n;refine W.item i s _ _ hg st λv h' tk q p kk=>?_;obtain⟨t,rfl⟩:=q;have x:AU X AN σ H { s with heap:=h',toks:=tk }:=I.turned (λb o hb e=>kk b o (by simpa using hb) e) f0 f1 l j d;refine⟨_,rfl,Oa (s:={ s with heap:=h',toks:=tk }) (n :="range_iterator") p S S () ⟨.int (lo+i),H,x,⟨t,?_⟩,⟨rfl,rfl⟩,p,λb hb=>(a b hb).1⟩⟩;rw[Int.mul_one]
 done:=by
  intro X g f m c i AN s σ H E I a st hg;subst g f m;obtain⟨f0,f1,f2,l,j,d⟩:=a it (by simp);exact wpAny_pyNext_range_end (I.ok.hd c) st (by have:n<=i:=hg;omega) λh' eb=>⟨rfl,I.turned (t':=s.toks) (λb o hb e=>eb b o hb e) f0 f1 l j d⟩
 self:=λ_ _ _ _ _ st h=>wpAny_pyIter_rangeiter st h
end L2
namespace L2
section
variable{X:Cx}
theorem me{σ:St}{H:Hp}{R:It->Hp->Prop}{lo hi:Int}{t u v:Tok}{tk:Nat}(I:AU X AN σ H s)(h1 : -(2 ^ 62)<=lo)(h2:lo<2 ^ 62)(c : -(2 ^ 62)<=hi)(d:hi<2 ^ 62)(q:R (IS lo (hi-lo).toNat) H):A7 (sg X) X.A (pyIter (.ref s.heap.objs.size)) (P5 X AN σ tg R) E { s with heap:=s.heap.push { cls:=.type "range",data:=.fields #[.int lo t,.int hi u,.int 1 v] },toks:=tk }:=by
 refine wpAny_pyIter_range (IsRange.new ..) (small_one h1 h2 c d) ?_;have a:AU X AN σ H { s with heap:=s.heap.push { cls:=.type "range",data:=.fields #[.int lo t,.int hi u,.int 1 v] },toks:=tk }:=I.kept λb o e=>ze _ e;refine⟨(s.heap.push { cls:=.type "range",data:=.fields #[.int lo t,.int hi u,.int 1 v] }).objs.size,[(s.heap.push { cls:=.type "range",data:=.fields #[.int lo t,.int hi u,.int 1 v] }).objs.size],_,_,H,rfl,
  a.kept (t':=tk) λb o e=>ze _ e,Ws _ lo (hi-lo).toNat,?_,λb hb=>?_,q⟩
 ·have e1:lo+((0:Nat):Int)*1=lo:=by simp
  have e2:(((hi-lo).toNat:Nat):Int)-((0:Nat):Int)=Builtin.Range.rangeSize lo hi 1:=by rw[rangeSize_one];split<;>omega
  show IsRangeIter _ _ (lo+((0:Nat):Int)*1) ((((hi-lo).toNat:Nat):Int)-((0:Nat):Int)) 1;rw[e1,e2];exact zw _ rfl
 ·have e:b=(s.heap.push { cls:=.type "range",data:=.fields #[.int lo t,.int hi u,.int 1 v] }).objs.size:=by simpa using hb
  subst e;exact a.Wq (zi _) (a.hok.fresh (zi _))
def ln(ta:TA):TI:=λσ H R=>ta σ H λvs H1=>∃j:Int,vs=[.int j] ∧ -(2 ^ 62)<=j/\j<2 ^ 62/\R (IS 0 j.toNat) H1
theorem U'{a:Expr}{ta:TA}{p:Pos}(hg:Gl X "range")(b:X.mg "range"=Z)(ha:PA X [a] ta)(hs:A9 [a] X.env=[(false,eval a X.env)]:=by rfl):PI X tg (.Call (.Name "range" p) [a] [] pos) (ln ta):=by
 intro AN s σ H R I h;refine Call_ (Qj I hg b boot_range (PyProof.Rows.callWith_type1 (jw (ha pos AN s σ H _ I h) λus s1 ⟨vs,H1,I1,r1,q1⟩=>?_) hs S));obtain⟨j,e,q1,q2,q⟩:=q1;subst e;cases r1 with
 |cons r c=>
  cases c;obtain⟨t,rfl⟩:=r;exact call_range_1 (me I1 () () q1 q2 (by simpa using q))
def ay(c:TI)(g:TG)(tb:TS):TS:=λD σ H=>c σ H λJ H1=>∃W:Nat->Nat->St->Hp->Prop,(∃m,W 0 m σ H1)/\∀i m σ H,W i m σ H →
 (J.stop i H/\D.nx σ H)\/(J.go i H/\∃N:St->Hp->Prop,(∀ σ' H',N σ' H'->∃a,a<m/\W (i+1) a σ' H')/\∀x H',J.yld i H x H'->g x σ H' λb H2=>tb { D with nx:=N,ct:=N,bk:=D.nx } b H2)
def FQ(fp:O A1)(h:A6):O (A1×AE):=fp.filterMap λb=>(h.get? b).map λo=>(b,o)
theorem wJ{b:A1}{o:AE}(hb:b∈fp)(e:h.get? b=U o):(b,o)∈FQ fp h:=hE.mpr ⟨b,hb,by rw[e];rfl⟩
theorem WB{p:A1×AE}(hp:p∈FQ fp h):p.1∈fp/\h.get? p.1=U p.2:=by
 obtain⟨b,hb,e⟩:=hE.mp hp;cases q:h.get? b with
 |none=>rw[q]at e;cases e
 |some o=>
  rw[q]at e;have e':(b,o)=p:=j3 e;subst e';exact⟨hb,q⟩
theorem AU.pinned{σ:St}{H:Hp}(I:AU X AN σ H s)(a:∀b∈fp,wI X AN H b)(ho:∀b∈fp,∃o,s.heap.get? b=U o/\∀v,o.data≠.cell v):AU X (AN++FQ fp s.heap) σ H s:=
 I.Qi λp hp=>(List.mem_append.mp hp).elim (λz=>I.pin p (Zs _ z)) λz=>by
  obtain⟨hb,e⟩:=WB z;obtain⟨f0,f1,f2,_⟩:=a p.1 hb;obtain⟨o,e',d⟩:=ho p.1 hb;rw[e]at e';cases e';exact⟨e,f0,f1,f2,d⟩
theorem AU.yW{pl:O (A1×AE)}{σ:St}{H:Hp}(I:AU X (AN++pl) σ H s):AU X AN σ H s:=I.Qi λp hp=>I.pin p (Zs _ (zv _ hp))
theorem OB{K:TI}{g:TG}{tb:TS}(hp:PassesOwn (sg X) X.A X.env X.xe)(F:X.calm=true)(hi:PI X tg iter K)(hg:PG X tg g)(hb:Wo X body tb)(hs:∀x,foldedSetIterable iter X.env x=pure x:=by intro _;rfl):PS X (.For tg iter body [] pos) (ay K g tb):=by
 intro AN s σ H D I h;refine wpAny_For (jw (hi AN s σ H _ I h) λv s1 h1=>jw h1 λa3 s2 h2=>?_) hs;obtain⟨it,fp,tn,J,H2,e,I2,T,a1,f2,W,⟨m0,w0⟩,turn⟩:=h2;subst e;have y:∀{H':Hp},(∀b∈fp,H' b=Z)->∀b∈fp,wI X AN H' b:=λhn b hb=>⟨hn b hb,(f2 b hb).2⟩;refine codeAny_forLoop_any (λn s'=>∃i σ' H',AU X AN σ' H' s'/\tn i s'.heap/\(∀b∈fp,H' b=Z)/\W i n σ' H') ?_ m0 ⟨0,σ,H2,I2,a1,λb hb=>(f2 b hb).1,w0⟩;rintro n C ⟨i,q,t,G,E,B,w3⟩;rcases turn i n q t w3 with⟨a2,qn⟩|⟨P,N,hN,step⟩
 ·refine kU hp (jw (T.done X S S S F i AN C q t X.xe G (y B) E a2) λr s4 ⟨hr,I4⟩=>?_);subst hr;exact wpAny_execs_nil ⟨q,t,I4,qn⟩
 ·refine kU hp (jw (T.item X S S S F i AN C q t X.xe G (y B) E P) λr s4 ⟨u,hr,h4⟩=>?_);subst hr;refine kU hp (jw h4 λ_ s5 ⟨x,H5,I5,r5,y5,st5,fr5⟩=>?_);have a0:=I5.pinned (y fr5) (T.obj _ _ st5);refine kU hp (jw (hg _ s5 q H5 x u _ a0 r5 (step x H5 y5)) λ_ s6 ⟨σ6,H6,I6,q6⟩=>?_);refine kU hp (jw (hb _ s6 σ6 H6 _ I6 q6) λf z l=>?_);have again:∀{a:St} {j:Hp},AU X (AN++FQ fp s5.heap) a j z->N a j->∃m,m<n/\∃i σ' H',AU X AN σ' H' z/\tn i z.heap/\(∀b∈fp,H' b=Z)/\W i m σ' H':=λ{a j} c p=>by
   obtain⟨M,L,w7⟩:=hN a j p;refine⟨M,L,i+1,a,j,c.yW,T.keep _ _ _ st5 λb hb o e=>(c.pin (b,o) (Zs _ (Zs _ (wJ hb e)))).1,λb hb=>?_,w7⟩;obtain⟨o,e,d⟩:=T.obj _ _ st5 b hb;exact(c.pin (b,o) (Zs _ (Zs _ (wJ hb e)))).2.1
  cases f with
  |next=>obtain⟨a,j,c,p⟩:=l;exact again c p
  |cont=>obtain⟨a,j,c,p⟩:=l;exact again c p
  |brk=>obtain⟨a,j,c,l⟩:=l;exact⟨a,j,c.yW,l⟩
  |ret v=>obtain⟨Q,a,j,c,r7,l⟩:=l;exact⟨Q,a,j,c.yW,r7,l⟩
end
end L2
namespace L2
abbrev R2:=V->V->Hp->VK->Prop
def Aa(X:Cx)(f:A0->A0->Sem A0)(r:R2):Prop:=
 ∀(AN:O (A1×AE)) (s:A2) (σ:St) (H:Hp) (x y:V) (v u:A0) (Q:VK),AU X AN σ H s->At x v->At y u->r x y H Q →
  A7 (sg X) X.A (f v u) (EP X AN σ Q) X.xe s
def EH(X:Cx)(f:A0->Sem A0)(r:V->Hp->VK->Prop):Prop:=
 ∀(AN:O (A1×AE)) (s:A2) (σ:St) (H:Hp) (x:V) (v:A0) (Q:VK),AU X AN σ H s->At x v->r x H Q →
  A7 (sg X) X.A (f v) (EP X AN σ Q) X.xe s
def gj(X:Cx)(f:A0)(r:O V->Hp->VK->Prop):Prop:=
 ∀(AN:O (A1×AE)) (s:A2) (σ:St) (H:Hp) (xs:O V) (us:O A0) (Q:VK),AU X AN σ H s->AX xs us->r xs H Q →
  A7 (sg X) X.A (call f us) (EP X AN σ Q) X.xe s
def Wp(X:Cx)(r:V->Hp->(Bool->Hp->Prop)->Prop):Prop:=
 ∀(AN:O (A1×AE)) (s:A2) (σ:St) (H:Hp) (x:V) (v:A0) (Q:Bool->Hp->Prop),AU X AN σ H s->At x v->r x H Q →
  A7 (sg X) X.A (truthy v) (TP X AN σ Q) X.xe s
def HE(r:R2)(ta tb:TE):TE:=λσ H Q=>ta σ H λx H1=>tb σ H1 λy H2=>r x y H2 Q
def RA(r:V->Hp->VK->Prop)(ta:TE):TE:=λσ H Q=>ta σ H λx H1=>r x H1 Q
def rI(C:Int->Int->Prop)(g:Int->Int->V):R2:=λx y H Q=>∃i j,x=.int i/\y=.int j/\C i j/\Q (g i j) H
def EB(g:Int->Int->V):R2:=λx y H Q=>∃i j,x=.int i/\y=.int j/\Q (g i j) H
def rU(g:Int->V):V->Hp->VK->Prop:=λx H Q=>∃i,x=.int i/\Q (g i) H
section
variable{X:Cx}{a b:Expr}{ta tb tc:TE}
theorem K'(ha:PE X a ta)(hb:PE X b tb){σ:St}{H:Hp}{R:V->V->Hp->Prop}(I:AU X AN σ H s)(h:ta σ H λx H1=>tb σ H1 λy H2=>R x y H2){Q:B7}{f:A0->A0->Sem A0}(g:∀v u c x y H2,AU X AN σ H2 c->At x v->At y u->R x y H2->A7 (sg X) X.A (f v u) Q X.xe c):
  A7 (sg X) X.A (eval a X.env) (λv d=>A7 (sg X) X.A (eval b X.env) (λu e=>A7 (sg X) X.A (f v u) Q X.xe e) X.xe d) X.xe s:=by
 refine jw (ha AN s σ H _ I h) λv s1 ⟨x,H1,I1,r1,q1⟩=>?_;refine jw (hb AN s1 σ H1 _ I1 q1) λu c ⟨y,H2,I2,r2,q2⟩=>?_;exact g v u c x y H2 I2 r1 r2 q2
theorem uv{op:Operator}{r:R2}(ho:Aa X (binaryOp op) r)(ha:PE X a ta)(hb:PE X b tb):PE X (.BinOp a op b pos) (HE r ta tb):=by
 intro AN s σ H Q I h;exact wpAny_BinOp (K' ha hb I h λv u d x y H2 e c f q=>ho AN d σ H2 x y v u Q e c f q)
theorem U2{op:UnaryOp}{r:V->Hp->VK->Prop}(ho:EH X (unaryOp op) r)(ha:PE X a ta):PE X (.UnaryOp op a pos) (RA r ta):=by
 intro AN s σ H Q I h;exact UnaryOp_ (jw (ha AN s σ H _ I h) λv s1 ⟨x,H1,I1,r1,q1⟩=>ho AN s1 σ H1 x v Q I1 r1 q1)
theorem Hk{f:A0->A0->Sem A0}{C:Int->Int->Prop}{g:Int->Int->Int}
  (d:∀(i j:Int) (t u:Tok) (s:A2) (Q:B7) (E:B7),C i j->Q (.int (g i j) s.toks) { s with toks:=s.toks+1 }->A7 (sg X) X.A (f (.int i t) (.int j u)) Q E s):
  Aa X f (rI C λi j=>.int (g i j)):=by
 intro AN s σ H x y v u Q I a c h;obtain⟨i,j,rfl,rfl,b,q⟩:=h;obtain⟨t,rfl⟩:=a;obtain⟨e,rfl⟩:=c;exact d i j t e s _ _ b ⟨.int (g i j),H,I.tok _,⟨_,rfl⟩,q⟩
theorem Pt{f:A0->A0->Sem A0}{g:Int->Int->Int}
  (a:∀(i j:Int) (t u:Tok) (s:A2) (Q:B7) (E:B7),Q (.int (g i j) s.toks) { s with toks:=s.toks+1 }->A7 (sg X) X.A (f (.int i t) (.int j u)) Q E s):
  Aa X f (EB λi j=>.int (g i j)):=by
 intro AN s σ H x y v u Q I c d h;obtain⟨i,j,rfl,rfl,q⟩:=h;obtain⟨t,rfl⟩:=c;obtain⟨b,rfl⟩:=d;exact a i j t b s _ _ ⟨.int (g i j),H,I.tok _,⟨_,rfl⟩,q⟩
theorem Hm{f:A0->A0->Sem A0}{g:Int->Int->Bool}
  (a:∀(i j:Int) (t u:Tok) (s:A2) (Q:B7) (E:B7),Q (.bool (g i j)) s->A7 (sg X) X.A (f (.int i t) (.int j u)) Q E s):
  Aa X f (EB λi j=>.bl (g i j)):=by
 intro AN s σ H x y v u Q I c d h;obtain⟨i,j,rfl,rfl,q⟩:=h;obtain⟨t,rfl⟩:=c;obtain⟨b,rfl⟩:=d;exact a i j t b s _ _ ⟨.bl (g i j),H,I,rfl,q⟩
def dL(i j:Int):Prop:=0<j/\j<1073741824
def WI(i j:Int):Prop:=0<=j/\j<=1000000/\i.natAbs<2 ^ 64
def MZ(i j:Int):Prop:=(-(2 ^ 64)<i/\i<2 ^ 64)\/(-(2 ^ 64)<j/\j<2 ^ 64)
theorem MZ.ok{i j:Int}(h:MZ i j):IntMulOk i j:=by
 rcases h with⟨h1,h2⟩|⟨h1,h2⟩
 ·exact .of_left (intBits_le_64 h1 h2)
 ·exact .of_right (intBits_le_64 h1 h2)
theorem g5:Aa X (binaryOp .Add) (EB λi j=>.int (i+j)):=Pt λ_ _ _ _ _ _ _ q=>add_int q
theorem nI:Aa X (binaryOp .Sub) (EB λi j=>.int (i-j)):=Pt λ_ _ _ _ _ _ _ q=>sub_int q
theorem sk:Aa X (binaryOp .Mult) (rI MZ λi j=>.int (i*j)):=Hk λ_ _ _ _ _ _ _ a q=>mul_int q a.ok
theorem UC:Aa X (binaryOp .FloorDiv) (rI dL λi j=>.int (i / j)):=Hk λi j _ _ _ _ _ a q=>by
 have h1:(0:Int)<j:=a.1;have h2:j<1073741824:=a.2;exact floordiv_int () (by rw[Int.fdiv_eq_ediv_of_nonneg i ()];exact q) (.inl (PyProof.noPylong_small ()))
theorem sf:Aa X (binaryOp .Mod) (rI (λ_ j=>0<j) λi j=>.int (i%j)):=Hk λi j _ _ _ _ _ a q=>by
 have h1:(0:Int)<j:=a;exact mod_int' () (by rw[Int.fmod_eq_emod_of_nonneg i ()];exact q)
theorem oi:Aa X (binaryOp .Pow) (rI WI λi j=>.int (i ^ j.toNat)):=Hk λ_ _ _ _ _ _ _ a q=>pow_int_small a.1 a.2.1 a.2.2 q
theorem t8{f:A0->Sem A0}{g:Int->Int}
  (a:∀(i:Int) (t:Tok) (s:A2) (Q:B7) (E:B7),Q (.int (g i) s.toks) { s with toks:=s.toks+1 }->A7 (sg X) X.A (f (.int i t)) Q E s):
  EH X f (rU λi=>.int (g i)):=by
 intro AN s σ H x v Q I b h;obtain⟨i,rfl,q⟩:=h;obtain⟨t,rfl⟩:=b;exact a i t s _ _ ⟨.int (g i),H,I.tok _,⟨_,rfl⟩,q⟩
theorem ai:EH X (unaryOp .USub) (rU λi=>.int (-i)):=t8 λ_ _ _ _ _ q=>neg_int q
theorem Wt{σ:St}{H:Hp}{Q:VK}{k a:Bool}(I:AU X AN σ H s)(q:Q (.bl k) H)(e:k=a):EP X AN σ Q (.bool a) s:=by
 subst e;exact⟨.bl k,H,I,rfl,q⟩
theorem UX:Aa X (AG .Lt) (EB λi j=>.bl (decide (i<j))):=Hm λ_ _ _ _ _ _ _ q=>lt_int q
theorem WU:Aa X (AG .LtE) (EB λi j=>.bl (decide (i<=j))):=Hm λ_ _ _ _ _ _ _ q=>le_int q
theorem dA:Aa X (AG .Gt) (EB λi j=>.bl (decide (j<i))):=Hm λ_ _ _ _ _ _ _ q=>gt_int q
theorem ag:Aa X (AG .GtE) (EB λi j=>.bl (decide (j<=i))):=Hm λ_ _ _ _ _ _ _ q=>ge_int q
theorem eJ:Aa X (AG .In) (λx y H Q=>∃i j,x=.str i/\y=.str j/\Q (.bl (!(Builtin.Str.occurrences j i 0 j.length 1).isEmpty)) H):=by
 intro AN s σ H x y v u Q I a b h;obtain⟨i,j,rfl,rfl,q⟩:=h;obtain⟨t,rfl⟩:=a;obtain⟨c,rfl⟩:=b;exact in_str (Wt I q S)
theorem ng:Aa X (AG .Is) (λx y H Q=>y=.non/\Q (.bl (decide (x=.non))) H):=by
 intro AN s σ H x y v u Q I a b h;obtain⟨rfl,q⟩:=h;cases b;refine is_none_gen (Wt I q ?_);cases x<;>first
  |(cases a;rfl)
  |(obtain⟨t,rfl⟩:=a;rfl)
theorem Y':Aa X (AG .IsNot) (λx y H Q=>y=.non/\Q (.bl (!decide (x=.non))) H):=by
 intro AN s σ H x y v u Q I a b h;obtain⟨rfl,q⟩:=h;cases b;refine isnot_none_gen (Wt I q ?_);cases x<;>first
  |(cases a;rfl)
  |(obtain⟨t,rfl⟩:=a;rfl)
theorem cI(b:Expr)(h:op≠.In:=by decide)(h2:op≠.NotIn:=by decide):behindInMarks op b=false:=by
 have e1:(op==CmpOp.In)=false:=by cases op<;>first|rfl|exact absurd S h
 have e2:(op==CmpOp.NotIn)=false:=by cases op<;>first|rfl|exact absurd S h2
 cases b<;>simp[behindInMarks,e1,e2]
theorem nt{r:R2}(ho:Aa X (AG op) r)(ha:PE X a ta)(hb:PE X b tb)(d:behindInMarks op b=false):PE X (.Compare a [op] [b] pos) (HE r ta tb):=by
 intro AN s σ H Q I h;exact wpAny_Compare1 (K' ha hb I h λv u g x y H2 e c f q=>ho AN g σ H2 x y v u Q e c f q) d
def g4(t:TE):TT:=λσ H Q=>t σ H λx H'=>∃k,x=.bl k/\Q k H'
theorem u4{r:R2}(ho:Aa X (AG op) r)(ha:PE X a ta)(hb:PE X b tb)(d:behindInMarks op b=false):PT X (.Compare a [op] [b] pos) (g4 (HE r ta tb)):=by
 intro AN s σ H Q I h;refine wpAny_isTrue_Compare1 (jw (ha AN s σ H _ I h) λv s1 ⟨x,H1,I1,r1,q1⟩=>jw (hb AN s1 σ H1 _ I1 q1) λu s2 ⟨y,H2,I2,r2,q2⟩=>
  jw (ho AN s2 σ H2 x y v u _ I2 r1 r2 q2) λc s3 ⟨z,H3,I3,r3,k,e,q3⟩=>?_) d
 subst e;cases r3;exact jI ⟨H3,I3,q3⟩
def NX(r r':R2)(ta tb tc:TE):TE:=λσ H Q=>ta σ H λx H1=>tb σ H1 λy H2=>r x y H2 λz a=>∃k,z=.bl k ∧
 (if k=true then tc σ a λb c=>r' y b c Q else Q (.bl false) a)
theorem XT{f:CmpOp}{r r':R2}(ho:Aa X (AG op) r)(j:Aa X (AG f) r')(ha:PE X a ta)(hb:PE X b tb)(i:PE X c tc)(g:lastMarks [op,f] [b,c]=false:=by with_unfolding_all rfl):PE X (.Compare a [op,f] [b,c] pos) (NX r r' ta tb tc):=by
 intro AN s σ H Q I h;refine Compare_chain (jw (ha AN s σ H _ I h) λv s1 ⟨x,H1,I1,r1,q1⟩=>chain_link (jw (hb AN s1 σ H1 _ I1 q1) λu s2 ⟨y,H2,I2,r2,q2⟩=>
  jw (ho AN s2 σ H2 x y v u _ I2 r1 r2 q2) λd s3 ⟨z,H3,I3,r3,k,e,q3⟩=>?_)) g
 subst e;cases r3;refine jI ?_;cases k with
 |false=>exact ite_ff ⟨.bl false,H3,I3,rfl,q3⟩
 |true=>exact ite_tt (chain_last (jw (i AN s3 σ H3 _ I3 q3) λw' s4 ⟨z',H4,I4,r4,q4⟩=>j AN s4 σ H4 y z' u w' Q I4 r2 r4 q4))
def M3(K:B1)(x:V)(H:Hp)(k:Bool):Prop:=
 match x with
 |.non=>k=false
 |.bl b=>k=b
 |.int i=>k=(i != 0)
 |.str y=>y.length<=AA/\k=((y.length:Int) != 0)
 |.byt y=>y.size<=AA/\k=((y.size:Int) != 0)
 |.ref p=>(∃xs,yS K H p xs/\k=!xs.isEmpty)\/(∃xs,BR K H p xs/\k=!xs.isEmpty)\/∃AO,H p=U (.dK AO)/\k=!AO.isEmpty
 |_=>False
theorem Wu{AO:O (κ×V)}{vs:O (κ×A0)}(r:KV AO vs):(!vs.isEmpty)=!AO.isEmpty:=by
 cases r<;>rfl
theorem JG{xs:O V}(r:AX xs AQ):(!AQ.toArray.isEmpty)=!xs.isEmpty:=by
 cases r<;>simp
theorem FT:(AA:Nat)<2 ^ 63:=by rw[sizeLine_eq];decide
theorem di:Wp X (λx H Q=>∃k,M3 X.K x H k/\Q k H):=by
 intro AN s σ H x v Q I a h;obtain⟨k,e,q⟩:=h;have j:=FT;have hs:AA=16777216:=sizeLine_eq;cases x with
 |non=>
  cases a;have e':k=false:=e;subst e';exact truthy_none ⟨H,I,q⟩
 |bl b=>
  cases a;have e':k=b:=e;subst e';exact jI ⟨H,I,q⟩
 |int i=>
  obtain⟨t,rfl⟩:=a;have e':k=(i != 0):=e;subst e';exact PySem.P.truthy_int ⟨H,I,q⟩
 |str y=>
  obtain⟨t,rfl⟩:=a;obtain⟨f,e'⟩:y.length<=AA/\k=((y.length:Int) != 0):=e;subst e';exact PySem.P.truthy_str () ⟨H,I.tok _,q⟩
 |byt y=>
  obtain⟨t,rfl⟩:=a;obtain⟨f,e'⟩:y.size<=AA/\k=((y.size:Int) != 0):=e;subst e';exact PySem.W.truthy_bytes () ⟨H,I.tok _,q⟩
 |ref p=>
  cases a;have e':(∃xs,yS X.K H p xs/\k=!xs.isEmpty)\/(∃xs,BR X.K H p xs/\k=!xs.isEmpty)\/∃AO,H p=U (.dK AO)/\k=!AO.isEmpty:=e;rcases e' with⟨xs,hx,e'⟩|⟨xs,hx,e'⟩|⟨AO,hx,e'⟩
  ·subst e';obtain⟨AQ,r,pl,c⟩:=I.list hx;have d:=r.length;exact wpAny_truthy_list pl.isList (by simp only[zC];omega) ⟨H,I.tok _,by rw[JG r];exact q⟩
  ·subst e';obtain⟨AQ,r,pl,c⟩:=I.tuple hx;have d:=r.length;exact truthy_tuple pl (by simp only[zC];omega) ⟨H,I.tok _,by rw[JG r];exact q⟩
  ·subst e';obtain⟨c,g,vs,r,m⟩:AO.length<=AA/\(p==sysModules)=false/\∃vs,KV AO vs/\s.heap.DictOf (bG X.prog X.w) p vs:=I.hok p _ hx;have d:AO.length=vs.length:=Paired.length r;exact wpAny_truthy_dict g m () ⟨H,I.tok _,by rw[Wu r];exact q⟩
 |_=>exact(show False from e).elim
theorem c9(ha:PE X a ta)(he:∀b,isTrue a X.env b=(do let v <-b;standAt a.pos;holding [v] (truthy v))):
  PT X a (λσ H Q=>ta σ H λx H'=>∃k,M3 X.K x H' k/\Q k H'):=by
 intro AN s σ H Q I h;exact isTrue_plain (jw (ha AN s σ H _ I h) λv s1 ⟨x,H1,I1,r1,q1⟩=>di AN s1 σ H1 x v Q I1 r1 q1) (he _)
theorem Wv:Aa X (binaryOp .Add) (λx y H Q=>∃i j,x=.str i/\y=.str j/\i.length+j.length<=AA/\Q (.str (i++j)) H):=by
 intro AN s σ H x y v u Q I c d h;obtain⟨i,j,rfl,rfl,b,q⟩:=h;obtain⟨t,rfl⟩:=c;obtain⟨a,rfl⟩:=d;exact add_str (λa tk=>⟨.str (i++j),H,I.tok _,⟨_,rfl⟩,q⟩) b
theorem BB{x:V}(r:AX [x] us):∃u,us=[u]/\At x u:=by
 cases r with
 |cons b a=>cases a;exact⟨_,rfl,b⟩
theorem CY{x y:V}(r:AX [x,y] us):∃u a,us=[u,a]/\At x u/\At y a:=by
 cases r with
 |cons d c=>
  cases c with
  |cons b e=>cases e;exact⟨_,_,rfl,d,b⟩
theorem WZ:gj X (.builtin "abs") (λxs H Q=>∃i,xs=[.int i]/\Q (.int (if i<0 then -i else i)) H):=by
 intro AN s σ H xs us Q I r h;obtain⟨i,rfl,q⟩:=h;obtain⟨u,rfl,t,rfl⟩:=BB r;exact call_abs_int λu tk=>⟨.int (if i<0 then -i else i),H,I.tok _,⟨_,rfl⟩,q⟩
theorem ce:gj X (.type "int") (λxs H Q=>(∃i,xs=[.int i]/\Q (.int i) H)\/∃k,xs=[.bl k]/\Q (.int (if k then 1 else 0)) H):=by
 intro AN s σ H xs us Q I r h;rcases h with⟨i,rfl,q⟩|⟨k,rfl,q⟩
 ·obtain⟨u,rfl,t,rfl⟩:=BB r;exact call_int_int ⟨.int i,H,I,⟨_,rfl⟩,q⟩
 ·obtain⟨u,rfl,a⟩:=BB r;cases a;exact call_int_bool ⟨.int (if k then 1 else 0),H,I.tok _,⟨_,rfl⟩,q⟩
end
end L2
namespace L2
structure WC (h:Heap) (x dx C:Addr) (mA:Str->Option Value):Prop where
 obj:h.get? x=some (instObj C dx)
 ns:h.Ns1 dx mA
 ne:dx≠x
section
variable{x dx f:A1}{mA:AJ->Y A0}
end
theorem JD.some_of{v:V}{o:Y A0}(r:JD (U v) o):∃u,o=U u/\At v u:=by
 cases o with
 |none=>exact(show False from r).elim
 |some u=>exact⟨u,rfl,r⟩
section
variable{H H':Hp}{h':A6}{dx:A1}{fs fs':O (AJ×V)}
theorem Jj(b:CV P w H h)(e:H a=U (.ins C dx fs)):∃mA,WC h a dx C mA/\(∀f,JD (fs.lookup f) (mA f))/\PySem.Within mA (fs.map (·.1))/\fs.length<=1000/\H dx=U (.own a):=by
 obtain⟨d,z,ne,c,mA,n,r,q⟩:=(show ju P w H h a (.ins C dx fs) from b a _ e);exact⟨mA,⟨c,n,ne⟩,r,q,z,d⟩
end
structure mV (K:B1) (C:Addr) (f:Str) (v:V) (u:Value):Prop where
 at_:PySem.W.findIn K (.ref C) f=some (some u)
 rel:At v u
 get:PySem.W.specialIn K u "__get__"=some none
 cp:PySem.W.copiedNames.contains f=false
section
variable{X:Cx}{σ:St}{H:Hp}{dx:A1}{fs:O (AJ×V)}{f:AJ}{v:V}
end
section
variable{X:Cx}{o value:Expr}{f:AJ}{pos':Pos}{ta tv:TE}
end
section
variable{X:Cx}{σ:St}{H:Hp}{Q:B7}{c:A0}{b:Bool}
end
end L2
namespace L2
structure qb (k:Nat) (A:Around):Prop where
 hd:A.handled=none
 dp:A.depth+3*k+5<recursionLimit
 un:A.units+16*k+200<cLine
theorem qb.mono{k:Nat}(r:qb k A)(h:j<=k):qb j A:=⟨r.hd,by have:=r.dp;omega,by have:=r.un;omega⟩
theorem qb.deeper{k:Nat}(r:qb (k+1) A)(env:Env):qb k (A.deeper env):=
 ⟨r.hd,by have:=r.dp;show A.depth+1+3*k+5<_;omega,by have:=r.un;show A.units+3+16*k+200<_;omega⟩
theorem qb.depth{k:Nat}(r:qb k A):A.depth<recursionLimit:=by have:=r.dp;omega
def GY:TA:=λ_ H Q=>Q [] H
def Dc(ta:TE)(a:TA):TA:=λσ H Q=>ta σ H λx H1=>a σ H1 λxs H2=>Q (x::xs) H2
section
variable{X:Cx}{te:TE}{t:TA}
theorem sI:PA X [] GY:=λ_ _ _ _ H Q I h=>Calls.spliced_nil ⟨[],H,I,.nil,h⟩
theorem iw(ha:PE X e te)(a:PA X es t)(hs:A9 (e::es) X.env=(false,eval e X.env)::A9 es X.env:=by rfl):PA X (e::es) (Dc te t):=by
 intro pos AN s σ H Q I h;rw[hs];show A7 _ _ (spliced ((false,eval e X.env)::AD pos (A9 es X.env))) _ _ s;refine Calls.spliced_cons (jw (ha AN s σ H _ I h) λu s1 ⟨x,H1,I1,r1,q1⟩=>?_);exact jw (a pos AN s1 σ H1 _ I1 q1) λus s2 ⟨xs,H2,I2,r2,q2⟩=>⟨x::xs,H2,I2,.cons r1 r2,q2⟩
def pg(t:TA):TE:=λσ H Q=>t σ H λxs H1=>xs.length<=AA/\∀p,H1 p=Z->Q (.ref p) (B6 H1 p (.tup xs))
def UD(t:TA):TE:=λσ H Q=>t σ H λxs H1=>xs.length<=AA/\∀p,H1 p=Z->Q (.ref p) (B6 H1 p (.lst xs))
theorem ph{x1}(h:PA X es t):PE X (.Tuple es x1 pos) (pg t):=by
 intro AN s σ H Q I a;refine wpAny_Tuple_spliced (jw (h pos AN s σ H _ I a) λus s1 ⟨xs,H1,I1,r,z,q⟩=>⟨by rw[<-r.length];exact z,?_⟩);have c:H1 s1.heap.objs.size=Z:=I1.hok.fresh (zi _);refine⟨.ref s1.heap.objs.size,B6 H1 s1.heap.objs.size (.tup xs),I1.laid (t':=s1.toks) (λb u e=>ze _ e) (zi _) ?_,rfl,q _ c⟩;exact⟨z,us,r,⟨_,zw _ rfl,rfl,⟨_,rfl⟩,rfl⟩⟩
theorem Sc(h:PA X es t):PE X (.List es pos) (UD t):=by
 intro AN s σ H Q I a;refine wpAny_List_spliced (jw (h pos AN s σ H _ I a) λus s1 ⟨xs,H1,I1,r,z,q⟩=>⟨by rw[<-r.length];exact z,?_⟩);have c:H1 s1.heap.objs.size=Z:=I1.hok.fresh (zi _);refine⟨.ref s1.heap.objs.size,B6 H1 s1.heap.objs.size (.lst xs),I1.laid (t':=s1.toks) (λb u e=>ze _ e) (zi _) ?_,rfl,q _ c⟩;exact⟨z,us,0,r,zw _ rfl⟩
end
abbrev Sp:=O V->Hp->VK->XK->Prop
abbrev D2:=O Env->Hp->A2->XK->A0->A2->Prop
structure HZ (P:Program) (w:World) (K:B1) (mg:Str->Option Value) (base:Heap) (A:Around) (outer:List Env) (s:Shared) (H:Hp):Prop where
 frames:A.frames=some outer
 mod:Mod K mg base
 bs:∀b o,base.get? b=some o->s.heap.get? b=some o/\H b=none
 bsz:base.objs.size<=s.heap.objs.size
 JF:s.heap.FunFrames base outer
 frf:∀b∈DB outer,H b=none
 hok:CV P w H s.heap
 bare:AllBare s.gens
def CE(outer:O Env)(P:A3)(w:A4)(H:Hp)(s:A2)(Q:VK)(u:A0)(s':A2):Prop:=
 ∃v H',s'.os=s.os/\AllBare s'.gens/\Un (DB outer) [] H H' s.heap s'.heap/\CV P w H' s'.heap/\At v u/\Q v H'
def CR(CX:D2)(outer:O Env)(P:A3)(w:A4)(H:Hp)(s:A2)(Q:VK)(E:XK)(r:Result)(s':A2):Prop:=
 match r with
 |.ok (.ret u)=>CE outer P w H s Q u s'
 |.ok _=>False
 |.error e=>CX outer H s E e s'
structure yX (P:Program) (w:World) (K:B1) (mg:Str->Option Value) (base:Heap) (CX:D2) (k:Nat) (f:Addr) (fd:FuncData) (ps:AZ) (sp:Sp):Prop where
 len:∀vs H Q E,sp vs H Q E->vs.length=ps.length
 run:∀(A:Around) (outer:List Env) (s:Shared) (H:Hp) (args:Args) (us:List Value) (vs:List V) (Q:VK) (E:XK),qb k A->HZ P w K mg base A outer s H->BindsTo s fd args (ps.zip us)->AX vs us->sp vs H Q E →
  codeAny (model P w) A (.call (.ref f) args) (CR CX outer P w H s Q E) s
section
variable{X:Cx}{σ:St}{H:Hp}{s':A2}
theorem AU.env0(I:AU X AN σ H s):HZ X.prog X.w X.K X.mg X.base X.A X.stack s H:=
 ⟨I.ok.frames,I.ok.mod,I.bs,ZI I.ok.bsz I.sz,I.stack,I.YF,I.hok,I.bare⟩
theorem AU.after{Q:VK}(I:AU X AN σ H s)(h:CE X.stack X.prog X.w H s Q u s'):EP X AN σ Q u s':=by
 obtain⟨v,H',os,c,un,e,r,q⟩:=h;obtain⟨f,g,d,t,a⟩:=s';obtain rfl:a=s.os:=os;exact⟨v,H',I.call (h':=f) (g':=g) (d':=d) (t':=t) (ch:=[]) un e c (λb z=>absurd z (by simp)),r,q⟩
end
def UE(sp:Sp)(dvs:O V)(E:XK)(t:TA):TE:=λσ H Q=>t σ H λvs H1=>sp (vs++dvs) H1 Q E
def Be(K:B1)(fd:FuncData)(ps:AZ)(ds:O A0):Prop:=
 ∀(s:A2) (us:O A0),K.In s.heap->(us++ds).length=ps.length->BindsTo s fd ⟨us,[]⟩ (ps.zip (us++ds))
theorem Be.all(h:∀us:O A0,us.length=ps.length->bindArgs fd ⟨us,[]⟩=pure (ps.zip us)):Be K fd ps []:=λs us _ a=>by
 rw[qq]at a ⊢;exact .of_eq (h us a)
def CL(CX:D2)(X:Cx)(E:XK):Prop:=∀(AN:O (A1×AE)) (σ:St) (H:Hp) (s:A2) (e:A0) (s':A2),AU X AN σ H s->CX X.stack H s E e s'->X.xe e s'
section
variable{X:Cx}{CX:D2}{k:Nat}{f:A1}{sp:Sp}{dvs:O V}{ds:O A0}{E:XK}{m:AJ}{p:Pos}{o:Expr}{ta:TE}{t:TA}
theorem cx{σ:St}{H:Hp}{Q:VK}{vs:O V}(F:yX X.prog X.w X.K X.mg X.base CX k f fd ps sp)(c:qb k X.A)(hb:Be X.K fd ps ds)(g:AX dvs ds)(hx:CL CX X E)(I:AU X AN σ H s)(r:AX vs us)(h:sp (vs++dvs) H Q E):A7 (sg X) X.A (call (.ref f) us) (EP X AN σ Q) X.xe s:=by
 have b:AX (vs++dvs) (us++ds):=r.append g;have d:(us++ds).length=ps.length:=by rw[<-b.length];exact F.len _ _ _ _ h
 refine wpAny_call (codeAny_mono (F.run X.A X.stack s H ⟨us,[]⟩ (us++ds) (vs++dvs) Q E c I.env0 (hb s us I.kIn d) b h) λr s' a=>?_);cases r with
 |error e=>exact hx AN σ H s e s' I a
 |ok fl=>
  cases fl with
  |ret u=>exact I.after a
  |next=>exact False.elim a
  |brk=>exact False.elim a
  |cont=>exact False.elim a
theorem YK(F:yX X.prog X.w X.K X.mg X.base CX k f fd ps sp)(b:qb k X.A)(hg:Gl X x)(a:X.mg x=U (.ref f))(i:keepIn X.K (.ref f)=true)(hb:Be X.K fd ps ds)(c:AX dvs ds)(hx:CL CX X E)
  (ha:PA X (e::es) t) (g:sa x:=by decide) (he:A9 (e::es) X.env=(false,eval e X.env)::A9 es X.env:=by rfl) (d:(AD pos (A9 es X.env)).any (·.1)=false:=by rfl):
  PE X (.Call (.Name x p) (e::es) [] pos) (UE sp dvs E t):=by
 intro AN s σ H Q I h;refine wpAny_Call_Name_kw (YG I hg a ?_ g);refine PySem.W.callWith_K (h₀:=X.base) I.ok.mod.kin i (jw (ha pos AN s σ H _ I h) λus s1 ⟨vs,H1,I1,r,q⟩=>⟨I1.kIn,?_⟩) he d;exact cx F b hb c hx I1 r q
end
section
variable{X:Cx}{CX:D2}{k:Nat}{f:A1}{ks:AZ}{sp:Sp}{E:XK}{m:AJ}{p kpos:Pos}{o:Expr}{kws:O AC}{te ta:TE}{t tk:TA}{nm:Y AJ}
variable{g:O A0->O A0->O A0}{gV:O V->O V->O V}
end
structure bC (N P:AZ) (sc:Scope):Prop where
 kind:sc.kind=.function
 co:sc.isCoroutine=false
 gen:sc.isGenerator=false
 nd:N.Nodup
 pre:N.take P.length=P
 par:∀x∈P,sc.names.lookup x=some .local\/sc.names.lookup x=some .cell
 ai3:∀y∈sc.names,y.2≠.free
theorem Ob{a:AJ->Y NameKind}{x:AJ}:∀{binds:O (AJ×A0)} {m:AJ->Y A0},(∀v,(x,v)∉binds)->bindL a binds m x=m x
 |[],_,_=>rfl
 |(n,v)::r,m,h=>by
  unfold bindL;rw[Ob λw b=>h w (zh _ b)];split
  ·have:x≠n:=by rintro rfl;exact h v zg
   simp[this]
  ·rfl
theorem Oc{a:AJ->Y NameKind}{x:AJ}:∀{binds:O (AJ×A0)} {m:AJ->Y A0},(∀v,(x,v)∉binds)->bindC a binds m x=m x
 |[],_,_=>rfl
 |(n,v)::r,m,h=>by
  unfold bindC;rw[Oc λw b=>h w (zh _ b)];split
  ·rfl
  ·have:x≠n:=by rintro rfl;exact h v zg
   simp[this]
theorem Od{a:AJ->Y NameKind}{x:AJ}{v:A0}:∀{P:AZ} {vs:O A0} {i:Nat} {m:AJ->Y A0},P.Nodup->P[i]?=U x->vs[i]?=U v->a x=U .local →
  bindL a (P.zip vs) m x=U v
 |[],_,_,_,_,h,_,_=>by simp at h
 |_::_,[],_,_,_,_,h,_=>by simp at h
 |p::P,w::vs,0,m,nd,h1,h2,hk=>by
  simp at h1 h2;subst h1;subst h2;show bindL a ((p,w)::P.zip vs) m p=_;unfold bindL;rw[Ob λv b=>(bT.mp nd).1 (eh b).1,zl hk];simp
 |p::P,w::vs,i+1,m,nd,h1,h2,hk=>by
  show bindL a ((p,w)::P.zip vs) m x=_;unfold bindL;exact Od (i:=i) (bT.mp nd).2 (by simpa using h1) (by simpa using h2) hk
theorem Oe{a:AJ->Y NameKind}{x:AJ}{v:A0}:∀{P:AZ} {vs:O A0} {i:Nat} {m:AJ->Y A0},P.Nodup->P[i]?=U x->vs[i]?=U v->a x≠U .local →
  bindC a (P.zip vs) m x=U v
 |[],_,_,_,_,h,_,_=>by simp at h
 |_::_,[],_,_,_,_,h,_=>by simp at h
 |p::P,w::vs,0,m,nd,h1,h2,hk=>by
  simp at h1 h2;subst h1;subst h2;show bindC a ((p,w)::P.zip vs) m p=_;unfold bindC;rw[Oc λv b=>(bT.mp nd).1 (eh b).1,zz hk];simp
 |p::P,w::vs,i+1,m,nd,h1,h2,hk=>by
  show bindC a ((p,w)::P.zip vs) m x=_;unfold bindC;exact Oe (i:=i) (bT.mp nd).2 (by simpa using h1) (by simpa using h2) hk
def start(N:AZ)(vs:O V):St:=vs.map U++ab (N.length-vs.length) Z
def JH(CX:D2)(P:A3)(w:A4)(K:B1)(mg:AJ->Y A0)(base:A6)(N:AZ)(qual:AJ)(scope:Scope)(f:A1)(a:A0)(A:A5)(outer:O Env)(s:A2)(H:Hp)(E:XK):Cx where
 prog:=P
 w:=w
 K:=K
 mg:=mg
 base:=base
 A:=A.deeper (AK qual scope s.heap.objs.size f a)
 N:=N
 s₀:=s
 H₀:=H
 env:=AK qual scope s.heap.objs.size f a
 outer:=outer
 stack:=AK qual scope s.heap.objs.size f a::outer
 ex:=[]
 calm:=true
 fn:=λ_=>true
 pn:=[]
 xe:=λe s'=>A7 (A8 P w) (A.deeper (AK qual scope s.heap.objs.size f a)) (leaving (AK qual scope s.heap.objs.size f a) e) (λ_ b=>CX outer H s E e b) (λe' b=>CX outer H s E e' b) s'
theorem SQ{a:Scope}(h:a.names.lookup x=U .cell):∃c,(cellsFrom n a.names []).lookup x=U c:=by
 have q:=cellsFrom_some a.names n [] (.inl h);exact dv.mp q
theorem pV{CX:D2}{f:A1}{g:A0}{outer:O Env}{o:A2}{H:Hp}{E:XK}{vs:O V}(S:bC N ps scope)(C:A.handled=Z)(e0:HZ P w K mg base A outer s H)(D:vs.length=ps.length)(r:AX vs us)(x:InCallC s s.heap.objs.size (bindL (AK qual scope s.heap.objs.size f g).kindOf (ps.zip us) λ_=>Z) (cellsFrom (s.heap.objs.size+1) scope.names []) (bindC (AK qual scope s.heap.objs.size f g).kindOf (ps.zip us) λ_=>Z) o):
  AU (JH CX P w K mg base N qual scope f g A outer s H E) [] (start N vs) H o:=by
 have F:ps.length<=N.length:=by have:=congrArg dm S.pre;rw[JP]at this;omega
 obtain⟨h1,tk,rfl,t⟩:=x.done;have j:∀b:A1,b∉(JH CX P w K mg base N qual scope f g A outer s H E).ex:=λb z=>absurd (show b∈([]:O A1) from z) (by simp);refine⟨⟨e0.mod,S.kind,rfl,rfl,zi _,λy z c h1 h2=>?_,λy d=>?_,λy c _ h=>?_,λ_=>C,Around.frames_deeper e0.frames,.inr ⟨rfl,rfl⟩,λb z=>absurd z (j b),e0.bs,e0.bsz,λb _ _=>j b,λb z=>absurd z (j b),e0.JF,e0.frf⟩,
  rfl,e0.bare,Un.kept t,⟨_,x.toInCall.ns,λi y v h1 h2 G=>?_⟩,λy c h=>⟨_,x.cell y c h⟩,e0.hok.fresh (zi _),λy c h=>?_,λp hp=>absurd (show p∈([]:O (A1×AE)) from hp) (by simp),e0.hok.kept t,?_⟩
 ·exact name_of_addr x.apart (kD h1) (kD h2)
 ·have d:scope.names.lookup y=U .cell\/scope.names.lookup y=U .free:=d;rcases d with d|d
  ·exact SQ d
  ·exact absurd rfl (S.ai3 _ (kD d))
 ·exact jS (x.above y c (kD h))
 ·have hi:i<vs.length:=by
   unfold start at h2;by_cases hi:i<vs.length
   ·exact hi
   ·rw[QA (by simpa using hi)]at h2;rw[Q4]at h2;split at h2<;>cases h2
  have ha:vs[i]?=U v:=by
   unfold start at h2;rw[qa (by simpa using hi),Zp]at h2;cases e:vs[i]? with
   |none=>rw[e]at h2;cases h2
   |some a=>rw[e]at h2;cases h2;rfl
  obtain⟨u,m,B⟩:=r.get ha;have hp:ps[i]?=U y:=by
   rw[<-S.pre,List.getElem?_take_of_lt ()];exact h1
  have l:ps.Nodup:=by rw[<-S.pre];exact S.nd.sublist (List.take_sublist _ _)
  refine⟨u,B,?_⟩;rcases S.par y (Q1 hp)with k|k
  ·exact .inl ⟨k,Od l hp m k⟩
  ·obtain⟨c,e⟩:=SQ (n:=s.heap.objs.size+1) k;refine .inr ⟨.inl k,c,e,?_⟩;have q:=x.cell y c e;rw[Oe l hp m (by show scope.names.lookup y≠_;rw[k];decide)]at q;exact q
 ·exact e0.hok.fresh (jS (x.above y c (kD h)))
 ·unfold start;show _=N.length;rw[z4,zk,dV];omega
theorem Wl{CX:D2}{k:Nat}{f:A1}{m:Arguments}{p kV B h a ct oc:A0}{z M:Y A1}{sp:Sp}(lk:K.lookup f=U ⟨oc,M,.func (fnOf name qual m body scope p kV B h z a ct),osl⟩)(a0:codeIn K a qual=true)(S:bC N ps scope)(len:∀vs H Q E,sp vs H Q E->vs.length=ps.length)(G:∀(A:A5) (outer:O Env) (s:A2) (H:Hp) (vs:O V) (Q:VK) (E:XK),qb k (A.deeper (AK qual scope s.heap.objs.size f a))->sp vs H Q E →
   ∃t,Wo (JH CX P w K mg base N qual scope f a A outer s H E) body t/\t { nx:=λ_ H'=>Q .non H',rt:=Q } (start N vs) H):
  yX P w K mg base CX (k+1) f (fnOf name qual m body scope p kV B h z a ct) ps sp:=by
 refine⟨len,λA outer s H a2 us vs Q E c e0 hb r g=>?_⟩;have X:=len _ _ _ _ g;have j:K.In s.heap:=e0.mod.kin.keeps λb o e=>(e0.bs b o e).1;have L:s.heap.NoLimit:=e0.mod.nolimit.keeps λb o e=>(e0.bs b o e).1;have a1:∀y∈ps.zip us,scope.names.lookup y.1=U .local\/(scope.names.lookup y.1=U .cell/\((cellsFrom (s.heap.objs.size+1) scope.names []).lookup y.1).isSome=true):=λ⟨n,v⟩ hy=>by
  rcases S.par n (eh hy).1 with q|q
  ·exact .inl q
  ·exact .inr ⟨q,cellsFrom_some _ _ _ (.inl q)⟩
 refine codeAny_call_function c.depth (j _ _ lk) rfl S.co S.gen rfl (PySem.W.codeRec_of j a0) (hb _ _ _ _ ?_);refine wpAny_newFunctionEnv_cells S.kind a1 λenv C l x=>?_;subst C;refine⟨L.keeps x.toInCall.keep,codeAny_func ?_⟩;obtain⟨t,D,F⟩:=G A outer s H vs Q E (c.deeper _) g;have I:AU (JH CX P w K mg base N qual scope f a A outer s H E) [] (start N vs) H l:=pV S c.hd e0 X r x;refine QR (D [] l (start N vs) H _ I F) (λfl s' hs=>?_) λe s' hs=>hs;have i:∀{σ':St} {H':Hp} {v:V} {u:A0},AU (JH CX P w K mg base N qual scope f a A outer s H E) [] σ' H' s'->At v u->Q v H'->CE outer P w H s Q u s':=
  λ{σ' H' v u} J d q=>⟨v,H',J.os,J.bare,J.base,J.hok,d,q⟩
 cases fl with
 |ret u=>
  obtain⟨v,σ',H',J,d,q⟩:=hs;exact i J d q
 |next=>
  obtain⟨σ',H',J,q⟩:=hs;exact i (v:=V.non) (u:=Value.none) J rfl q
 |brk=>
  obtain⟨_,_,_,q⟩:=hs;exact False.elim q
 |cont=>
  obtain⟨_,_,_,q⟩:=hs;exact False.elim q
end L2
namespace L2
section
variable{X:Cx}{p:Pos}{t:TA}{id T:String}{r:O V->Hp->VK->Prop}
def LX(r:O V->Hp->VK->Prop)(t:TA):TE:=λσ H Q=>t σ H λvs H1=>r vs H1 Q
theorem sJ(b:gj X (.builtin id) r)(hg:Gl X x)(a:X.mg x=Z)(f:AH x=U (.builtin id))(ha:PA X (e::es) t)(g:x ≠ "__name__":=by decide)(d:sa x:=by decide)
  (he:A9 (e::es) X.env=(false,eval e X.env)::A9 es X.env:=by rfl) (c:(AD pos (A9 es X.env)).any (·.1)=false:=by rfl):PE X (.Call (.Name x p) (e::es) [] pos) (LX r t):=by
 intro AN s σ H Q I h;refine wpAny_Call_Name_kw (Qj I hg a f ?_ g d);exact PyProof.Rows.callWith_builtin1 (jw (ha pos AN s σ H _ I h) λus s1 ⟨vs,H1,I1,r1,q1⟩=>b AN s1 σ H1 vs us Q I1 r1 q1) he c
theorem FW(b:gj X (.type T) r)(hg:Gl X x)(a:X.mg x=Z)(f:AH x=U (.type T))(ha:PA X (e::es) t)(g:x ≠ "__name__":=by decide)(d:sa x:=by decide)
  (he:A9 (e::es) X.env=(false,eval e X.env)::A9 es X.env:=by rfl) (c:(AD pos (A9 es X.env)).any (·.1)=false:=by rfl):PE X (.Call (.Name x p) (e::es) [] pos) (LX r t):=by
 intro AN s σ H Q I h;refine wpAny_Call_Name_kw (Qj I hg a f ?_ g d);exact PyProof.Rows.callWith_type1 (jw (ha pos AN s σ H _ I h) λus s1 ⟨vs,H1,I1,r1,q1⟩=>b AN s1 σ H1 vs us Q I1 r1 q1) he c
end
end L2
namespace HT
open PySem PyProof.Rows
section
open PySem.SeqAt
open PySem.AutoSeq1 (wpAny_loadPart')
open PySem.MeetsSeq PySem.MeetsSeq2 PySem.MeetsSeq3
end
theorem afM{t b:A1}{vs a:O A0}{Q:B7}(q:IsTup s.heap t vs.toArray)(hb:IsTup s.heap b a.toArray)(p:vs≠[])
  (h1:a=[]->Q (.ref t) s) (h2:a≠[]->Q (.ref s.heap.objs.size) { s with heap:=s.heap.push { cls:=.type "tuple",data:=.seq (vs++a).toArray } })
  (hsz:vs.length+a.length<=AA):A7 (A8 prog w) A (binaryOp .Add (.ref t) (.ref b)) Q E s:=by
 obtain⟨⟨cls,o,data,sl⟩,ho,i,n,m⟩:=id q;obtain⟨⟨cls2,h,u,l⟩,c,f,j,g⟩:=id hb;simp only at i m f g;subst i m f g;have e:vs.toArray++a.toArray=(vs++a).toArray:=by simp
 by_cases d:a=[]
 ·exact concat_meets ⟨_,ho,rfl⟩ ⟨_,c,rfl⟩ noFill_tuple_add seq_tuple_add PySem.F.slot_tuple_add YV (YE _ _)
   (tuple_addW1 t b vs.toArray a.toArray n j o h sl l (by simpa using p) (by simp[d])) ⟨ho,c,h1 d⟩
 ·refine concat_meets ⟨_,ho,rfl⟩ ⟨_,c,rfl⟩ noFill_tuple_add seq_tuple_add PySem.F.slot_tuple_add YV (YE _ _)
   (tuple_addW2 t b vs.toArray a.toArray n j o h sl l (by simpa using p) (by simpa using d) (by rw[zC,zC];exact hsz)) ⟨ho,c,?_⟩
  rw[e];exact h2 d
def jN(n d:Nat):Y Int->Nat
 |none=>d
 |some v=>if v<0 then(v+(n:Int)).toNat else min v.toNat n
theorem acj(n d:Nat):jN n d Z=d:=rfl
theorem afN(n d k:Nat):jN n d (U (k:Int))=min k n:=by
 show(if(k:Int)<0 then((k:Int)+(n:Int)).toNat else min (k:Int).toNat n)=min k n;rw[zz (),KW]
theorem e9(n d:Nat)(b:d<=n)(o:Y Int):jN n d o<=n:=by
 cases o with
 |none=>exact b
 |some v=>
  show(if v<0 then(v+(n:Int)).toNat else min v.toNat n)<=n;by_cases a:v<0
  ·rw[zl a];omega
  ·rw[zz a];exact Nat.min_le_right _ _
theorem YL(v:Int)(n d:Nat):(if v<0 then max (v+(n:Int)) 0 else min v (n:Int))=((jN n d (U v):Nat):Int):=by
 show(if v<0 then max (v+(n:Int)) 0 else min v (n:Int))=(((if v<0 then(v+(n:Int)).toNat else min v.toNat n):Nat):Int);by_cases a:v<0
 ·simp only[zl a];omega
 ·simp only[zz a];omega
theorem Ww(lo hi:Y Int)(n:Nat):Builtin.Slice.sliceAdjust lo hi 1 (n:Int)=(((jN n 0 lo:Nat):Int),((jN n n hi:Nat):Int)):=by
 have h1:¬ ((1:Int)<0):=by omega
 unfold Builtin.Slice.sliceAdjust;simp only[h1,ZY];refine gG ?_ ?_
 ·cases lo with
  |none=>rfl
  |some v=>exact YL v n 0
 ·cases hi with
  |none=>rfl
  |some v=>exact YL v n n
theorem Wx(i j:Nat):Builtin.Slice.slicePlaces (i:Int) (j:Int) 1=j-i:=by
 unfold Builtin.Slice.slicePlaces;have h1:(1:Int)>0:=by omega
 simp only[h1,qk,Int.ediv_one];split<;>omega
theorem fM{o:Y Int}{Q:Y Int->A2->Prop}(p:IsPart v o)(h:Q o s):A7 (A8 prog w) A (Builtin.Slice.slicePartIndex v) Q E s:=by
 cases p with
 |none=>exact slicePart_none h
 |int i t=>exact slicePart_int h
theorem vN{a c:A0}{Q:Int×Int×Nat->A2->Prop}(hs:s.heap.IsSliceOf sl a c .none)(pl:IsPart a lo)(e:IsPart c hi)(h:Q (((jN n 0 lo:Nat):Int),1,jN n n hi-jN n 0 lo) s):A7 (A8 prog w) A (Builtin.Slice.sliceApplied (.ref sl) (pure (n:Int))) Q E s:=by
 obtain⟨os,b,f,d⟩:=id hs;unfold Builtin.Slice.sliceApplied Builtin.Slice.sliceFields;refine zb (zb (kf b d (x:=a) S (zb (kf b d (x:=c) S (zb (kf b d (x:=.none) S (zd ?_)))))));refine zb (slicePart_none ?_);show A7 _ _ (if((1:Int)==0)=true then _ else _) _ _ s;rw[zz ()];refine zb (fM pl (zb (fM e (zb (zd ?_)))));show A7 _ _ (match Builtin.Slice.sliceAdjust lo hi 1 (n:Int)with|(lo,hi)=>pure (lo,(1:Int),Builtin.Slice.slicePlaces lo hi 1)) _ _ s;rw[Ww lo hi n];show A7 _ _ (pure (((jN n 0 lo:Nat):Int),(1:Int),Builtin.Slice.slicePlaces ((jN n 0 lo:Nat):Int) ((jN n n hi:Nat):Int) 1)) _ _ s;rw[Wx];exact zd h
theorem du(xs:Array A0)(i k:Nat):((cd k).filterMap λ(m:Nat)=>xs[((i:Int)+(m:Int)*1).toNat]?).toArray=((xs.toList.drop i).take k).toArray:=by
 have e:(λ(m:Nat)=>xs[((i:Int)+(m:Int)*1).toNat]?)=λm=>xs[i+m]?:=by
  funext m;have:((i:Int)+(m:Int)*1).toNat=i+m:=by omega
  rw[this]
 rw[e];have:=pick_run xs i k;rw[nH]at this;have e2:((λx=>xs[x]?) ∘ λx=>i+x)=λm=>xs[i+m]?:=rfl;rw[e2]at this;rw[this]
theorem Dd{t:A1}{c d:A0}{Q:B7}(a:IsTup s.heap t items)(hs:s.heap.IsSliceOf sl c d .none)(pl:IsPart c lo)(i:IsPart d hi)(j:¬ (jN items.size 0 lo=0/\jN items.size items.size hi=items.size))(h:Q (.ref s.heap.objs.size) { s with heap:=s.heap.push { cls:=.type "tuple",data:=.seq ((items.toList.drop (jN items.size 0 lo)).take (jN items.size items.size hi-jN items.size 0 lo)).toArray } })(hsz:items.size<=AA):A7 (A8 prog w) A (getItem (.ref t) (.ref sl)) Q E s:=by
 have b:sizeOk (.seq ((items.toList.drop (jN items.size 0 lo)).take (jN items.size items.size hi-jN items.size 0 lo)).toArray):=by
  show((items.toList.drop (jN items.size 0 lo)).take (jN items.size items.size hi-jN items.size 0 lo)).toArray.size<=AA;rw[zC,JP,QO,ZU];omega
 have n:jN items.size items.size hi<=items.size:=e9 _ _ (zi _) hi;obtain⟨os,l,f,o⟩:=id hs;have e:s.TypeIs (.ref sl) "slice":=⟨os,l,f⟩;unfold getItem
 try with_reducible refine qS ?_
 first|refine zb (zd ?_)|skip
 refine zb (KO a.typeIs () ?_);refine zb (JY (name:=Str.ofString "__getitem__") a.typeIs PyProof.Rows.slot_tuple_getitem
  (QU PyProof.Rows.slot_tuple_getitem a.typeIs entry_tuple_getitem ?_ (args_tuple_getitem _ _)))
 show A7 _ _ (Builtin.Tuple.tupleItemsOf (.ref t) >>= _) _ _ s;refine zb (tupleItemsOf_ a ?_);refine zb (Qb e ?_);rw[zl ()];refine zb (vN hs pl i ?_);have g:¬ ((((jN items.size 0 lo:Nat):Int)==0&&(1:Int)==1&&(jN items.size items.size hi-jN items.size 0 lo)==items.size)=true):=by
  intro q;rw[ZH,ZH]at q;have q1:((jN items.size 0 lo:Nat):Int)=0:=eq_of_beq q.1.1;have q2:jN items.size items.size hi-jN items.size 0 lo=items.size:=eq_of_beq q.2;exact j ⟨by omega,by omega⟩
 show A7 _ _ (if(((jN items.size 0 lo:Nat):Int)==0&&(1:Int)==1&&(jN items.size items.size hi-jN items.size 0 lo)==items.size)=true then _ else _) _ _ s;rw[zz g,du]
 first
  |exact zb (m:=Builtin.Tuple.tupleExact _) (ZZ (zd ⟨_,rfl,zd h⟩) b)
  |exact zb (m:=Builtin.Tuple.tupleExact _) (ZZ (zb (zd (zd ⟨_,rfl,zd h⟩))) b)
  |exact zb (zb (m:=Builtin.Tuple.tupleExact _) (ZZ (zd (zd ⟨_,rfl,zd h⟩)) b))
  |exact zb (zb (m:=Builtin.Tuple.tupleExact _) (ZZ (zd ⟨_,rfl,zd h⟩) b))
end HT
namespace L2
abbrev TO:=St->Hp->(Y Int->Hp->Prop)->Prop
def PO(X:Cx)(e:Y Expr)(t:TO):Prop:=
 ∀(AN:O (A1×AE)) (s:A2) (σ:St) (H:Hp) (Q:Y Int->Hp->Prop),AU X AN σ H s->t σ H Q →
  A7 (sg X) X.A (evalPart e X.env) (λu s'=>∃o H',AU X AN σ H' s'/\IsPart u o/\Q o H') X.xe s
def iL:TO:=λ_ H Q=>Q Z H
def iS(t:TE):TO:=λσ H Q=>t σ H λx H1=>∃i,x=.int i/\Q (U i) H1
theorem CD{a:O Int}:∀{us:O A0},AX (a.map V.int) us->IntsAre us a:=by
 induction a with
 |nil=>intro us r;rw[JJ]at r;cases r;exact .nil
 |cons n a d=>
  intro us r;rw[zt]at r;cases r with
  |cons b c=>
   obtain⟨t,e⟩:=b;subst e;exact .cons n t (d c)
section
variable{X:Cx}{te:TE}{lo hi:Y Expr}{tl th:TO}
theorem XX:PO X Z iL:=by
 intro AN s σ H Q I h;rw[evalPart_none];exact zd ⟨Z,H,I,.none,h⟩
theorem gz(h:PE X e te):PO X (U e) (iS te):=by
 intro AN s σ H Q I a;rw[evalPart_some];refine jw (h AN s σ H _ I a) λu s1 ⟨x,H1,I1,r1,q1⟩=>?_;obtain⟨i,rfl,q⟩:=q1;obtain⟨t,rfl⟩:=r1;exact⟨U i,H1,I1,.int i t,q⟩
def HQ(X:Cx)(r:V->Y Int->Y Int->Hp->VK->Prop):Prop:=
 ∀(AN:O (A1×AE)) (s:A2) (σ:St) (H:Hp) (x:V) (v b a:A0) (lo hi:Y Int) (sl:A1) (Q:VK),AU X AN σ H s->At x v->s.heap.IsSliceOf sl b a .none->IsPart b lo->IsPart a hi->r x lo hi H Q →
  ∃T id,typeLookup (.type T) "__getitem__"=pure (U (.builtin id))/\s.TypeIs v T/\A7 (sg X) X.A (getItem v (.ref sl)) (EP X AN σ Q) X.xe s
def si(r:V->Y Int->Y Int->Hp->VK->Prop)(te:TE)(tl th:TO):TE:=λσ H Q=>te σ H λx H1=>tl σ H1 λl H2=>th σ H2 λu a=>r x l u a Q
theorem vS{r:V->Y Int->Y Int->Hp->VK->Prop}(a:HQ X r)(he:PE X e te)(f:PO X lo tl)(d:PO X hi th):PE X (.Subscript e (.Slice lo hi Z p2) pos) (si r te tl th):=by
 intro AN s σ H Q I h;refine Subscript_ (jw (he AN s σ H _ I h) λv s1 ⟨x,H1,I1,r1,q1⟩=>?_);refine wpAny_Slice (jw (f AN s1 σ H1 _ I1 q1) λvl s2 ⟨l,H2,I2,pl,q2⟩=>jw (d AN s2 σ H2 _ I2 q2) λvu s3 ⟨u,H3,I3,pu,q3⟩=>?_);rw[evalPart_none];refine zd ?_;have i:AU X AN σ H3 { s3 with heap:=s3.heap.push { cls:=.type "slice",data:=.fields #[vl,vu,.none] } }:=I3.kept (t':=s3.toks) λb j q=>ze _ q;obtain⟨T,id,g,c,hg⟩:=a AN { s3 with heap:=s3.heap.push { cls:=.type "slice",data:=.fields #[vl,vu,.none] } } σ H3 x v vl vu l u s3.heap.objs.size Q i r1 (KG ..) pl pu q3;show A7 (sg X) X.A (subscriptTail e (.Slice lo hi Z p2) v (.ref s3.heap.objs.size)) (EP X AN σ Q) X.xe { s3 with heap:=s3.heap.push { cls:=.type "slice",data:=.fields #[vl,vu,.none] } };exact tail_any (ops:=[.ref s3.heap.objs.size,v]) c g hg (by with_unfolding_all rfl)
def SX(xs:O V)(lo hi:Y Int):O V:=(xs.drop (HT.jN xs.length 0 lo)).take (HT.jN xs.length xs.length hi-HT.jN xs.length 0 lo)
theorem Hg(xs:O V)(lo hi:Y Int):(SX xs lo hi).length<=xs.length:=by
 unfold SX;rw[JP,QO];omega
def SY(K:B1):V->Y Int->Y Int->Hp->VK->Prop:=λx lo hi H Q=>∃a xs,x=.ref a/\BR K H a xs ∧
 ¬ (HT.jN xs.length 0 lo=0/\HT.jN xs.length xs.length hi=xs.length)/\∀p,H p=Z->Q (.ref p) (B6 H p (.tup (SX xs lo hi)))
theorem XO:HQ X (SY X.K):=by
 intro AN s σ H x v j l lo hi sl Q I f hs pl g h;obtain⟨a,xs,rfl,hx,i,q⟩:=h;cases f;obtain⟨AQ,r,e,d⟩:=I.tuple hx;have c:AQ.toArray.size=xs.length:=by rw[zC];exact r.length.symm
 refine⟨"tuple", _,PyProof.Rows.slot_tuple_getitem.lookup,e.typeIs,?_⟩;refine HT.Dd e hs pl g (by rw[c];exact i) ?_ (by rw[c];exact d);rw[c];refine⟨.ref s.heap.objs.size,_,I.laid (t':=s.toks) (o:=.tup (SX xs lo hi)) (λb m q=>ze _ q) (zi _) ?_,rfl,q _ (I.hok.fresh (zi _))⟩;exact⟨ZI (Hg xs lo hi) d,_,(r.drop (HT.jN xs.length 0 lo)).take (HT.jN xs.length xs.length hi-HT.jN xs.length 0 lo),nJ.new _ _⟩
def cr(K:B1):R2:=λx y H Q=>∃a b xs ys,x=.ref a/\y=.ref b/\BR K H a xs/\BR K H b ys/\xs≠[]/\xs.length+ys.length<=AA ∧
 (ys=[]->Q (.ref a) H)/\(ys≠[]->∀p,H p=Z->Q (.ref p) (B6 H p (.tup (xs++ys))))
theorem AX.Jk{xs:O V}(r:AX xs us):us=[]↔xs=[]:=by
 cases r with
 |nil=>simp
 |cons _ _=>simp
theorem gl:Aa X (binaryOp .Add) (cr X.K):=by
 intro AN s σ H x y v u Q I f g h;obtain⟨a,b,xs,ys,rfl,rfl,ha,hb,hx,e,q1,q2⟩:=h;cases f;cases g;obtain⟨AQ,d,p1,_⟩:=I.tuple ha;obtain⟨i,c,p2,_⟩:=I.tuple hb;refine HT.afM p1 p2 (λz=>hx (d.Jk.mp z)) (λz=>⟨.ref a,H,I,rfl,q1 (c.Jk.mp z)⟩) (λz=>?_) (by rw[<-d.length,<-c.length];exact e);refine⟨.ref s.heap.objs.size,_,I.laid (t':=s.toks) (o:=.tup (xs++ys)) (λb j q=>ze _ q) (zi _) ?_,rfl,q2 (λw=>z (c.Jk.mpr w)) _ (I.hok.fresh (zi _))⟩;exact⟨by rw[z4];exact e,_,d.append c,nJ.new _ _⟩
end
end L2
namespace L2
def FB(n:Nat)(i:Int):Y Nat:=if 0<=i then(if i<n then U i.toNat else Z)else if -(n:Int)<=i then U (i+n).toNat else Z
def Mw(xs:O α)(i:Int):Y α:=(FB xs.length i).bind λj=>xs[j]?
theorem Sz{i:Int}(h:FB n i=U j):seqIndex? i n=U j/\j<n ∧ -(n:Int)<=i/\i<n:=by
 unfold FB at h;by_cases h0:0<=i
 ·rw[zl h0]at h;by_cases h1:i<n
  ·rw[zl h1]at h;have e:i.toNat=j:=j3 h;exact⟨by rw[seqIndex_of h0 h1,e],by omega,by omega,h1⟩
  ·rw[zz h1]at h;cases h
 ·rw[zz h0]at h;by_cases h1 : -(n:Int)<=i
  ·rw[zl h1]at h;have e:(i+n).toNat=j:=j3 h;exact⟨by rw[seqIndex_neg () h1,e],by omega,h1,by omega⟩
  ·rw[zz h1]at h;cases h
theorem Ql{xs:O α}{i:Int}{v:α}(h:Mw xs i=U v):∃j,seqIndex? i xs.length=U j/\xs[j]?=U v/\j<xs.length ∧ -(xs.length:Int)<=i/\i<xs.length:=by
 unfold Mw at h;cases e:FB xs.length i with
 |none=>rw[e]at h;cases h
 |some j=>
  rw[e]at h;obtain⟨h1,h2,b,a⟩:=Sz e;exact⟨j,h1,h,h2,b,a⟩
def YM(b:Expr):Prop:=∀o i,subscripted b false o i=operate [o,i] (getItem o i)
def E6(X:Cx)(r:R2):Prop:=
 ∀(value a:Expr) (AN:O (A1×AE)) (s:A2) (σ:St) (H:Hp) (x y:V) (v u:A0) (Q:VK),AU X AN σ H s->At x v->At y u->r x y H Q →
  subscripted a false v u=operate [v,u] (getItem v u)->A7 (sg X) X.A (subscriptTail value a v u) (EP X AN σ Q) X.xe s
def SO(X:Cx)(id:String)(r:V->O V->Hp->VK->Prop):Prop:=
 ∀(AN:O (A1×AE)) (s:A2) (σ:St) (H:Hp) (x:V) (xs:O V) (v:A0) (us:O A0) (Q:VK),AU X AN σ H s->At x v->AX xs us->r x xs H Q →
  A7 (sg X) X.A (call (.builtin id) (v::us)) (EP X AN σ Q) X.xe s
section
variable{X:Cx}{a b:Expr}{ta tb:TE}
theorem E6.or{r r':R2}(h:E6 X r)(h':E6 X r'):E6 X (λx y H Q=>r x y H Q\/r' x y H Q):=by
 intro value b AN s σ H x y v u Q I a c q hs;rcases q with q|q
 ·exact h value b AN s σ H x y v u Q I a c q hs
 ·exact h' value b AN s σ H x y v u Q I a c q hs
theorem bX{r:R2}(d:E6 X r)(ha:PE X a ta)(hb:PE X b tb)(hs:YM b):PE X (.Subscript a b pos) (HE r ta tb):=by
 intro AN s σ H Q I h;exact Subscript_ (K' ha hb I h λv u g x y H2 e c f q=>d a b AN g σ H2 x y v u Q e c f q (hs _ _))
def NG(K:B1):R2:=λx y H Q=>∃p xs i v,x=.ref p/\y=.int i/\yS K H p xs/\Mw xs i=U v/\Q v H
def RS(K:B1):R2:=λx y H Q=>∃p xs i v,x=.ref p/\y=.int i/\BR K H p xs/\Mw xs i=U v/\Q v H
def OG:R2:=λx y H Q=>∃z i c,x=.str z/\y=.int i/\z.length<=AA/\Mw z.cps.toList i=U c/\Q (.str ⟨#[c]⟩) H
theorem dP:E6 X (NG X.K):=by
 intro value C AN s σ H x y v u Q I d m h hs;obtain⟨p,xs,i,z,rfl,rfl,e,f,q⟩:=h;cases d;obtain⟨t,rfl⟩:=m;obtain⟨AQ,r,pl,A⟩:=I.list e;obtain⟨j,h1,h2,D,l,g⟩:=Ql f;obtain⟨w,c,o⟩:=r.get h2;have n:=r.length;have B:=FT;have b:EP X AN σ Q w s:=⟨z,H,I,o,q⟩;by_cases h0:0<=i
 ·have a:i.toNat=j:=by
   rw[seqIndex_of h0 g]at h1;exact j3 h1
  exact item_listR pl.isList h0 () (by rw[a];simpa using c) b hs
 ·have a:(i+(AQ.toArray.size:Int)).toNat=j:=by
   rw[seqIndex_neg () l]at h1;rw[zC,<-n];exact j3 h1
  exact subscriptTail_builtinR (x:=w) pl.isList.typeIs slot_list_getitem.lookup
   (wpAny_getItem_list_neg (Q:=λr s'=>r=w/\EP X AN σ Q r s') pl.isList () (by rw[zC]<;>omega) () (by rw[a];simpa using c) ⟨rfl,b⟩) hs
theorem sP:E6 X (RS X.K):=by
 intro value B AN s σ H x y v u Q I a e h hs;obtain⟨p,xs,i,z,rfl,rfl,b,c,q⟩:=h;cases a;obtain⟨t,rfl⟩:=e;obtain⟨AQ,r,pl,m⟩:=I.tuple b;obtain⟨j,h1,h2,C,o,n⟩:=Ql c;obtain⟨w,l,g⟩:=r.get h2;have f:=r.length;have A:=FT;have d:EP X AN σ Q w s:=⟨z,H,I,g,q⟩;exact subscriptTail_builtinR (x:=w) pl.typeIs slot_tuple_getitem.lookup
  (getItem_tuple (j:=j) (Q:=λr s'=>r=w/\EP X AN σ Q r s') pl () () (by rw[zC,<-f];exact h1) (by simpa using l) ⟨rfl,d⟩) hs
theorem bE:E6 X OG:=by
 intro value n AN s σ H x y v u Q I a f h hs;obtain⟨z,i,c,rfl,rfl,l,b,q⟩:=h;obtain⟨t,rfl⟩:=a;obtain⟨o,rfl⟩:=f;obtain⟨j,h1,h2,p,e,d⟩:=Ql b;have g:z.cps.toList.length=z.length:=by simp[Str.length]
 rw[g]at h1 e d;have m:=FT;exact tail_any (typeIs_str s z t) slot_str_getitem.lookup (getItem_str (c:=c) (by
  have e1:decide (i < -(2 ^ 63:Int))=false:=ZA ();have e2:decide (i>=2 ^ 63)=false:=ZA ();rw[e1,e2,m9]) (by rw[h1];simpa using h2) ⟨.str ⟨#[c]⟩,H,I.tok _,⟨_,rfl⟩,q⟩) hs
def ro(K:B1):R2:=λx y H Q=>NG K x y H Q\/RS K x y H Q\/OG x y H Q
theorem UR:E6 X (ro X.K):=dP.or (sP.or bE)
theorem AU.lst{σ:St}{H:Hp}{p:A1}{xs:O V}(I:AU X AN σ H s)(h:H p=U (.lst xs)):
  ∃(AQ:O A0) (n:Nat),AX xs AQ/\s.heap.get? p=U { cls:=.type "list",data:=.seq AQ.toArray n }/\xs.length<=AA:=by
 obtain⟨z,AQ,n,r,e⟩:=I.hok p _ h;exact⟨AQ,n,r,e,z⟩
theorem Qm(lo hi:Y Int)(n:Nat):(sliceBounds lo hi Z n).1=((HT.jN n 0 lo:Nat):Int)/\(sliceBounds lo hi Z n).2.1=((HT.jN n n hi:Nat):Int)/\(sliceBounds lo hi Z n).2.2=1:=by
 refine⟨?_,?_,rfl⟩
 ·cases lo with
  |none=>simp[sliceBounds,HT.jN]
  |some i=>
   simp only[sliceBounds,HT.jN,pC,show(1:Int)>0 by decide,qk];by_cases h:i<0
   ·simp only[h,qk]<;>omega
   ·simp only[h,ZY]<;>omega
 ·cases hi with
  |none=>simp[sliceBounds,HT.jN]
  |some i=>
   simp only[sliceBounds,HT.jN,pC,show(1:Int)>0 by decide,qk];by_cases h:i<0
   ·simp only[h,qk]<;>omega
   ·simp only[h,ZY]<;>omega
theorem Mx(AQ:O A0)(lo hi:Y Int):slicePick AQ.toArray lo hi Z=((AQ.drop (HT.jN AQ.length 0 lo)).take (HT.jN AQ.length AQ.length hi-HT.jN AQ.length 0 lo)).toArray:=by
 obtain⟨h1,h2,a⟩:=Qm lo hi AQ.toArray.size;unfold slicePick;rw[h1,h2,a];simp only[sliceRange_one,pick_run,zC]<;>rfl
def VY(K:B1):V->Y Int->Y Int->Hp->VK->Prop:=λx lo hi H Q=>∃a xs,x=.ref a/\yS K H a xs/\∀p,H p=Z->Q (.ref p) (B6 H p (.lst (SX xs lo hi)))
theorem WS:HQ X (VY X.K):=by
 intro AN s σ H x v i j lo hi sl Q I e hs pl g h;obtain⟨a,xs,rfl,hx,q⟩:=h;cases e;obtain⟨AQ,r,c,d⟩:=I.list hx;have f:=r.length;refine⟨"list", _,slot_list_getitem.lookup,c.isList.typeIs,?_⟩;refine wpAny_getItem_list_slice c.isList hs pl g .none (by simp) ?_ (by rw[zC]<;>omega);rw[Mx,<-f];refine⟨.ref s.heap.objs.size,_,I.laid (t':=s.toks) (o:=.lst (SX xs lo hi)) (λb l q=>ze _ q) (zi _) ?_,rfl,q _ (I.hok.fresh (zi _))⟩;exact⟨ZI (Hg xs lo hi) d,_,0,(r.drop (HT.jN xs.length 0 lo)).take (HT.jN xs.length xs.length hi-HT.jN xs.length 0 lo),zw _ rfl⟩
def yx:V->Bool
 |.non=>true
 |.bl _=>true
 |.int _=>true
 |.str _=>true
 |_=>false
def DZ:V->V->Bool
 |.non,.non=>true
 |.bl a,.bl b=>a==b
 |.bl a,.int b=>(if a then 1 else 0)==b
 |.int a,.bl b=>a==(if b then 1 else 0)
 |.int a,.int b=>a==b
 |.str a,.str b=>a==b
 |_,_=>false
theorem T1{y x:V}(e:At y u)(c:At x v)(fy:yx y=true)(fx:yx x=true):SeqAt.EqAt A s u v (DZ y x):=by
 cases y with
 |non=>
  cases e;cases x with
  |non=>cases c;exact SeqAt.EqAt.same _
  |bl b=>cases c;exact SeqAt.EqAt.none_bool b
  |int b=>obtain⟨t,rfl⟩:=c;exact SeqAt.EqAt.none_int b t
  |str b=>obtain⟨t,rfl⟩:=c;exact SeqAt.EqAt.none_str b t
  |_=>exact absurd (show false=true from fx) ZT
 |bl a=>
  cases e;cases x with
  |non=>cases c;exact SeqAt.EqAt.bool_none a
  |bl b=>cases c;exact SeqAt.EqAt.bool_bool a b
  |int b=>obtain⟨t,rfl⟩:=c;exact SeqAt.EqAt.bool_int a b t
  |str b=>obtain⟨t,rfl⟩:=c;exact SeqAt.EqAt.bool_str a b t
  |_=>exact absurd (show false=true from fx) ZT
 |int a=>
  obtain⟨d,rfl⟩:=e;cases x with
  |non=>cases c;exact SeqAt.EqAt.int_none a d
  |bl b=>cases c;exact SeqAt.EqAt.int_bool a d b
  |int b=>obtain⟨t,rfl⟩:=c;exact SeqAt.EqAt.int_int a d b t
  |str b=>obtain⟨t,rfl⟩:=c;exact SeqAt.EqAt.int_str a d b t
  |_=>exact absurd (show false=true from fx) ZT
 |str a=>
  obtain⟨d,rfl⟩:=e;cases x with
  |non=>cases c;exact SeqAt.EqAt.str_none a d
  |bl b=>cases c;exact SeqAt.EqAt.str_bool a d b
  |int b=>obtain⟨t,rfl⟩:=c;exact SeqAt.EqAt.str_int a d b t
  |str b=>obtain⟨t,rfl⟩:=c;exact SeqAt.EqAt.str_str a d b t
  |_=>exact absurd (show false=true from fx) ZT
 |_=>exact absurd (show false=true from fy) ZT
def Wy(x:V)(u:A0):Bool:=match u with
 |.none=>DZ .non x
 |.bool b=>DZ (.bl b) x
 |.int i _=>DZ (.int i) x
 |.str z _=>DZ (.str z) x
 |_=>false
theorem OE{x y:V}(r:At y u)(f:yx y=true):Wy x u=DZ y x:=by
 cases y with
 |non=>cases r;rfl
 |bl b=>cases r;rfl
 |int i=>obtain⟨t,rfl⟩:=r;rfl
 |str z=>obtain⟨t,rfl⟩:=r;rfl
 |_=>exact absurd (show false=true from f) ZT
theorem Dg{x:V}:∀{xs:O V} {us:O A0},AX xs us->xs.all yx=true->us.any (Wy x)=xs.any λy=>DZ y x
 |_,_,.nil,_=>rfl
 |y::xs,u::us,.cons r t,f=>by
  rw[k6,ZH]at f;rw[kC,kC,OE r f.1,Dg t f.2]
theorem yZ{A:A5}{s:A2}{x:V}{v:A0}(b:At x v)(fx:yx x=true):∀{xs:O V} {us:O A0},AX xs us->xs.all yx=true->∀u∈us,SeqAt.EqAt A s u v (Wy x u)
 |_,_,.nil,_=>λu a=>by cases a
 |y::xs,u::us,.cons r t,f=>λc a=>by
  rw[k6,ZH]at f;rcases List.mem_cons.mp a with rfl|a
  ·rw[OE r f.1];exact T1 r b f.1 fx
  ·exact yZ b fx t f.2 c a
def HL(x:V)(xs:O V):Bool:=xs.any λy=>DZ y x
def NJ(K:B1)(a:Bool):R2:=λx y H Q=>∃p xs,y=.ref p/\(yS K H p xs\/BR K H p xs)/\yx x=true/\xs.all yx=true/\Q (.bl (if a then !HL x xs else HL x xs)) H
theorem lh:Aa X (AG .In) (NJ X.K false):=by
 intro AN s σ H x y v u Q I c e h;obtain⟨p,xs,rfl,a,fx,fs,q⟩:=h;cases e;rcases a with a|a
 ·obtain⟨AQ,r,pl,d⟩:=I.list a;refine SeqAt.in_listAt (Wy x) pl.isList (λw b=>yZ c fx r fs w (by simpa using b)) ⟨.bl _,H,I,rfl,?_⟩;rw[show AQ.toArray.any (Wy x)=AQ.any (Wy x) by simp,Dg r fs];exact q
 ·obtain⟨AQ,r,pl,d⟩:=I.tuple a;refine SeqAt.in_tupleAt (Wy x) pl (λw b=>yZ c fx r fs w (by simpa using b)) ⟨.bl _,H,I,rfl,?_⟩;rw[show AQ.toArray.any (Wy x)=AQ.any (Wy x) by simp,Dg r fs];exact q
theorem Qn:Aa X (AG .NotIn) (NJ X.K true):=by
 intro AN s σ H x y v u Q I c e h;obtain⟨p,xs,rfl,a,fx,fs,q⟩:=h;cases e;rcases a with a|a
 ·obtain⟨AQ,r,pl,d⟩:=I.list a;refine SeqAt.notIn_listAt (Wy x) pl.isList (λw b=>yZ c fx r fs w (by simpa using b)) ⟨.bl _,H,I,rfl,?_⟩;rw[show AQ.toArray.any (Wy x)=AQ.any (Wy x) by simp,Dg r fs];exact q
 ·obtain⟨AQ,r,pl,d⟩:=I.tuple a;refine SeqAt.notIn_tupleAt (Wy x) pl (λw b=>yZ c fx r fs w (by simpa using b)) ⟨.bl _,H,I,rfl,?_⟩;rw[show AQ.toArray.any (Wy x)=AQ.any (Wy x) by simp,Dg r fs];exact q
theorem Qo:Aa X (AG .NotIn) (λx y H Q=>∃i j,x=.str i/\y=.str j/\Q (.bl (!(!(Builtin.Str.occurrences j i 0 j.length 1).isEmpty))) H):=by
 intro AN s σ H x y v u Q I a b h;obtain⟨i,j,rfl,rfl,q⟩:=h;obtain⟨t,rfl⟩:=a;obtain⟨c,rfl⟩:=b;exact notIn_str ⟨.bl _,H,I,rfl,q⟩
theorem Qp:gj X (.builtin "len") (λxs H Q=>∃p ys,xs=[.ref p]/\(yS X.K H p ys\/BR X.K H p ys)/\Q (.int ys.length) H):=by
 intro AN s σ H xs us Q I r h;obtain⟨p,ys,rfl,a,q⟩:=h;obtain⟨u,rfl,e⟩:=BB r;cases e;have f:=FT;rcases a with a|a
 ·obtain⟨AQ,c,pl,d⟩:=I.list a;have b:=c.length;exact Calls.call_len_list pl.isList (by simp only[zC]<;>omega) ⟨.int ys.length,H,I.tok _,⟨s.toks+1,by rw[zC,b]⟩,q⟩
 ·obtain⟨AQ,c,pl,d⟩:=I.tuple a;have b:=c.length;exact len_tuple pl (by simp only[zC]<;>omega) ⟨.int ys.length,H,I.tok _,⟨s.toks+1,by rw[zC,b]⟩,q⟩
theorem Qq:gj X (.builtin "len") (λxs H Q=>∃z,xs=[.str z]/\z.length<=AA/\Q (.int z.length) H):=by
 intro AN s σ H xs us Q I r h;obtain⟨z,rfl,a,q⟩:=h;obtain⟨u,rfl,t,rfl⟩:=BB r;have b:=FT;exact len_str () ⟨.int z.length,H,I.tok _,⟨_,rfl⟩,q⟩
theorem gj.or{f:A0}{r r':O V->Hp->VK->Prop}(h:gj X f r)(h':gj X f r'):gj X f (λxs H Q=>r xs H Q\/r' xs H Q):=by
 intro AN s σ H xs us Q I rs q;rcases q with q|q
 ·exact h AN s σ H xs us Q I rs q
 ·exact h' AN s σ H xs us Q I rs q
theorem Mz:gj X (.type "tuple") (λxs H Q=>∃p ys,xs=[.ref p]/\((yS X.K H p ys/\∀l,H l=Z->Q (.ref l) (B6 H l (.tup ys)))\/(BR X.K H p ys/\Q (.ref p) H))):=by
 intro AN s σ H xs us Q I r h;obtain⟨p,ys,rfl,h⟩:=h;obtain⟨u,rfl,g⟩:=BB r;cases g;rcases h with⟨a,q⟩|⟨a,q⟩
 ·obtain⟨AQ,c,pl,d⟩:=I.list a;have j:=c.length;refine call_tuple_list pl.isList (λh' kp=>?_) (by simp only[zC]<;>omega);have f:AU X AN σ H { s with heap:=h' }:=I.kept (t':=s.toks) kp;have i:AU X AN σ (B6 H h'.objs.size (.tup ys)) { s with heap:=h'.push { cls:=.type "tuple",data:=.seq AQ.toArray } }:=
   f.laid (t':=s.toks) (λb o e=>ze _ e) (zi _) (show ju X.prog X.w _ _ _ (.tup ys) from⟨d,AQ,c,nJ.new _ _⟩)
  exact⟨.ref h'.objs.size,_,i,rfl,q _ (f.hok.fresh (zi _))⟩
 ·obtain⟨AQ,c,pl,d⟩:=I.tuple a;exact call_tuple_same pl ⟨.ref p,H,I,rfl,q⟩
def RO(K:B1)(T:String)(x:V)(H:Hp):Prop:=match x with
 |.str _=>T ="str"
 |.int _=>T ="int"
 |.ref p=>(T ="list" ∧ ∃xs,yS K H p xs)\/(T ="tuple" ∧ ∃o,K.lookup p=U o/\o.cls=.type "tuple" ∧ o.dict=Z) ∨
   (T ="dict" ∧ ((∃AO,H p=U (.dK AO))\/∃AO,H p=U (.dT AO)))\/(T ="set" ∧ ∃S n,H p=U (.set S n))
 |_=>False
theorem oI{σ:St}{H:Hp}{T:String}{x:V}(I:AU X AN σ H s)(r:At x v)(ty:RO X.K T x H):
  s.TypeIs v T/\∀a,v=.ref a->∃f,s.heap.get? a=U f/\f.dict=Z:=by
 cases x with
 |str z=>
  obtain⟨t,rfl⟩:=r;cases(show T ="str" from ty);exact⟨typeIs_str s z t,λ_ e=>nomatch e⟩
 |int i=>
  obtain⟨t,rfl⟩:=r;cases(show T ="int" from ty);exact⟨typeIs_int s i t,λ_ e=>nomatch e⟩
 |ref p=>
  cases r;rcases ty with⟨rfl,xs,g⟩|⟨rfl,o,b,h,d⟩|⟨rfl,b⟩|⟨rfl,S,n,b⟩
  ·obtain⟨AQ,_,pl,_⟩:=I.list g;refine⟨pl.isList.typeIs,λa e=>?_⟩;cases e;obtain⟨o,n,e,c,d,_⟩:=pl;exact⟨o,e,d⟩
  ·refine⟨⟨o,I.kIn p o b,h⟩,λa e=>?_⟩;cases e;exact⟨o,I.kIn _ o b,d⟩
  ·have z:∃o,s.heap.get? p=U o/\o.ExactDict:=by
    rcases b with⟨AO,b⟩|⟨AO,b⟩
    ·obtain⟨_,_,_,_,o,_,_,e,ex,_⟩:=I.hok p _ b;exact⟨o,e,ex⟩
    ·obtain⟨_,_,_,_,o,_,_,e,ex,_⟩:=I.hok p _ b;exact⟨o,e,ex⟩
   obtain⟨o,e,ex⟩:=z;refine⟨⟨o,e,ex.1⟩,λa e2=>?_⟩;cases e2;exact⟨o,e,ex.2.1⟩
  ·obtain⟨o,_,_,_,e,ex,_⟩:=I.hok p _ b;refine⟨⟨o,e,ex.1⟩,λa e2=>?_⟩;cases e2;exact⟨o,e,ex.2.1⟩
 |_=>exact False.elim ty
def b7(K:B1)(T:String)(r:V->O V->Hp->VK->Prop)(to:TE)(t:TA):TE:=λσ H Q=>to σ H λx H1=>RO K T x H1/\t σ H1 λxs H2=>r x xs H2 Q
variable{o:Expr}{to:TE}{t:TA}{T id:String}{r:V->O V->Hp->VK->Prop}
theorem L5(pa:PlainAttrs T)(slot:Slot T name id)(f:typeOf (.builtin id)=pure (.type "method_descriptor"))(d:SO X id r)(ho:PE X o to)(ha:PA X (e::es) t)
  (b:attributeBase o name X.env (eval o X.env)=eval o X.env:=by rfl)
  (c:((AD cpos (A9 (e::es) X.env)).all (λx=>!x.1)&&(backToKw cpos (keywordEach [] X.env)).all (λx=>x.1.isSome)
   && decide ((e::es).length+([]:O AC).length+(if([]:O AC).isEmpty then 0 else 1)<30))=true:=by rfl)
  (i:(apos.endLine==cpos.line)=true:=by rfl) (hs:A9 (e::es) X.env=(false,eval e X.env)::A9 es X.env:=by rfl) (g:(AD cpos (A9 es X.env)).any (·.1)=false:=by rfl):
  PE X (.Call (.Attribute o name apos) (e::es) [] cpos) (b7 X.K T r to t):=by
 intro AN s σ H Q I h;refine wpAny_Call_method_late b c i S (jw (ho AN s σ H _ I h) λv s1 ⟨x,H1,I1,r1,ty,q1⟩=>?_);obtain⟨h1,h2⟩:=oI I1 r1 ty;refine⟨T,id,pa,slot,f,h1,h2,?_⟩;have a:=ha cpos AN s1 σ H1 _ I1 q1;rw[hs]at a ⊢;refine Calls.callWith_builtin (by show(false||(AD cpos (A9 es X.env)).any (·.1))=false;rw[g]<;>rfl) (Calls.evalArgs_plain ?_);exact jw a λus s2 ⟨vs,H2,I2,r2,q2⟩=>d AN s2 σ H2 x vs v us Q I2 r1 r2 q2
end
end L2
namespace L2
def ND(X:Cx)(id:String)(r:V->O V->Hp->VK->Prop):Prop:=
 ∀(AN:O (A1×AE)) (s:A2) (σ:St) (H:Hp) (x:V) (xs:O V) (v:A0) (us:O A0) (Q:VK),AU X AN σ H s->At x v->AX xs us->r x xs H Q →
  A7 (sg X) X.A (call (.builtin id) (v::us)) (EP X AN σ Q) X.xe s
theorem AX.one:∀{x:V} {us:O A0},AX [x] us->∃u,us=[u]/\At x u:=λh=>by
 cases h with
 |cons r t=>cases t;exact⟨_,rfl,r⟩
theorem AX.two:∀{x y:V} {us:O A0},AX [x,y] us->∃u v,us=[u,v]/\At x u/\At y v:=λh=>by
 cases h with
 |cons r t=>
  cases t with
  |cons q t=>cases t;exact⟨_,_,rfl,r,q⟩
theorem AX.eraseIdx:∀{xs:O V} {us:O A0} (i:Nat),AX xs us->AX (xs.eraseIdx i) (us.eraseIdx i)
 |_,_,_,.nil=>.nil
 |_,_,0,.cons _ t=>t
 |_,_,i+1,.cons r t=>.cons r (AX.eraseIdx i t)
theorem AX.reverse{xs:O V}(h:AX xs us):AX xs.reverse us.reverse:=by
 induction h with
 |nil=>exact .nil
 |cons r t a=>rw[Kb,Kb];exact AX.append a (.cons r .nil)
theorem Og{α:Type}:∀(l:O α) (i:Nat),(l.eraseIdx i).length<=l.length
 |[],_=>zi _
 |_::_,0=>Kj _
 |_::r,i+1=>YO (Og r i)
section
variable{X:Cx}{σ:St}{H:Hp}{l b:A1}{xs ys zs:O V}
theorem AU.acr{its':O A0}{f:Array A0->Array A0}{t':Nat}(I:AU X AN σ H s)(b:H l=U (.lst xs))(e:s.heap.get? l=U { cls:=.type "list",data:=.seq AQ.toArray n })(g:f AQ.toArray=its'.toArray)(c:AX ys its')(a:ys.length<=AA):
  AU X AN σ (B6 H l (.lst ys)) { s with heap:=s.heap.update l (Obj.mapSeq f),toks:=t' }:=by
 have q:=PySem.IsL.update e f;rw[g]at q;refine I.write (x:=l) (e:=l) (by rw[b];exact trivial) (.inl S) (λh u hb d=>(k4 s.heap (Obj.mapSeq f) (y8 hb)).trans d) ⟨_,q⟩ ?_;exact⟨a,its',_,c,q⟩
theorem AU.alB(I:AU X AN σ H s)(a:H l=U (.lst xs)):xs.length<=AA/\∃(AQ:O A0) (n:Nat),AX xs AQ/\xs.length=AQ.length/\s.heap.get? l=U { cls:=.type "list",data:=.seq AQ.toArray n }:=by
 obtain⟨z,AQ,n,r,e⟩:=I.hok l _ a;exact⟨z,AQ,n,r,r.length,e⟩
end
section
variable{X:Cx}
def WA:V->O V->Hp->VK->Prop:=λx vs H Q=>∃l xs y,x=.ref l/\vs=[y]/\H l=U (.lst xs)/\xs.length<AA/\Q .non (B6 H l (.lst (xs++[y])))
theorem Oh:ND X "list.append" WA:=by
 intro AN s σ H x vs v us Q I b c h;obtain⟨l,xs,y,rfl,rfl,a,f,q⟩:=h;cases b;obtain⟨u,rfl,d⟩:=c.one;obtain⟨z,AQ,n,r,g,e⟩:=I.alB a;refine call_meets F.slot_list_append ⟨_,e,rfl⟩ F.entry_list_append (F.args_list_append_2 _ _) (PySem.list_append l AQ.toArray n u (by rw[zC];omega)) ⟨e,?_⟩;refine⟨.non,_,I.acr (its':=AQ++[u]) a e (by simp) (r.append (.cons d .nil)) ?_,rfl,q⟩;rw[z4,lz];omega
def mM:V->O V->Hp->VK->Prop:=λx vs H Q=>∃l xs i k y,x=.ref l/\vs=[.int i]/\H l=U (.lst xs) ∧ -(2 ^ 63)<=i/\i<2 ^ 63/\seqIndex? i xs.length=U k/\xs[k]?=U y/\Q y (B6 H l (.lst (xs.eraseIdx k)))
theorem UY:ND X "list.pop" mM:=by
 intro AN s σ H x vs v us Q I b c h;obtain⟨l,xs,i,k,y,rfl,rfl,a,h1,h2,o,g,q⟩:=h;cases b;obtain⟨u,rfl,d⟩:=c.one;obtain⟨t,rfl⟩:=d;obtain⟨z,AQ,n,r,f,e⟩:=I.alB a;obtain⟨w,j,m⟩:=r.get g;refine call_meets F.slot_list_pop ⟨_,e,rfl⟩ F.entry_list_pop (F.args_list_pop_2 _ _)
  (MeetsSeq.list_pop_at l AQ.toArray n i t k w (fitsIndex_both h1 h2) (by rw[zC,<-f];exact o) (by rw[<-qh];exact j) (by rw[zC];omega)) ⟨e,?_⟩
 refine⟨y,_,I.acr (its':=AQ.eraseIdx k) a e ?_ (r.eraseIdx k) ?_,m,q⟩
 ·show AQ.toArray.eraseIdxIfInBounds k=(AQ.eraseIdx k).toArray;rw[List.eraseIdxIfInBounds_toArray]
 ·have:=Og xs k;omega
end
section
variable{X:Cx}
end
end L2
namespace L2
section
variable [DecidableEq κ]
def FZ(AO:O (κ×V))(k:κ):Y V:=(AO.find? λa=>decide (a.1=k)).map (·.2)
def BG(AO:O (κ×V))(k:κ)(v:V):O (κ×V):=
 if(AO.any λa=>decide (a.1=k))=true then AO.map (λa=>if a.1=k then(a.1,v)else a)else AO++[(k,v)]
theorem Dh{p:κ×V}{r:O (κ×V)}{k:κ}(e:p.1=k):FZ (p::r) k=U p.2:=by simp[FZ,ky,e]
theorem Di{p:κ×V}{r:O (κ×V)}{k:κ}(e:¬ p.1=k):FZ (p::r) k=FZ r k:=by simp[FZ,ky,e]
theorem S5(k:κ):∀AO:O (κ×V),(AO.any λa=>decide (a.1=k))=(FZ AO k).isSome
 |[]=>rfl
 |p::r=>by
  rw[kC];by_cases e:p.1=k
  ·simp only[Dh e,Zl e,Bool.true_or,y0]
  ·rw[Di e,ZA e,hO];exact S5 k r
theorem qd(AO:O (κ×V))(k:κ)(v:V):(BG AO k v).length<=AO.length+1:=by
 unfold BG;split
 ·rw[zk];omega
 ·rw[z4,ZE,j0];omega
theorem JD.Ga{o:Y V}{u:Y A0}(r:JD o u):o.isSome=u.isSome:=by
 cases o with
 |none=>cases u with
  |none=>rfl
  |some _=>exact(show False from r).elim
 |some _=>cases u with
  |none=>exact(show False from r).elim
  |some _=>rfl
theorem KV.val{AO:O (κ×V)}{vs:O (κ×A0)}(r:KV AO vs)(k:κ):JD (FZ AO k) (valueAt vs k):=by
 unfold KV at r
 induction r with
 |nil=>exact True.intro
 |@cons p q ps a h t c=>
  obtain⟨h1,h2⟩:=h;by_cases e:p.1=k
  ·have e':q.1=k:=h1.symm.trans e;have b:valueAt (q::a) k=U q.2:=by simp[valueAt,ky,e']
   rw[Dh e,b];exact h2
  ·have e':¬ q.1=k:=λz=>e (h1.trans z);have b:valueAt (q::a) k=valueAt a k:=by simp[valueAt,ky,e']
   rw[Di e,b];exact c
theorem KV.any{AO:O (κ×V)}{vs:O (κ×A0)}(r:KV AO vs)(k:κ):(AO.any λa=>decide (a.1=k))=vs.any λa=>decide (a.1=k):=by
 unfold KV at r
 induction r with
 |nil=>rfl
 |cons h t b=>rw[kC,kC,b,h.1]
theorem KV.repl{AO:O (κ×V)}{vs:O (κ×A0)}(r:KV AO vs)(k:κ){y:V}(c:At y u):
  KV (AO.map λa=>if a.1=k then(a.1,y)else a) (vs.map λa=>if a.1=k then(a.1,u)else a):=by
 unfold KV at r ⊢
 induction r with
 |nil=>exact .nil
 |@cons p q ps d h t b=>
  rw[zt,zt];refine .cons ?_ b;obtain⟨h1,h2⟩:=h;by_cases e:p.1=k
  ·rw[zl e,zl (h1.symm.trans e)];exact⟨h1,c⟩
  ·rw[zz e,zz (λz=>e (h1.trans z))];exact⟨h1,h2⟩
theorem KV.put{AO:O (κ×V)}{vs:O (κ×A0)}(r:KV AO vs)(k:κ){y:V}(a:At y u):KV (BG AO k y) (stored vs k u):=by
 unfold BG stored;rw[r.any k];by_cases e:(vs.any λb=>decide (b.1=k))=true
 ·rw[zl e,zl e];exact r.repl k a
 ·rw[zz e,zz e];exact Paired.snoc r ⟨rfl,a⟩
theorem KV.length{AO:O (κ×V)}{vs:O (κ×A0)}(r:KV AO vs):AO.length=vs.length:=Paired.length r
end
theorem JK{k:AY}(r:At (kV k) u):(bG P w).is k u=true:=by
 cases k with
 |inl i=>obtain⟨t,e⟩:=(show ∃t,u=Value.int i t from r);subst e;exact Sy P w i t
 |inr x=>obtain⟨t,e⟩:=(show ∃t,u=Value.str x t from r);subst e;exact SJ P w x t
theorem Oi{P:A3}{w:A4}:∀{ks:O AY} {us:O A0},AX (ks.map kV) us->ItemsAre (bG P w) ks us
 |[],_,r=>by rw[JJ]at r;cases r;exact .nil
 |k::ks,_,r=>by
  rw[zt]at r;cases r with
  |cons h t=>exact .cons (JK h) (Oi t)
abbrev KT(H:Hp):O (O AY×V)->O (O AY×A1×A0)->Prop:=AI λp q=>p.1=q.1/\H q.2.1=U (.tup (p.1.map kV))/\At p.2 q.2.2
theorem KT.val{H:Hp}{AO:O (O AY×V)}{xs:O (O AY×A1×A0)}(r:KT H AO xs)(k:O AY):JD (FZ AO k) ((atKey xs k).map (·.2)):=by
 induction r with
 |nil=>exact True.intro
 |@cons p q ps a h t c=>
  obtain⟨h1,_,h2⟩:=h;by_cases e:p.1=k
  ·have e':q.1=k:=h1.symm.trans e;have b:atKey (q::a) k=U q.2:=by simp[atKey,ky,e']
   rw[Dh e,b];exact h2
  ·have e':¬ q.1=k:=λz=>e (h1.trans z);have b:atKey (q::a) k=atKey a k:=by simp[atKey,ky,e']
   rw[Di e,b];exact c
theorem KT.repl{H:Hp}{AO:O (O AY×V)}{xs:O (O AY×A1×A0)}(r:KT H AO xs)(k:O AY){y:V}(b:At y u):
  KT H (AO.map λa=>if a.1=k then(a.1,y)else a) (xs.map (putAt k u)):=by
 induction r with
 |nil=>exact .nil
 |@cons p q ps f h t c=>
  rw[zt,zt];refine .cons ?_ c;obtain⟨h1,h2,d⟩:=h;unfold putAt;by_cases e:p.1=k
  ·rw[zl e,zl (h1.symm.trans e)];exact⟨h1,h2,b⟩
  ·rw[zz e,zz (λz=>e (h1.trans z))];exact⟨h1,h2,d⟩
theorem KT.put{H:Hp}{AO:O (O AY×V)}{xs:O (O AY×A1×A0)}(r:KT H AO xs)(k:O AY){b:A1}{y:V}(hb:H b=U (.tup (k.map kV)))(a:At y u):
  KT H (BG AO k y) (storedH xs k b u):=by
 have e:(AO.any λc=>decide (c.1=k))=(atKey xs k).isSome:=by
  rw[S5,(r.val k).Ga,h6]
 unfold BG storedH;rw[e];by_cases q:(atKey xs k).isSome=true
 ·rw[zl q,zl q];exact r.repl k a
 ·rw[zz q,zz q];exact Paired.snoc r ⟨rfl,hb,a⟩
theorem KT.keeps{H H':Hp}{AO:O (O AY×V)}{xs:O (O AY×A1×A0)}(r:KT H AO xs)(a:∀b ys,H b=U (.tup ys)->H' b=U (.tup ys)):KT H' AO xs:=
 Paired.afy r λ_ _ z=>⟨z.1,a _ _ z.2.1,z.2.2⟩
section
variable{H:Hp}
theorem No{u:HO}(ok:CV P w H h)(e:Rd H a u):ju P w H h a u:=e.ok ok
theorem yC{AO:O (AY×V)}(ok:CV P w H h)(e:Rd H a (.dK AO)):AO.length<=AA/\(a==sysModules)=false/\∃vs,KV AO vs/\h.DictOf (bG P w) a vs:=
 show ju P w H h a (.dK AO) from No ok e
theorem Lm{AO:O (AY×V)}(ok:CV P w H h)(e:H a=U (.dK AO)):AO.length<=AA/\(a==sysModules)=false/\∃vs,KV AO vs/\h.DictOf (bG P w) a vs:=yC ok (.inl e)
theorem Qs{ks:O AY}(ok:CV P w H h)(e:H a=U (.tup (ks.map kV))):(tupleKind (bG P w)).is h ks a:=by
 obtain⟨_,AQ,r,o,h1,h2,⟨n,b⟩,_⟩:=(show ju P w H h a (.tup (ks.map kV)) from ok a _ e);exact⟨o,AQ.toArray,n,h1,h2,b,by simpa using Oi r⟩
theorem YQ{AO:O (O AY×V)}(ok:CV P w H h)(e:Rd H a (.dT AO)):AO.length<=AA/\(a==sysModules)=false ∧
  ∃xs,KT H AO xs/\h.DictOfH (tupleKind (bG P w)) a xs:=by
 obtain⟨z,y,xs,r,o,es,ep,h1,h2,g,d,c⟩:=(show ju P w H h a (.dT AO) from No ok e);refine⟨z,y,xs,r,o,es,ep,h1,h2,g,d,λx hx=>?_,c⟩;have all:∀{l:O (O AY×V)} {m:O (O AY×A1×A0)},KT H l m->∀x∈m,(tupleKind (bG P w)).is h x.1 x.2.1:=by
  intro l m q
  induction q with
  |nil=>intro x hx;exact nomatch hx
  |@cons p q ps i b t f=>
   intro x hx;rcases List.mem_cons.mp hx with e|hx
   ·subst e;exact Qs ok (by rw[<-b.1];exact b.2.1)
   ·exact f x hx
 exact all r x hx
theorem bo{AO:O (O AY×V)}(ok:CV P w H h)(e:H a=U (.dT AO)):AO.length<=AA/\(a==sysModules)=false ∧
  ∃xs,KT H AO xs/\h.DictOfH (tupleKind (bG P w)) a xs:=YQ ok (.inl e)
end
def Fs(H:Hp)(a:A1)(y:V)(r:Y V):Prop:=
 (∃AO k,Rd H a (.dK AO)/\y=kV k/\r=FZ AO k)\/∃AO k b,Rd H a (.dT AO)/\y=.ref b/\H b=U (.tup (k.map kV))/\r=FZ AO k
def HC(H:Hp)(a:A1)(y v:V)(H':Hp):Prop:=
 (∃AO k,H a=U (.dK AO)/\y=kV k/\AO.length<AA/\H'=B6 H a (.dK (BG AO k v))) ∨
 ∃AO k b,H a=U (.dT AO)/\y=.ref b/\H b=U (.tup (k.map kV))/\AO.length<AA/\H'=B6 H a (.dT (BG AO k v))
theorem HC.k{H:Hp}{a:A1}{AO:O (AY×V)}{k:AY}{v:V}(e:H a=U (.dK AO))(b:AO.length<AA):HC H a (kV k) v (B6 H a (.dK (BG AO k v))):=.inl ⟨AO,k,e,rfl,b,rfl⟩
section
variable{X:Cx}{σ:St}{H:Hp}{y v:V}{r:A0}{o:Y V}
theorem AU.big(I:AU X AN σ H s):sysModules<s.heap.objs.size:=by
 have h:mainGlobals<s.heap.objs.size:=(I.mod.glob.keeps I.bk).lt;exact en () h
theorem WP{Q:B7}(x:A.units+1<cLine)(I:AU X AN σ H s)(g:Fs H a y (U v))(n:At y u)(h:∀c s',AU X AN σ H s'->At v c->Q c s'):
  A7 (sg X) A (getItem (.ref a) u) Q E s:=by
 rcases g with⟨AO,k,e,d,l⟩|⟨AO,k,b,e,d,eb,l⟩
 ·subst d;obtain⟨z,t,vs,m,i⟩:=yC I.hok e;obtain⟨c,f,j⟩:=JD.some_of (v:=v) (o:=valueAt vs k) (by rw[l];exact m.val k);exact wpAny_getItem_of (JK n) i.mapOf f (h c _ (I.tok _) j)
 ·subst d;cases(show u=Value.ref b from n);obtain⟨z,t,xs,m,i⟩:=YQ I.hok e;obtain⟨c,f,j⟩:=JD.some_of (v:=v) (o:=(atKey xs k).map (·.2)) (by rw[l];exact m.val k);obtain⟨p,hp,q⟩:=Option.map_eq_some_iff.mp f;refine wpAny_getItem_heap (tupleKind_room_in1 x) (Qs I.hok eb) i hp ?_;rw[q];exact h c _ (I.tok _) j
theorem a4{Q:B7}(m:A.units+1<cLine)(I:AU X AN σ H s)(g:Fs H a y o)(j:At y u)(h:∀s',AU X AN σ H s'->Q (.bool (!o.isSome)) s'):
  A7 (sg X) A (AG .NotIn u (.ref a)) Q E s:=by
 rcases g with⟨AO,k,e,c,l⟩|⟨AO,k,b,e,c,eb,l⟩
 ·subst c;obtain⟨z,d,vs,i,f⟩:=yC I.hok e;refine wpAny_notIn_of (JK j) d f.mapOf ?_;rw[<-(i.val k).Ga,<-l];exact h _ (I.tok _)
 ·subst c;cases(show u=Value.ref b from j);obtain⟨z,d,xs,i,f⟩:=YQ I.hok e;refine wpAny_notIn_heap (tupleKind_room_in1 m) (Qs I.hok eb) d f ?_;have q:=(i.val k).Ga;rw[h6]at q;rw[<-q,<-l];exact h _ (I.tok _)
theorem Jl{h':A6}{t':Nat}{c:HO}(I:AU X AN σ H s)(d:Fm (H a))(hs:Heap.SameBut a s.heap h')(he:∃q,h'.get? a=U q)(new:ju X.prog X.w (B6 H a c) h' a c):
  AU X AN σ (B6 H a c) { s with heap:=h',toks:=t' }:=
 I.write (x:=a) (e:=a) d (.inl S) (λb q hb z=>(hs.2 b hb).trans z) he new
theorem Wz{H':Hp}{h':A6}{AO:O (AY×V)}{vs:O (AY×A0)}(z:AO.length<=AA)(b:(a==sysModules)=false)(d:KV AO vs)(c:h'.DictOf (bG P w) a vs):
  ju P w H' h' a (.dK AO):=⟨z,b,vs,d,c⟩
theorem VE{H':Hp}{Q:Unit->A2->Prop}(J:A.units+1<cLine)(I:AU X AN σ H s)(g:HC H a y v H')(C:At y u)(B:At v r)(h:∀s',AU X AN σ H' s'->Q sn s'):
  A7 (sg X) A (setItem (.ref a) u r) Q E s:=by
 rcases g with⟨AO,k,e,m,l,n⟩|⟨AO,k,b,e,m,eb,l,n⟩
 ·subst m n;obtain⟨z,p,vs,d,t⟩:=Lm I.hok e;have j:vs.length<=AA:=by rw[<-d.length];exact z
  have o:(BG AO k v).length<=AA:=by have:=qd AO k v;omega
  refine wpAny_setItem_pairs (hsz:=j) (JK C) t λh' i hs=>h _ ?_;have D:∃q,h'.get? a=U q:=let ⟨q,_,_,f,_⟩:=i;⟨q,f⟩;exact Jl I (by rw[e];exact True.intro) hs D (Wz o p (d.put k B) i)
 ·subst m n;cases(show u=Value.ref b from C);obtain⟨z,p,xs,d,t⟩:=bo I.hok e;have j:xs.length<=AA:=by rw[<-Paired.length d];exact z
  have o:(BG AO k v).length<=AA:=by have:=qd AO k v;omega
  refine wpAny_setItem_heap (hsz:=j) (tupleKind_room_in1 J) (Qs I.hok eb) t λh' i hs=>h _ ?_;obtain⟨q,es,ep,f,h2,K,F,_,G⟩:=i;refine Jl I (by rw[e];exact True.intro) hs ⟨q,f⟩ ⟨o,p,_,(d.put k eb B).keeps λc ys x=>?_,q,es,ep,f,h2,K,F,G⟩;rw[aV (qO x e (λz=>nomatch z))];exact x
end
section
variable{X:Cx}{σ:St}{H:Hp}{AO:O (AY×V)}{k:AY}
end
def MC(i:Expr):Prop:=∀a iv,subscripted i false a iv=operate [a,iv] (getItem a iv)
theorem p6{value b:Expr}{T id:String}{Q:B7}(l:typeLookup (.type T) "__getitem__"=pure (U (.builtin id)))(hs:MC b)(h:A7 (A8 prog w) A (eval value env) (λo e=>A7 (A8 prog w) A (eval b env) (λi a=>a.TypeIs o T/\A7 (A8 prog w) A (getItem o i) Q E a) E e) E s):
  A7 (A8 prog w) A (eval (.Subscript value b pos) env) Q E s:=by
 refine Subscript_ (QR h (λo e j=>QR j (λi a d=>?_) λ_ _ x=>x) λ_ _ x=>x);obtain⟨f,d⟩:=d;unfold subscriptTail;refine zb ?_;rw[getitemInPython_of_ne f.not_modules];refine zb (wpAny_specialOf f l ?_);have c:A7 (A8 prog w) A (subscripted b false o i) (λr g=>A7 (A8 prog w) A (letTemporaryGo value o r >>= λ_=>pure r) Q E g) E a:=by
  rw[hs o i];exact wpAny_operating (QR d (λr g m=>zb (wpAny_letTemporaryGo (zd m))) λ_ _ x=>x)
 first
  |exact zd (zb c)
  |exact zb (zd (zb c))
  |exact zb c
theorem S7{X:Cx}{σ:St}{H:Hp}{y:V}{o:Y V}(I:AU X AN σ H s)(g:Fs H a y o):s.TypeIs (.ref a) "dict":=by
 rcases g with⟨AO,k,e,_,_⟩|⟨AO,k,b,e,_,_,_⟩
 ·obtain⟨_,_,vs,_,c⟩:=yC I.hok e;exact c.typeIs
 ·obtain⟨_,_,xs,_,c⟩:=YQ I.hok e;exact c.typeIs
def f'(td ty:TE):TE:=λσ H Q=>td σ H λx H1=>ty σ H1 λy H2=>∃a v,x=.ref a/\Fs H2 a y (U v)/\Q v H2
def li(td ty tv:TE):TS:=λD σ H=>tv σ H λv H1=>td σ H1 λx H2=>ty σ H2 λy c=>∃a b,x=.ref a/\HC c a y v b/\D.nx σ b
section
variable{X:Cx}{o i value:Expr}{pos':Pos}{td ty tv:TE}
theorem UQ(d:X.A.units+1<cLine)(ho:PE X o td)(hi:PE X i ty)(hs:MC i):PE X (.Subscript o i pos) (f' td ty):=by
 intro AN s σ H Q I h;refine p6 PySem.F.slot_dict_getitem.lookup hs (jw (ho AN s σ H _ I h) λu s1 ⟨x,H1,I1,rx,q1⟩=>jw (hi AN s1 σ H1 _ I1 q1) λiv s2 ⟨y,H2,I2,ry,a,v,ex,g,q2⟩=>?_);subst ex;obtain rfl:u=Value.ref a:=rx;exact⟨S7 I2 g,WP d I2 g ry λe f b c=>⟨v,H2,b,c,q2⟩⟩
theorem sT(d:X.A.units+1<cLine)(ho:PE X o td)(hi:PE X i ty)(b:PE X value tv)(hs:swapsWith value (U (.Subscript o i pos')) pos.line X.env=pure false):
  PS X (.Assign [.Subscript o i pos'] value pos) (li td ty tv):=by
 intro AN s σ H D I h;refine wpAny_Assign_Subscript (jw (b AN s σ H _ I h) λr s1 ⟨v,H1,I1,rv,q1⟩=>jw (ho AN s1 σ H1 _ I1 q1) λu s2 ⟨x,H2,I2,rx,q2⟩=>jw (hi AN s2 σ H2 _ I2 q2) λiv s3 ⟨y,H3,I3,ry,a,H4,ex,g,q3⟩=>?_) hs;subst ex;obtain rfl:u=Value.ref a:=rx;exact VE d I3 g ry rv λe c=>⟨σ,H4,c,q3⟩
end
theorem S8{H:Hp}(h:A6)(hb:sysModules<h.objs.size):ju P w H (h.push { cls:=.type "dict",data:=.dict #[] }) h.objs.size (.dK []):=
 ⟨QY _,beq_eq_false_iff_ne.mpr (y8 (zI hb)),[],.nil,Heap.DictOf.new h⟩
section
variable{X:Cx}
end
def WD:O (TE×TE)->St->Hp->(O (V×V)->Hp->Prop)->Prop
 |[],_,H,Q=>Q [] H
 |(tk,tv)::r,σ,H,Q=>tk σ H λx H1=>tv σ H1 λy H2=>WD r σ H2 λps a=>Q ((x,y)::ps) a
abbrev VV:O (V×V)->O (A0×A0)->Prop:=AI λp q=>At p.1 q.1/\At p.2 q.2
def HK(X:Cx)(pos:Pos)(b:O (Y Expr))(a:O Expr)(c:O (TE×TE)):Prop:=
 ∀(AN:O (A1×AE)) (s:A2) (σ:St) (H:Hp) (Q:O (V×V)->Hp->Prop),AU X AN σ H s->WD c σ H Q →
  A7 (sg X) X.A (evalPairs (pairTrees b a X.env pos)) (λvs s'=>∃ps H',AU X AN σ H' s'/\VV ps vs/\Q ps H') X.xe s
theorem XA{X:Cx}:HK X pos [] [] []:=λAN s σ H Q I h=>pairTrees_nil_walk ⟨[],H,I,.nil,h⟩
theorem sQ{X:Cx}{k v:Expr}{ks:O (Y Expr)}{vs:O Expr}{tk tv:TE}{a:O (TE×TE)}(d:PE X k tk)(c:PE X v tv)(b:HK X pos ks vs a):
  HK X pos (U k::ks) (v::vs) ((tk,tv)::a):=λAN s σ H Q I h=>
 pairTrees_cons_walk (jw (d AN s σ H _ I h) λu s1 ⟨x,H1,I1,rx,q1⟩=>jw (c AN s1 σ H1 _ I1 q1) λw2 s2 ⟨y,H2,I2,ry,q2⟩=>
  jw (b AN s2 σ H2 _ I2 q2) λws s3 ⟨ps,H3,I3,rel,q3⟩=>⟨(x,y)::ps,H3,I3,.cons ⟨rx,ry⟩ rel,q3⟩)
def Gb(AO more:O (AY×V)):O (AY×V):=more.foldl (λb a=>BG b a.1 a.2) AO
theorem KV.merge:∀{more:O (AY×V)} {rs:O (AY×A0)} {AO:O (AY×V)} {vs:O (AY×A0)},KV more rs->KV AO vs->KV (Gb AO more) (merged vs rs):=by
 intro more rs AO vs r;unfold KV at r
 induction r generalizing AO vs with
 |nil=>intro q;exact q
 |@cons p q ps c h t a=>
  intro b;have e:KV (BG AO p.1 p.2) (stored vs q.1 q.2):=by
   have:=b.put p.1 h.2;rw[<-h.1];exact this
  exact a e
theorem Bf:∀(more AO:O (AY×V)),(Gb AO more).length<=AO.length+more.length
 |[],AO=>by show AO.length<=AO.length+0;omega
 |p::r,AO=>by
  have h1:=Bf r (BG AO p.1 p.2);have h2:=qd AO p.1 p.2;show(Gb (BG AO p.1 p.2) r).length<=_;rw[ZE];omega
theorem JL{P:A3}{w:A4}:∀{AO:O (AY×V)} {e:O (A0×A0)},VV (AO.map λd=>(kV d.1,d.2)) e->∃rs,Carries (bG P w) e rs/\KV AO rs
 |[],_,r=>by rw[JJ]at r;cases r;exact⟨[],True.intro,.nil⟩
 |p::AO,_,r=>by
  rw[zt]at r;cases r with
  |@cons a b as bs h t=>
   obtain⟨rs,c,q⟩:=JL (P:=P) (w:=w) t;obtain⟨b1,b2⟩:=b;exact⟨(p.1,b2)::rs,⟨JK h.1,rfl,c⟩,.cons ⟨rfl,h.2⟩ q⟩
def TZ(b:O (TE×TE)):TE:=λσ H Q=>∀p,H p=Z->WD b σ (B6 H p (.dK [])) λps H2=>H2 p=U (.dK [])/\∃AO:O (AY×V),ps=AO.map (λa=>(kV a.1,a.2))/\AO.length<=15/\Q (.ref p) (B6 H2 p (.dK (Gb [] AO)))
theorem mN{X:Cx}{b:O (Y Expr)}{d:O Expr}{g:O (TE×TE)}(h:HK X pos b d g)(i:b.all (·.isSome)=true)(m:b.length=d.length)(h0:b≠[])(v:b.length<=15):PE X (.Dict b d pos) (TZ g):=by
 intro AN s σ H Q I q;have x:=I.hok.fresh (zi s.heap.objs.size);have u:=I.laid (a:=s.heap.objs.size) (o:=.dK []) (h':=s.heap.push { cls:=.type "dict",data:=.dict #[] }) (t':=s.toks) (λ_ _ q=>ze _ q) (zi _) (S8 s.heap I.big);refine wpAny_Dict_walk (knd:=bG X.prog X.w) i m h0 v (jw (h AN _ σ _ _ u (q _ x)) λws s2 ⟨ps,H2,I2,rel,e,AO,ep,lk,q2⟩=>?_);subst ep;obtain⟨rs,c,rk⟩:=JL (P:=X.prog) (w:=X.w) rel;obtain⟨z,n,y,t,p⟩:=Lm I2.hok e;cases t;refine⟨rs,c,p,λh' f hs=>⟨.ref s.heap.objs.size,_,?_,rfl,q2⟩⟩;have j:(Gb [] AO).length<=AA:=by
  have h1:=Bf AO [];rw[j0]at h1;rw[sizeLine_eq];omega
 have l:∃q,h'.get? s.heap.objs.size=U q:=let ⟨q,_,_,hq,_⟩:=f;⟨q,hq⟩;exact Jl I2 (by rw[e];exact True.intro) hs l (Wz j n (rk.merge .nil) f)
structure M1 (X:Cx) (o:Expr) (m:Str) (apos:Pos) (e:Expr) (cpos:Pos):Prop where
 base:attributeBase o m X.env (eval o X.env)=eval o X.env
 few:((backTo cpos (starEach [e] X.env)).all (λx=>!x.1)&&(backToKw cpos (keywordEach [] X.env)).all (λx=>x.1.isSome)
  && decide (([e]:List Expr).length+([]:List Keyword).length+(if([]:List Keyword).isEmpty then 0 else 1)<30))=true
 line:(apos.endLine==cpos.line)=true
 trees:backTo cpos (starEach [e] X.env)=[(false,eval e X.env)]
structure M2 (X:Cx) (o:Expr) (m:Str) (apos:Pos) (e f:Expr) (cpos:Pos):Prop where
 base:attributeBase o m X.env (eval o X.env)=eval o X.env
 few:((backTo cpos (starEach [e,f] X.env)).all (λx=>!x.1)&&(backToKw cpos (keywordEach [] X.env)).all (λx=>x.1.isSome)
  && decide (([e,f]:List Expr).length+([]:List Keyword).length+(if([]:List Keyword).isEmpty then 0 else 1)<30))=true
 line:(apos.endLine==cpos.line)=true
 trees:backTo cpos (starEach [e,f] X.env)=[(false,eval e X.env),(false,eval f X.env)]
section
variable{X:Cx}{σ:St}{H:Hp}{y d:V}{r:A0}{o:Y V}
end
section
variable{X:Cx}{o f:Expr}{td ty tx:TE}
end
section
variable{X:Cx}{σ:St}{H:Hp}{AO:O (AY×V)}
end
section
variable{X:Cx}{σ:St}{H:Hp}{y:V}
end
end L2
namespace Att
open PySem PySem.W PySem.Calls PyProof.Rows
theorem Ii{P:Params}:∀(c:O Int) (vs:O A0),WellAll P h vs (c.map WData.int)->IntsAre vs c:=by
 intro c
 induction c with
 |nil=>
  intro vs w;rw[JJ]at w;cases w;exact .nil
 |cons n c d=>
  intro vs w;rw[zt]at w;cases w with
  |cons a b=>
   cases a;exact .cons _ _ (d _ b)
theorem oz{l:OpenLaw}(v:l.most=U n){P:Params}{args:O WData}{i:O A0}(g:l.row.toRowW.claim.pre args=true)(o:WellAll P h i args):
  ∃a vs b,i=[Value.ref a]/\args=[WData.list (b.map WData.int)]/\h.get? a=U { cls:=.type "list",data:=.seq vs.toArray }/\IntsAre vs b/\b.length<=n:=by
 have s:WShape.hasAll [] args [.list .int]=true:=(pre_splitW g).1;have f:l.pre.holds [] { args:=args }=true:=(pre_splitW g).2;obtain⟨d,r,rfl,h1,h2⟩:=hasAllW_cons s;obtain rfl:=hasAllW_nil h2;obtain⟨xs,rfl,w⟩:=hasW_list h1;obtain⟨b,rfl⟩:=items_int w;have p:b.length<=n:=by
  unfold OpenLaw.pre at f;have c:(WTm.not (.lt (.lit (.int (n:Int))) (.len (.arg 0)))).holds [] { args:=[.list (b.map .int)] }=true:=by
   have c:=(holds_andW f).1;rw[v]at c;exact c
  have e:=condW_of c (w_not (w_lt w_lit (w_len_list (w_arg S))));rw[zk]at e;refine Nat.le_of_not_lt λq=>?_;have j:(n:Int)<((b.length:Nat):Int):=by omega
  first
   |(rw[Zl j]at e;exact absurd e ())
   |(simp at e;omega)
 cases o with
 |cons t u=>
  cases u;cases t with
  |list ho m=>exact⟨_,_,b,rfl,rfl,ho,Ii b _ m,p⟩
theorem sx(l:OpenLaw)(args:O WData):l.row.toRowW.claim.post args (.bool true) args=true:=
 postW_of (r:=l.row.toRowW) (X:=(true==true))
  (show WShape.has [] (.bool true) .bool=true by first|rfl|decide|simp[WShape.has,WShape.arms,WShape.armsAll])
  (show(WTm.eq .res (.lit (.bool true))).value [] { args:=args,res:=U (.bool true),after:=args }=U (.bool (true==true)) from w_eq_bool (w_res S) w_lit) rfl
theorem S9{l:OpenLaw}{q:A3}{loose:AZ}{d:DefRec}(y:l.most=U n)(H:d.params.defaults=[])(call:∀(w:A4) (h b:A2) (mg i:AJ->Option A0) (fa:A1) (o:AE) (g e j:A0) (a:A1) (vs:O A0) (c:O Int),
   Ground q loose [] XP w h mg i b.heap->YP w b.heap →
   b.heap.get? fa=U o->o.data=.func (docDef d.name d.params d.body d.scope g e j)->b.heap.CodeRec e d.name->mg d.name=U (.ref fa) →
   b.heap.get? a=U { cls:=.type "list",data:=.seq vs.toArray }->IntsAre vs c->c.length<=n->b.gens=#[] →
   AF (A8 l.prog w) callerA (.call (.ref fa) ⟨[.ref a],[]⟩) (λr s'=>r=.ok (.ret (.bool true))/\OldK b.heap s'.heap/\s'.os=b.os/\AllBare s'.gens) b):
  WalkO q loose XP YP l.row.toRowW d [] (λf vs=>PySem.call f vs):=by
 intro w h b mg i G Y fa o g e j C kV ho E D m u hg J L as F M K B I;obtain rfl:C=.none:=Dflts.none m H;obtain rfl:kV=.none:=Dflts.noKw m;obtain⟨a,vs,c,rfl,rfl,t,A,s⟩:=oz y F B;refine enter_call (codeAny_mono (call w h b mg i fa o g e j a vs c G Y ho (fd_plain E) D u t A s hg) λr s' x=>?_);obtain⟨rfl,h2,v,z⟩:=x;exact⟨.inl ⟨.bool true,.bool true,[],rfl,λ_=>S,.bool true,sx l _,λ_=>⟨List.Pairwise.nil,λ_ p=>(nomatch p)⟩⟩,h2,v,z⟩
section
variable{K:Frag}
end
end Att
namespace L2
theorem vO:∀{vs:O A0} {a:O Int},IntsAre vs a->AX (a.map V.int) vs
 |_,_,.nil=>.nil
 |_,_,.cons n t h=>.cons ⟨t,rfl⟩ (vO h)
def DA(H:Hp):Prop:=∀b,H b=Z\/∃o xs,H b=U (.yw o (.lst xs))
theorem UV{l:AJ->Y A0}{CX:D2}{k:Nat}{fa:A1}{sp:Sp}{c:A2}{vs:O A0}{f:O Int}(p:K.In c.heap)(D:c.heap.Ns mainGlobals mg)(hb:c.heap.Ns builtinsNs l)(a1:∀x:AJ,x ≠ "__name__" → l x=AH x)(a5:c.heap.NoLimit)(hg:c.gens=#[])(ha:c.heap.get? a=U { cls:=.type "list",data:=.seq vs.toArray })(hi:IntsAre vs f)(E:f.length<=AA)(M:qb k callerA)(F:∀base:A6,K.In base->base.Ns mainGlobals mg->yX P w K mg base CX k fa fd [x] sp)(a2:∀(s:A2) (u:A0),BindsTo s fd ⟨[u],[]⟩ [(x,u)])(L:∀H:Hp,DA H->yS K H a (f.map V.int)->sp [.ref a] H (λv _=>v=.bl true) λ_ _ _=>False)(a0:∀H e s',CX [] H c (λ_ _ _=>False) e s'->False):
  AF (A8 P w) callerA (.call (.ref fa) ⟨[.ref a],[]⟩) (λr s'=>r=.ok (.ret (.bool true))/\OldK c.heap s'.heap/\s'.os=c.os/\AllBare s'.gens) c:=by
 have B:=vO hi;have W:=hi.length;have A:∀H:Hp,DA H->yS K H a (f.map V.int)->CV P w H c.heap->(∀b,H b≠Z->b=a)->(H a≠Z->K.lookup a=Z) →
   AF (A8 P w) callerA (.call (.ref fa) ⟨[.ref a],[]⟩) (λr s'=>r=.ok (.ret (.bool true))/\OldK c.heap s'.heap/\s'.os=c.os/\AllBare s'.gens) c:=by
  intro H y hS I t hK;have G:∀{b:A1} {o:AE},c.heap.get? b=U o->H b=Z->(Qg c.heap H).get? b=U o:=λe n=>Sb e n;have a3:∀{b:A1} {o:AE} {es:Array DictEntry} {ep:Nat},c.heap.get? b=U o->o.data=.dict es ep->H b=Z:=λ{b o es ep} e d=>by
   cases q:H b with
   |none=>rfl
   |some u=>
    have e':b=a:=t b (by rw[q];simp);subst e';rw[ha]at e;cases e;have d':Data.seq vs.toArray _=Data.dict es ep:=d;cases d'
  have i:∀{b:A1} {m:AJ->Y A0},c.heap.Ns b m->(Qg c.heap H).Ns b m:=λ{b m} ⟨o,es,ep,e,d,r⟩=>⟨o,es,ep,G e (a3 e d),d,r⟩;have C:K.In (Qg c.heap H):=λb o e=>G (p b o e) (by
   cases q:H b with
   |none=>rfl
   |some u=>
    have e':b=a:=t b (by rw[q];simp);subst e';rw[hK (by rw[q];simp)]at e;cases e)
  have hM:Mod K mg (Qg c.heap H):=⟨C,i D,⟨l,i hb,a1⟩,let ⟨mc,h1,h2⟩:=a5;⟨mc,i h1,h2⟩⟩;have e0:HZ P w K mg (Qg c.heap H) callerA [] c H:=⟨rfl,hM,λb o e=>UB e,yB (tP _ _),trivial,λb hb=>absurd (show b∈([]:O A1) from hb) (by simp),I,.of_eq hg⟩;refine codeAny_mono ((F _ C (i D)).run callerA [] c H ⟨[.ref a],[]⟩ [.ref a] [.ref a] _ _ M e0 (a2 c (.ref a)) (.cons S .nil) (L H y hS)) λr s' h=>?_;cases r with
  |error e=>exact(a0 H e s' h).elim
  |ok fl=>
   cases fl with
   |next=>exact False.elim h
   |brk=>exact False.elim h
   |cont=>exact False.elim h
   |ret u=>
    obtain⟨v,H',os,X,un,N,r',q⟩:=h;have J:v=.bl true:=q;subst J;obtain rfl:u=Value.bool true:=r';refine⟨rfl,OldK.of_keep λb o e=>?_,os,X⟩;cases q:H b with
    |none=>exact un.keep b o e q (by intro z;exact absurd (show b∈([]:O A1) from z) (by simp)) (by simp)
    |some u=>
     rcases y b with z|⟨Q,xs,z⟩
     ·rw[q]at z;cases z
     ·have z2:=un.Ih b Q _ z;obtain⟨e1,_⟩:=I b _ z;obtain⟨e2,_⟩:=N b _ z2;rw[e]at e1;cases e1;exact e2
 cases j:K.lookup a with
 |some o=>
  have e:=p a o j;rw[ha]at e;cases e;refine A (λ_=>Z) (λ_=>.inl S) (.inr ⟨_,vs.toArray,_,j,rfl,rfl,rfl,by rw[zC,W];exact E,by simpa using B⟩) (λb u z=>by have g:(Z:Y HO)=U u:=z;cases g) (λb z=>absurd S z) λz=>absurd S z
 |none=>
  refine A (λb=>if b=a then U (.yw { cls:=.type "list",data:=.seq vs.toArray } (.lst (f.map V.int)))else Z) (λb=>?_) (.inl (.inr ⟨{ cls:=.type "list",data:=.seq vs.toArray },zl rfl⟩)) (λb u z=>?_) (λb z=>?_) λ_=>j
  ·by_cases hb:b=a
   ·exact .inr ⟨_,_,zl hb⟩
   ·exact .inl (zz hb)
  ·by_cases hb:b=a
   ·have g:=(zl hb).symm.trans z;cases g;subst hb;exact⟨ha,by rw[zk];exact E,vs,_,B,ha⟩
   ·have g:=(zz hb).symm.trans z;cases g
  ·by_cases hb:b=a
   ·exact hb
   ·exact absurd (zz hb) z
end L2
namespace L2
theorem og{k:Nat}{q:A3}{loose:AZ}{d:DefRec}{K:Params->B1}{CX:A4->D2}{sp:A4->Sp}(C:l.most=U n)(J:n<=AA)(M:d.params.defaults=[])(p:qb k callerA)(z:∀(w:A4) (h:A6),YP w h->(K w.params).In h)(F:∀(w:A4) (mg:AJ->Option A0) (fa:A1) (h:A6),(K w.params).In h->h.Ns mainGlobals mg->mg d.name=U (.ref fa) →
   ∃fd:FuncData,(∀(s:A2) (u:A0),BindsTo s fd ⟨[u],[]⟩ [(x,u)]) ∧
    ∀base:A6,(K w.params).In base->base.Ns mainGlobals mg->yX l.prog w (K w.params) mg base (CX w) k fa fd [x] (sp w))(m:∀(w:A4) (H:Hp) (a:A1) (c:O Int),c.length<=n->DA H->yS (K w.params) H a (c.map V.int)->sp w [.ref a] H (λv _=>v=.bl true) λ_ _ _=>False)(D:∀(w:A4) (H:Hp) (s:A2) (e:A0) (s':A2),CX w [] H s (λ_ _ _=>False) e s'->False):
  PySem.W.WalkO q loose XP YP l.row.toRowW d [] (λf vs=>PySem.call f vs):=by
 refine Att.S9 C M λw P B mg Q fa o N X a1 a vs c G Y ho hd a0 y t I i hg=>?_;have j:=z w _ Y;obtain⟨fd,hb,E⟩:=F w mg fa _ j G.T.g y;exact UV j G.T.g G.T.b G.T.builtins G.T.nolimit hg t I (ZI i J) p E hb (λH A L=>m w H a c i A L) λH e s'=>D w H B e s'
theorem fz{k:Nat}{q:A3}{loose:AZ}{d:DefRec}{K:Params->B1}{CX:D2}{sp:B1->Sp}(p:l.most=U n)(c:n<=AA)(o:d.params.defaults=[])(i:qb k callerA)(t:∀(w:A4) (h:A6),YP w h->(K w.params).In h)(F:∀(w:A4) (mg:AJ->Y A0) (fa:A1) (h:A6),(K w.params).In h->h.Ns mainGlobals mg->mg d.name=U (.ref fa) →
   ∃fd:FuncData,(∀(s:A2) (u:A0),BindsTo s fd ⟨[u],[]⟩ [(x,u)]) ∧
    ∀base:A6,(K w.params).In base->base.Ns mainGlobals mg->yX l.prog w (K w.params) mg base CX k fa fd [x] (sp (K w.params)))(g:∀(K:B1) (H:Hp) (a:A1) (b:O Int),b.length<=n->DA H->yS K H a (b.map V.int)->sp K [.ref a] H (λv _=>v=.bl true) λ_ _ _=>False)(m:∀(H:Hp) (s:A2) (e:A0) (s':A2),CX [] H s (λ_ _ _=>False) e s'->False):
  PySem.W.WalkO q loose XP YP l.row.toRowW d [] (λf vs=>PySem.call f vs):=
 og (K:=K) (CX:=λ_=>CX) (sp:=λw=>sp (K w.params)) p c o i t F (λw H a b h1 h2 j=>g (K w.params) H a b h1 h2 j) λ_ H s e s'=>m H s e s'
end L2
namespace L2
def wK(s:AB):Arguments:=match s with
 |.FunctionDef _ a _ _ _ _ _ _ _ _=>a
 |_=>{ posonlyargs:=[],args:=[],vararg:=Z,kwonlyargs:=[],kw_defaults:=[],kwarg:=Z,defaults:=[] }
def j4(s:AB):O AB:=match s with
 |.FunctionDef _ _ b _ _ _ _ _ _ _=>b
 |_=>[]
def aO(s:AB):Scope:=match s with
 |.FunctionDef _ _ _ _ _ _ a _ _ _=>a
 |_=>{ kind:=.function,names:=[],isGenerator:=false,isCoroutine:=false }
abbrev Qt:D2:=λ_ _ _ _ _ _=>False
abbrev E0:XK:=λ_ _ _=>False
theorem OP{X:Cx}:CL Qt X E0:=λ_ _ _ _ _ _ _ h=>h.elim
structure DJ (K:B1) (x qual:Str) (st:Stmt) (f:Addr) (fd:FuncData):Prop where
 ex:∃(oc:Value) (od:Option Addr) (kV doc pm:Value) (an:Option Addr) (cdv ct:Value) (osl:Array (Option Value)),
  fd=fnOf x qual (wK st) (j4 st) (aO st) .none kV doc pm an cdv ct/\K.lookup f=some ⟨oc,od,.func fd,osl⟩/\codeIn K cdv qual=true
 kp:keepIn K (.ref f)=true
theorem DJ.ok{st:AB}{f:A1}{k:Nat}{sp:Sp}(F:DJ K x qual st f fd)(S:bC N ps (aO st))(len:∀vs H Q E,sp vs H Q E->vs.length=ps.length)(e:∀(a:A0) (A:A5) (outer:O Env) (s:A2) (H:Hp) (vs:O V) (Q:VK) (E:XK),qb k (A.deeper (AK qual (aO st) s.heap.objs.size f a))->sp vs H Q E →
   ∃t,Wo (JH Qt P w K mg base N qual (aO st) f a A outer s H E).nox (j4 st) t/\t { nx:=λ_ H'=>Q .non H',rt:=Q } (start N vs) H):yX P w K mg base Qt (k+1) f fd ps sp:=by
 obtain⟨m,i,kV,n,j,l,a,ct,osl,rfl,d,g⟩:=F.ex;refine Wl d g S len λA outer s H vs Q E c b=>?_;obtain⟨t,h,q⟩:=e a A outer s H vs Q E c b;exact⟨t,h.nox,q⟩
theorem DJ.binds{st:AB}{f:A1}(F:DJ K x qual st f fd)(h:∀(kV d a:A0) (c:Y A1) (b ct:A0) (us:O A0),us.length=ps.length->bindArgs (fnOf x qual (wK st) (j4 st) (aO st) .none kV d a c b ct) ⟨us,[]⟩=pure (ps.zip us)):Be K fd ps []:=by
 obtain⟨j,e,kV,d,a,c,b,ct,osl,rfl,g,i⟩:=F.ex;exact .all (h kV d a c b ct)
theorem OF{st:AB}{f:A1}{h:A0}{g d:Y A1}{kV e b a ct:A0}(l:K.lookup f=U ⟨h,g,.func (fnOf x qual (wK st) (j4 st) (aO st) .none kV e b d a ct),osl⟩)(c:codeIn K a qual=true)(k:keepIn K (.ref f)=true):DJ K x qual st f (fnOf x qual (wK st) (j4 st) (aO st) .none kV e b d a ct):=⟨⟨h,g,kV,e,b,d,a,ct,osl,rfl,l,c⟩,k⟩
section
variable{X:Cx}
theorem pv(i:Nat)(d:X.N[i]?=U x:=by rfl)(b:D4 X.env.scope x:=by first|exact kB rfl|exact JE (kB S)|exact JE (JE S))(a:sa x:=by decide)(c:(x==("__classdict__":AJ))=false:=by decide):PE X (.Name x pos) (Pp i):=yU d b a c
end
def AV(H H':Hp):Prop:=∀b o,H b=U o->H' b=U o
theorem AV.refl(H:Hp):AV H H:=λ_ _ h=>h
theorem AV.trans{H H1 H2:Hp}(a:AV H H1)(b:AV H1 H2):AV H H2:=λc o h=>b c o (a c o h)
theorem AV.free{H H':Hp}(e:AV H H'){l:A1}(h:H' l=Option.none):H l=Option.none:=by
 cases q:H l with
 |none=>rfl
 |some o=>
  rw[e l o q]at h;cases h
theorem AV.seq{H H':Hp}{xs:O V}(e:AV H H')(h:yS K H a xs):yS K H' a xs:=by
 rcases h with (h|⟨o,h⟩)|h
 ·exact .inl (.inl (e _ _ h))
 ·exact .inl (.inr ⟨o,e _ _ h⟩)
 ·exact .inr h
end L2
variable{xs:O L2.V}{H:L2.Hp}{o:L2.HO}{X:L2.Cx}{σ:L2.St}{ta te:L2.TE}{J:L2.It}{vs:O L2.V}{sp:L2.Sp}{ks:O L2.AY}{zs:O (O L2.AY×A1)}{H0 Hs:L2.Hp}{bV:O (O L2.AY)}
namespace P1
open L2
inductive Dt where
 |non|bl (b:Bool)|int (i:Int)|str (x:Str)|tup (xs:List Dt)|lst (xs:List Dt)|emp
inductive Bx where
 |z (d:Dt)|l (ds:List Dt)|o (ds:List Dt)|n (AO:List (AY×Dt))|m (AO:List (AY×Dt)) (w:Option Addr)
abbrev Ev:=O (Y Bx)
def GU(K:B1)(H:Hp)(a:A1)(xs:O V):Prop:=
 (∃o,H a=U (.yw o (.lst xs))) ∨
  ∃(o:AE) (AQ:Array A0) (n:Nat),K.lookup a=U o/\o.cls=.type "list" ∧ o.dict=Z/\o.data=.seq AQ n/\AQ.size<=AA/\AX xs AQ.toList
theorem GU.sq(h:GU K H a xs):yS K H a xs:=by
 rcases h with h|h
 ·exact .inl (.inr h)
 ·exact .inr h
mutual
def AW(K:B1)(H:Hp):Dt->V->Prop
 |.non,v=>v=.non
 |.bl b,v=>v=.bl b
 |.int i,v=>v=.int i
 |.str x,v=>v=.str x/\x.length<=AA
 |.tup ds,v=>∃a vs,v=.ref a/\BR K H a vs/\aK K H ds vs
 |.lst ds,v=>∃a vs,v=.ref a/\GU K H a vs/\aK K H ds vs
 |.emp,v=>∃a o,v=.ref a/\H a=U (.yw o (.dK []))
def aK(K:B1)(H:Hp):O Dt->O V->Prop
 |[],vs=>vs=[]
 |d::ds,vs=>∃v r,vs=v::r/\AW K H d v/\aK K H ds r
end
structure Kp (H H':Hp):Prop where
 t:∀a xs,H a=some (.tup xs)->H' a=some (.tup xs)
 f:∀a o u,H a=some (.yw o u)->H' a=some (.yw o u)
theorem Kp.of{H':Hp}(s:AV H H'):Kp H H':=⟨λa _ h=>s a _ h,λa _ _ h=>s a _ h⟩
theorem Kp.sqT{H':Hp}(k:Kp H H')(h:BR K H a xs):BR K H' a xs:=by
 rcases h with (h|⟨o,h⟩)|h
 ·exact .inl (.inl (k.t _ _ h))
 ·exact .inl (.inr ⟨o,k.f _ _ _ h⟩)
 ·exact .inr h
theorem Kp.fzL{H':Hp}(k:Kp H H')(h:GU K H a xs):GU K H' a xs:=by
 rcases h with⟨o,h⟩|h
 ·exact .inl ⟨o,k.f _ _ _ h⟩
 ·exact .inr h
theorem Kp.lst(h:H a=U (.lst xs)):Kp H (B6 H a o):=by
 refine⟨λb ys e=>?_,λb c u e=>?_⟩
 ·rw[aV (qO e h (by intro z;cases z))];exact e
 ·rw[aV (qO e h (by intro z;cases z))];exact e
theorem Kp.dk{xs:O (AY×V)}(h:H a=U (.dK xs)):Kp H (B6 H a o):=by
 refine⟨λb ys e=>?_,λb c u e=>?_⟩
 ·rw[aV (qO e h (by intro z;cases z))];exact e
 ·rw[aV (qO e h (by intro z;cases z))];exact e
mutual
theorem AW.kp{K:B1}{H H':Hp}(k:Kp H H'):∀{d:Dt} {v:V},AW K H d v->AW K H' d v
 |.non,_,h=>by simpa only[AW]using h
 |.bl _,_,h=>by simpa only[AW]using h
 |.int _,_,h=>by simpa only[AW]using h
 |.str _,_,h=>by simpa only[AW]using h
 |.tup ds,_,h=>by
  simp only[AW]at h ⊢;obtain⟨a,vs,e,q,r⟩:=h;exact⟨a,vs,e,k.sqT q,aK.kp k r⟩
 |.lst ds,_,h=>by
  simp only[AW]at h ⊢;obtain⟨a,vs,e,q,r⟩:=h;exact⟨a,vs,e,k.fzL q,aK.kp k r⟩
 |.emp,_,h=>by
  simp only[AW]at h ⊢;obtain⟨a,o,e,q⟩:=h;exact⟨a,o,e,k.f _ _ _ q⟩
theorem aK.kp{K:B1}{H H':Hp}(k:Kp H H'):∀{ds:O Dt} {vs:O V},aK K H ds vs->aK K H' ds vs
 |[],_,h=>by simpa only[aK]using h
 |d::ds,_,h=>by
  simp only[aK]at h ⊢;obtain⟨v,r,e,q,t⟩:=h;exact⟨v,r,e,AW.kp k q,aK.kp k t⟩
end
theorem aK.length{K:B1}{H:Hp}:∀{ds:O Dt} {vs:O V},aK K H ds vs->vs.length=ds.length
 |[],_,h=>by simp only[aK]at h;subst h;rfl
 |d::ds,_,h=>by
  simp only[aK]at h;obtain⟨v,r,rfl,_,t⟩:=h;simp[aK.length t]
theorem aK.nil:aK K H [] []:=by simp only[aK]
theorem aK.cons{K:B1}{H:Hp}{d:Dt}{v:V}{ds:O Dt}{vs:O V}(h:AW K H d v)(t:aK K H ds vs):aK K H (d::ds) (v::vs):=by
 simp only[aK];exact⟨v,vs,rfl,h,t⟩
theorem aK.append{K:B1}{H:Hp}:∀{ds es:O Dt} {vs us:O V},aK K H ds vs->aK K H es us->aK K H (ds++es) (vs++us)
 |[],_,_,_,h,t=>by simp only[aK]at h;subst h;exact t
 |d::ds,_,_,_,h,t=>by
  simp only[aK]at h;obtain⟨v,r,rfl,q,h⟩:=h;exact aK.cons q (aK.append h t)
theorem aK.drop{K:B1}{H:Hp}:∀(n:Nat) {ds:O Dt} {vs:O V},aK K H ds vs->aK K H (ds.drop n) (vs.drop n)
 |0,_,_,h=>h
 |n+1,[],_,h=>by simp only[aK]at h;subst h;exact aK.nil
 |n+1,d::ds,_,h=>by
  simp only[aK]at h;obtain⟨v,r,rfl,q,h⟩:=h;exact aK.drop n h
theorem aK.take{K:B1}{H:Hp}:∀(n:Nat) {ds:O Dt} {vs:O V},aK K H ds vs->aK K H (ds.take n) (vs.take n)
 |0,_,_,_=>aK.nil
 |n+1,[],_,h=>by simp only[aK]at h;subst h;exact aK.nil
 |n+1,d::ds,_,h=>by
  simp only[aK]at h;obtain⟨v,r,rfl,q,h⟩:=h;exact aK.cons q (aK.take n h)
theorem aK.get{K:B1}{H:Hp}:∀{ds:O Dt} {vs:O V} {i:Nat} {d:Dt},aK K H ds vs->ds[i]?=U d->∃v,vs[i]?=U v/\AW K H d v
 |[],_,_,_,_,e=>by simp at e
 |d::ds,_,0,_,h,e=>by
  simp only[aK]at h;obtain⟨v,r,rfl,q,h⟩:=h;simp at e;subst e;exact⟨v,rfl,q⟩
 |d::ds,_,i+1,_,h,e=>by
  simp only[aK]at h;obtain⟨v,r,rfl,q,h⟩:=h;obtain⟨u,e1,e2⟩:=aK.get h (i:=i) (by simpa using e);exact⟨u,by simpa using e1,e2⟩
def EI:AY->Prop
 |.inl _=>True
 |.inr x=>x.length<=AA
def fX(K:B1)(H:Hp)(AO:O (AY×Dt))(ks:O (AY×V)):Prop:=ks.map (·.1)=AO.map (·.1)/\aK K H (AO.map (·.2)) (ks.map (·.2))/\∀p∈AO,EI p.1
theorem fX.kp{K:B1}{H H':Hp}{AO:O (AY×Dt)}{ks:O (AY×V)}(h:fX K H AO ks)(k:Kp H H'):fX K H' AO ks:=⟨h.1,h.2.1.kp k,h.2.2⟩
def bf(K:B1)(H:Hp):Bx->V->Prop
 |.z d,v=>AW K H d v
 |.l ds,v=>∃a vs,v=.ref a/\Rd H a (.lst vs)/\aK K H ds vs
 |.o ds,v=>∃a vs,v=.ref a/\H a=U (.lst vs)/\aK K H ds vs
 |.n AO,v=>∃a ks,v=.ref a/\Rd H a (.dK ks)/\fX K H AO ks
 |.m AO w,v=>∃a ks,v=.ref a/\H a=U (.dK ks)/\fX K H AO ks/\∀b,w=U b->b=a
theorem bf.same{H':Hp}(s:AV H H'){b:Bx}{v:V}(h:bf K H b v):bf K H' b v:=by
 cases b with
 |z d=>exact AW.kp (.of s) h
 |l ds=>
  obtain⟨a,vs,e,q,r⟩:=h;refine⟨a,vs,e,?_,r.kp (.of s)⟩;rcases q with q|⟨o,q⟩
  ·exact .inl (s _ _ q)
  ·exact .inr ⟨o,s _ _ q⟩
 |o ds=>
  obtain⟨a,vs,e,q,r⟩:=h;exact⟨a,vs,e,s _ _ q,r.kp (.of s)⟩
 |n AO=>
  obtain⟨a,vs,e,q,r⟩:=h;refine⟨a,vs,e,?_,r.kp (.of s)⟩;rcases q with q|⟨o,q⟩
  ·exact .inl (s _ _ q)
  ·exact .inr ⟨o,s _ _ q⟩
 |m AO _=>
  obtain⟨a,vs,e,q,r⟩:=h;exact⟨a,vs,e,s _ _ q,r.1.kp (.of s),r.2⟩
def oM:Bx->Y (O Dt)
 |.z (.lst ds)=>U ds
 |.l ds=>U ds
 |.o ds=>U ds
 |_=>Z
theorem bf.Hh{b:Bx}{v:V}{ds:O Dt}(h:bf K H b v)(e:oM b=U ds):∃a vs,v=.ref a/\yS K H a vs/\aK K H ds vs:=by
 cases b with
 |z d=>
  cases d<;>first|(cases e;done)|skip;cases e;simp only[bf,AW]at h;obtain⟨a,vs,e,q,r⟩:=h;exact⟨a,vs,e,q.sq,r⟩
 |l c=>
  cases e;obtain⟨a,vs,e,q,r⟩:=h;exact⟨a,vs,e,.inl q,r⟩
 |o c=>
  cases e;obtain⟨a,vs,e,q,r⟩:=h;exact⟨a,vs,e,.inl (.inl q),r⟩
 |n _=>cases e
 |m _ _=>cases e
abbrev vP(K:B1)(H:Hp):O Bx->O V->Prop:=AI (bf K H)
def Nw(H:Hp):Bx->V->Prop
 |.o _,v=>∀a,v=.ref a->H a=Z
 |.m _ _,v=>∀a,v=.ref a->H a=Z
 |_,_=>True
theorem Nw.old{H1:Hp}(s:AV H H1){b:Bx}{v:V}(h:Nw H1 b v):Nw H b v:=by
 cases b with
 |o ds=>exact λa e=>s.free (h a e)
 |m ds _=>exact λa e=>s.free (h a e)
 |_=>trivial
def loose:Bx->Bool
 |.z _=>false
 |_=>true
def yM:Bx->Bool
 |.o _=>true
 |.m _ _=>true
 |_=>false
structure cg (K:B1) (H0 H:Hp) (σ:L2.St) (ρ:Ev):Prop where
 len:σ.length=ρ.length
 val:∀(i:Nat) b,ρ[i]?=some (some b)->∃v,σ[i]?=some (some v)/\bf K H b v
 own:∀(i j:Nat) c a b,ρ[i]?=some (some c)->yM c=true->σ[i]?=some (some (.ref a))->ρ[j]?=some (some b)->loose b=true->σ[j]?=some (some (.ref a))->i=j
 base:AV H0 H
 new:∀(i:Nat) c a,ρ[i]?=some (some c)->yM c=true->σ[i]?=some (some (.ref a))->H0 a=none
theorem cg.grow{H':Hp}{ρ:Ev}(r:cg K H0 H σ ρ)(s:AV H H'):cg K H0 H' σ ρ:=
 ⟨r.len,λi b e=>let ⟨v,e1,h⟩:=r.val i b e;⟨v,e1,h.same s⟩,r.own,r.base.trans s,r.new⟩
def tF(K:B1)(f:Ev->Y Bx):TE:=λσ H Q=>∃H0 ρ b,cg K H0 H σ ρ/\f ρ=U b/\∀v H',AV H H'->Nw H b v->bf K H' b v->Q v H'
def NR(K:B1)(f:Ev->Y (O Bx)):TA:=λσ H Q=>∃H0 ρ bs,cg K H0 H σ ρ/\f ρ=U bs/\∀vs H',AV H H'->vP K H' bs vs->Q vs H'
def Db(K:B1)(f:Ev->Y Bool):TT:=λσ H Q=>∃H0 ρ b,cg K H0 H σ ρ/\f ρ=U b/\∀H',AV H H'->Q b H'
def PV(X:Cx)(e:Expr)(f:Ev->Y Bx):Prop:=PE X e (tF X.K f)
structure QV (X:Cx) (e:Expr) (f:Ev->Option Bx):Prop where
 run:PV X e f
def IJ(X:Cx)(es:O Expr)(f:Ev->Y (O Bx)):Prop:=PA X es (NR X.K f)
structure D7 (X:Cx) (es:List Expr) (f:Ev->Option (List Bx)):Prop where
 run:IJ X es f
def PB(X:Cx)(e:Expr)(f:Ev->Y Bool):Prop:=PT X e (Db X.K f)
structure QB (X:Cx) (e:Expr) (f:Ev->Option Bool):Prop where
 run:PB X e f
theorem Ij{t t':TE}(h:PE X e t)(m:∀ σ H Q,t' σ H Q->t σ H Q):PE X e t':=λAN s σ H Q I q=>h AN s σ H Q I (m σ H Q q)
theorem RY{e:O Expr}{t t':TA}(h:PA X e t)(m:∀ σ H Q,t' σ H Q->t σ H Q):PA X e t':=λpos AN s σ H Q I q=>h pos AN s σ H Q I (m σ H Q q)
theorem Ll{t t':TT}(h:PT X e t)(m:∀ σ H Q,t' σ H Q->t σ H Q):PT X e t':=λAN s σ H Q I q=>h AN s σ H Q I (m σ H Q q)
theorem Mo{t t':TT}(h:PW X e t)(m:∀ σ H Q,t' σ H Q->t σ H Q):PW X e t':=λwh AN s σ H Q I q=>h wh AN s σ H Q I (m σ H Q q)
theorem YT{e:AB}{t t':TS}(h:PS X e t)(m:∀D σ H,t' D σ H->t D σ H):PS X e t':=λAN s σ H D I q=>h AN s σ H D I (m D σ H q)
theorem MV{e:O AB}{t t':TS}(h:Wo X e t)(m:∀D σ H,t' D σ H->t D σ H):Wo X e t':=λAN s σ H D I q=>h AN s σ H D I (m D σ H q)
def rF(K:B1)(g:Bx->Bx->Y Bx):R2:=λx y H Q=>∃a b c,bf K H a x/\bf K H b y/\g a b=U c/\∀w H',AV H H'->Nw H c w->bf K H' c w->Q w H'
def N2(K:B1)(g:Bx->Y Bx):V->Hp->VK->Prop:=λx H Q=>∃a c,bf K H a x/\g a=U c/\∀w H',AV H H'->Nw H c w->bf K H' c w->Q w H'
def SL(K:B1)(g:O Bx->Y Bx):O V->Hp->VK->Prop:=λxs H Q=>∃bs c,vP K H bs xs/\g bs=U c/\∀w H',AV H H'->Nw H c w->bf K H' c w->Q w H'
abbrev Ik(X:Cx)(f:A0->A0->Sem A0)(g:Bx->Bx->Y Bx):Prop:=Aa X f (rF X.K g)
abbrev S2(X:Cx)(f:A0->Sem A0)(g:Bx->Y Bx):Prop:=EH X f (N2 X.K g)
abbrev oH(X:Cx)(f:A0)(g:O Bx->Y Bx):Prop:=gj X f (SL X.K g)
theorem Aa.imp{f:A0->A0->Sem A0}{r r':R2}(h:Aa X f r)(m:∀x y H Q,r' x y H Q->r x y H Q):Aa X f r':=λAN s σ H x y v u Q I a b q=>h AN s σ H x y v u Q I a b (m x y H Q q)
theorem EH.imp{f:A0->Sem A0}{r r':V->Hp->VK->Prop}(h:EH X f r)(m:∀x H Q,r' x H Q->r x H Q):EH X f r':=λAN s σ H x v Q I a q=>h AN s σ H x v Q I a (m x H Q q)
theorem gj.imp{f:A0}{r r':O V->Hp->VK->Prop}(h:gj X f r)(m:∀x H Q,r' x H Q->r x H Q):gj X f r':=λAN s σ H xs us Q I a q=>h AN s σ H xs us Q I a (m xs H Q q)
def b2(g:Bx->Bx->Y Bx)(fa fb:Ev->Y Bx):Ev->Y Bx:=λρ=>(fa ρ).bind λx=>(fb ρ).bind λy=>g x y
def b1(g:Bx->Y Bx)(fa:Ev->Y Bx):Ev->Y Bx:=λρ=>(fa ρ).bind g
def cG(g:O Bx->Y Bx)(fs:Ev->Y (O Bx)):Ev->Y Bx:=λρ=>(fs ρ).bind g
theorem AT{o:Y α}{f:α->Y β}{b:β}(h:o.bind f=U b):∃a,o=U a/\f a=U b:=by
 cases o with
 |none=>cases h
 |some a=>exact⟨a,rfl,h⟩
theorem LM{g:Bx->Bx->Y Bx}{fa fb:Ev->Y Bx}(σ:L2.St)(H:Hp)(Q:VK)(h:tF K (b2 g fa fb) σ H Q):HE (rF K g) (tF K fa) (tF K fb) σ H Q:=by
 obtain⟨H0,ρ,c,E,e,q⟩:=h;obtain⟨a,ea,e⟩:=AT e;obtain⟨b,eb,e⟩:=AT e;refine⟨H0,ρ,a,E,ea,λv H1 d p n=>⟨H0,ρ,b,E.grow d,eb,λu H2 f s m=>?_⟩⟩;exact⟨a,b,c,n.same f,m,e,λw o j l i=>q w o ((d.trans f).trans j) (l.old (d.trans f)) i⟩
theorem TU{g:Bx->Y Bx}{fa:Ev->Y Bx}(σ:L2.St)(H:Hp)(Q:VK)(h:tF K (b1 g fa) σ H Q):RA (N2 K g) (tF K fa) σ H Q:=by
 obtain⟨H0,ρ,c,E,e,q⟩:=h;obtain⟨a,ea,e⟩:=AT e;exact⟨H0,ρ,a,E,ea,λv H1 b m j=>⟨a,c,j,e,λw l f i d=>q w l (b.trans f) (i.old b) d⟩⟩
theorem EJ{g:O Bx->Y Bx}{fs:Ev->Y (O Bx)}(σ:L2.St)(H:Hp)(Q:VK)(h:tF K (cG g fs) σ H Q):LX (SL K g) (NR K fs) σ H Q:=by
 obtain⟨H0,ρ,c,E,e,q⟩:=h;obtain⟨a,ea,e⟩:=AT e;exact⟨H0,ρ,a,E,ea,λv H1 b j=>⟨a,c,j,e,λw l f i d=>q w l (b.trans f) (i.old b) d⟩⟩
section
variable{a b:Expr}{fa fb fc f:Ev->Y Bx}{fs:Ev->Y (O Bx)}
theorem aR{op:Operator}{g:Bx->Bx->Y Bx}(ho:Ik X (binaryOp op) g)(ha:QV X a fa)(hb:QV X b fb):QV X (.BinOp a op b pos) (b2 g fa fb):=⟨have ha:=ha.run;have hb:=hb.run;Ij (uv ho ha hb) LM⟩
theorem SR{op:UnaryOp}{g:Bx->Y Bx}(ho:S2 X (unaryOp op) g)(ha:QV X a fa):QV X (.UnaryOp op a pos) (b1 g fa):=⟨have ha:=ha.run;Ij (U2 ho ha) TU⟩
theorem lG{g:Bx->Bx->Y Bx}(ho:Ik X (AG op) g)(ha:QV X a fa)(hb:QV X b fb)(c:behindInMarks op b=false):QV X (.Compare a [op] [b] pos) (b2 g fa fb):=⟨have ha:=ha.run;have hb:=hb.run;Ij (nt ho ha hb c) LM⟩
def JM:Bx->Y Bool
 |.z (.bl b)=>U b
 |_=>Z
theorem Dj{b:Bx}{v:V}{k:Bool}(h:bf K H b v)(e:JM b=U k):v=.bl k:=by
 cases b with
 |z d=>
  cases d<;>first|(cases e;done)|skip;cases e;simpa only[bf,AW]using h
 |_=>cases e
theorem bz(σ:L2.St)(H:Hp)(Q:Bool->Hp->Prop)(h:Db K (λρ=>(f ρ).bind JM) σ H Q):tF K f σ H (λx H'=>∃k,x=.bl k/\Q k H'):=by
 obtain⟨H0,ρ,k,E,e,q⟩:=h;obtain⟨b,eb,e⟩:=AT e;exact⟨H0,ρ,b,E,eb,λv H1 a d c=>⟨k,Dj c e,q H1 a⟩⟩
theorem cJ{g:Bx->Bx->Y Bx}(ho:Ik X (AG op) g)(ha:QV X a fa)(hb:QV X b fb)(c:behindInMarks op b=false):QB X (.Compare a [op] [b] pos) (λρ=>(b2 g fa fb ρ).bind JM):=⟨have ha:=ha.run;have hb:=hb.run;Ll (u4 ho ha hb c) λσ H Q h=>LM σ H _ (bz σ H Q h)⟩
def F7(g g':Bx->Bx->Y Bx)(fa fb fc:Ev->Y Bx):Ev->Y Bx:=λρ=>(fa ρ).bind λx=>(fb ρ).bind λy=>(g x y).bind λr=>(JM r).bind λk=>if k=true then(fc ρ).bind λw=>g' y w else U (.z (.bl false))
theorem ul{g g':Bx->Bx->Y Bx}(σ:L2.St)(H:Hp)(Q:VK)(h:tF K (F7 g g' fa fb fc) σ H Q):NX (rF K g) (rF K g') (tF K fa) (tF K fb) (tF K fc) σ H Q:=by
 obtain⟨H0,ρ,d,E,e,q⟩:=h;obtain⟨a,ea,e⟩:=AT e;obtain⟨b,eb,e⟩:=AT e;obtain⟨r,er,e⟩:=AT e;obtain⟨k,ek,e⟩:=AT e;refine⟨H0,ρ,a,E,ea,λv H1 j F C=>⟨H0,ρ,b,E.grow j,eb,λu H2 m I i=>?_⟩⟩;refine⟨a,b,r,C.same m,i,er,λw B l G A=>⟨k,Dj A ek,?_⟩⟩;have c:=(j.trans m).trans l;cases k with
 |false=>
  rw[zz ZT]at e ⊢;cases e;exact q _ B c trivial (by simp only[bf,AW])
 |true=>
  rw[zl rfl]at e ⊢;obtain⟨n,t,e⟩:=AT e;refine⟨H0,ρ,n,E.grow c,t,λx J f L p=>?_⟩;exact⟨b,n,d,(i.same l).same f,p,e,λy s z D o=>q y s ((c.trans f).trans z) (D.old (c.trans f)) o⟩
theorem Tc{e:CmpOp}{g g':Bx->Bx->Y Bx}(ho:Ik X (AG op) g)(h:Ik X (AG e) g')(ha:QV X a fa)(hb:QV X b fb)(d:QV X c fc)(f:lastMarks [op,e] [b,c]=false:=by with_unfolding_all rfl):QV X (.Compare a [op,e] [b,c] pos) (F7 g g' fa fb fc):=⟨have ha:=ha.run;have hb:=hb.run;have d:=d.run;Ij (XT ho h ha hb d f) ul⟩
def BW(ρ:Ev)(i:Nat):Y Bx:=match ρ[i]? with
 |some (U (.o ds))=>U (.l ds)
 |some (U (.m AO _))=>U (.n AO)
 |some (U b)=>U b
 |_=>Z
theorem Td{ρ:Ev}{b:Bx}(E:cg K H0 H σ ρ)(e:BW ρ i=U b):∃v,σ[i]?=U (U v)/\bf K H b v:=by
 unfold BW at e;split at e
 ·rename_i ds h;cases e;obtain⟨v,e1,a,vs,e2,q,r⟩:=E.val i _ h;exact⟨v,e1,a,vs,e2,.inl q,r⟩
 ·rename_i ds h;cases e;obtain⟨v,e1,a,vs,e2,q,r⟩:=E.val i _ h;exact⟨v,e1,a,vs,e2,.inl q,r.1⟩
 ·rename_i c h;cases e;exact E.val i _ h
 ·cases e
theorem Dk{ρ:Ev}{b:Bx}(e:BW ρ i=U b):yM b=false:=by
 unfold BW at e;split at e
 ·cases e;rfl
 ·cases e;rfl
 ·rename_i a h1 h2 c;cases e;cases b with
  |o ds=>exact absurd S (h1 ds)
  |m ds _=>exact absurd S (h2 ds _)
  |_=>rfl
 ·cases e
theorem ak(i:Nat)(f:X.N[i]?=U x:=by rfl)(c:D4 X.env.scope x:=by first|exact kB rfl|exact JE (kB S)|exact JE (JE S))(a:sa x:=by decide)(d:(x==("__classdict__":AJ))=false:=by decide):QV X (.Name x pos) (λρ=>BW ρ i):=⟨Ij (yU f c a d) λσ H Q h=>by
 obtain⟨H0,ρ,b,E,e,q⟩:=h;obtain⟨v,e1,r⟩:=Td E e;refine⟨v,e1,q v H (AV.refl H) ?_ r⟩;cases b with
 |o ds=>have:=Dk e;cases this
 |m ds _=>have:=Dk e;cases this
 |_=>trivial⟩
def cB(d:Dt):Ev->Y Bx:=λ_=>U (.z d)
theorem FE{v:V}{d:Dt}(h:PE X e (tC v))(r:∀H,AW X.K H d v):PV X e (cB d):=Ij h λσ H Q q=>by
 obtain⟨H0,ρ,b,E,e,q⟩:=q;cases e;exact q v H (AV.refl H) trivial (r H)
theorem aC{i j}:QV X (.Constant (.int i) j pos) (cB (.int i)):=⟨FE sM λH=>by simp only[AW]⟩
theorem Bg{i j}:QV X (.Constant (.bool i) j pos) (cB (.bl i)):=⟨FE mB λH=>by simp only[AW]⟩
theorem BX{j}:QV X (.Constant .none j pos) (cB .non):=⟨FE ny λH=>by simp only[AW]⟩
theorem OR{j}(hx:x.length<=AA:=by decide):PV X (.Constant (.str x) j pos) (cB (.str x)):=FE rn λH=>by unfold AW;exact⟨rfl,hx⟩
theorem Te{i:Int}{t:Tok}(hg:Gl X x)(a:X.mg x=U (.int i t))(b:sa x:=by decide):QV X (.Name x pos) (cB (.int i)):=⟨FE (YH hg a (v:=.int i) ⟨t,rfl⟩ b) λH=>by simp only[AW]⟩
theorem Y3{t:Tok}(hg:Gl X x)(a:X.mg x=U (.str y t))(c:y.length<=AA:=by decide)(b:sa x:=by decide):QV X (.Name x pos) (cB (.str y)):=⟨FE (YH hg a (v:=.str y) ⟨t,rfl⟩ b) λH=>by unfold AW;exact⟨rfl,c⟩⟩
def GV:Bx->Y Bool
 |.z .non=>U false
 |.z (.bl b)=>U b
 |.z (.int i)=>U (i != 0)
 |.z (.str x)=>U ((x.length:Int) != 0)
 |.z (.tup ds)=>U (!ds.isEmpty)
 |.z (.lst ds)=>U (!ds.isEmpty)
 |.l ds=>U (!ds.isEmpty)
 |.o ds=>U (!ds.isEmpty)
 |.z .emp=>Z
 |.n _=>Z
 |.m _ _=>Z
theorem aK.isEmpty{ds:O Dt}(h:aK K H ds vs):(!ds.isEmpty)=!vs.isEmpty:=by
 have:=h.length;cases ds<;>cases vs<;>simp_all
theorem g3{b:Bx}{v:V}{k:Bool}(r:bf K H b v)(e:GV b=U k):M3 K v H k:=by
 cases b with
 |z d=>
  cases d with
  |non=>cases e;simp only[bf,AW]at r;subst r;rfl
  |bl b=>cases e;simp only[bf,AW]at r;subst r;rfl
  |int b=>cases e;simp only[bf,AW]at r;subst r;rfl
  |str x=>cases e;simp only[bf,AW]at r;obtain⟨rfl,h⟩:=r;exact⟨h,rfl⟩
  |tup ds=>
   cases e;simp only[bf,AW]at r;obtain⟨a,vs,rfl,q,r⟩:=r;exact .inr (.inl ⟨vs,q,r.isEmpty⟩)
  |lst ds=>
   cases e;obtain⟨a,vs,rfl,q,r⟩:=r.Hh rfl;exact .inl ⟨vs,q,r.isEmpty⟩
  |emp=>cases e
 |l ds=>
  cases e;obtain⟨a,vs,rfl,q,r⟩:=r.Hh rfl;exact .inl ⟨vs,q,r.isEmpty⟩
 |o ds=>
  cases e;obtain⟨a,vs,rfl,q,r⟩:=r.Hh rfl;exact .inl ⟨vs,q,r.isEmpty⟩
 |n _=>cases e
 |m _ _=>cases e
theorem wL(h:QV X e f)(he:∀a,isTrue e X.env a=(do let v <-a;standAt e.pos;holding [v] (truthy v)):=by intro _;rfl):QB X e (λρ=>(f ρ).bind GV):=⟨have h:=h.run;Ll (c9 h he) λσ H Q q=>by
 obtain⟨H0,ρ,k,E,e,q⟩:=q;obtain⟨b,eb,e⟩:=AT e;exact⟨H0,ρ,b,E,eb,λv H1 c g d=>⟨k,g3 d e,q H1 c⟩⟩⟩
def F6(p q:Ev->Y Bool):Ev->Y Bool:=λρ=>(p ρ).bind λc=>if c=true then q ρ else U false
def DC(p q:Ev->Y Bool):Ev->Y Bool:=λρ=>(p ρ).bind λc=>if c=true then U true else q ρ
def MF(p:Ev->Y Bool):Ev->Y Bool:=λρ=>(p ρ).bind λc=>U (!c)
def UI(X:Cx)(e:Expr)(f:Ev->Y Bool):Prop:=PW X e (Db X.K f)
structure ER (X:Cx) (e:Expr) (f:Ev->Option Bool):Prop where
 run:UI X e f
variable{p q:Ev->Y Bool}{AS:O Expr}
theorem Tf(ha:QB X a p):ER X (.BoolOp .And [a] pos) p:=⟨have ha:=ha.run;Se ha⟩
theorem wM(ha:QB X a p):ER X (.BoolOp .Or [a] pos) p:=⟨have ha:=ha.run;lv ha⟩
theorem gL(σ:L2.St)(H:Hp)(Q:Bool->Hp->Prop)(h:Db K (F6 p q) σ H Q):SC (Db K p) (Db K q) σ H Q:=by
 obtain⟨H0,ρ,k,E,e,w⟩:=h;obtain⟨c,b,e⟩:=AT e;refine⟨H0,ρ,c,E,b,λH1 a=>?_⟩;cases c with
 |true=>rw[zl rfl]at e ⊢;exact⟨H0,ρ,k,E.grow a,e,λH2 d=>w H2 (a.trans d)⟩
 |false=>rw[zz ZT]at e ⊢;cases e;exact w H1 a
theorem XW(σ:L2.St)(H:Hp)(Q:Bool->Hp->Prop)(h:Db K (DC p q) σ H Q):S3 (Db K p) (Db K q) σ H Q:=by
 obtain⟨H0,ρ,k,E,e,w⟩:=h;obtain⟨c,b,e⟩:=AT e;refine⟨H0,ρ,c,E,b,λH1 a=>?_⟩;cases c with
 |true=>rw[zl rfl]at e ⊢;cases e;exact w H1 a
 |false=>rw[zz ZT]at e ⊢;exact⟨H0,ρ,k,E.grow a,e,λH2 d=>w H2 (a.trans d)⟩
theorem YW(ha:QB X a p)(hb:ER X (.BoolOp .And (b::AS) pos) q):ER X (.BoolOp .And (a::b::AS) pos) (F6 p q):=⟨have ha:=ha.run;have hb:=hb.run;Mo (ox ha hb) gL⟩
theorem BZ(ha:QB X a p)(hb:ER X (.BoolOp .Or (b::AS) pos) q):ER X (.BoolOp .Or (a::b::AS) pos) (DC p q):=⟨have ha:=ha.run;have hb:=hb.run;Mo (Xs ha hb) XW⟩
theorem Qu(h:ER X e p):QB X e p:=⟨have h:=h.run;h.pt⟩
theorem Ca(ha:QB X a p):QB X (.UnaryOp .Not a pos) (MF p):=⟨have ha:=ha.run;Ll (ax ha) λσ H Q h=>by
 obtain⟨H0,ρ,k,E,e,w⟩:=h;obtain⟨c,d,e⟩:=AT e;cases e;exact⟨H0,ρ,c,E,d,λH1 b=>w H1 b⟩⟩
def yN(fa fb:Ev->Y Bx):Ev->Y Bx:=λρ=>((fa ρ).bind JM).bind λc=>if c=true then fb ρ else U (.z (.bl false))
def HM(fa:Ev->Y Bx):Ev->Y Bx:=λρ=>((fa ρ).bind JM).bind λc=>U (.z (.bl (!c)))
theorem vH{op}(h:QV X a fa):QV X (.BoolOp op [a] pos) fa:=⟨have h:=h.run;gp h⟩
theorem lZ(ha:QV X a fa)(hb:QV X (.BoolOp .And (b::AS) pos) fb):QV X (.BoolOp .And (a::b::AS) pos) (yN fa fb):=⟨have ha:=ha.run;have hb:=hb.run;Ij (lj ha hb) λσ H Q h=>by
 obtain⟨H0,ρ,k,E,e,w⟩:=h;obtain⟨c,f,e⟩:=AT e;obtain⟨x,ex,f⟩:=AT f;refine⟨H0,ρ,x,E,ex,λv H1 d m j=>⟨c,Dj j f,?_⟩⟩;cases c with
 |true=>rw[zl rfl]at e ⊢;exact⟨H0,ρ,k,E.grow d,e,λv H2 l i g=>w v H2 (d.trans l) (i.old d) g⟩
 |false=>rw[zz ZT]at e ⊢;cases e;exact w _ H1 d trivial (by simp only[bf,AW])⟩
theorem lb(ha:QV X a fa):QV X (.UnaryOp .Not a pos) (HM fa):=⟨have ha:=ha.run;Ij (g9 ha) λσ H Q h=>by
 obtain⟨H0,ρ,k,E,e,w⟩:=h;obtain⟨c,b,e⟩:=AT e;obtain⟨x,ex,b⟩:=AT b;cases e;exact⟨H0,ρ,x,E,ex,λv H1 d g f=>⟨c,Dj f b,w _ H1 d trivial (by simp only[bf,AW])⟩⟩⟩
theorem YX:IJ X [] (λ_=>U []):=RY sI λσ H Q h=>by
 obtain⟨H0,ρ,bs,E,e,q⟩:=h;cases e;exact q [] H (AV.refl H) .nil
def aq(f:Ev->Y Bx)(fs:Ev->Y (O Bx)):Ev->Y (O Bx):=λρ=>(f ρ).bind λb=>(fs ρ).bind λbs=>U (b::bs)
theorem Tg(h1:PV X e f)(h2:IJ X es fs)(hs:A9 (e::es) X.env=(false,eval e X.env)::A9 es X.env:=by rfl):IJ X (e::es) (aq f fs):=RY (iw h1 h2 hs) λσ H Q h=>by
 obtain⟨H0,ρ,bs,E,e,q⟩:=h;obtain⟨b,eb,e⟩:=AT e;obtain⟨d,j,e⟩:=AT e;cases e;refine⟨H0,ρ,b,E,eb,λv H1 a l i=>⟨H0,ρ,d,E.grow a,j,λvs H2 c g=>?_⟩⟩;exact q (v::vs) H2 (a.trans c) (.cons (i.same c) g)
def CW:Bx->Y Bx
 |.z d=>U (.z d)
 |.o ds=>U (.z (.lst ds))
 |.l _=>Z
 |.n _=>Z
 |.m _ _=>Z
theorem WK{a:A1}(I:L2.AU X AN σ H s)(h:H a=U (.lst vs)):∃o,L2.AU X AN σ (B6 H a (.yw o (.lst vs))) s:=by
 obtain⟨z,AQ,n,r,e⟩:=I.hok a _ h;refine⟨{ cls:=.type "list",data:=.seq AQ.toArray n },⟨I.ok,I.os,I.bare,⟨I.base.keep,I.base.slot,λb d q1 q2 f=>?_,I.base.there,λb xs q=>?_,λb d u q=>?_,λb ps q=>?_⟩,I.loc,I.cell,?_,λx c q=>?_,λp hp=>?_,?_,I.len⟩⟩
 ·have:=I.base.free b d q1 q2 f;rw[aV (eE h this).symm];exact this
 ·have:=I.base.tups b xs q;rw[aV (qO this h (by intro z;cases z))];exact this
 ·have:=I.base.Ih b d u q;rw[aV (qO this h (by intro z;cases z))];exact this
 ·obtain⟨m,this⟩:=I.base.Mv b ps q;rw[aV (qO this h (by intro z;cases z))];exact⟨m,this⟩
 ·rw[aV (eE h I.free).symm];exact I.free
 ·rw[aV (eE h (I.uw x c q)).symm];exact I.uw x c q
 ·obtain⟨q1,q2,f⟩:=I.pin p hp;refine⟨q1,?_,f⟩;rw[aV (eE h q2).symm];exact q2
 ·intro b u q;by_cases hb:b=a
  ·subst hb;rw[bK]at q;cases q;exact⟨e,z,AQ,n,r,e⟩
  ·rw[aV hb]at q;refine(I.hok b u q).stay (λc v _ w=>w) (λc w=>?_) λc xs w=>?_
   ·rw[aV (qO w h (by intro z;cases z))];exact w
   ·rw[aV (qO w h (by intro z;cases z))];exact w
theorem jx(h:QV X e f):QV X e (b1 CW f):=⟨by
 have h:=h.run;intro AN s σ H Q I q;obtain⟨H0,ρ,b,E,e,q⟩:=q;obtain⟨x,ex,e⟩:=AT e;cases x with
 |z d=>
  cases e;exact h AN s σ H Q I ⟨H0,ρ,_,E,ex,λv H' s' i g=>q v H' s' trivial g⟩
 |l ds=>cases e
 |n ds=>cases e
 |m ds _=>cases e
 |o ds=>
  cases e;refine jw (h AN s σ H (λv H'=>AV H H'/\Nw H (.o ds) v/\bf X.K H' (.o ds) v) I ⟨H0,ρ,_,E,ex,λv H' s' i g=>⟨s',i,g⟩⟩) λu B p=>?_;obtain⟨v,H1,A,t,s',i,g⟩:=p;obtain⟨a,vs,rfl,ha,rs⟩:=g;obtain⟨o,w⟩:=WK A ha;refine⟨.ref a,_,w,t,q _ _ (λc y j=>?_) trivial ?_⟩
  ·rw[aV (eE j (i a S))];exact s' c y j
  ·simp only[bf,AW];exact⟨a,vs,rfl,.inl ⟨o,bK⟩,rs.kp (.lst ha)⟩⟩
def Qv:O Bx->Y (O Dt)
 |[]=>U []
 |.z d::r=>(Qv r).bind λds=>U (d::ds)
 |_=>Z
theorem JN{K:B1}{H:Hp}:∀{bs:O Bx} {vs:O V} {ds:O Dt},vP K H bs vs->Qv bs=U ds->aK K H ds vs
 |_,_,_,.nil,e=>by cases e;exact aK.nil
 |b::bs,_,_,.cons h t,e=>by
  cases b with
  |z d=>
   simp only[Qv]at e;obtain⟨a,e1,e2⟩:=AT e;cases e2;exact aK.cons h (JN t e1)
  |_=>cases e
theorem JQ:∀{bs:O Bx} {ds:O Dt},Qv bs=U ds->ds.length=bs.length
 |[],_,e=>by cases e;rfl
 |.z d::r,_,e=>by
  simp only[Qv]at e;obtain⟨a,e1,e2⟩:=AT e;cases e2;simp[JQ e1]
 |.l _::_,_,e=>by cases e
 |.o _::_,_,e=>by cases e
 |.n _::_,_,e=>by cases e
 |.m _ _::_,_,e=>by cases e
def mj(bs:O Bx):Y Bx:=if bs.length<=1000 then(Qv bs).bind λds=>U (.z (.tup ds))else Z
def oF(bs:O Bx):Y Bx:=if bs.length<=1000 then(Qv bs).bind λds=>U (.o ds)else Z
theorem bL{p:A1}(h:H p=Z):AV H (B6 H p o):=λb u e=>by rw[aV (eE e h)];exact e
theorem NS(h:n<=1000):n<=AA:=ZI h ()
theorem jJ{x1}(h:D7 X es fs):QV X (.Tuple es x1 pos) (cG mj fs):=⟨have h:=h.run;Ij (ph h) λσ H Q q=>by
 obtain⟨H0,ρ,c,E,e,q⟩:=q;obtain⟨bs,f,e⟩:=AT e;refine⟨H0,ρ,bs,E,f,λvs H1 g d=>?_⟩;unfold mj at e;split at e
 ·rename_i b;obtain⟨ds,e1,e⟩:=AT e;cases e;have a:=JN d e1;refine⟨NS (by rw[a.length,JQ e1];exact b),λp hp=>q _ _ (g.trans (bL hp)) trivial ?_⟩;simp only[bf,AW];exact⟨p,vs,rfl,.inl (.inl bK),a.kp (.of (bL hp))⟩
 ·cases e⟩
theorem gP(h:D7 X es fs):QV X (.List es pos) (cG oF fs):=⟨have h:=h.run;Ij (Sc h) λσ H Q q=>by
 obtain⟨H0,ρ,c,E,e,q⟩:=q;obtain⟨bs,i,e⟩:=AT e;refine⟨H0,ρ,bs,E,i,λvs H1 d g=>?_⟩;unfold oF at e;split at e
 ·rename_i f;obtain⟨ds,e1,e⟩:=AT e;cases e;have b:=JN g e1;refine⟨NS (by rw[b.length,JQ e1];exact f),λp hp=>q _ _ (d.trans (bL hp)) (λa ea=>by cases ea;exact d.free hp) ?_⟩;exact⟨p,vs,rfl,bK,b.kp (.of (bL hp))⟩
 ·cases e⟩
theorem bD{id:String}{g:O Bx->Y Bx}{p:Pos}(b:oH X (.builtin id) g)(hg:Gl X x)(a:X.mg x=Z)(f:AH x=U (.builtin id))(ha:D7 X (e::es) fs)(h:x ≠ "__name__":=by decide)(d:sa x:=by decide)(he:A9 (e::es) X.env=(false,eval e X.env)::A9 es X.env:=by rfl)(c:(AD pos (A9 es X.env)).any (·.1)=false:=by rfl):QV X (.Call (.Name x p) (e::es) [] pos) (cG g fs):=⟨have ha:=ha.run;Ij (sJ b hg a f ha h d he c) EJ⟩
theorem fJ{T:String}{g:O Bx->Y Bx}{p:Pos}(b:oH X (.type T) g)(hg:Gl X x)(a:X.mg x=Z)(f:AH x=U (.type T))(ha:D7 X (e::es) fs)(h:x ≠ "__name__":=by decide)(d:sa x:=by decide)(he:A9 (e::es) X.env=(false,eval e X.env)::A9 es X.env:=by rfl)(c:(AD pos (A9 es X.env)).any (·.1)=false:=by rfl):QV X (.Call (.Name x p) (e::es) [] pos) (cG g fs):=⟨have ha:=ha.run;Ij (FW b hg a f ha h d he c) EJ⟩
end
inductive Ap where
 |nx (ρ:Ev)|rt (b:Bx)|bk (ρ:Ev)|ct (ρ:Ev)
def WL(K:B1)(H0:Hp)(D:C8):Ap->Prop
 |.nx ρ=>∀ σ H,cg K H0 H σ ρ->D.nx σ H
 |.rt b=>∀v H,AV H0 H->Nw H0 b v->bf K H b v->D.rt v H
 |.bk ρ=>∀ σ H,cg K H0 H σ ρ->D.bk σ H
 |.ct ρ=>∀ σ H,cg K H0 H σ ρ->D.ct σ H
def tG(K:B1)(g:Ev->Y Ap):TS:=λD σ H=>∃H0 ρ r,cg K H0 H σ ρ/\g ρ=U r/\WL K H0 D r
def L6(X:Cx)(st:AB)(g:Ev->Y Ap):Prop:=PS X st (tG X.K g)
structure Tj (X:Cx) (st:Stmt) (g:Ev->Option Ap):Prop where
 run:L6 X st g
def D3(X:Cx)(st:O AB)(g:Ev->Y Ap):Prop:=Wo X st (tG X.K g)
structure Co (X:Cx) (st:List Stmt) (g:Ev->Option Ap):Prop where
 run:D3 X st g
def aF(g1 g2:Ev->Y Ap):Ev->Y Ap:=λρ=>(g1 ρ).bind λr=>match r with
 |.nx a=>g2 a
 |r=>U r
section
variable{a b:Expr}{fa fb fc f:Ev->Y Bx}{fs:Ev->Y (O Bx)}{st:AB}{AS:O AB}{g g1 g2:Ev->Y Ap}
theorem aJ  :Co X [] (λρ=>U (.nx ρ)):=⟨MV sB λD σ H h=>by
 obtain⟨H0,ρ,r,E,e,q⟩:=h;cases e;exact q σ H E⟩
theorem au(h1:Tj X st g1)(h2:Co X AS g2):Co X (st::AS) (aF g1 g2):=⟨have h1:=h1.run;have h2:=h2.run;MV (VS h1 h2) λD σ H h=>by
 obtain⟨H0,ρ,r,E,e,q⟩:=h;obtain⟨c,e1,e⟩:=AT e;refine⟨H0,ρ,c,E,e1,?_⟩;cases c with
 |nx a=>exact λσ' H' d=>⟨H0,a,r,d,e,q⟩
 |rt b=>cases e;exact q
 |bk a=>cases e;exact q
 |ct a=>cases e;exact q⟩
def F':Bx->Y Ap
 |.l _=>Z
 |.n _=>Z
 |b=>U (.rt b)
theorem bZ(h:QV X e f):Tj X (.Return (U e) pos) (λρ=>(f ρ).bind F'):=⟨have h:=h.run;YT (S4 h) λD σ H h=>by
 obtain⟨H0,ρ,r,E,e,q⟩:=h;obtain⟨b,eb,e⟩:=AT e;refine⟨H0,ρ,b,E,eb,λv H1 a g c=>?_⟩;cases b with
 |l ds=>cases e
 |z d=>cases e;exact q v H1 (E.base.trans a) trivial c
 |o ds=>cases e;exact q v H1 (E.base.trans a) (g.old E.base) c
 |n ds=>cases e
 |m ds _=>cases e;exact q v H1 (E.base.trans a) (g.old E.base) c⟩
def Ge(i:Nat)(ρ:Ev):Y Ap:=match ρ[i]? with
 |some (U b)=>F' b
 |_=>Z
theorem Ab(i:Nat){p:Pos}(f:X.N[i]?=U x:=by rfl)(s:D4 X.env.scope x:=by first|exact kB rfl|exact JE (kB S)|exact JE (JE S))(j:sa x:=by decide)(g:(x==("__classdict__":AJ))=false:=by decide):Tj X (.Return (U (.Name x p)) pos) (Ge i):=⟨YT (S4 (yU f s j g)) λD σ H h=>by
 obtain⟨H0,ρ,r,E,e,q⟩:=h;unfold Ge at e;split at e
 ·rename_i b hb;obtain⟨v,e1,c⟩:=E.val i b hb;refine⟨v,e1,?_⟩;cases b with
  |l ds=>cases e
  |z d=>cases e;exact q v H E.base trivial c
  |o ds=>cases e;exact q v H E.base (λa ea=>E.new i _ a hb S (by rw[e1,ea])) c
  |n ds=>cases e
  |m ds _=>cases e;exact q v H E.base (λa ea=>E.new i _ a hb S (by rw[e1,ea])) c
 ·cases e⟩
def za(p:Ev->Y Bool)(g1 g2:Ev->Y Ap):Ev->Y Ap:=λρ=>(p ρ).bind λk=>if k=true then g1 ρ else g2 ρ
theorem gk{p:Ev->Y Bool}{u v:O AB}(a:QB X c p)(ha:Co X u g1)(hb:Co X v g2):Tj X (.If c u v pos) (za p g1 g2):=⟨have a:=a.run;have ha:=ha.run;have hb:=hb.run;YT (cv a ha hb) λD σ H h=>by
 obtain⟨H0,ρ,r,E,e,q⟩:=h;obtain⟨k,ek,e⟩:=AT e;refine⟨H0,ρ,k,E,ek,λH1 b=>?_⟩;cases k with
 |true=>rw[zl rfl]at e ⊢;exact⟨H0,ρ,r,E.grow b,e,q⟩
 |false=>rw[zz ZT]at e ⊢;exact⟨H0,ρ,r,E.grow b,e,q⟩⟩
theorem BC{l:O α}{x y:α}(h:(l.set i x)[j]?=U y):(j=i/\y=x/\i<l.length)\/(j≠i/\l[j]?=U y):=by
 rw[Yf]at h;by_cases e:i=j
 ·subst e;rw[zl rfl]at h;split at h
  ·cases h;exact .inl ⟨rfl,rfl,by assumption⟩
  ·cases h
 ·rw[zz e]at h;exact .inr ⟨λz=>e z.symm,h⟩
theorem JR{l:O α}(x:α)(h:i<l.length):(l.set i x)[i]?=U x:=by
 rw[Yf,zl rfl,zl h]
theorem JT{l:O α}(x:α)(h:j≠i):(l.set i x)[j]?=l[j]?:=by
 rw[Yf,zz (y8 h)]
theorem cg.set{H1:Hp}{ρ:Ev}{b:Bx}{v:V}(E:cg K H0 H σ ρ)(s:AV H H1)(r:bf K H1 b v)(w:yM b=true\/loose b=false)(n:Nw H b v):cg K H0 H1 (σ.set i (U v)) (ρ.set i (U b)):=by
 have D:=E.grow s;have C:∀(j:Nat) (g:Bx) (a:A1),ρ[j]?=U (U g)->loose g=true->σ[j]?=U (U (.ref a))->H a≠Z:=λj g a e1 e2 e3 z=>by
  obtain⟨G,h,x⟩:=E.val j g e1;rw[e3]at h;cases h;cases g with
  |z d=>cases e2
  |l ds=>
   obtain⟨B,vs,f,q,_⟩:=x;cases f;rcases q with q|⟨o,q⟩<;>(rw[z]at q;cases q)
  |o ds=>
   obtain⟨B,vs,f,q,_⟩:=x;cases f;rw[z]at q;cases q
  |n ds=>
   obtain⟨B,vs,f,q,_⟩:=x;cases f;rcases q with q|⟨o,q⟩<;>(rw[z]at q;cases q)
  |m ds _=>
   obtain⟨B,vs,f,q,_⟩:=x;cases f;rw[z]at q;cases q
 have A:yM b=true->∀a,v=.ref a->H a=Z:=λho=>by
  cases b with
  |o ds=>exact n
  |m ds _=>exact n
  |_=>cases ho
 refine⟨by rw[k5,k5];exact E.len,λj g e=>?_,λj k c a g e1 p e2 e3 h f=>?_,D.base,λj c a e1 p e2=>?_⟩
 ·rcases BC e with⟨rfl,e',hi⟩|⟨u,e'⟩
  ·cases e';exact⟨v,JR _ (by rw[E.len];exact hi),r⟩
  ·rw[JT _ u];exact D.val j g e'
 ·rcases BC e1 with⟨rfl,e',hi⟩|⟨u,e'⟩
  ·cases e';rw[JR _ (by rw[E.len];exact hi)]at e2;cases e2;rcases BC e3 with⟨rfl,t,_⟩|⟨y,t⟩
   ·rfl
   ·rw[JT _ y]at f;exact absurd (A p a S) (C k g a t h f)
  ·rw[JT _ u]at e2;rcases BC e3 with⟨rfl,t,hi⟩|⟨y,t⟩
   ·cases t;rw[JR _ (by rw[E.len];exact hi)]at f;cases f;have F:loose c=true:=by cases c<;>first|rfl|cases p
    rcases w with w|w
    ·exact absurd (A w a S) (C j _ a e' F e2)
    ·rw[w]at h;cases h
   ·rw[JT _ y]at f;exact E.own j k c a g e' p e2 t h f
 ·rcases BC e1 with⟨rfl,e',hi⟩|⟨u,e'⟩
  ·cases e';rw[JR _ (by rw[E.len];exact hi)]at e2;cases e2;exact E.base.free (A p a S)
  ·rw[JT _ u]at e2;exact E.new j c a e' p e2
def FO(ρ:Ev)(i:Nat):Bx->Y Ev
 |.l _=>Z
 |.n _=>Z
 |b=>U (ρ.set i (U b))
theorem YZ{H1:Hp}{ρ ρ':Ev}{b:Bx}{v:V}(E:cg K H0 H σ ρ)(s:AV H H1)(r:bf K H1 b v)(n:Nw H b v)(e:FO ρ i b=U ρ'):cg K H0 H1 (σ.set i (U v)) ρ':=by
 cases b with
 |l ds=>cases e
 |z d=>cases e;exact E.set s r (.inr S) n
 |o d=>cases e;exact E.set s r (.inl S) n
 |n ds=>cases e
 |m d _=>cases e;exact E.set s r (.inl S) n
theorem bx(i:Nat){p:Pos}(c:X.N.Nodup)(he:QV X e f)(hi:X.N[i]?=U x:=by rfl)(hx:DV X.env.scope x:=by first|exact kB rfl|exact JE S)(hs:swapsWith e (U (.Name x p)) pos.line X.env=pure false:=by rfl)(l:X.fn x=true\/X.env.scope.names.lookup x=U .local:=by first|exact .inl rfl|exact .inr S):Tj X (.Assign [.Name x p] e pos) (λρ=>(f ρ).bind λb=>(FO ρ i b).bind λρ'=>U (.nx ρ')):=⟨have he:=he.run;YT (RU c hi hx he hs l) λD σ H h=>by
 obtain⟨H0,ρ,r,E,e,q⟩:=h;obtain⟨b,eb,e⟩:=AT e;obtain⟨ρ',g,e⟩:=AT e;cases e;exact⟨H0,ρ,b,E,eb,λv H1 j a d=>q _ _ (YZ E j d a g)⟩⟩
def Lo(σ:L2.St)(ρ:Ev)(σ':L2.St)(ρ':Ev):Prop:=∀(j:Nat) b,loose b=true->ρ'[j]?=U (U b)->ρ[j]?=U (U b)/\σ'[j]?=σ[j]?
theorem Lo.refl{ρ:Ev}:Lo σ ρ σ ρ:=λ_ _ _ e=>⟨e,rfl⟩
theorem Lo.trans{σ f h:L2.St}{ρ d g:Ev}(a:Lo σ ρ f d)(b:Lo f d h g):Lo σ ρ h g:=λj c l e=>by
 obtain⟨e1,e2⟩:=b j c l e;obtain⟨e3,i⟩:=a j c l e1;exact⟨e3,e2.trans i⟩
theorem Lo.set{ρ:Ev}(i:Nat)(v:V)(d:Dt):Lo σ ρ (σ.set i (U v)) (ρ.set i (U (.z d))):=λj b l e=>by
 rcases BC e with⟨rfl,e',_⟩|⟨a,e'⟩
 ·cases e';cases l
 ·exact⟨e',JT _ a⟩
def OI(K:B1)(g:Dt->Ev->Y Ev):TG:=λv σ H Q=>∃H0 ρ d a,cg K H0 H σ ρ/\AW K H d v/\g d ρ=U a/\∀ σ',cg K H0 H σ' a->Lo σ ρ σ' a->Q σ' H
def HR(X:Cx)(t:Expr)(g:Dt->Ev->Y Ev):Prop:=PG X t (OI X.K g)
structure DH (X:Cx) (t:Expr) (g:Dt->Ev->Option Ev):Prop where
 run:HR X t g
theorem aQ(i:Nat)(f:X.N.Nodup)(hi:X.N[i]?=U x:=by rfl)(hx:DV X.env.scope x:=by first|exact kB rfl|exact JE S)(c:X.fn x=true\/X.env.scope.names.lookup x=U .local:=by first|exact .inl rfl|exact .inr S):DH X (.Name x pos) (λd ρ=>U (ρ.set i (U (.z d)))):=⟨λAN s σ H v u Q I r h=>by
 obtain⟨H0,ρ,d,g,E,a,e,q⟩:=h;cases e;exact YJ f hi hx c AN s σ H v u Q I r (q _ (E.set (b:=.z d) (AV.refl H) a (.inr S) trivial) (Lo.set i v d))⟩
theorem sh(i:Nat)(f:X.N.Nodup:=by show List.Nodup (_++_);decide +kernel)(hi:X.N[i]?=U x:=by rfl)(hx:DV X.env.scope x:=by first|exact kB rfl|exact JE S)(c:X.fn x=true\/X.env.scope.names.lookup x=U .local:=by first|exact .inl rfl|exact .inr S):DH X (.Name x pos) (λd ρ=>U (ρ.set i (U (.z d)))):=aQ i f hi hx c
def p9(K:B1)(g:O Dt->Ev->Y Ev):EF:=λvs σ H Q=>∃H0 ρ ds a,cg K H0 H σ ρ/\aK K H ds vs/\g ds ρ=U a/\∀ σ',cg K H0 H σ' a->Lo σ ρ σ' a->Q σ' H
def io(X:Cx)(t:O Expr)(g:O Dt->Ev->Y Ev):Prop:=L2.D3 X t (p9 X.K g)
structure IY (X:Cx) (t:List Expr) (g:List Dt->Ev->Option Ev):Prop where
 run:io X t g
def Bh:O Dt->Ev->Y Ev
 |[],ρ=>U ρ
 |_,_=>Z
def c7(g:Dt->Ev->Y Ev)(gs:O Dt->Ev->Y Ev):O Dt->Ev->Y Ev
 |d::ds,ρ=>(g d ρ).bind (gs ds)
 |_,_=>Z
theorem wN  :IY X [] Bh:=⟨λAN s σ H vs us Q I r h=>by
 obtain⟨H0,ρ,ds,b,E,a,e,q⟩:=h;cases ds with
 |nil=>cases e;unfold aK at a;exact UK AN s σ H vs us Q I r ⟨a,q _ E Lo.refl⟩
 |cons d ds=>cases e⟩
theorem cL{t:Expr}{ts:O Expr}{gt:Dt->Ev->Y Ev}{gs:O Dt->Ev->Y Ev}(h1:DH X t gt)(h2:IY X ts gs)(hs:(assignEach (t::ts) X.env).map (·.2)=assign t X.env::(assignEach ts X.env).map (·.2):=by rfl):IY X (t::ts) (c7 gt gs):=⟨have h1:=h1.run;have h2:=h2.run;λAN s σ H vs us Q I r h=>by
 obtain⟨H0,ρ,ds,l,E,b,e,q⟩:=h;cases ds with
 |nil=>cases e
 |cons d ds=>
  unfold aK at b;obtain⟨v,c,rfl,m,i⟩:=b;simp only[c7]at e;obtain⟨a,e1,e⟩:=AT e;exact nr h1 h2 hs AN s σ H _ us Q I r ⟨v,c,rfl,H0,ρ,d,a,E,m,e1,λp o g=>⟨H0,a,ds,l,o,i,e,λn f j=>q n f (g.trans j)⟩⟩⟩
def yD(n:Nat)(gs:O Dt->Ev->Y Ev):Dt->Ev->Y Ev
 |.tup ds,ρ=>if ds.length=n then gs ds ρ else Z
 |_,_=>Z
theorem Cd{ts:O Expr}{k:Nat}{gs:O Dt->Ev->Y Ev}(g:X.calm=true)(h:IY X ts gs)(m:(assignEach ts X.env).length=n:=by rfl)(c:(assignEach ts X.env).findIdx? (·.1)=Z:=by rfl):DH X (.Tuple ts k pos) (yD n gs):=⟨have h:=h.run;λAN s σ H v u Q I r l=>by
 obtain⟨H0,ρ,d,i,E,b,e,q⟩:=l;cases d with
 |tup ds=>
  simp only[yD]at e;split at e
  ·rename_i j;unfold AW at b;obtain⟨a,vs,rfl,f,rs⟩:=b;exact i6 g h m c AN s σ H _ u Q I r ⟨a,vs,rfl,f,by rw[rs.length];exact j,H0,ρ,ds,i,E,rs,e,q⟩
  ·cases e
 |_=>cases e⟩
theorem WM{gt:Dt->Ev->Y Ev}(he:QV X e f)(hg:DH X tg gt)(hs:swapsWithSole [tg] e pos.line X.env=pure false:=by rfl)(i:swappedStores [tg] e X.env=pure Z:=by rfl)(h1:(assignEach [tg] X.env).map (·.2)=[assign tg X.env]:=by rfl):Tj X (.Assign [tg] e pos) (λρ=>(f ρ).bind λb=>match b with|.z d=>(gt d ρ).bind λρ'=>U (.nx ρ')|_=>Z):=⟨have he:=he.run;have hg:=hg.run;YT (tJ he hg hs i h1) λD σ H h=>by
 obtain⟨H0,ρ,r,E,e,q⟩:=h;obtain⟨b,eb,e⟩:=AT e;refine⟨H0,ρ,b,E,eb,λv H1 j l a=>?_⟩;cases b with
 |z d=>
  obtain⟨ρ',c,e⟩:=AT e;cases e;exact⟨H0,ρ,d,ρ',E.grow j,a,c,λσ' g _=>q _ _ g⟩
 |_=>cases e⟩
def IX(i j:Nat)(ρ:Ev):O Bx->Y Ap
 |[.z d,.z d']=>U (.nx ((ρ.set i (U (.z d))).set j (U (.z d'))))
 |_=>Z
theorem WQ(i j:Nat){px py pt:Pos}{kt k2 pt2}(g:X.calm=true)(f:X.N.Nodup)(ha:D7 X [a,b] fs)(hi:X.N[i]?=U x:=by rfl)(c:X.N[j]?=U y:=by rfl)(l:i≠j:=by decide)(hx:X.env.scope.names.lookup x=U .local:=by rfl)(m:X.env.scope.names.lookup y=U .local:=by rfl)(o:swappedStores [.Tuple [.Name x px,.Name y py] kt pt] (.Tuple [a,b] k2 pt2) X.env=pure (U [x,y]):=by rfl)(hs:swapsWithSole [.Tuple [.Name x px,.Name y py] kt pt] (.Tuple [a,b] k2 pt2) pos.line X.env=pure false:=by rfl):Tj X (.Assign [.Tuple [.Name x px,.Name y py] kt pt] (.Tuple [a,b] k2 pt2) pos) (λρ=>(fs ρ).bind (IX i j ρ)):=⟨have ha:=ha.run;YT (ti g f hi c l hx m ha o hs) λD σ H h=>by
 obtain⟨H0,ρ,r,E,e,q⟩:=h;obtain⟨bs,eb,e⟩:=AT e;refine⟨H0,ρ,bs,E,eb,λvs H1 u s=>?_⟩;unfold IX at e;split at e
 ·rename_i d n;cases e;cases s with
  |cons p t=>
   cases t with
   |cons p' v=>
    cases v;refine⟨_,_,rfl,q _ _ ?_⟩;exact((E.grow u).set (b:=.z d) (AV.refl H1) p (.inr S) trivial).set (b:=.z n) (AV.refl H1) p' (.inr S) trivial
 ·cases e⟩
def IH(ρ:Ev)(i:Nat):Bx->Y Ap
 |.z d=>match ρ[i]? with
  |some (U (.o ds))=>if ds.length<AA then U (.nx (ρ.set i (U (.o (ds++[d])))))else Z
  |_=>Z
 |_=>Z
theorem cg.alM{ρ:Ev}{w c1:Bx}{a:A1}{u:HO}(E:cg K H0 H σ ρ)(h:ρ[i]?=U (U w))(ho:yM w=true)(hs:σ[i]?=U (U (.ref a)))(k:Kp H (B6 H a u))(r:bf K (B6 H a u) c1 (.ref a)):
  cg K H0 (B6 H a u) σ (ρ.set i (U c1)):=by
 have hi:i<ρ.length:=(bv.mp h).1;have hb:H0 a=Z:=E.new i w a h ho hs;have lo:∀c,yM c=true->loose c=true:=λc J=>by cases c<;>first|rfl|cases J
 refine⟨by rw[k5];exact E.len,λj y e=>?_,λj D c f y e1 A e2 e3 M F=>?_,λc o e=>?_,λj c f e1 A e2=>?_⟩
 ·rcases BC e with⟨rfl,e',_⟩|⟨B,e'⟩
  ·cases e';exact⟨_,hs,r⟩
  ·obtain⟨v,e1,t⟩:=E.val j y e';refine⟨v,e1,?_⟩;have x:∀f,v=.ref f->loose y=true->f≠a:=λf ev L z=>by
    subst z;exact B (E.own i j w _ _ h ho hs e' L (by rw[e1,ev])).symm
   cases y with
   |z d=>exact AW.kp k t
   |l C=>
    obtain⟨f,s,rfl,q,p⟩:=t;refine⟨f,s,rfl,?_,p.kp k⟩;have g:=x f S rfl;rcases q with q|⟨o,q⟩
    ·exact .inl (by rw[aV g];exact q)
    ·exact .inr ⟨o,by rw[aV g];exact q⟩
   |o C=>
    obtain⟨f,s,rfl,q,p⟩:=t;have g:=x f S rfl;exact⟨f,s,rfl,by rw[aV g];exact q,p.kp k⟩
   |n C=>
    obtain⟨f,s,rfl,q,p⟩:=t;refine⟨f,s,rfl,?_,p.kp k⟩;have g:=x f S rfl;rcases q with q|⟨o,q⟩
    ·exact .inl (by rw[aV g];exact q)
    ·exact .inr ⟨o,by rw[aV g];exact q⟩
   |m C=>
    obtain⟨f,s,rfl,q,p⟩:=t;have g:=x f S rfl;exact⟨f,s,rfl,by rw[aV g];exact q,p.1.kp k,p.2⟩
 ·have back:∀(m:Nat) (b:Bx),(ρ.set i (U c1))[m]?=U (U b)->loose b=true->∃b0,ρ[m]?=U (U b0)/\loose b0=true/\(yM b=true->yM b0=true):=λm b e l=>by
   rcases BC e with⟨rfl,e',_⟩|⟨B,e'⟩
   ·exact⟨_,h,lo _ ho,λ_=>ho⟩
   ·exact⟨b,e',l,λz=>z⟩
  obtain⟨b0,q1,q2,N⟩:=back j _ e1 (lo _ A);obtain⟨b1,I,G,_⟩:=back D _ e3 M;exact E.own j D b0 f b1 q1 (N A) e2 I G F
 ·rw[aV (eE e hb)];exact E.base c o e
 ·rcases BC e1 with⟨rfl,e',_⟩|⟨B,e'⟩
  ·exact E.new _ w f h ho e2
  ·exact E.new j c f e' A e2
theorem cg.acr{ρ:Ev}{ds es:O Dt}{a:A1}{us:O V}(E:cg K H0 H σ ρ)(h:ρ[i]?=U (U (.o ds)))(hs:σ[i]?=U (U (.ref a)))(ha:H a=U (.lst vs))(r:aK K H es us):
  cg K H0 (B6 H a (.lst us)) σ (ρ.set i (U (.o es))):=E.alM h S hs (.lst ha) ⟨a,us,rfl,bK,r.kp (.lst ha)⟩
theorem wO(i:Nat){p:Pos}(he:QV X e f)(n:X.N[i]?=U x:=by rfl)(A:D4 X.env.scope x:=by first|exact kB rfl|exact JE (kB S)|exact JE (JE S))(w:sa x:=by decide)(o:(x==("__classdict__":AJ))=false:=by decide)(g:A9 [e] X.env=[(false,eval e X.env)]:=by rfl)(l:attributeBase (.Name x p) "append" X.env (eval (.Name x p) X.env)=eval (.Name x p) X.env:=by rfl)(m:((AD cpos (A9 [e] X.env)).all (λx=>!x.1)&&(backToKw cpos (keywordEach [] X.env)).all (λx=>x.1.isSome)&&decide ([e].length+([]:O AC).length+(if([]:O AC).isEmpty then 0 else 1)<30))=true:=by rfl)(B:(apos.endLine==cpos.line)=true:=by rfl)(hs:swapsWith (.Call (.Attribute (.Name x p) "append" apos) [e] [] cpos) Z pos.line X.env=pure false:=by rfl):Tj X (.Expr (.Call (.Attribute (.Name x p) "append" apos) [e] [] cpos) pos) (λρ=>(f ρ).bind (IH ρ i)):=⟨have he:=he.run;YT (Qk (L5 PySem.F.plainAttrs_list PySem.F.slot_list_append PySem.F.type_list_append Oh (yU (i:=i) n A w o) (iw he sI (by rw[g]<;>rfl)) l m B (by rw[g]<;>rfl) S) hs) λD σ H h=>by
  obtain⟨H0,ρ,r,E,e,q⟩:=h;obtain⟨b,eb,e⟩:=AT e;cases b with
  |z d=>
   simp only[IH]at e;split at e
   ·rename_i ds j;split at e
    ·rename_i s;cases e;obtain⟨v,e1,a,vs,rfl,ha,rs⟩:=E.val i _ j;refine⟨_,e1,.inl ⟨rfl,vs,.inl (.inl ha)⟩,H0,ρ,_,E,eb,λu H1 c C t=>?_⟩;have y:=E.grow c;refine⟨a,vs,u,rfl,rfl,c _ _ ha,by rw[rs.length];exact s,q _ _ ?_⟩;exact y.acr j e1 (c _ _ ha) ((rs.kp (.of c)).append (aK.cons t aK.nil))
    ·cases e
   ·cases e
  |_=>cases e⟩
end
def LU(x:AJ):It:=⟨λi _=>i<x.cps.size,λi H v H'=>H'=H/\∃c,x.cps[i]?=U c/\v=.str ⟨#[c]⟩,λi _=>x.cps.size<=i⟩
def u7(h:A6)(it:A1)(x:AJ)(i:Nat):Prop:=∃t,h.IsStrIter it "str_ascii_iterator" x t i\/h.IsStrIter it "str_iterator" x t i
theorem Tn(it:A1)(x:AJ):CI P w K tg (LU x) [it] it (λi h=>u7 h it x i) where
 mem:=by simp
 obj:=λi h st b hb=>by
  have e:b=it:=by simpa using hb
  subst e;obtain⟨t,⟨o,e,c,d⟩|⟨o,e,c,d⟩⟩:=st
  ·exact⟨o,e,λv z=>by rw[d]at z;cases z⟩
  ·exact⟨o,e,λv z=>by rw[d]at z;cases z⟩
 keep:=λi h h' st k=>by
  obtain⟨t,⟨o,e,c⟩|⟨o,e,c⟩⟩:=st
  ·exact⟨t,.inl ⟨o,k it (by simp) o e,c⟩⟩
  ·exact⟨t,.inr ⟨o,k it (by simp) o e,c⟩⟩
 item:=by
  intro X q p y m i AN s σ H E I l st hg;subst q p y;obtain⟨f0,f1,f2,g,f,a⟩:=l it (by simp);have hi:i<x.cps.size:=hg;have hx:x.cps[i]?=U x.cps[i]:=by simp[hi]
  obtain⟨t,st|st⟩:=st
  ·refine wpAny_pyNext_ascii_item st hx λh' j n=>?_;have u:L2.AU X AN σ H { s with heap:=h',toks:=s.toks+1 }:=I.turned (λb o hb e=>(n.2 b hb).trans e) f0 f1 g f a;obtain⟨o,e,c,d⟩:=id j;exact⟨_,rfl,Oa (s:={ s with heap:=h',toks:=s.toks+1 }) e c d () ⟨.str ⟨#[x.cps[i]]⟩,H,u,⟨_,rfl⟩,⟨rfl,_,hx,rfl⟩,⟨t,.inl j⟩,λb hb=>(l b hb).1⟩⟩
  ·refine wpAny_pyNext_wide_item st hx λh' j n=>?_;have u:L2.AU X AN σ H { s with heap:=h',toks:=s.toks+1 }:=I.turned (λb o hb e=>(n.2 b hb).trans e) f0 f1 g f a;obtain⟨o,e,c,d⟩:=id j;exact⟨_,rfl,Oa (s:={ s with heap:=h',toks:=s.toks+1 }) e c d () ⟨.str ⟨#[x.cps[i]]⟩,H,u,⟨_,rfl⟩,⟨rfl,_,hx,rfl⟩,⟨t,.inr j⟩,λb hb=>(l b hb).1⟩⟩
 done:=by
  intro X q p y m i AN s σ H E I l st hg;subst q p y;obtain⟨f0,f1,f2,g,f,a⟩:=l it (by simp);have hx:x.cps[i]?=Z:=by have:x.cps.size<=i:=hg;simp[this]
  obtain⟨t,st|st⟩:=st
  ·exact wpAny_pyNext_ascii_end (I.ok.hd m) st hx λh' eb=>⟨rfl,I.turned (t':=s.toks) (λb o hb e=>eb b o hb e) f0 f1 g f a⟩
  ·exact wpAny_pyNext_wide_end (I.ok.hd m) st hx λh' eb=>⟨rfl,I.turned (t':=s.toks) (λb o hb e=>eb b o hb e) f0 f1 g f a⟩
 self:=λ_ _ _ _ _ st h=>by
  obtain⟨t,st|st⟩:=st
  ·exact wpAny_pyIter_striter_ascii st h
  ·exact wpAny_pyIter_striter_wide st h
def bi(K:B1)(tl:TE):TI:=λσ H R=>tl σ H λx H1=>(∃a,x=.ref a/\(∃xs,yS K H1 a xs)/\R (HH K a) H1)\/(∃a,x=.ref a/\(∃xs,BR K H1 a xs)/\R (MR K a) H1)\/∃y,x=.str y/\R (LU y) H1
theorem WR{l:Expr}{tl:TE}(i:PE X l tl):PI X tg l (bi X.K tl):=by
 intro AN s σ H R I h;refine jw (i AN s σ H _ I h) λv s1 ⟨x,H1,I1,r1,q1⟩=>?_;have c:∀(o:AE) (b:A1),b∈[s1.heap.objs.size]->wI X AN H1 b:=λo b hb=>by
  have e:b=s1.heap.objs.size:=by simpa using hb
  subst e;exact I1.Wq (zi _) (I1.hok.fresh (zi _))
 rcases q1 with⟨a,e,⟨xs,d⟩,q⟩|⟨a,e,⟨xs,d⟩,q⟩|⟨y,e,q⟩
 ·subst e;cases r1;obtain⟨AQ,g,p,f⟩:=I1.list d;refine k9 p.isList ?_;exact⟨s1.heap.objs.size,[s1.heap.objs.size],_,_,H1,rfl,I1.kept (t':=s1.toks) λb o e=>ze _ e,w4 a _,⟨_,zw _ rfl,rfl,rfl⟩,c default,q⟩
 ·subst e;cases r1;obtain⟨AQ,g,p,f⟩:=I1.tuple d;refine wpAny_pyIter_tuple (show s1.heap.IsTuple a AQ.toArray from p) ?_;exact⟨s1.heap.objs.size,[s1.heap.objs.size],_,_,H1,rfl,I1.kept (t':=s1.toks) λb o e=>ze _ e,Wr a _,⟨_,zw _ rfl,rfl,rfl⟩,c default,q⟩
 ·subst e;obtain⟨t,rfl⟩:=r1;cases ha:y.cps.all (· < 128)with
  |true=>
   refine wpAny_pyIter_ascii ha ?_;exact⟨s1.heap.objs.size,[s1.heap.objs.size],_,_,H1,rfl,I1.kept (t':=s1.toks) λb o e=>ze _ e,Tn _ y,⟨t,.inl ⟨_,zw _ rfl,rfl,rfl⟩⟩,c default,q⟩
  |false=>
   refine wpAny_pyIter_wide ha ?_;exact⟨s1.heap.objs.size,[s1.heap.objs.size],_,_,H1,rfl,I1.kept (t':=s1.toks) λb o e=>ze _ e,Tn _ y,⟨t,.inr ⟨_,zw _ rfl,rfl,rfl⟩⟩,c default,q⟩
def B4(K:B1)(J:It)(ds:O Dt)(Hs:Hp):Prop:=∀(i:Nat) (H:Hp),AV Hs H →
 (∀d,ds[i]?=U d->J.go i H/\∀x H',J.yld i H x H'->AV H H'/\AW K H' d x)/\(ds.length<=i->J.stop i H)
theorem B4.of{ds:O Dt}(h:∀(i:Nat) (H:Hp),AV Hs H →
  (∀d,ds[i]?=U d->J.go i H/\∀x H',J.yld i H x H'->H'=H/\AW K H d x)/\(ds.length<=i->J.stop i H)):B4 K J ds Hs:=λi H s=>
 ⟨λd e=>⟨((h i H s).1 d e).1,λx H' y=>by
  obtain⟨rfl,r⟩:=((h i H s).1 d e).2 x H' y;exact⟨AV.refl _,r⟩⟩,(h i H s).2⟩
def BN(x:AJ):O Dt:=x.cps.toList.map λc=>.str ⟨#[c]⟩
theorem B4.list{ds:O Dt}(h:yS K Hs a vs)(r:aK K Hs ds vs):B4 K (HH K a) ds Hs:=.of λi H s=>by
 have h':=s.seq h;have b:=r.kp (.of s);refine⟨λd e=>?_,λe=>⟨vs,h',by rw[r.length];exact e⟩⟩;obtain⟨v,ev,c⟩:=b.get e;refine⟨⟨vs,v,h',ev⟩,λx H' y=>?_⟩;obtain⟨y1,y2⟩:=y;have:=y2 vs h';rw[ev]at this;cases this;exact⟨y1,c⟩
theorem B4.tup{ds:O Dt}(h:BR K Hs a vs)(r:aK K Hs ds vs):B4 K (MR K a) ds Hs:=.of λi H s=>by
 have h':=(Kp.of s).sqT h;have b:=r.kp (.of s);refine⟨λd e=>?_,λe=>⟨vs,h',by rw[r.length];exact e⟩⟩;obtain⟨v,ev,c⟩:=b.get e;refine⟨⟨vs,v,h',ev⟩,λx H' y=>?_⟩;obtain⟨y1,y2⟩:=y;have:=y2 vs h';rw[ev]at this;cases this;exact⟨y1,c⟩
theorem B4.str(x:AJ):B4 K (LU x) (BN x) Hs:=.of λi H s=>by
 refine⟨λd e=>?_,λe=>?_⟩
 ·unfold BN at e;rw[Zp]at e;cases h:x.cps.toList[i]? with
  |none=>rw[h]at e;cases e
  |some c=>
   rw[h]at e;cases e;have b:x.cps[i]?=U c:=by simpa using h
   have hi:i<x.cps.size:=by
    have:=(bv.mp h).1;simpa using this
   refine⟨hi,λv H' y=>?_⟩;obtain⟨y1,f,a,rfl⟩:=y;rw[b]at a;cases a;refine⟨y1,?_⟩;unfold AW;exact⟨rfl,by show(1:Nat)<=AA;decide⟩
 ·have:(BN x).length=x.cps.size:=by simp[BN]
  show x.cps.size<=i;omega
def Qw(lo:Int)(n:Nat):O Dt:=(cd n).map λk=>.int (lo+(k:Nat))
theorem B4.rng(lo:Int)(n:Nat):B4 K (IS lo n) (Qw lo n) Hs:=.of λi H s=>by
 refine⟨λd e=>?_,λe=>?_⟩
 ·unfold Qw at e;rw[Zp]at e;by_cases hi:i<n
  ·rw[fD hi]at e;cases e;refine⟨hi,λv H' y=>?_⟩;obtain⟨y1,y2⟩:=y;refine⟨y1,?_⟩;unfold AW;exact y2
  ·rw[QI (by simp;omega)]at e;cases e
 ·have:(Qw lo n).length=n:=by simp[Qw]
  show n<=i;omega
def iF(K:B1)(f:Ev->Y (O Dt)):TI:=λσ H R=>∃H0 ρ ds,cg K H0 H σ ρ/\f ρ=U ds/\∀J H',AV H H' →
 (∀Hs,AV Hs H'->(∀a,H a=Z->Hs a=H' a)->(∀a o u,H' a=U (.yw o u)->Hs a=H' a)->(∀a vs,H' a=U (.tup vs)->Hs a=H' a)->B4 K J ds Hs)->R J H'
def eg(X:Cx)(tg iter:Expr)(f:Ev->Y (O Dt)):Prop:=PI X tg iter (iF X.K f)
structure IP (X:Cx) (tg iter:Expr) (f:Ev->Option (List Dt)):Prop where
 run:eg X tg iter f
def Fh:Bx->Y (O Dt)
 |.z (.lst ds)=>U ds
 |.z (.tup ds)=>U ds
 |.z (.str x)=>U (BN x)
 |.o ds=>U ds
 |_=>Z
section
variable{f:Ev->Y Bx}{fs:Ev->Y (O Bx)}
mutual
theorem AW.part{K:B1}{H Hs:Hp}(b:∀a o u,H a=U (.yw o u)->Hs a=H a)(c:∀a vs,H a=U (.tup vs)->Hs a=H a):∀{d:Dt} {v:V},AW K H d v->AW K Hs d v
 |.non,_,h=>by simpa only[AW]using h
 |.bl _,_,h=>by simpa only[AW]using h
 |.int _,_,h=>by simpa only[AW]using h
 |.str _,_,h=>by simpa only[AW]using h
 |.tup ds,_,h=>by
  simp only[AW]at h ⊢;obtain⟨a,vs,e,q,r⟩:=h;refine⟨a,vs,e,?_,aK.part b c r⟩;rcases q with (q|⟨o,q⟩)|q
  ·exact .inl (.inl ((c _ _ q).trans q))
  ·exact .inl (.inr ⟨o,(b _ _ _ q).trans q⟩)
  ·exact .inr q
 |.lst ds,_,h=>by
  simp only[AW]at h ⊢;obtain⟨a,vs,e,q,r⟩:=h;refine⟨a,vs,e,?_,aK.part b c r⟩;rcases q with⟨o,q⟩|q
  ·exact .inl ⟨o,(b _ _ _ q).trans q⟩
  ·exact .inr q
 |.emp,_,h=>by
  simp only[AW]at h ⊢;obtain⟨a,o,e,q⟩:=h;exact⟨a,o,e,(b _ _ _ q).trans q⟩
theorem aK.part{K:B1}{H Hs:Hp}(c:∀a o u,H a=U (.yw o u)->Hs a=H a)(b:∀a vs,H a=U (.tup vs)->Hs a=H a):∀{ds:O Dt} {vs:O V},aK K H ds vs->aK K Hs ds vs
 |[],_,h=>by simpa only[aK]using h
 |d::ds,_,h=>by
  simp only[aK]at h ⊢;obtain⟨v,r,e,q,t⟩:=h;exact⟨v,r,e,AW.part c b q,aK.part c b t⟩
end
theorem Ad(h:QV X e f):IP X tg e (λρ=>(f ρ).bind Fh):=⟨have h:=h.run;λAN s σ H R I q=>by
 refine WR h AN s σ H R I ?_;obtain⟨H0,ρ,ds,E,e,q⟩:=q;obtain⟨b,eb,e⟩:=AT e;refine⟨H0,ρ,b,E,eb,λv H1 t w j=>?_⟩;cases b with
 |z d=>
  cases d with
  |tup p=>
   cases e;simp only[bf,AW]at j;obtain⟨a,vs,rfl,c,rs⟩:=j;refine .inr (.inl ⟨a,rfl,⟨vs,c⟩,q _ _ t λHs hs u g i=>.tup ?_ (rs.part g i)⟩);rcases c with (c|⟨o,c⟩)|c
   ·exact .inl (.inl ((i _ _ c).trans c))
   ·exact .inl (.inr ⟨o,(g _ _ _ c).trans c⟩)
   ·exact .inr c
  |lst p=>
   cases e;simp only[bf,AW]at j;obtain⟨a,vs,rfl,c,rs⟩:=j;refine .inl ⟨a,rfl,⟨vs,c.sq⟩,q _ _ t λHs hs u g i=>.list ?_ (rs.part g i)⟩;rcases c with⟨o,c⟩|c
   ·exact .inl (.inr ⟨o,(g _ _ _ c).trans c⟩)
   ·exact .inr c
  |str x=>
   cases e;simp only[bf,AW]at j;obtain⟨rfl,_⟩:=j;exact .inr (.inr ⟨x,rfl,q _ _ t λHs hs u g i=>.str x⟩)
  |_=>cases e
 |l p=>cases e
 |n p=>cases e
 |m p=>cases e
 |o p=>
  cases e;obtain⟨a,vs,rfl,c,rs⟩:=j;refine .inl ⟨a,rfl,⟨vs,.inl (.inl c)⟩,q _ _ t λHs hs u g i=>.list (.inl (.inl ((u a (w a S)).trans c))) (rs.part g i)⟩⟩
def ME:O Bx->Y (O Dt)
 |[.z (.int j)]=>if -(2 ^ 62)<=j/\j<2 ^ 62 then U (Qw 0 j.toNat)else Z
 |_=>Z
theorem qe{p:Pos}(hg:Gl X "range")(b:X.mg "range"=Z)(ha:D7 X [e] fs)(hs:A9 [e] X.env=[(false,eval e X.env)]:=by rfl):IP X tg (.Call (.Name "range" p) [e] [] pos) (λρ=>(fs ρ).bind ME):=⟨have ha:=ha.run;λAN s σ H R I q=>by
 refine U' hg b ha hs AN s σ H R I ?_;obtain⟨H0,ρ,ds,E,e,q⟩:=q;obtain⟨bs,eb,e⟩:=AT e;refine⟨H0,ρ,bs,E,eb,λvs H1 c d=>?_⟩;unfold ME at e;split at e
 ·rename_i j;split at e
  ·rename_i a;cases e;cases d with
   |cons p t=>
    cases t;simp only[bf,AW]at p;subst p;exact⟨j,rfl,a.1,a.2,q _ _ c λHs _ _ _ _=>.rng 0 _⟩
  ·cases e
 ·cases e⟩
def uq(gt:Dt->Ev->Y Ev)(gb:Ev->Y Ap):O Dt->Ev->Y Ap
 |[],ρ=>U (.nx ρ)
 |d::ds,ρ=>(gt d ρ).bind λc=>(gb c).bind λr=>match r with
  |.nx a=>uq gt gb ds a
  |.ct a=>uq gt gb ds a
  |.bk a=>U (.nx a)
  |.rt b=>U (.rt b)
noncomputable def iz(H:Hp)(σ:L2.St)(ρ:Ev):Hp:=λa=>@ite _ (∃(i:Nat) (c:Bx),ρ[i]?=U (U c)/\yM c=true/\σ[i]?=U (U (.ref a))) (Classical.propDecidable _) Z (H a)
theorem Dl{ρ:Ev}:AV (iz H σ ρ) H:=λa o e=>by
 unfold iz at e;split at e
 ·cases e
 ·exact e
theorem cg.rebase{ρ:Ev}(E:cg K Hs H σ ρ)(s:AV H0 Hs):cg K H0 H σ ρ:=⟨E.len,E.val,E.own,s.trans E.base,λi c a e1 b e2=>s.free (E.new i c a e1 b e2)⟩
theorem cg.sans{ρ:Ev}(E:cg K H0 H σ ρ):cg K (iz H σ ρ) H σ ρ:=⟨E.len,E.val,E.own,Dl,λi c a e1 b e2=>by
 unfold iz;rw[zl ⟨i,c,e1,b,e2⟩]⟩
theorem cg.sub{ρ:Ev}(E:cg K H0 H σ ρ):AV H0 (iz H σ ρ):=λa o e=>by
 unfold iz;split
 ·rename_i h;obtain⟨i,c,e1,b,e2⟩:=h;rw[E.new i c a e1 b e2]at e;cases e
 ·exact E.base a o e
theorem j5{ρ:Ev}(E:cg K H0 H σ ρ)(h:∀vs,H a≠U (.lst vs))(h2:∀vs,H a≠U (.dK vs)):iz H σ ρ a=H a:=by
 unfold iz;split
 ·rename_i f;obtain⟨i,c,e1,e,e2⟩:=f;obtain⟨v,e3,d⟩:=E.val i _ e1;rw[e2]at e3;cases e3;cases c with
  |o ds=>obtain⟨g,vs,b,q,_⟩:=d;cases b;exact absurd q (h vs)
  |m ds _=>obtain⟨g,vs,b,q,_⟩:=d;cases b;exact absurd q (h2 vs)
  |_=>cases e
 ·rfl
theorem WL.rebase{K:B1}{H0 Hs:Hp}{D:C8}{r:Ap}(s:AV H0 Hs)(h:WL K H0 D r):WL K Hs D r:=by
 cases r with
 |nx ρ=>exact λσ H E=>h σ H (E.rebase s)
 |bk ρ=>exact λσ H E=>h σ H (E.rebase s)
 |ct ρ=>exact λσ H E=>h σ H (E.rebase s)
 |rt b=>exact λv H s' n r=>h v H (s.trans s') (n.old s) r
theorem vQ{gt:Dt->Ev->Option Ev}{gb:Ev->Option Ap}{ds:O Dt}{H1:Hp}{ρ:Ev}{D:C8}{r:Ap}(t:cg X.K H0 H1 σ ρ)(Y:B4 X.K J ds (iz H1 σ ρ))(e:uq gt gb ds ρ=U r)(q:WL X.K H0 D r):
  ∃W:Nat->Nat->L2.St->Hp->Prop,(∃m,W 0 m σ H1)/\∀i m σ H,W i m σ H →
   (J.stop i H/\D.nx σ H)\/(J.go i H/\∃N:L2.St->Hp->Prop,(∀ σ' H',N σ' H'->∃l,l<m/\W (i+1) l σ' H')/\∀x H',J.yld i H x H'->OI X.K gt x σ H' λc H2=>tG X.K gb { D with nx:=N,ct:=N,bk:=D.nx } c H2):=by
 have o:=t.sans;have q2:=q.rebase t.sub;generalize iz H1 σ ρ=Hs at Y o q2;refine⟨λi m σ' H'=>m=ds.length-i/\i<=ds.length/\∃d,cg X.K Hs H' σ' d/\uq gt gb (ds.drop i) d=U r,⟨ds.length,by simp,QY _,ρ,o,by simpa using e⟩,?_⟩;rintro i m σ' H' ⟨rfl,E,d,j,e'⟩;obtain⟨y1,y2⟩:=Y i H' j.base;by_cases h:i<ds.length
 ·right;have B:ds[i]?=U ds[i]:=by simp[h]
  obtain⟨v,z⟩:=y1 _ B;rw[ix h]at e';simp only[uq]at e';obtain⟨n,e1,e'⟩:=AT e';obtain⟨p,e2,e'⟩:=AT e';refine⟨v,λc H2=>∃a,cg X.K Hs H2 c a/\uq gt gb (ds.drop (i+1)) a=U r,λc H2 ⟨a,g,e3⟩=>⟨ds.length-(i+1),by omega,rfl,h,a,g,e3⟩,λx H2 u=>?_⟩;obtain⟨w,y⟩:=z x H2 u;refine⟨Hs,d,ds[i],n,j.grow w,y,e1,λC g _=>⟨Hs,n,p,g,e2,?_⟩⟩;cases p with
  |nx a=>exact λc A f=>⟨a,f,e'⟩
  |ct a=>exact λc A f=>⟨a,f,e'⟩
  |bk a=>cases e';exact q2
  |rt b=>cases e';exact q2
 ·left;have s:ds.length<=i:=by omega
  refine⟨y2 s,?_⟩;rw[ld s]at e';cases e';exact q2 σ' H' j
theorem sO{fi:Ev->Y (O Dt)}{gt:Dt->Ev->Y Ev}{gb:Ev->Y Ap}(hp:PassesOwn (sg X) X.A X.env X.xe)(l:X.calm=true)(hi:IP X tg iter fi)(hg:DH X tg gt)(hb:Co X body gb)(hs:∀x,foldedSetIterable iter X.env x=pure x:=by intro _;rfl):Tj X (.For tg iter body [] pos) (λρ=>(fi ρ).bind λds=>uq gt gb ds ρ):=⟨have hi:=hi.run;have hg:=hg.run;have hb:=hb.run;YT (OB hp l hi hg hb hs) λD σ H h=>by
 obtain⟨H0,ρ,r,E,e,q⟩:=h;obtain⟨ds,n,e⟩:=AT e;refine⟨H0,ρ,ds,E,n,λJ H1 p y=>?_⟩;have d:=E.grow p;refine vQ d ?_ e q;refine y _ Dl (λa ha=>?_) (λa o u ha=>j5 d (λvs z=>by rw[ha]at z;cases z) (λvs z=>by rw[ha]at z;cases z)) λa vs ha=>j5 d (λvs z=>by rw[ha]at z;cases z) (λvs z=>by rw[ha]at z;cases z);unfold iz;split
 ·rename_i j;obtain⟨i,c,e1,g,e2⟩:=j;obtain⟨v,e3,f⟩:=E.val i _ e1;rw[e2]at e3;cases e3;cases c with
  |o ds=>obtain⟨s,vs,b,q,_⟩:=f;cases b;rw[ha]at q;cases q
  |m ds _=>obtain⟨s,vs,b,q,_⟩:=f;cases b;rw[ha]at q;cases q
  |_=>cases g
 ·rfl⟩
theorem cg.lend{ρ:Ev}{ds:O Dt}(E:cg K H0 H σ ρ)(h:ρ[i]?=U (U (.o ds))):cg K H0 H σ (ρ.set i (U (.l ds))):=by
 have back:∀(j:Nat) (b:Bx),(ρ.set i (U (.l ds)))[j]?=U (U b)->(j=i/\b=.l ds)\/(j≠i/\ρ[j]?=U (U b)):=λj b e=>by
  rcases BC e with⟨rfl,e',_⟩|⟨f,e'⟩
  ·cases e';exact .inl ⟨rfl,rfl⟩
  ·exact .inr ⟨f,e'⟩
 refine⟨by rw[k5];exact E.len,λj b e=>?_,λj k c a b e1 d e2 e3 m g=>?_,E.base,λj c a e1 d e2=>?_⟩
 ·rcases back j b e with⟨rfl,rfl⟩|⟨f,e'⟩
  ·obtain⟨v,e1,a,vs,e2,q,r⟩:=E.val _ _ h;exact⟨v,e1,a,vs,e2,.inl q,r⟩
  ·exact E.val j b e'
 ·rcases back j _ e1 with⟨rfl,z⟩|⟨f,e'⟩
  ·subst z;cases d
  ·rcases back k _ e3 with⟨rfl,z⟩|⟨p,n⟩
   ·exact E.own j _ c a _ e' d e2 h S g
   ·exact E.own j k c a b e' d e2 n m g
 ·rcases back j _ e1 with⟨rfl,z⟩|⟨f,e'⟩
  ·subst z;cases d
  ·exact E.new j c a e' d e2
def sS(i:Nat)(gt:Dt->Ev->Y Ev)(gb:Ev->Y Ap)(ρ:Ev):Y Ap:=match ρ[i]? with
 |some (U (.o ds))=>uq gt gb ds (ρ.set i (U (.l ds)))
 |some (U (.l ds))=>uq gt gb ds ρ
 |some (U b)=>(Fh b).bind λds=>uq gt gb ds ρ
 |_=>Z
theorem Pf{ρ:Ev}{ds:O Dt}(E:cg X.K H0 H σ ρ)(h:ρ[i]?=U (U (.l ds))):∃a vs,σ[i]?=U (U (.ref a))/\yS X.K H a vs/\B4 X.K (HH X.K a) ds (iz H σ ρ):=by
 obtain⟨v,e1,a,vs,rfl,q,r⟩:=E.val i _ h;have e:iz H σ ρ a=H a:=by
  unfold iz;split
  ·rename_i f;obtain⟨j,c,e2,d,e3⟩:=f;have:=E.own j i c a _ e2 d e3 h S e1;subst this;rw[h]at e2;cases e2;cases d
  ·rfl
 refine⟨a,vs,e1,.inl q,.list (.inl ?_) (r.part (λb o u hb=>j5 E (λvs z=>by rw[hb]at z;cases z) (λvs z=>by rw[hb]at z;cases z)) λb g hb=>j5 E (λvs z=>by rw[hb]at z;cases z) (λvs z=>by rw[hb]at z;cases z))⟩;rcases q with q|⟨o,q⟩
 ·exact .inl (e.trans q)
 ·exact .inr ⟨o,e.trans q⟩
theorem Ae(i:Nat){p:Pos}{gt:Dt->Ev->Option Ev}{gb:Ev->Option Ap}(hp:PassesOwn (sg X) X.A X.env X.xe)(J:X.calm=true)(hg:DH X tg gt)(hb:Co X body gb)(I:X.N[i]?=U x:=by rfl)(M:D4 X.env.scope x:=by first|exact kB rfl|exact JE (kB S)|exact JE (JE S))(L:sa x:=by decide)(K:(x==("__classdict__":AJ))=false:=by decide)(hs:∀y,foldedSetIterable (.Name x p) X.env y=pure y:=by intro _;rfl):Tj X (.For tg (.Name x p) body [] pos) (sS i gt gb):=⟨have hg:=hg.run;have hb:=hb.run;YT (OB hp J (WR (yU (i:=i) I M L K)) hg hb hs) λD σ H h=>by
 obtain⟨H0,ρ,r,E,e,q⟩:=h;unfold sS at e;split at e
 ·rename_i ds g;have F:=E.lend g;have hi:i<ρ.length:=(bv.mp g).1;obtain⟨a,vs,e1,sq,Y⟩:=Pf F (JR _ hi);exact⟨_,e1,.inl ⟨a,rfl,⟨vs,sq⟩,vQ F Y e q⟩⟩
 ·rename_i ds g;obtain⟨a,vs,e1,sq,Y⟩:=Pf E g;exact⟨_,e1,.inl ⟨a,rfl,⟨vs,sq⟩,vQ E Y e q⟩⟩
 ·rename_i b G P g;obtain⟨ds,f,e⟩:=AT e;obtain⟨v,e1,s⟩:=E.val i _ g;have t:∀b o u,H b=U (.yw o u)->iz H σ ρ b=H b:=λb o u hb=>j5 E (λvs z=>by rw[hb]at z;cases z) (λvs z=>by rw[hb]at z;cases z);have B:∀b C,H b=U (.tup C)->iz H σ ρ b=H b:=λb C hb=>j5 E (λvs z=>by rw[hb]at z;cases z) (λvs z=>by rw[hb]at z;cases z);cases b with
  |z d=>
   cases d with
   |tup j=>
    cases f;simp only[bf,AW]at s;obtain⟨a,vs,rfl,c,rs⟩:=s;refine⟨_,e1,.inr (.inl ⟨a,rfl,⟨vs,c⟩,vQ E (.tup ?_ (rs.part t B)) e q⟩)⟩;rcases c with (c|⟨o,c⟩)|c
    ·exact .inl (.inl ((B _ _ c).trans c))
    ·exact .inl (.inr ⟨o,(t _ _ _ c).trans c⟩)
    ·exact .inr c
   |lst j=>
    cases f;simp only[bf,AW]at s;obtain⟨a,vs,rfl,c,rs⟩:=s;refine⟨_,e1,.inl ⟨a,rfl,⟨vs,c.sq⟩,vQ E (.list ?_ (rs.part t B)) e q⟩⟩;rcases c with⟨o,c⟩|c
    ·exact .inl (.inr ⟨o,(t _ _ _ c).trans c⟩)
    ·exact .inr c
   |str x=>
    cases f;simp only[bf,AW]at s;obtain⟨rfl,_⟩:=s;exact⟨_,e1,.inr (.inr ⟨x,rfl,vQ E (.str x) e q⟩)⟩
   |_=>cases f
  |l j=>cases f
  |o j=>exact absurd S (G j)
  |n j=>cases f
  |m j=>cases f
 ·cases e⟩
end
def CH(a:O (AJ×A1)):O (AJ×A1)->Prop
 |[]=>True
 |(n,c)::r=>a.lookup n=U c/\CH a r
theorem CH.get{a:O (AJ×A1)}:∀{cl:O (AJ×A1)},CH a cl->∀{x:AJ} {c:A1},cl.lookup x=U c->a.lookup x=U c
 |[],_,_,_,e=>by cases e
 |(n,d)::r,h,x,c,e=>by
  rw[pD]at e;by_cases hx:x==n
  ·simp only[hx]at e;cases e;have:x=n:=by simpa using hx
   rw[this];exact h.1
  ·have hx:(x==n)=false:=by simpa using hx
   simp only[hx]at e;exact CH.get h.2 e
structure P' (X:Cx) (scope:Scope) (cl:List (Str×Addr)) (x:Str) (i:Nat):Prop where
 n:X.N[i]?=some x
 k:X.env.kindOf x=some .cell\/X.env.kindOf x=some .free
 k':(relabel scope X.env).names.lookup x=some .cell\/(relabel scope X.env).names.lookup x=some .free
 c:∃c,cl.lookup x=some c
def MJ(X:Cx)(scope:Scope)(cl:O (AJ×A1)):AZ->O Nat->Prop
 |[],[]=>True
 |x::xs,i::is=>P' X scope cl x i/\MJ X scope cl xs is
 |_,_=>False
theorem MJ.get{X:Cx}{scope:Scope}{cl:O (AJ×A1)}:∀{xs:AZ} {is:O Nat},MJ X scope cl xs is->xs.length=is.length/\∀(j:Nat) (x:AJ),xs[j]?=U x->∃i,is[j]?=U i/\P' X scope cl x i
 |[],[],_=>⟨rfl,λj x e=>by simp at e⟩
 |x::xs,i::is,h=>by
  obtain⟨h1,h2⟩:=h;obtain⟨l,g⟩:=MJ.get h2;refine⟨by simp[l],λj y e=>?_⟩;cases j with
  |zero=>simp at e;subst e;exact⟨i,rfl,h1⟩
  |succ j=>obtain⟨k,e1,e2⟩:=g j y (by simpa using e);exact⟨k,by simpa using e1,e2⟩
 |[],_::_,h=>h.elim
 |_::_,[],h=>h.elim
def Iy(a:O (AJ×NameKind))(x:AJ):Bool:=match a.lookup x with
 |some .cell=>true
 |_=>false
def Mu(X:Cx)(a:AZ)(scope:Scope)(cl:O (AJ×A1))(C:A1)(s₀:A2)(H₀:Hp)(fp:O A1):Cx:=
 { X with N:=a,s₀:=s₀,H₀:=H₀,env:=compEnvC scope (cellsFrom (C+1) scope.names cl) C X.env,outer:=X.stack,ex:=fp,fn:=Iy scope.names,pn:=[],xe:=λ_ _=>False }
structure L8 (h:Heap) (cs:List (Str×Addr)):Prop where
 inj:∀x y c,cs.lookup x=some c->cs.lookup y=some c->x=y
 cell:∀x c,cs.lookup x=some c->∃v,h.IsCell c v
theorem mX{n:AJ}{a:α}{l:O (AJ×α)}(h:x≠n):((n,a)::l).lookup x=l.lookup x:=by
 rw[pD,beq_eq_false_iff_ne.mpr h]
theorem L9:∀(g:O (AJ×NameKind)) (h:A6) (d:O (AJ×A1)),L8 h d->L8 (pushCells h g) (cellsFrom h.objs.size g d)
 |[],_,_,x=>x
 |(n,k)::r,h,d,x=>by
  unfold pushCells cellsFrom;split
  ·have i:∀y c,d.lookup y=U c->c≠h.objs.size:=λy c e=>let ⟨_,q⟩:=x.cell y c e;zI q.lt;have:=L9 r (h.push { cls:=.type "cell",data:=.cell Z }) ((n,h.objs.size)::d) ⟨λy z c e1 e2=>?_,λy c e=>?_⟩
   ·rwa [qr]at this
   ·by_cases a:y=n<;>by_cases f:z=n
    ·rw[a,f]
    ·subst a;rw[k7]at e1;rw[mX f]at e2;cases e1;exact absurd S (i _ _ e2)
    ·subst f;rw[k7]at e2;rw[mX a]at e1;cases e2;exact absurd S (i _ _ e1)
    ·rw[mX a]at e1;rw[mX f]at e2;exact x.inj y z c e1 e2
   ·by_cases a:y=n
    ·subst a;rw[k7]at e;cases e;exact⟨Z,_,zw _ rfl,rfl⟩
    ·rw[mX a]at e;obtain⟨v,q⟩:=x.cell y c e;exact⟨v,q.keeps λb o e=>ze _ e⟩
  ·exact L9 r h d x
theorem Dm:∀(b:O (AJ×NameKind)) (n:Nat) (a:O (AJ×A1)) (x:AJ) (c:A1),(cellsFrom n b a).lookup x=U c->a.lookup x=U c\/n<=c
 |[],_,_,_,_,e=>.inl e
 |(m,k)::r,n,a,x,c,e=>by
  unfold cellsFrom at e;split at e
  ·rcases Dm r _ _ x c e with h|h
   ·by_cases hx:x=m
    ·subst hx;rw[k7]at h;cases h;exact .inr (zi _)
    ·rw[mX hx]at h;exact .inl h
   ·exact .inr ()
  ·exact Dm r _ _ x c e
theorem Qx:∀(b:O (AJ×NameKind)) (n:Nat) (a:O (AJ×A1)) (x:AJ),(x,NameKind.cell)∉b->(cellsFrom n b a).lookup x=a.lookup x
 |[],_,_,_,_=>rfl
 |(m,k)::r,n,a,x,h=>by
  unfold cellsFrom;have c:(x,NameKind.cell)∉r:=λz=>h (zh _ z);split
  ·rename_i d;rw[Qx r _ _ x c,mX λz=>h (by rw[z,<-beq_iff_eq.mp d];exact zg ..)]
  ·exact Qx r _ _ x c
theorem WT:∀(b:O (AJ×NameKind)) (n:Nat) (a:O (AJ×A1)) (x:AJ),((x,NameKind.cell)∈b\/∃c,a.lookup x=U c)->∃c,(cellsFrom n b a).lookup x=U c
 |[],_,_,_,h=>h.elim (λz=>by simp at z) λz=>z
 |(m,k)::r,n,a,x,h=>by
  unfold cellsFrom;split
  ·refine WT r _ _ x ?_;by_cases hx:x=m
   ·exact .inr ⟨n,by rw[hx,k7]⟩
   ·rw[mX hx];exact h.imp_left λz=>(List.mem_cons.mp z).elim (λz=>absurd (congrArg pF z) hx) λz=>z
  ·rename_i d;exact WT r _ _ x (h.imp_left λz=>(List.mem_cons.mp z).elim (λz=>by cases z;exact absurd S d) λz=>z)
theorem t6{g:A1}{Q:Env->A2->Prop}(h:Q (newEnv scope s.heap.objs.size g (cellsFrom (s.heap.objs.size+1) scope.names cl) qual Z .none (U env) builtinsNs) { s with heap:=pushCells (s.heap.push { cls:=.type "dict",data:=.dict #[] }) scope.names }):
  A7 M A (newFunctionEnv scope g cl [] qual Z .none (U env)) Q E s:=by
 simp only[newFunctionEnv,y0,qk];refine zb (wpAny_alloc ?_);refine zb (wpAny_layCells _ (λname a b=>by cases a==NameKind.cell<;>simp) _ _ _ _ ?_);rw[show({ s with heap:=s.heap.push { cls:=.type "dict",data:=.dict #[] } }:A2).heap.objs.size=s.heap.objs.size+1 from qr ..];rw[List.forIn_nil];exact zb (zd (zd h))
structure wQ (X:Cx) (scope:Scope) (cl:List (Str×Addr)) (xs:AZ) (is:List Nat):Prop where
 clos:closureFor scope X.env=pure cl
 kind:scope.kind=.function
 cell:∀y∈scope.names,y.2=.cell->cl.lookup y.1=none
 names:∀y∈scope.names,y.2=.local->scope.names.lookup y.1=some .local
 sub:CH X.env.cells cl
 has:∀x,((relabel scope X.env).names.lookup x=some .cell\/(relabel scope X.env).names.lookup x=some .free)->(x,NameKind.cell)∈scope.names\/∃c,cl.lookup x=some c
 cap:MJ X scope cl xs is
def Ce(is:O Nat)(σ:L2.St):L2.St:=is.map λi=>(σ[i]?).bind λv=>v
def mz(is:O Nat)(ρ:Ev):Ev:=is.map λi=>BW ρ i
def DI(n m:Nat)(g:Dt->Ev->Y Ev):Prop:=∀d ρ a,g d ρ=U a->a.length=ρ.length/\∀j,j<n\/m<=j->a[j]?=ρ[j]?
def IQ(n m:Nat)(g:O Dt->Ev->Y Ev):Prop:=∀d ρ a,g d ρ=U a->a.length=ρ.length/\∀j,j<n\/m<=j->a[j]?=ρ[j]?
theorem cM{m:Nat}(h:n<=i:=by decide)(h':i<m:=by decide):DI n m (λd ρ=>U (ρ.set i (U (.z d)))):=λd ρ b e=>by
 cases e;exact⟨by rw[k5],λj a=>JT _ ()⟩
theorem Y0{m:Nat}:IQ n m Bh:=λd ρ a e=>by
 cases d with
 |nil=>cases e;exact⟨rfl,λ_ _=>S⟩
 |cons=>cases e
theorem qg{m:Nat}{g:Dt->Ev->Y Ev}{gs:O Dt->Ev->Y Ev}(h:DI n m g)(hs:IQ n m gs):IQ n m (c7 g gs):=λd ρ o e=>by
 cases d with
 |nil=>cases e
 |cons d ds=>
  simp only[c7]at e;obtain⟨l,e1,e⟩:=AT e;obtain⟨a,b⟩:=h _ _ _ e1;obtain⟨i,f⟩:=hs _ _ _ e;exact⟨i.trans a,λj c=>(f j c).trans (b j c)⟩
theorem OH{m k:Nat}{gs:O Dt->Ev->Y Ev}(hs:IQ n m gs):DI n m (yD k gs):=λd ρ a e=>by
 cases d with
 |tup ds=>
  simp only[yD]at e;split at e
  ·exact hs _ _ _ e
  ·cases e
 |_=>cases e
def Il(gt:Dt->Ev->Y Ev)(p:Ev->Y Bool)(fs:Ev->Y (O Dt))(ρ:Ev):O Dt->Y (O Dt)
 |[]=>U []
 |d::ds=>(gt d ρ).bind λa=>(p a).bind λk=>if k=true then(fs a).bind λys=>(Il gt p fs ρ ds).bind λzs=>U (ys++zs)else Il gt p fs ρ ds
def L4:Bx->Y (O Dt)
 |.z y=>U [y]
 |_=>Z
def Hi(gt:Dt->Ev->Y Ev)(p:Ev->Y Bool)(fe:Ev->Y Bx)(ρ:Ev):O Dt->Y (O Dt):=Il gt p (λρ=>(fe ρ).bind L4) ρ
theorem Gf{b:Bx}{ys:O Dt}(h:L4 b=U ys):∃y,b=.z y/\ys=[y]:=by
 cases b<;>cases h;exact⟨_,rfl,rfl⟩
theorem Af{gt:Dt->Ev->Y Ev}{p:Ev->Y Bool}{fe:Ev->Y Bx}{ρ:Ev}:∀{ds out:O Dt},Hi gt p fe ρ ds=U out->out.length<=ds.length
 |[],_,e=>by cases e;exact zi _
 |d::ds,out,e=>by
  simp only[Hi,Il]at e;obtain⟨f,_,e⟩:=AT e;obtain⟨k,_,e⟩:=AT e;cases k with
  |false=>
   rw[zz ZT]at e;exact ZI (Af (gt:=gt) (p:=p) (fe:=fe) e) (by simp)
  |true=>
   rw[zl rfl]at e;obtain⟨ys,a,e⟩:=AT e;obtain⟨zs,c,e⟩:=AT e;obtain⟨b,_,a⟩:=AT a;obtain⟨y,_,rfl⟩:=Gf a;cases e;simpa using Af (gt:=gt) (p:=p) (fe:=fe) c
def CM(X:Cx)(ifs:O Expr)(p:Ev->Y Bool):Prop:=(ifs=[]/\p=λ_=>U true)\/∃c,ifs=[c]/\PB X c p
structure Gg (X:Cx) (ifs:List Expr) (p:Ev->Option Bool):Prop where
 run:CM X ifs p
section
variable{xs:AZ}{gt:Dt->Ev->Y Ev}{p:Ev->Y Bool}{fe:Ev->Y Bx}{fi:Ev->Y (O Dt)}
theorem oD{p:Hp}{d:A2}(a:L2.AU X AN σ p d)(O:wQ X scope cl xs is)(t:∀b∈fp,wI X AN p b)(D:∀b∈fp,b<d.heap.objs.size):
  L2.AU (Mu X (xs++ts) scope cl d.heap.objs.size d p fp) [] (Ce is σ++ab ts.length Z) p { d with heap:=pushCells (d.heap.push { cls:=.type "dict",data:=.dict #[] }) scope.names }:=by
 obtain⟨N,H⟩:=O.cap.get;have g:=O.sub;have L:(d.heap.push { cls:=.type "dict",data:=.dict #[] }).objs.size=d.heap.objs.size+1:=qr ..;have w:∀b o,d.heap.get? b=U o->(pushCells (d.heap.push { cls:=.type "dict",data:=.dict #[] }) scope.names).get? b=U o:=λb o e=>pushCells_keeps _ _ b o (ze _ e);have A:L8 (pushCells (d.heap.push { cls:=.type "dict",data:=.dict #[] }) scope.names) (cellsFrom (d.heap.objs.size+1) scope.names cl):=by
  rw[<-L];refine L9 _ _ _ ⟨λx y c e1 e2=>a.ok.inj x y c (g.get e1) (g.get e2),λx c e=>?_⟩;obtain⟨v,q⟩:=a.cell x c (g.get e);exact⟨v,q.keeps λb o e=>ze _ e⟩
 have B:∀x c,(cellsFrom (d.heap.objs.size+1) scope.names cl).lookup x=U c->X.env.cells.lookup x=U c\/d.heap.objs.size<c:=λx c e=>(Dm _ _ _ x c e).imp_left g.get;refine⟨⟨a.ok.mod,O.kind,a.ok.glob,a.ok.blt,zi _,A.inj,λx hx=>WT _ _ _ x (O.has x hx),λx c hx e=>?_,a.ok.hd,a.ok.frames,.inl rfl,λb hb=>⟨zI (D b hb),λx c e=>?_⟩,a.bs,ZI a.ok.bsz a.sz,λb o e hb=>?_,λb hb K=>?_,a.stack,a.YF⟩,
  rfl,a.bare,Un.kept w,⟨_,(Heap.Ns.new d.heap (.type "dict")).keeps (pushCells_keeps _ _),λj x v e1 e2 _=>?_⟩,A.cell,a.hok.fresh (zi _),λx c e=>(B x c e).elim (a.uw x c) λh=>a.hok.fresh (jS h),λq G=>absurd (show q∈([]:List (A1×AE)) from G) (by simp),a.hok.kept w,?_⟩
 ·refine(Dm _ _ _ x c e).elim (λh=>?_) λh=>jS h;have hx:(x,NameKind.cell)∈scope.names:=by
   have hx:Iy scope.names x=true:=hx;unfold Iy at hx;split at hx
   ·rename_i q;exact mem_of_lookup q
   ·cases hx
  rw[O.cell _ hx rfl]at h;cases h
 ·rcases B x c e with h|h
  ·exact(t b hb).2.2.2.2.1 x c h
  ·exact yA (en (D b hb) h)
 ·obtain⟨_,_,_,z,_⟩:=t b hb;rcases z with z|z
  ·exact a.ok.ab3 b o e z
  ·exact absurd (Z3 (zD e) (ZI a.ok.bsz z)) (kg _)
 ·obtain⟨_,E,I,_⟩:=t b hb;rcases List.mem_cons.mp (a.Qh b K)with z|z
  ·exact E z
  ·exact I z
 ·have C:j<is.length:=by
   by_cases C:j<is.length
   ·exact C
   ·rw[QA (by simp[Ce];omega)]at e2;rw[Q4]at e2;split at e2<;>cases e2
  have F:xs[j]?=U x:=by
   have e1:(xs++ts)[j]?=U x:=e1;rw[qa ()]at e1;exact e1
  obtain⟨i,Q,f⟩:=H j x F;have e3:σ[i]?=U (U v):=by
   rw[qa (by simp[Ce];omega)]at e2;unfold Ce at e2;rw[Zp,Q]at e2;cases q:σ[i]? with
   |none=>rw[rd,q]at e2;cases e2
   |some o=>
    rw[rd,q]at e2;have:o=U v:=by simpa using e2
    rw[this]
  have M:D4 X.env.scope x:=by
   rcases f.k with k|k
   ·exact .inr (.inl k)
   ·exact .inr (.inr k)
  obtain⟨m',a0,P⟩:=a.loc;obtain⟨u,r,l⟩:=P i x v f.n e3 M;refine⟨u,r,?_⟩;rcases l with⟨k,_⟩|⟨k,c,W,J⟩
  ·rcases f.k with s|s<;>(rw[k]at s;cases s)
  ·obtain⟨c',m⟩:=f.c;have:=g.get m;rw[W]at this;cases this;refine .inr ⟨f.k',c,(Qx _ _ _ x λz=>by rw[O.cell _ z rfl]at m;cases m).trans m,?_⟩;obtain⟨o,ho,hd⟩:=J;exact⟨o,w c o ho,hd⟩
 ·show(Ce is σ++ab ts.length Z).length=(xs++ts).length;simp[Ce,N]
theorem cg.caps{ρ:Ev}(E:cg K H0 H σ ρ)(is:O Nat)(n:Nat):cg K H H (Ce is σ++ab n Z) (mz is ρ++ab n Z):=by
 have f:∀(j:Nat) c,(mz is ρ++ab n Z)[j]?=U (U c)->yM c=false:=λj c e=>by
  by_cases g:j<is.length
  ·rw[qa (by simp[mz];omega)]at e;unfold mz at e;rw[Zp]at e;cases q:is[j]? with
   |none=>rw[q]at e;cases e
   |some i=>
    rw[q]at e;have:BW ρ i=U c:=by simpa using e
    exact Dk this
  ·rw[QA (by simp[mz];omega),Q4]at e;split at e<;>cases e
 refine⟨by simp[Ce,mz],λj b e=>?_,λj k c a b e d=>absurd d (by rw[f j c e];exact ZT),AV.refl H,λj c a e d=>absurd d (by rw[f j c e];exact ZT)⟩;by_cases g:j<is.length
 ·rw[qa (by simp[mz];omega)]at e;rw[qa (by simp[Ce];omega)];unfold mz at e;unfold Ce;rw[Zp]at e ⊢;cases q:is[j]? with
  |none=>rw[q]at e;cases e
  |some i=>
   rw[q]at e;have:BW ρ i=U b:=by simpa using e
   obtain⟨v,e1,r⟩:=Td E this;exact⟨v,by simp[e1],r⟩
 ·rw[QA (by simp[mz];omega),Q4]at e;split at e<;>cases e
theorem cg.forget{ρ ρ':Ev}(E:cg K H0 H σ ρ')(l:ρ'.length=ρ.length)(h:∀(j:Nat) b,ρ[j]?=U (U b)->ρ'[j]?=U (U b)):cg K H0 H σ ρ:=
 ⟨E.len.trans l,λj b e=>E.val j b (h j b e),λi j c a b e1 d e2 e3 f g=>E.own i j c a b (h _ _ e1) d e2 (h _ _ e3) f g,E.base,λi c a e1 d e2=>E.new i c a (h _ _ e1) d e2⟩
structure ED (Hb:Hp) (σ:L2.St) (ρ:Ev) (n:Nat):Prop where
 own:∀(j:Nat) c,ρ[j]?=some (some c)->yM c=false
 lt:∀(j:Nat) b,ρ[j]?=some (some b)->j<n
 old:∀(j:Nat) c a,ρ[j]?=some (some c)->loose c=true->σ[j]?=some (some (.ref a))->Hb a≠none
def Fx(σ σ':L2.St)(ρ:Ev):Prop:=∀(j:Nat) c,loose c=true->ρ[j]?=U (U c)->σ'[j]?=σ[j]?
theorem ED.fx{b:Hp}{σ':L2.St}{ρ:Ev}(P:ED b σ ρ n)(f:Fx σ σ' ρ):ED b σ' ρ n:=⟨P.own,P.lt,λj c a e d ea=>P.old j c a e d (by rw[<-f j c d e];exact ea)⟩
theorem GO{ρ:Ev}(E:cg K H0 H σ ρ)(j:Nat)(c:Bx)(a:A1)(e:ρ[j]?=U (U c))(h:loose c=true)(ea:σ[j]?=U (U (.ref a))):H a≠Z:=λz=>by
 obtain⟨v,e1,b⟩:=E.val j _ e;rw[ea]at e1;cases e1;cases c with
 |z d=>cases h
 |l g=>
  obtain⟨f,vs,e2,q,_⟩:=b;cases e2;rcases q with q|⟨o,q⟩<;>(rw[z]at q;cases q)
 |n g=>
  obtain⟨f,vs,e2,q,_⟩:=b;cases e2;rcases q with q|⟨o,q⟩<;>(rw[z]at q;cases q)
 |o g=>
  obtain⟨f,vs,e2,q,_⟩:=b;cases e2;rw[z]at q;cases q
 |m g _=>
  obtain⟨f,vs,e2,q,_⟩:=b;cases e2;rw[z]at q;cases q
theorem cg.grown{f:Hp}{ρ:Ev}(E:cg K f H σ ρ)(P:ED f σ ρ n)(p:f D=Z)(kp:Kp H (B6 H D o)):cg K f (B6 H D o) σ ρ:=by
 refine⟨E.len,λj b e=>?_,λj k c a b e h=>absurd h (by rw[P.own j c e];exact ZT),λc o e=>?_,λj c a e h=>absurd h (by rw[P.own j c e];exact ZT)⟩
 ·obtain⟨v,ev,s⟩:=E.val j b e;refine⟨v,ev,?_⟩;cases b with
  |z d=>exact AW.kp kp s
  |o i=>have:=P.own j _ e;cases this
  |m i _=>have:=P.own j _ e;cases this
  |n i=>
   obtain⟨a,vs,rfl,q,g⟩:=s;refine⟨a,vs,rfl,?_,g.kp kp⟩;have ha:a≠D:=λz=>P.old j _ _ e S ev (by rw[z];exact p);exact q.imp (λq=>by rw[aV ha];exact q) λ⟨o,q⟩=>⟨o,by rw[aV ha];exact q⟩
  |l i=>
   obtain⟨a,vs,rfl,q,g⟩:=s;refine⟨a,vs,rfl,?_,g.kp kp⟩;have ha:a≠D:=λz=>P.old j _ _ e S ev (by rw[z];exact p);exact q.imp (λq=>by rw[aV ha];exact q) λ⟨o,q⟩=>⟨o,by rw[aV ha];exact q⟩
 ·rw[aV (eE e p)];exact E.base c o e
def FY(X:Cx)(el:A1->Env->Sem Unit)(fs:Ev->Y (O Dt))(Ac:A1->Hp->O Dt->HO->Prop)(N n:Nat):Prop:=∀(AN:O (A1×AE)) (s:A2) (σ:L2.St) (H a:Hp) (ρ:Ev) (D:A1) (o:HO) (b ys:O Dt),L2.AU X AN σ H s->cg X.K a H σ ρ->ED a σ ρ n->a D=Z->fs ρ=U ys->H D=U o->Ac D H b o->b.length+ys.length<=N →
 A7 (sg X) X.A (el D X.env) (λ_ s'=>∃ σ' H' o',L2.AU X AN σ' H' s'/\cg X.K a H' σ' ρ/\Fx σ σ' ρ/\H' D=U o'/\Ac D H' (b++ys) o') X.xe s
theorem OK{fs:Ev->Y (O Dt)}{Ac:A1->Hp->O Dt->HO->Prop}{N:Nat}(h:∀(AN:O (A1×AE)) (s:A2) (σ:L2.St) (H c:Hp) (ρ:Ev) (D:A1) (o:HO) (b ys:O Dt),L2.AU X AN σ H s->cg X.K c H σ ρ->fs ρ=U ys->H D=U o->Ac D H b o->b.length+ys.length<=N →
  A7 (sg X) X.A (el D X.env) (λ_ s'=>∃a o',L2.AU X AN σ (B6 a D o') s'/\AV H a/\Kp a (B6 a D o')/\Ac D (B6 a D o') (b++ys) o') X.xe s):FY X el fs Ac N n:=λAN s σ H c ρ D o b ys I E P d e1 e2 a1 l=>by
 refine QR (h AN s σ H c ρ D o b ys I E e1 e2 a1 l) (λ_ s' ⟨a,o',I',s9,kp,a'⟩=>?_) λ_ _ z=>z;exact⟨σ,_,o',I',(E.grow s9).grown P d kp,λ_ _ _ _=>S,bK,a'⟩
structure Y4 (B:Around->Bool->Prop) (P:Program) (w:World) (K:B1) (tg:Expr) (J:It) (fp:List Addr) (it:Addr) (tn:Nat->Heap->Prop):Prop where
 obj:∀i h,tn i h->∀b∈fp,∃o,h.get? b=some o/\∀v,o.data≠.cell v
 keep:∀i h h',tn i h->(∀b∈fp,∀o,h.get? b=some o->h'.get? b=some o)->tn i h'
 item:∀(X:Cx),X.prog=P->X.w=w->X.K=K->B X.A X.calm->∀(i:Nat) (AN:List (Addr×Obj)) (s:Shared) (σ:L2.St) (H:Hp) (E:B7),L2.AU X AN σ H s->(∀b∈fp,wI X AN H b)->tn i s.heap->J.go i H →
  wpAny (model P w) X.A (pyNext (.ref it)) (λr s1=>∃u,r=some u ∧
   wpAny (model P w) X.A (letOwnedTupleGo tg (.ref it) u) (λ_ s2=>∃x H',L2.AU X AN σ H' s2/\At x u/\J.yld i H x H'/\tn (i+1) s2.heap/\∀b∈fp,H' b=none) E s1) E s
 done:∀(X:Cx),X.prog=P->X.w=w->X.K=K->B X.A X.calm->∀(i:Nat) (AN:List (Addr×Obj)) (s:Shared) (σ:L2.St) (H:Hp) (E:B7),L2.AU X AN σ H s->(∀b∈fp,wI X AN H b)->tn i s.heap->J.stop i H →
  wpAny (model P w) X.A (pyNext (.ref it)) (λr s1=>r=none/\L2.AU X AN σ H s1) E s
 self:∀(A:Around) (i:Nat) (s:Shared) (Q:B7) (E:B7),tn i s.heap->Q (.ref it) s->wpAny (model P w) A (pyIter (.ref it)) Q E s
abbrev Oj:A5->Bool->Prop:=λ_ c=>c=true
theorem Tp{tn:Nat->A6->Prop}(T:CI P w K tg J fp it tn):Y4 Oj P w K tg J fp it tn:=⟨T.obj,T.keep,T.item,T.done,T.self⟩
theorem T'{F:Expr}{d:Nat}{f1:Pos}{Ac:A1->Hp->O Dt->HO->Prop}{fs:Ev->Option (O Dt)}{N m:Nat}{l:Hp}{tn:Nat->A6->Prop}{ds o0 out:O Dt}{ρ:Ev}{R:Result->A2->Prop}(c3:B X.A X.calm)(hx:X.xe=λ_ _=>False)(Sv:HR X tgt gt)(h0:CM X ifs p)(h3:FY X el fs Ac N m)(f5:DI n m gt)(f2:n<=m)(I:L2.AU X AN σ H s)(E:cg X.K l H σ ρ)(P:ED l σ ρ n)(hD:l D=Z)(f4:H D=U o)(hA:Ac D H o0 o)(T:Y4 B X.prog X.w X.K tgt J fp it tn)(st:tn 0 s.heap)(hf:∀b∈fp,wI X AN H b)(Y:B4 X.K J ds l)(e0:Il gt p fs ρ ds=U out)(hN:o0.length+out.length<=N)(b9:∀{D:A1} {H H':Hp} {t:O Dt} {o:HO},Kp H H'->Ac D H t o->Ac D H' t o)(f3:∀(it:A0) (D:A1) (env:Env),compTurn F d it (.ref D) env=(standAt f1 >>= λ_=>pyNext it >>= λr=>match r with
   |none=>pure (.done .next)
   |some v=>letOwnedTupleGo tgt it v >>= λ_=>assign tgt env v >>= λ_=>(forIn ifs true λc r=>if r=true then isTrue c env (eval c env) >>= λok=>pure (ForInStep.yield ok)else pure (ForInStep.yield r)) >>= λok=>if ok=true then el D env >>= λ_=>again (.compLoop F d it (.ref D) env)else again (.compLoop F d it (.ref D) env)))(g6:∀{it c0:A0} {env:Env} {Q:Fin->A2->Prop} {E:B7} {s:A2},A7 (sg X) X.A ((compTurn F d it c0 env).onRaise (λx=>noteFrame x env >>= λ_=>theTreesLotGoes x)) Q E s->A7 (sg X) (X.A.under (.compLoop F d it c0 env)) ((sg X).den (.compLoop F d it c0 env)) Q E s)(hR:∀s' σ' H' o',L2.AU X AN σ' H' s'->cg X.K l H' σ' ρ->Fx σ σ' ρ->H' D=U o'->Ac D H' (o0++out) o'->R (.ok .next) s'):
  AF (sg X) X.A (.compLoop F d (.ref it) (.ref D) X.env) R s:=by
 have b3:∀{H':Hp},(∀b∈fp,H' b=Z)->∀b∈fp,wI X AN H' b:=λ{H'} hn b hb=>⟨hn b hb,(hf b hb).2⟩;refine codeAny_loop S (λk s'=>∃(i:Nat) (σ':L2.St) (H':Hp) (t o2:O Dt) (o:HO),k=ds.length-i/\i<=ds.length/\L2.AU X AN σ' H' s'/\tn i s'.heap/\(∀b∈fp,H' b=Z)/\cg X.K l H' σ' ρ/\Fx σ σ' ρ/\H' D=U o/\Ac D H' t o/\Il gt p fs ρ (ds.drop i)=U o2/\t++o2=o0++out) ?_ ds.length
  ⟨0,σ,H,o0,out,o,by simp,QY _,I,st,λb hb=>(hf b hb).1,E,λ_ _ _ _=>S,f4,hA,by simpa using e0,rfl⟩
 rintro k s4 ⟨i,a3,H4,t,o2,o,rfl,hi,I4,c8,c2,E4,F4,a2,r4,g,ho⟩;have P4:=P.fx F4;refine g6 (wpAny_noted ?_);rw[f3];obtain⟨y1,y2⟩:=Y i H4 E4.base;by_cases b0:i<ds.length
 ·have hd:ds[i]?=U ds[i]:=by simp[b0]
  obtain⟨go,yl⟩:=y1 _ hd;rw[ix b0]at g;simp only[Il]at g;obtain⟨y,e1,g⟩:=AT g;obtain⟨k,ek,g⟩:=AT g;obtain⟨g1,b4⟩:=f5 _ _ _ e1;have back:∀{a0:L2.St} {H5:Hp},cg X.K l H5 a0 y->cg X.K l H5 a0 ρ:=λE5=>E5.forget g1 λj b e=>by rw[b4 j (.inl (P.lt j b e))];exact e
  refine zb (YA (zb ?_));refine jw (T.item X S S S c3 i AN s4 a3 H4 _ I4 (b3 c2) c8 go) λr s5 ⟨u,hr,h5⟩=>?_;subst hr;refine zb (jw h5 λ_ s6 ⟨x,H6,I6,r6,y6,Dp,fr6⟩=>?_);obtain⟨sm,rx⟩:=yl x H6 y6;have E4:=E4.grow sm;have a2:=sm _ _ a2;have r4:=b9 (.of sm) r4;have d1:=I6.pinned (b3 fr6) (T.obj _ _ Dp);have ha:=Sv _ s6 a3 H6 x u (λσ' H'=>H'=H6/\cg X.K l H6 σ' y/\Lo a3 ρ σ' y) d1 r6 ⟨l,ρ,ds[i],y,E4,rx,e1,λσ' E' L'=>⟨rfl,E',L'⟩⟩;rw[hx]at ha;refine zb (QR ha (λ_ s7 h7=>?_) λ_ _ z=>z.elim);obtain⟨G,H7,I7,rfl,E7,L7⟩:=h7;have P7:ED l G y m:=by
   refine⟨λj c e=>?_,λj c e=>?_,λj c a e C ea=>?_⟩
   ·cases c with
    |o ds=>exact P.own j _ (L7 j _ S e).1
    |m ds _=>exact P.own j _ (L7 j _ S e).1
    |_=>rfl
   ·refine Nat.lt_of_not_le λh=>?_;rw[b4 j (.inr h)]at e;exact absurd (Z3 (P.lt j c e) f2) (iT.mpr h)
   ·obtain⟨e',ee⟩:=L7 j c C e;exact P4.old j c a e' C (by rw[<-ee];exact ea)
  have d0:∀{a0:L2.St},Fx G a0 y->Fx σ a0 ρ:=λf j c C e=>by
   have e':y[j]?=U (U c):=by rw[b4 j (.inl (P.lt j c e))];exact e
   exact(f j c C e').trans ((L7 j c C e').2.trans (F4 j c C e))
  have ht:A7 (sg X) X.A (forIn ifs true λc r=>if r=true then do let ok <-isTrue c X.env (eval c X.env);pure (ForInStep.yield ok)else pure (ForInStep.yield r))
    (λok L=>ok=k/\∃q,L2.AU X (AN++FQ fp s6.heap) G q L/\AV H7 q) (notedBy (sg X) X.A X.env λe s'=>R (.error e) s') s7:=by
   rcases h0 with⟨rfl,rfl⟩|⟨c,rfl,hc⟩
   ·cases ek;exact wpAny_tests_nil ⟨rfl,H7,I7,AV.refl H7⟩
   ·refine wpAny_tests_one ?_;have:=hc _ s7 G H7 (λb q=>b=k/\AV H7 q) I7 ⟨l,y,k,E7,ek,λq L=>⟨rfl,L⟩⟩;rw[hx]at this;exact QR this (λb L ⟨q,I8,eb,s8'⟩=>⟨eb,q,I8,s8'⟩) λ_ _ z=>z.elim
  refine zb (QR ht (λok L h8=>?_) λ_ _ z=>z);obtain⟨rfl,q,I8,M⟩:=h8;have c1:∀{a1:L2.St} {W:Hp} {s9:A2},L2.AU X (AN++FQ fp s6.heap) a1 W s9->L2.AU X AN a1 W s9/\tn (i+1) s9.heap/\∀b∈fp,W b=Z:=λ{a1 W s9} I9=>by
   refine⟨I9.yW,T.keep _ _ _ Dp λb hb o e=>(I9.pin (b,o) (Zs _ (Zs _ (wJ hb e)))).1,λb hb=>?_⟩;obtain⟨o,e,d⟩:=T.obj _ _ Dp b hb;exact(I9.pin (b,o) (Zs _ (Zs _ (wJ hb e)))).2.1
  cases ok with
  |false=>
   rw[zz ZT]at g;obtain⟨I9,g2,h2⟩:=c1 I8;exact zd ⟨rfl,ds.length-(i+1),by omega,i+1,G,q,t,o2,o,rfl,b0,I9,g2,h2,back (E7.grow M),d0 (λ_ _ _ _=>S),M _ _ a2,b9 (.of M) r4,g,ho⟩
  |true=>
   rw[zl rfl]at g;obtain⟨ys,eb,g⟩:=AT g;obtain⟨zs,e5,g⟩:=AT g;cases g;have C:=congrArg dm ho;simp only[z4]at C;have he:=h3 _ L G q l y D o t ys I8 (E7.grow M) P7 hD eb (M _ _ a2) (b9 (.of M) r4) ();rw[hx]at he;refine zb (QR he (λ_ h4 h1=>?_) λ_ _ z=>z.elim);obtain⟨a1,W,o',d2,E9,F9,g0,a5⟩:=h1;obtain⟨d3,f0,e3⟩:=c1 d2;exact zd ⟨rfl,ds.length-(i+1),by omega,i+1,a1,W,t++ys,zs,o',rfl,b0,d3,f0,e3,back E9,d0 F9,g0,a5,e5,by rw[qv];exact ho⟩
 ·have c6:ds.length<=i:=by omega
  rw[ld c6]at g;cases g;refine zb (YA (zb ?_));refine jw (T.done X S S S c3 i AN s4 a3 H4 _ I4 (b3 c2) c8 (y2 c6)) λr s5 ⟨hr,I5⟩=>?_;subst hr;rw[qq]at ho;exact zd (hR s5 a3 H4 o I5 E4 F4 a2 (by rw[<-ho];exact r4))
theorem Ol{f:Expr}{mk:Sem A0}{o0:AE}{O0:HO}{Ac:A1->Hp->List Dt->HO->Prop}{fs:Ev->Option (List Dt)}{N m:Nat}{H2:Hp}{a:A2}{tn:Nat->A6->Prop}{ds out:List Dt}{ρ:Ev}(O:wQ X scope cl xs is)(c6:B X.A X.calm)(Sv:∀C n t fp,HR (Mu X (xs++ts) scope cl C n t fp) tgt gt)(b0:∀C n t fp,CM (Mu X (xs++ts) scope cl C n t fp) ifs p)(d1:∀C n t fp,FY (Mu X (xs++ts) scope cl C n t fp) el fs Ac N m)(a3:DI is.length m gt)(d3:is.length<=m)(I2:L2.AU X AN σ H2 a)(L:cg X.K H2 H2 (Ce is σ++ab ts.length Z) (mz is ρ++ab ts.length Z))(T:Y4 B X.prog X.w X.K tgt J fp it tn)(st:tn 0 a.heap)(hf:∀b∈fp,wI X AN H2 b)(Y:B4 X.K J ds H2)(e3:Il gt p fs (mz is ρ++ab ts.length Z) ds=U out)(b9:out.length<=N)(c8:∀(D C:A1) (s':A2) (H':Hp) (o:HO),H2 D=Z->L2.AU X AN σ H' s'->wI X AN H' C->(∃m,s'.heap.Ns C m)->AV H2 H'->H' D=U o->Ac D H' out o->RR (.ref D) C (.ok .next) s')(e5:∀{Q:B7},Q (.ref a.heap.objs.size) { a with heap:=a.heap.push o0 }->A7 (sg X) X.A mk Q E a)(c2:∀H,ju X.prog X.w H (a.heap.push o0) a.heap.objs.size O0)(c1:∀H,Ac a.heap.objs.size H [] O0)(c0:∀{D:A1} {H H':Hp} {o1:List Dt} {o:HO},Kp H H'->Ac D H o1 o->Ac D H' o1 o)(g0:∀(it:A0) (D:A1) (env:Env),compTurn f 0 it (.ref D) env=(standAt iter.pos >>= λ_=>pyNext it >>= λr=>match r with
   |none=>pure (.done .next)
   |some v=>letOwnedTupleGo tgt it v >>= λ_=>assign tgt env v >>= λ_=>(forIn ifs true λc r=>if r=true then isTrue c env (eval c env) >>= λok=>pure (ForInStep.yield ok)else pure (ForInStep.yield r)) >>= λok=>if ok=true then el D env >>= λ_=>again (.compLoop f 0 it (.ref D) env)else again (.compLoop f 0 it (.ref D) env)))(b4:∀{it d:A0} {env:Env} {R:Result->A2->Prop} {s:A2},AF (sg X) X.A (.compLoop f 0 it d env) R s->A7 (sg X) X.A (pyIter it) (λg1 s'=>AF (sg X) X.A (.compLoop f 0 g1 d env) R s') (notedBy (sg X) X.A env λx s'=>R (.error x) s') s->AF (sg X) X.A (.compStart f 0 it d env) R s)(e4:∀{it d:A0} {env:Env} {Q:Fin->A2->Prop} {E:B7} {s:A2},A7 (sg X) X.A ((compTurn f 0 it d env).onRaise (λx=>noteFrame x env >>= λ_=>theTreesLotGoes x)) Q E s->A7 (sg X) (X.A.under (.compLoop f 0 it d env)) ((sg X).den (.compLoop f 0 it d env)) Q E s):
  A7 (sg X) X.A mk (λd d2=>A7 (sg X) X.A (newFunctionEnv scope X.env.globals cl [] X.env.qual Z .none (U X.env)) (λa2 e0=>
   AF (sg X) X.A (.compStart f 0 (.ref it) d { a2 with scope:=relabel scope X.env }) (RR d a2.locals) e0) E d2) E a:=by
 refine e5 (t6 ?_);have G:H2 a.heap.objs.size=Z:=I2.hok.fresh (zi _);have y:L2.AU X AN σ (B6 H2 a.heap.objs.size O0) { a with heap:=a.heap.push o0 }:=
  I2.laid (t':=a.toks) (λb o e=>ze _ e) (zi _) (c2 _)
 have a0:∀b∈fp,b<a.heap.objs.size:=λb hb=>let ⟨o,e,_⟩:=T.obj 0 _ st b hb;zD e;have I:∀b∈fp,wI X AN (B6 H2 a.heap.objs.size O0) b:=λb hb=>⟨by rw[aV (zI (a0 b hb))];exact(hf b hb).1,(hf b hb).2⟩;have P:tn 0 (a.heap.push o0):=T.keep 0 _ _ st λb hb o e=>ze _ e;have u:∀b∈fp,b<(a.heap.push o0).objs.size:=λb hb=>by rw[qr];exact qV (a0 b hb)
 generalize b3:({ a with heap:=a.heap.push o0 }:A2)=s3 at *
 have e1:s3.heap=a.heap.push o0:=by rw[<-b3]
 rw[<-e1]at P u;have IC:=oD (ts:=ts) y O I u;have a1:tn 0 (pushCells (s3.heap.push { cls:=.type "dict",data:=.dict #[] }) scope.names):=T.keep 0 _ _ P λb hb o e=>pushCells_keeps _ _ b o (ze _ e);have c3:∀b∈fp,wI (Mu X (xs++ts) scope cl s3.heap.objs.size s3 (B6 H2 a.heap.objs.size O0) fp) [] (B6 H2 a.heap.objs.size O0) b:=λb hb=>by
  obtain⟨f0,f1,f2,f3,F,W⟩:=I b hb;refine⟨f0,zI (u b hb),λz=>?_,.inl hb,λx c e z=>?_,λq hq=>absurd (show q∈([]:List (A1×AE)) from hq) (by simp)⟩
  ·rcases List.mem_cons.mp (y.Qh b z)with q|q
   ·exact f1 q
   ·exact f2 q
  ·rcases Dm _ _ _ x c e with h|h
   ·exact F x c (O.sub.get h) z
   ·rw[z]at h;exact absurd (Z3 (u b hb) (ov h)) (kg _)
 have P0:ED H2 (Ce is σ++ab ts.length Z) (mz is ρ++ab ts.length Z) is.length:=by
  have g:∀(j:Nat) c,(mz is ρ++ab ts.length Z)[j]?=U (U c)->j<is.length/\yM c=false:=λj c e=>by
   by_cases hj:j<is.length
   ·refine⟨hj,?_⟩;rw[qa (by simp[mz];omega)]at e;unfold mz at e;rw[Zp]at e;cases q:is[j]? with
    |none=>rw[q]at e;cases e
    |some i=>rw[q]at e;exact Dk (by simpa using e)
   ·rw[QA (by simp[mz];omega),Q4]at e;split at e<;>cases e
  exact⟨λj c e=>(g j c e).2,λj c e=>(g j c e).1,GO L⟩
 have h:=T' (B:=B) (X:=Mu X (xs++ts) scope cl s3.heap.objs.size s3 (B6 H2 a.heap.objs.size O0) fp) (R:=RR (.ref a.heap.objs.size) s3.heap.objs.size) (o0:=[]) c6 S (Sv _ _ _ _) (b0 _ _ _ _) (d1 _ _ _ _) a3 d3 IC (L.grow (bL G)) P0 G bK (c1 _) T a1 c3 Y e3 (by simpa using b9) c0 g0 e4 λs5 g2 M o5 l E5 _ d0 a5=>by
  have IB:L2.AU X AN σ M s5:=y.call' (ch:=fp) l.os l.base l.hok l.bare λb hb=>by
   obtain⟨f0,f1,f2,f3,F,W⟩:=I b hb;exact⟨f3,f1,F,W⟩
  obtain⟨m,hn,_⟩:=l.loc;exact c8 _ _ s5 M o5 G IB (y.Wq (zi _) l.free) ⟨m,hn⟩ E5.base d0 a5
 exact b4 h (T.self _ 0 _ _ _ a1 h)
def FV(K:B1)(_:A1)(H:Hp)(a:O Dt)(o:HO):Prop:=∃us,o=.lst us/\aK K H a us
theorem FV.kp{K:B1}{D:A1}{H H':Hp}{a:O Dt}{o:HO}(k:Kp H H'):FV K D H a o->FV K D H' a o:=λ⟨us,e,r⟩=>⟨us,e,r.kp k⟩
def Op(fe:Ev->Y Bx):Ev->Y (O Dt):=λρ=>(fe ρ).bind L4
theorem gu(h:PV X elt fe):FY X (λD env=>do let _ <-call (.builtin "list.append") [.ref D,<-eval elt env]) (Op fe) (FV X.K) 100000 n:=by
 refine OK λAN s σ H Hb ρ D o o1 ys I En i hD ⟨us,e,r4⟩ hl=>?_;subst e;obtain⟨b,eb,i⟩:=AT i;obtain⟨y,rfl,rfl⟩:=Gf i;refine zb (QR (h AN s σ H (λv a=>AV H a/\AW X.K a y v) I ⟨Hb,ρ,_,En,eb,λv a d _ f=>⟨d,f⟩⟩) (λv d t=>?_) λ_ _ z=>z);obtain⟨c,a,m,p,g,f⟩:=t;have j:=g _ _ hD;refine zb (QR ((Oh (X:=X)) _ d σ a (.ref D) [c] (.ref D) [v] (λw l=>l=B6 a D (.lst (us++[c]))) m S (.cons p .nil) ⟨_,us,c,rfl,rfl,j,by rw[r4.length];have h0:(100000:Nat)<AA:=();simp at hl;omega,rfl⟩) (λw x q=>?_) λ_ _ z=>z);obtain⟨A,l,u,_,rfl⟩:=q;have kp:Kp a (B6 a D (.lst (us++[c]))):=.lst j;exact zd ⟨a,_,u,g,kp,us++[c],rfl,((r4.kp (.of g)).append (aK.cons f aK.nil)).kp kp⟩
theorem Dq{H2:Hp}{l:A2}{tn:Nat->A6->Prop}{ds out:List Dt}{ρ:Ev}(O:wQ X scope cl xs is)(H:B X.A X.calm)(G:∀C i j fp,HR (Mu X (xs++ts) scope cl C i j fp) tgt gt)(u:∀C i j fp,CM (Mu X (xs++ts) scope cl C i j fp) ifs p)(F:∀C i j fp,PV (Mu X (xs++ts) scope cl C i j fp) elt fe)(t:DI is.length (is.length+ts.length) gt)(z:L2.AU X AN σ H2 l)(y:cg X.K H2 H2 (Ce is σ++ab ts.length Z) (mz is ρ++ab ts.length Z))(T:Y4 B X.prog X.w X.K tgt J fp it tn)(st:tn 0 l.heap)(M:∀b∈fp,wI X AN H2 b)(Y:B4 X.K J ds H2)(x:ds.length<=100000)(q:Hi gt p fe (mz is ρ++ab ts.length Z) ds=U out)(L:∀(D C:A1) (s':A2) (H':Hp) (us:List V),H2 D=Z->L2.AU X AN σ H' s'->wI X AN H' C->(∃m,s'.heap.Ns C m)->AV H2 H'->H' D=U (.lst us)->aK X.K H' out us->RR (.ref D) C (.ok .next) s'):
  A7 (sg X) X.A (newList []) (λn I=>A7 (sg X) X.A (newFunctionEnv scope X.env.globals cl [] X.env.qual Z .none (U X.env)) (λs v=>
   AF (sg X) X.A (.compStart (.ListComp elt [⟨tgt,iter,ifs,0⟩] scope pos) 0 (.ref it) n { s with scope:=relabel scope X.env }) (RR n s.locals) v) E I) E l:=
 Ol (B:=B) (Ac:=FV X.K) (O0:=.lst []) (N:=100000) O H G u (λC i j fp=>gu (F C i j fp)) t (i0 ..) z y T st M Y q (ZI (Af q) x) (λD C s' H' o a b c d e f g=>by obtain⟨us,rfl,r⟩:=g;exact L D C s' H' us a b c d e f r)
  ZZ (λ_=>⟨QY _,[],0,.nil,zw _ rfl⟩) (λ_=>⟨[],rfl,aK.nil⟩) FV.kp (λ_ _ _=>S) codeAny_compStart_list λh=>h
end
def iC(K:B1)(f:Ev->Y (O Dt)):TI:=λσ H R=>∃H0 ρ ds,cg K H0 H σ ρ/\f ρ=U ds/\∀J H',AV H H'->B4 K J ds H'->R J H'
def fA(X:Cx)(tg iter:Expr)(f:Ev->Y (O Dt)):Prop:=PI X tg iter (iC X.K f)
structure GW (X:Cx) (tg iter:Expr) (f:Ev->Option (List Dt)):Prop where
 run:fA X tg iter f
def GN:Bx->Y (O Dt)
 |.z (.lst ds)=>U ds
 |.z (.tup ds)=>U ds
 |.z (.str x)=>U (BN x)
 |.o ds=>U ds
 |.l ds=>U ds
 |_=>Z
section
variable{f:Ev->Y Bx}{fs:Ev->Y (O Bx)}{xs:AZ}{gt:Dt->Ev->Y Ev}{p:Ev->Y Bool}{fe:Ev->Y Bx}{fi:Ev->Y (O Dt)}
theorem WW(h:IP X tgt iter fi):GW X tgt iter fi:=⟨have h:=h.run;λAN s σ H R I q=>by
 obtain⟨H0,ρ,ds,E,e,q⟩:=q;exact h AN s σ H R I ⟨H0,ρ,ds,E,e,λJ H' s' y=>q J H' s' (y H' (AV.refl H') (λ_ _=>S) (λ_ _ _ _=>S) λ_ _ _=>S)⟩⟩
theorem fB(h:QV X e f):GW X tgt e (λρ=>(f ρ).bind GN):=⟨have h:=h.run;λAN s σ H R I q=>by
 refine WR h AN s σ H R I ?_;obtain⟨H0,ρ,ds,E,e,q⟩:=q;obtain⟨b,eb,e⟩:=AT e;refine⟨H0,ρ,b,E,eb,λv H1 i p g=>?_⟩;cases b with
 |z d=>
  cases d with
  |tup j=>
   cases e;simp only[bf,AW]at g;obtain⟨a,vs,rfl,c,rs⟩:=g;exact .inr (.inl ⟨a,rfl,⟨vs,c⟩,q _ _ i (.tup c rs)⟩)
  |lst j=>
   cases e;obtain⟨a,vs,rfl,c,rs⟩:=g.Hh rfl;exact .inl ⟨a,rfl,⟨vs,c⟩,q _ _ i (.list c rs)⟩
  |str x=>
   cases e;simp only[bf,AW]at g;obtain⟨rfl,_⟩:=g;exact .inr (.inr ⟨x,rfl,q _ _ i (.str x)⟩)
  |_=>cases e
 |l j=>
  cases e;obtain⟨a,vs,rfl,c,rs⟩:=g.Hh rfl;exact .inl ⟨a,rfl,⟨vs,c⟩,q _ _ i (.list c rs)⟩
 |o j=>
  cases e;obtain⟨a,vs,rfl,c,rs⟩:=g.Hh rfl;exact .inl ⟨a,rfl,⟨vs,c⟩,q _ _ i (.list c rs)⟩
 |n _=>cases e
 |m _ _=>cases e⟩
def d7(fi:Ev->Y (O Dt))(gt:Dt->Ev->Y Ev)(p:Ev->Y Bool)(fe:Ev->Y Bx)(is:O Nat)(n:Nat):Ev->Y Bx:=λρ=>(fi ρ).bind λds=>
 if ds.length<=100000 then(Hi gt p fe (mz is ρ++ab n Z) ds).bind λout=>U (.o out)else Z
theorem iB(ts:AZ)(O:wQ X scope cl xs is)(N:X.calm=true)(hi:GW X tgt iter fi)(g:∀C c d fp,DH (Mu X (xs++ts) scope cl C c d fp) tgt gt)(f:∀C c d fp,Gg (Mu X (xs++ts) scope cl C c d fp) ifs p)(j:∀C c d fp,QV (Mu X (xs++ts) scope cl C c d fp) elt fe)(l:DI is.length (is.length+ts.length) gt)(hs:∀x,foldedSetIterable iter X.env x=pure x:=by intro _;rfl):QV X (.ListComp elt [⟨tgt,iter,ifs,0⟩] scope pos) (d7 fi gt p fe is ts.length):=⟨have hi:=hi.run;have g:=λC c d fp=>(g C c d fp).run;have f:=λC c d fp=>(f C c d fp).run;have j:=λC c d fp=>(j C c d fp).run;λAN s σ H Q I h=>by
 obtain⟨H0,ρ,b,E,e,q⟩:=h;obtain⟨ds,M,e⟩:=AT e;split at e
 ·rename_i u;obtain⟨out,eo,e⟩:=AT e;cases e;rw[eval_ListComp];refine Kx (use:=Z) S hs O.clos O.kind O.names ?_;refine jw (hi AN s σ H (λJ H'=>AV H H'/\B4 X.K J ds H') I ⟨H0,ρ,ds,E,M,λJ H' s' y=>⟨s',y⟩⟩) λv s1 h1=>jw h1 λa0 s2 h2=>?_;obtain⟨it,fp,tn,J,H2,rfl,L,T,st,W,i,Y⟩:=h2;refine Dq (B:=Oj) (RR:=λn C=>compPost (sg X) X.A X.xe Z (EP X AN σ Q) n C) (ts:=ts) (xs:=xs) O N g f j l L ((E.grow i).caps is ts.length) (Tp T) st W Y u eo ?_;intro D C s' H' us P t G ⟨m,hn⟩ s2' hD' r';refine⟨m,hn,λh' sb=>⟨.ref D,H',?_,rfl,q _ _ (i.trans s2') (λa ea=>by cases ea;exact i.free P) ⟨D,us,rfl,hD',r'⟩⟩⟩;obtain⟨f0,f1,f2,f3,z,F⟩:=G;exact t.turned (t':=s'.toks) (λb o hb e=>(sb.2 b hb).trans e) f0 f1 f3 z F
 ·cases e⟩
theorem Dr(i:Nat){py spos:Pos}(ts:AZ)(O:wQ X scope cl xs is)(a1:X.calm=true)(hN:X.N.Nodup)(hi:GW X tgt iter fi)(n:∀C c d fp,DH (Mu X (xs++ts) scope cl C c d fp) tgt gt)(j:∀C c d fp,Gg (Mu X (xs++ts) scope cl C c d fp) ifs p)(t:∀C c d fp,QV (Mu X (xs++ts) scope cl C c d fp) elt fe)(M:DI is.length (is.length+ts.length) gt)(b4:swapsWith (.ListComp elt [⟨tgt,iter,ifs,0⟩] scope pos) (U (.Name y py)) spos.line X.env=pure true:=by with_unfolding_all rfl)(hy:X.N[i]?=U y:=by rfl)(hx:DV X.env.scope y:=by first|exact kB rfl|exact JE S)(hf:X.fn y=true\/X.env.scope.names.lookup y=U .local:=by first|exact .inl rfl|exact .inr S)(hs:∀x,foldedSetIterable iter X.env x=pure x:=by intro _;rfl):Tj X (.Assign [.Name y py] (.ListComp elt [⟨tgt,iter,ifs,0⟩] scope pos) spos) (λρ=>(d7 fi gt p fe is ts.length ρ).bind λb=>(FO ρ i b).bind λρ'=>U (.nx ρ')):=⟨have hi:=hi.run;have n:=λC c d fp=>(n C c d fp).run;have j:=λC c d fp=>(j C c d fp).run;have t:=λC c d fp=>(t C c d fp).run;λAN s σ H D I h=>by
 obtain⟨H0,ρ,r,E,e,q⟩:=h;obtain⟨b,eb,e⟩:=AT e;obtain⟨ds,ed,eb⟩:=AT eb;split at eb
 ·rename_i a0;obtain⟨out,eo,eb⟩:=AT eb;cases eb;cases e;rw[exec_Assign_Name_used _ _ _ _ b4];refine zb (YA (zb ?_));show A7 _ X.A (do let _ <-comprehension (.ListComp elt [⟨tgt,iter,ifs,0⟩] scope pos) scope X.env _ (newList []) false (eval iter X.env) (U (assign (.Name y py) X.env))) _ _ s;refine zb (QR (Kx (use:=U (assign (.Name y py) X.env)) (Q:=λ_ s'=>SP X AN D .next s') S hs O.clos O.kind O.names ?_) (λ_ s' hq=>zd (zd hq)) λ_ _ e=>e);refine jw (hi AN s σ H (λJ H'=>AV H H'/\B4 X.K J ds H') I ⟨H0,ρ,ds,E,ed,λJ H' s' y=>⟨s',y⟩⟩) λv s1 h1=>jw h1 λb9 s2 h2=>?_;obtain⟨it,fp,tn,J,H2,rfl,I2,T,st,a3,l,Y⟩:=h2;refine Dq (B:=Oj) (RR:=λW C=>compPost (sg X) X.A X.xe (U (assign (.Name y py) X.env)) (λ_ s'=>SP X AN D .next s') W C) (ts:=ts) (xs:=xs) O a1 n j t M I2 ((E.grow l).caps is ts.length) (Tp T) st a3 Y a0 eo ?_;intro f C s' H' us hD F fC ⟨m,hn⟩ s2' hD' r';show A7 _ X.A (assign (.Name y py) X.env (.ref f)) _ _ s';obtain⟨f0,f1,f2,f3,f4,f5⟩:=fC;obtain⟨g,b3,ep,P,L,a2⟩:=id hn;have a5:L2.AU X (AN++[(C,g)]) σ H' s':=F.Qi λG hp=>by
   rcases List.mem_append.mp hp with z|z
   ·exact F.pin G (Zs _ z)
   ·have:G=(C,g):=by simpa using z
    subst this;exact⟨P,f0,f1,f2,λv z=>by rw[L]at z;cases z⟩
  refine jw (L2.YJ hN hy hx hf (AN++[(C,g)]) s' σ H' (.ref f) (.ref f) (λσ' u=>σ'=σ.set i (U (.ref f))/\u=H') a5 S ⟨rfl,rfl⟩) λ_ s'' ⟨σ',u,J',e1,e2⟩=>?_;subst e1 e2;have b0:=(J'.pin (C,g) (by simp)).1;refine⟨m,⟨g,b3,ep,b0,L,a2⟩,λh' sb=>?_⟩;refine⟨σ.set i (U (.ref f)),u,J'.yW.turned (t':=s''.toks) (λb o hb e=>(sb.2 b hb).trans e) f0 f1 f3 f4 f5,q _ _ ?_⟩;exact E.set (l.trans s2') (b:=.o out) ⟨f,us,rfl,hD',r'⟩ (.inl S) λa ea=>by cases ea;exact l.free hD
 ·cases eb⟩
def lend:Bx->Bx
 |.o ds=>.l ds
 |.m ds _=>.n ds
 |b=>b
def w9:Bx->Bool
 |.o _=>true
 |.m _ _=>true
 |_=>false
def ET(K:B1)(n:Nat)(F:O Bx->Y Bx):Sp:=λvs H Q _=>vs.length=n/\∃bs r,vP K H bs vs/\bs.all (λb=>!w9 b)=true/\F bs=U r/\∀v H',AV H H'->Nw H r v->bf K H' r v->Q v H'
def cU(n:Nat)(g:Ev->Y Ap):O Bx->Y Bx:=λbs=>(g (bs.map U++ab (n-bs.length) Z)).bind λr=>match r with
 |.rt b=>U b
 |.nx _=>U (.z .non)
 |_=>Z
theorem cg.start{K:B1}{H:Hp}{N:AZ}{bs:O Bx}{vs:O V}(r:vP K H bs vs)(ho:bs.all (λb=>!w9 b)=true):cg K H H (L2.start N vs) (bs.map U++ab (N.length-bs.length) Z):=by
 have g:bs.length=vs.length:=Paired.length r;have get:∀(i:Nat) b,(bs.map U++ab (N.length-bs.length) Z)[i]?=U (U b)->bs[i]?=U b:=λi b e=>by
  by_cases hi:i<bs.length
  ·rw[qa (by simpa using hi),Zp]at e;cases q:bs[i]? with
   |none=>rw[q]at e;cases e
   |some l=>rw[q]at e;simpa using e
  ·rw[QA (by simp;omega),Q4]at e;split at e<;>cases e
 have f:∀(i:Nat) c,(bs.map U++ab (N.length-bs.length) Z)[i]?=U (U c)->yM c=true->False:=λi c e d=>by
  have:=List.all_eq_true.mp ho _ (Q1 (get i _ e));cases c with
  |o ds=>cases this
  |m ds _=>cases this
  |_=>cases d
 refine⟨?_,λi b e=>?_,λi j c a b e d=>(f i c e d).elim,AV.refl H,λi c a e d=>(f i c e d).elim⟩
 ·unfold L2.start;simp[g]
 ·have e':=get i b e;have hi:i<bs.length:=(bv.mp e').1;have:∀{bs:O Bx} {vs:O V} {i:Nat} {b:Bx},AI (bf K H) bs vs->bs[i]?=U b->∃v,vs[i]?=U v/\bf K H b v:=by
   intro bs vs i b r
   induction r generalizing i with
   |nil=>intro e;simp at e
   |cons p t h=>
    intro e;cases i with
    |zero=>simp at e;subst e;exact⟨_,rfl,p⟩
    |succ i=>obtain⟨v,e1,e2⟩:=h (i:=i) (by simpa using e);exact⟨v,by simpa using e1,e2⟩
  obtain⟨v,e1,e2⟩:=this r e';refine⟨v,?_,e2⟩;unfold L2.start;rw[qa (by simp;omega),Zp,e1];rfl
end
theorem Y2{st:AB}{f:A1}{k:Nat}{g:Ev->Y Ap}(F:DJ K x qual st f fd)(S:bC N ps (aO st))(i:∀(a:A0) (A:A5) (outer:O Env) (s:A2) (H:Hp) (E:XK),qb k (A.deeper (AK qual (aO st) s.heap.objs.size f a))->D3 (JH Qt P w K mg base N qual (aO st) f a A outer s H E).nox (j4 st) g):
  yX P w K mg base Qt (k+1) f fd ps (ET K ps.length (cU N.length g)):=by
 refine F.ok S (λvs H Q E h=>h.1) λa A outer s H vs Q E d h=>?_;obtain⟨n,bs,r,m,ho,e,q⟩:=h;refine⟨_,i a A outer s H E d,?_⟩;obtain⟨c,er,e⟩:=AT e;refine⟨H,_,c,cg.start m ho,er,?_⟩;cases c with
 |rt b=>cases e;exact λv H' s' j c=>q v H' s' j c
 |nx ρ=>cases e;exact λσ H' l=>q _ H' l.base trivial (by unfold bf AW;rfl)
 |bk ρ=>cases e
 |ct ρ=>cases e
section
variable{k:Nat}{f:A1}{F:O Bx->Y Bx}{p:Pos}{fs:Ev->Y (O Bx)}
theorem Tq{K:B1}{H:Hp}:∀{bs:O Bx} {vs:O V},vP K H bs vs->vP K H (bs.map lend) vs
 |_,_,.nil=>.nil
 |b::bs,_,.cons h t=>by
  refine .cons ?_ (Tq t);cases b with
  |z d=>exact h
  |l ds=>exact h
  |o ds=>obtain⟨a,vs,e,q,r⟩:=h;exact⟨a,vs,e,.inl q,r⟩
  |n ds=>exact h
  |m ds _=>obtain⟨a,vs,e,q,r⟩:=h;exact⟨a,vs,e,.inl q,r.1⟩
theorem Y5:∀bs:O Bx,(bs.map lend).all (λb=>!w9 b)=true
 |[]=>rfl
 |b::bs=>by
  rw[zt,k6,Y5 bs];cases b<;>rfl
def bJ(n:Nat)(F:O Bx->Y Bx)(fs:Ev->Y (O Bx)):Ev->Y Bx:=λρ=>(fs ρ).bind λbs=>if bs.length=n then F (bs.map lend)else Z
theorem fq(G:yX X.prog X.w X.K X.mg X.base Qt k f fd ps (ET X.K n F))(d:qb k X.A)(hg:Gl X x)(c:X.mg x=U (.ref f))(m:keepIn X.K (.ref f)=true)(hb:Be X.K fd ps [])(ha:D7 X (e::es) fs)(l:sa x:=by decide)(he:A9 (e::es) X.env=(false,eval e X.env)::A9 es X.env:=by rfl)(j:(AD pos (A9 es X.env)).any (·.1)=false:=by rfl):QV X (.Call (.Name x p) (e::es) [] pos) (bJ n F fs):=⟨have ha:=ha.run;Ij (YK G d hg c m hb .nil (OP) ha l he j) λσ H Q h=>by
 obtain⟨H0,ρ,r,E,e,q⟩:=h;obtain⟨bs,eb,e⟩:=AT e;refine⟨H0,ρ,bs,E,eb,λvs H1 b a=>?_⟩;split at e
 ·rename_i s;rw[qq];exact⟨by rw[<-Paired.length a];exact s,_,r,Tq a,Y5 bs,e,λv H2 o i g=>q v H2 (b.trans o) (i.old b) g⟩
 ·cases e⟩
end
end P1
variable{b:P1.Bx}{d:P1.Dt}{G:A1->O (L2.AY×P1.Dt)->O P1.Bx->Y (O (L2.AY×P1.Dt))}{f:P1.Ev->Y P1.Bx}{q:P1.Ev->Y Bool}{g:P1.Ev->Y P1.Ap}{p:P1.Ev->Y Bool}{AO:O (L2.AY×P1.Dt)}{ds:O P1.Dt}{fa:P1.Ev->Y P1.Bx}{ρ:P1.Ev}{fb fc:P1.Ev->Y P1.Bx}{g1 g2:P1.Ev->Y P1.Ap}{gt:P1.Dt->P1.Ev->Y P1.Ev}{gb:P1.Ev->Y P1.Ap}{fi:P1.Ev->Y (O P1.Dt)}{fe:P1.Ev->Y P1.Bx}{Ac:A1->L2.Hp->O P1.Dt->L2.HO->Prop}{fk fo fv f1:P1.Ev->Y P1.Bx}{gx:P1.Ev->Y P1.Dt}{gW b_1:P1.Bx}
namespace P1
open L2 SeqAt
open AutoSeq1 (wpAny_loadPart')
def MK(h:A6)(a:A1):Prop:=∃o ep,h.get? a=U o/\o.ExactDict/\o.data=.dict #[] ep
section
variable{b:A1}
theorem Ds{AO:O (AY×V)}{vs:O (AY×A0)}(q:AO=[])(r:KV AO vs)(d:h.DictOf (bG P w) a vs):MK h a:=by
 subst q;cases r;obtain⟨o,es,ep,h1,h2,c,_,b,_⟩:=d;have:es=#[]:=by
  have:=b.length;apply Array.eq_empty_of_size_eq_zero;simpa using this
 subst this;exact⟨o,ep,h1,h2,c⟩
theorem MK.dict(P:A3)(w:A4)(x:MK h a):h.DictOf (strKind P w) a []:=by
 obtain⟨o,ep,h1,h2,c⟩:=x;exact⟨o,#[],ep,h1,h2,c,λe b=>by simp at b,.nil,JO⟩
theorem N3(ha:(a==sysModules)=false)(hb:(b==sysModules)=false)(c:MK s.heap a)(d:MK s.heap b)(e:A.units<cLine):RcAt A s (.ref a) (.ref b) true:=λprog w E Q h=>
 PySem.W.keq_eq (knd:=strKind prog w) ha hb (c.dict prog w) (d.dict prog w) e (λ_=>.nil) h
theorem TD(ha:(a==sysModules)=false)(hb:(b==sysModules)=false)(c:MK s.heap a)(d:MK s.heap b)(e:A.units<cLine):RcNeAt A s (.ref a) (.ref b) false:=λprog w E Q h=>
 PySem.W.keq_ne (r:=true) (knd:=strKind prog w) ha hb (c.dict prog w) (d.dict prog w) e (λ_=>.nil) h
theorem Tt(o:AE)(b:AJ)(u:Tok):Meets (Builtin.«dict.__eq__» ⟨[.ref a,.str b u],[]⟩) (λ_ R s=>(s.heap.get? a=U o/\o.cls=.type "dict")/\R (.ok (.ret .notImplemented)) s):=
 .of_wp λprog w A R s h=>by
  have c:s.TypeIs (.ref a) "dict":=⟨o,h.1.1,h.1.2⟩;show A7 _ _ (Builtin.Dict.dictSlotArgs "__eq__" ⟨[.ref a,.str b u],[]⟩ >>= _) _ _ s;refine zb ?_;unfold Builtin.Dict.dictSlotArgs;refine zb (wpAny_notOrdered_dict c ?_);show A7 _ _ (pure (Value.ref a,Value.str b u)) _ _ s;refine zd ?_;refine zb (ki (T :="str") (typeIs_str s b u) PySem.F.sub_str_dict ?_);simp only[JS,qk];refine zb (km ?_);exact zd ⟨_,rfl,h.2⟩
theorem Tv(b:AJ)(u:Tok)(es:Array DictEntry)(ep:Nat)(e:Y A1)(sl:Array (Y A0)):Meets (Builtin.«str.__eq__» ⟨[.str b u,.ref a],[]⟩) (λ_ R s=>s.heap.get? a=U { cls:=.type "dict",dict:=e,data:=.dict es ep,slots:=sl }/\R (.ok (.ret .notImplemented)) s):=
 .of_wp λprog w A R s h=>by obtain⟨hp,g,d,tk,os⟩:=s;obtain⟨c,h⟩:=h;wp_walk using wpAny_loadPart' c,yT c;exact⟨_,rfl,h⟩
theorem Om(x:AJ)(t:Tok)(d:MK s.heap a)(g:A.units<cLine):RcAt A s (.str x t) (.ref a) false:=λprog w E Q h=>by
 obtain⟨⟨j,f,l,sl⟩,ep,ho,⟨e,i,hs⟩,c⟩:=d;simp only at e c;subst e c;exact rc_eq_decline_or (k:=false) (typeIs_str s x t) ⟨_,ho,rfl⟩ () PySem.F.sub_dict_str PySem.F.slot_str_eq PySem.F.slot_dict_eq_refl
  (λ_ b=>call_meets PySem.F.slot_str_eq (typeIs_str s x t) PySem.F.entry_str_eq (PySem.F.args_str_eq_2 _ _) (Tv x t #[] ep f sl) ⟨ho,b⟩)
  (λ_ b=>call_meets PySem.F.slot_dict_eq_refl ⟨_,ho,rfl⟩ PySem.F.entry_dict_eq (PySem.F.args_dict_eq_2 _ _) (Tt _ x t) ⟨⟨ho,rfl⟩,b⟩)
  (λ_ b=>wpAny_of_eq (rfl:isSame (.str x t) (.ref a)=pure false) b) (.inr g) h
theorem Tw(o:AE)(b:AJ)(u:Tok):Meets (Builtin.«dict.__ne__» ⟨[.ref a,.str b u],[]⟩) (λ_ R s=>(s.heap.get? a=U o/\o.cls=.type "dict")/\R (.ok (.ret .notImplemented)) s):=
 .of_wp λprog w A R s h=>by
  have c:s.TypeIs (.ref a) "dict":=⟨o,h.1.1,h.1.2⟩;show A7 _ _ (Builtin.Dict.dictSlotArgs "__ne__" ⟨[.ref a,.str b u],[]⟩ >>= _) _ _ s;refine zb ?_;unfold Builtin.Dict.dictSlotArgs;refine zb (wpAny_notOrdered_dict c ?_);show A7 _ _ (pure (Value.ref a,Value.str b u)) _ _ s;refine zd ?_;refine zb (ki (T :="str") (typeIs_str s b u) PySem.F.sub_str_dict ?_);simp only[JS,qk];refine zb (km ?_);exact zd ⟨_,rfl,h.2⟩
theorem Tz(b:AJ)(u:Tok)(es:Array DictEntry)(ep:Nat)(e:Y A1)(sl:Array (Y A0)):Meets (Builtin.«str.__ne__» ⟨[.str b u,.ref a],[]⟩) (λ_ R s=>s.heap.get? a=U { cls:=.type "dict",dict:=e,data:=.dict es ep,slots:=sl }/\R (.ok (.ret .notImplemented)) s):=
 .of_wp λprog w A R s h=>by obtain⟨hp,g,d,tk,os⟩:=s;obtain⟨c,h⟩:=h;wp_walk using wpAny_loadPart' c,yT c;exact⟨_,rfl,h⟩
theorem nk(x:AJ)(t:Tok)(d:MK s.heap a)(g:A.units<cLine):RcNeAt A s (.str x t) (.ref a) true:=λprog w E Q h=>by
 obtain⟨⟨j,f,l,sl⟩,ep,ho,⟨e,i,hs⟩,c⟩:=d;simp only at e c;subst e c;exact rc_ne_decline_or (k:=false) (typeIs_str s x t) ⟨_,ho,rfl⟩ () PySem.F.sub_dict_str PySem.F.slot_str_ne PySem.F.slot_dict_ne_refl
  (λ_ b=>call_meets PySem.F.slot_str_ne (typeIs_str s x t) PySem.F.entry_str_ne (PySem.F.args_str_ne_2 _ _) (Tz x t #[] ep f sl) ⟨ho,b⟩)
  (λ_ b=>call_meets PySem.F.slot_dict_ne_refl ⟨_,ho,rfl⟩ PySem.F.entry_dict_ne (PySem.F.args_dict_ne_2 _ _) (Tw _ x t) ⟨⟨ho,rfl⟩,b⟩)
  (λ_ b=>wpAny_of_eq (rfl:isSame (.str x t) (.ref a)=pure false) b) (.inr g) h
theorem nc(x:AJ)(t:Tok)(d:MK s.heap a)(c:A.units<cLine):EqAt A s (.str x t) (.ref a) false:=λprog w E Q h=>by
 unfold eqBool;refine qS ?_;refine wpAny_ite_split (λb=>absurd (eq_of_beq b) nofun) (λ_=>?_);exact zb (Om x t d c prog w E _ (jI h))
end
mutual
def Cg:Dt->Nat
 |.tup xs=>Du xs+1
 |.lst xs=>Du xs+1
 |_=>1
def Du:O Dt->Nat
 |[]=>0
 |d::ds=>max (Cg d) (Du ds)
end
mutual
def FN:Dt->Dt->Y Bool
 |.non,.non=>U true
 |.non,.bl _=>U false|.non,.int _=>U false|.non,.str _=>U false|.non,.tup _=>U false|.non,.lst _=>U false
 |.bl a,.bl b=>U (a==b)
 |.bl a,.int b=>U ((if a then 1 else 0)==b)
 |.bl _,.non=>U false|.bl _,.str _=>U false|.bl _,.tup _=>U false|.bl _,.lst _=>U false
 |.int a,.int b=>U (a==b)
 |.int a,.bl b=>U (a==(if b then 1 else 0))
 |.int _,.non=>U false|.int _,.str _=>U false|.int _,.tup _=>U false|.int _,.lst _=>U false
 |.str a,.str b=>U (a==b)
 |.str _,.non=>U false|.str _,.bl _=>U false|.str _,.int _=>U false|.str _,.tup _=>U false|.str _,.lst _=>U false|.str _,.emp=>U false
 |.tup xs,.tup ys=>oN xs ys
 |.tup _,.non=>U false|.tup _,.bl _=>U false|.tup _,.int _=>U false|.tup _,.str _=>U false|.tup _,.lst _=>U false
 |.lst xs,.lst ys=>oN xs ys
 |.emp,.emp=>U true
 |.lst _,.non=>U false|.lst _,.bl _=>U false|.lst _,.int _=>U false|.lst _,.str _=>U false|.lst _,.tup _=>U false
 |_,_=>Z
def oN:O Dt->O Dt->Y Bool
 |[],[]=>U true
 |[],_::_=>U false
 |_::_,[]=>U false
 |x::xs,y::ys=>match FN x y with
  |some b=>match oN xs ys with
   |some c=>U (b&&c)
   |none=>Z
  |none=>Z
end
mutual
theorem TF:∀{d:Dt} {k:Bool},FN d d=U k->k=true
 |.non,_,e=>by cases e;rfl
 |.bl b,_,e=>by cases e;simp
 |.int b,_,e=>by cases e;simp
 |.str b,_,e=>by cases e;simp
 |.tup xs,_,e=>Gh (ds:=xs) e
 |.lst xs,_,e=>Gh (ds:=xs) e
 |.emp,_,e=>by cases e;rfl
theorem Gh:∀{ds:O Dt} {k:Bool},oN ds ds=U k->k=true
 |[],_,e=>by simp only[oN]at e;cases e;rfl
 |d::ds,_,e=>by
  simp only[oN]at e;cases h:FN d d with
  |none=>rw[h]at e;cases e
  |some b=>
   rw[h]at e;simp only at e;cases h2:oN ds ds with
   |none=>rw[h2]at e;cases e
   |some c=>
    rw[h2]at e;cases e;rw[TF h,Gh h2];rfl
end
theorem Jm(xs ys:O Dt):FN (.tup xs) (.tup ys)=oN xs ys:=rfl
theorem zc:∀{xs ys:O Dt} {k:Bool},oN xs ys=U k->∃e:Nat->Bool,(∀(j:Nat) x y,xs[j]?=U x->ys[j]?=U y->FN x y=U (e j))/\k=((cd (min xs.length ys.length)).all e&&xs.length==ys.length)
 |[],[],k,h=>by simp only[oN]at h;cases h;exact⟨λ_=>true,λj x y e=>by simp at e,by simp⟩
 |[],y::ys,k,h=>by simp only[oN]at h;cases h;exact⟨λ_=>true,λj x y e=>by simp at e,by simp⟩
 |x::xs,[],k,h=>by simp only[oN]at h;cases h;exact⟨λ_=>true,λj x y _ e=>by simp at e,by simp⟩
 |x::xs,y::ys,k,h=>by
  simp only[oN]at h;cases h1:FN x y with
  |none=>rw[h1]at h;cases h
  |some b=>
   rw[h1]at h;simp only at h;cases h2:oN xs ys with
   |none=>rw[h2]at h;cases h
   |some c=>
    rw[h2]at h;cases h;obtain⟨e,g,d⟩:=zc h2;refine⟨λj=>match j with|0=>b|j+1=>e j,λj u v a ev=>?_,?_⟩
    ·cases j with
     |zero=>simp at a ev;subst a ev;exact h1
     |succ j=>exact g j u v (by simpa using a) (by simpa using ev)
    ·have:min (x::xs).length (y::ys).length=min xs.length ys.length+1:=by simp only[ZE];omega
     rw[this,lg,k6,i4,d];have hb:((x::xs).length==(y::ys).length)=(xs.length==ys.length):=by
      rw[Jn];simp
     rw[hb,Bool.and_assoc];rfl
theorem zf:∀{ds:O Dt} {j:Nat} {d:Dt},ds[j]?=U d->Cg d<=Du ds
 |[],_,_,e=>by simp at e
 |d::ds,0,_,e=>by simp at e;subst e;simp only[Du];exact Nat.le_max_left _ _
 |d::ds,j+1,_,e=>by
  simp only[Du];exact ZI (zf (ds:=ds) (j:=j) (by simpa using e)) (Nat.le_max_right _ _)
theorem Jo(I:L2.AU X AN σ H s)(h:BR X.K H a vs):∃b,s.heap.get? a=U b/\b.cls=.type "tuple":=by
 obtain⟨AQ,_,⟨b,e,c,_⟩,_⟩:=I.tuple h;exact⟨b,e,c⟩
theorem Jp(I:L2.AU X AN σ H s)(h:yS X.K H a vs):∃b,s.heap.get? a=U b/\b.cls=.type "list":=by
 obtain⟨AQ,_,⟨b,n,e,c,_⟩,_⟩:=I.list h;exact⟨b,e,c⟩
theorem uy(I:L2.AU X AN σ H s){o:AE}(h:H a=U (.yw o (.dK []))):∃b,s.heap.get? a=U b/\b.cls=.type "dict":=by
 obtain⟨e,_,_,vs,_,b,es,ep,e2,ex,_⟩:=I.hok a _ h;exact⟨b,e2,ex.1⟩
theorem Gi{n m:String}(h:∃b,s.heap.get? a=U b/\b.cls=.type n)(q:∃b,s.heap.get? a=U b/\b.cls=.type m)(f:n≠m):False:=by
 obtain⟨o,e,c⟩:=h;obtain⟨o',e',d⟩:=q;rw[e]at e';cases e';rw[c]at d;exact f (by injection d)
mutual
theorem AW.inj(I:L2.AU X AN σ H s):∀{d e:Dt} {v:V},AW X.K H d v->AW X.K H e v->d=e
 |.non,e,v,h,q=>by
  simp only[AW]at h;subst h;cases e<;>simp only[AW]at q<;>first|rfl|(cases q;done)|(obtain⟨a,b,z,_⟩:=q;cases z;done)|(obtain⟨z,_⟩:=q;cases z;done)
 |.bl _,e,v,h,q=>by
  simp only[AW]at h;subst h;cases e<;>simp only[AW]at q<;>first|(cases q;rfl)|(cases q;done)|(obtain⟨a,b,z,_⟩:=q;cases z;done)|(obtain⟨z,_⟩:=q;cases z;done)
 |.int _,e,v,h,q=>by
  simp only[AW]at h;subst h;cases e<;>simp only[AW]at q<;>first|(cases q;rfl)|(cases q;done)|(obtain⟨a,b,z,_⟩:=q;cases z;done)|(obtain⟨z,_⟩:=q;cases z;done)
 |.str x,e,v,h,q=>by
  simp only[AW]at h;have g:v=.str x:=h.1;subst g;cases e with
  |str y=>
   simp only[AW]at q;have z:V.str x=V.str y:=q.1;injection z with z;rw[z]
  |tup es=>simp only[AW]at q;obtain⟨a,b,z,_⟩:=q;cases z
  |lst es=>simp only[AW]at q;obtain⟨a,b,z,_⟩:=q;cases z
  |emp=>simp only[AW]at q;obtain⟨a,b,z,_⟩:=q;cases z
  |_=>simp only[AW]at q;cases q
 |.tup ds,e,v,h,q=>by
  simp only[AW]at h;obtain⟨a,vs,rfl,sq,r⟩:=h;cases e with
  |tup es=>
   simp only[AW]at q;obtain⟨b,us,z,c,f⟩:=q;cases z;have:=I.N8 sq c;subst this;rw[aK.inj I r f]
  |lst es=>
   simp only[AW]at q;obtain⟨b,us,z,c,f⟩:=q;cases z;exact(Gi (Jo I sq) (Jp I c.sq) ()).elim
  |emp=>
   simp only[AW]at q;obtain⟨b,o,z,c⟩:=q;cases z;exact(Gi (Jo I sq) (uy I c) ()).elim
  |str x=>simp only[AW]at q;have z:=q.1;cases z
  |_=>simp only[AW]at q;cases q
 |.lst ds,e,v,h,q=>by
  simp only[AW]at h;obtain⟨a,vs,rfl,sq,r⟩:=h;cases e with
  |lst es=>
   simp only[AW]at q;obtain⟨b,us,z,c,f⟩:=q;cases z;have:=I.SN sq.sq c.sq;subst this;rw[aK.inj I r f]
  |tup es=>
   simp only[AW]at q;obtain⟨b,us,z,c,f⟩:=q;cases z;exact(Gi (Jp I sq.sq) (Jo I c) ()).elim
  |emp=>
   simp only[AW]at q;obtain⟨b,o,z,c⟩:=q;cases z;exact(Gi (Jp I sq.sq) (uy I c) ()).elim
  |str x=>simp only[AW]at q;have z:=q.1;cases z
  |_=>simp only[AW]at q;cases q
 |.emp,e,v,h,q=>by
  simp only[AW]at h;obtain⟨a,o,rfl,sq⟩:=h;cases e with
  |emp=>rfl
  |tup es=>
   simp only[AW]at q;obtain⟨b,us,z,c,f⟩:=q;cases z;exact(Gi (uy I sq) (Jo I c) ()).elim
  |lst es=>
   simp only[AW]at q;obtain⟨b,us,z,c,f⟩:=q;cases z;exact(Gi (uy I sq) (Jp I c.sq) ()).elim
  |str x=>simp only[AW]at q;have z:=q.1;cases z
  |_=>simp only[AW]at q;cases q
theorem aK.inj(I:L2.AU X AN σ H s):∀{ds es:O Dt} {vs:O V},aK X.K H ds vs->aK X.K H es vs->ds=es
 |[],es,vs,h,q=>by
  simp only[aK]at h;subst h;cases es with
  |nil=>rfl
  |cons e es=>simp only[aK]at q;obtain⟨_,_,z,_⟩:=q;cases z
 |d::ds,es,vs,h,q=>by
  simp only[aK]at h;obtain⟨v,r,rfl,h1,h2⟩:=h;cases es with
  |nil=>simp only[aK]at q;cases q
  |cons e es=>
   simp only[aK]at q;obtain⟨b,a,z,q1,q2⟩:=q;cases z;rw[AW.inj I h1 q1,aK.inj I h2 q2]
end
theorem Pl(I:L2.AU X AN σ H s):∀(n:Nat) {A:A5} {d e:Dt} {x y:V} {u v:A0} {k:Bool},min (Cg d) (Cg e)<=n->A.units+n<cLine->AW X.K H d x->AW X.K H e y->At x u->At y v->FN d e=U k->EqAt A s u v k:=by
 intro n
 induction n with
 |zero=>
  intro A d e x y u v k P;have h1:1<=Cg d:=by cases d<;>simp only[Cg]<;>omega
  have h2:1<=Cg e:=by cases e<;>simp only[Cg]<;>omega
  omega
 |succ n ih=>
  intro A d e x y u v k P hA m c w g ek;have h:A.units<cLine:=by omega
  by_cases L:u=v/\∃a,u=.ref a
  ·obtain⟨rfl,a,rfl⟩:=L;have hx:x=.ref a:=by have:=w.abs;simpa[MY]using this.symm
   have hy:y=.ref a:=by have:=g.abs;simpa[MY]using this.symm
   subst hx hy;have:=AW.inj I m c;subst this;rw[TF ek];exact EqAt.same _
  ·have items:∀{ds es:O Dt} {vs us:O V} {AQ l:O A0} {f:Nat->Bool},min (Du ds) (Du es)<=n->aK X.K H ds vs->aK X.K H es us->AX vs AQ->AX us l->(∀(j:Nat) x y,ds[j]?=U x->es[j]?=U y->FN x y=U (f j)) →
     ∀j (h1:j<AQ.toArray.size) (h2:j<l.toArray.size),EqAt A.in1 s AQ.toArray[j] l.toArray[j] (f j):=by
    intro ds es vs us AQ l f hm r1 W w1 w2 D j h1 h2;have l1:=w1.length;have l2:=w2.length;have l3:=r1.length;have l4:=W.length;have j1:j<AQ.length:=by simpa using h1
    have j2:j<l.length:=by simpa using h2
    have M:ds[j]?=U ds[j]:=by simp
    have d2:es[j]?=U es[j]:=by simp
    obtain⟨a,ea,B⟩:=r1.get M;obtain⟨b,eb,C⟩:=W.get d2;obtain⟨p,ep,rp⟩:=w1.get ea;obtain⟨q,eq,rq⟩:=w2.get eb;have e1:AQ.toArray[j]=p:=by simpa[j1]using ep
    have e2:l.toArray[j]=q:=by simpa[j2]using eq
    rw[e1,e2];have m1:=zf M;have m2:=zf d2;exact ih () (by rw[units_in1];omega) B C rp rq (D j _ _ M d2)
   cases d with
   |non=>
    cases m;cases w;cases e with
    |non=>cases c;cases g;cases ek;exact EqAt.same _
    |bl b=>cases c;cases g;cases ek;exact EqAt.none_bool b
    |int b=>cases c;obtain⟨t,rfl⟩:=g;cases ek;exact EqAt.none_int b t
    |str b=>obtain⟨rfl,_⟩:=c;obtain⟨t,rfl⟩:=g;cases ek;exact EqAt.none_str b t
    |tup es=>obtain⟨b,us,rfl,sq,_⟩:=c;cases g;cases ek;obtain⟨_,_,p,_⟩:=I.tuple sq;exact EqAt.none_tuple p h
    |lst es=>obtain⟨b,us,rfl,sq,_⟩:=c;cases g;cases ek;obtain⟨_,_,p,_⟩:=I.list sq.sq;exact EqAt.none_list p.isList h
    |emp=>cases ek
   |bl a=>
    cases m;cases w;cases e with
    |non=>cases c;cases g;cases ek;exact EqAt.bool_none a
    |bl b=>cases c;cases g;cases ek;exact EqAt.bool_bool a b
    |int b=>cases c;obtain⟨t,rfl⟩:=g;cases ek;exact EqAt.bool_int a b t
    |str b=>obtain⟨rfl,_⟩:=c;obtain⟨t,rfl⟩:=g;cases ek;exact EqAt.bool_str a b t
    |tup es=>obtain⟨b,us,rfl,sq,_⟩:=c;cases g;cases ek;obtain⟨_,_,p,_⟩:=I.tuple sq;exact EqAt.bool_tuple a p h
    |lst es=>obtain⟨b,us,rfl,sq,_⟩:=c;cases g;cases ek;obtain⟨_,_,p,_⟩:=I.list sq.sq;exact EqAt.bool_list a p.isList h
    |emp=>cases ek
   |int a=>
    cases m;obtain⟨i,rfl⟩:=w;cases e with
    |non=>cases c;cases g;cases ek;exact EqAt.int_none a i
    |bl b=>cases c;cases g;cases ek;exact EqAt.int_bool a i b
    |int b=>cases c;obtain⟨t,rfl⟩:=g;cases ek;exact EqAt.int_int a i b t
    |str b=>obtain⟨rfl,_⟩:=c;obtain⟨t,rfl⟩:=g;cases ek;exact EqAt.int_str a i b t
    |tup es=>obtain⟨b,us,rfl,sq,_⟩:=c;cases g;cases ek;obtain⟨_,_,p,_⟩:=I.tuple sq;exact EqAt.int_tuple a i p h
    |lst es=>obtain⟨b,us,rfl,sq,_⟩:=c;cases g;cases ek;obtain⟨_,_,p,_⟩:=I.list sq.sq;exact EqAt.int_list a i p.isList h
    |emp=>cases ek
   |str a=>
    obtain⟨rfl,_⟩:=m;obtain⟨i,rfl⟩:=w;cases e with
    |non=>cases c;cases g;cases ek;exact EqAt.str_none a i
    |bl b=>cases c;cases g;cases ek;exact EqAt.str_bool a i b
    |int b=>cases c;obtain⟨t,rfl⟩:=g;cases ek;exact EqAt.str_int a i b t
    |str b=>obtain⟨rfl,_⟩:=c;obtain⟨t,rfl⟩:=g;cases ek;exact EqAt.str_str a i b t
    |tup es=>obtain⟨b,us,rfl,sq,_⟩:=c;cases g;cases ek;obtain⟨_,_,p,_⟩:=I.tuple sq;exact EqAt.str_tuple a i p h
    |lst es=>obtain⟨b,us,rfl,sq,_⟩:=c;cases g;cases ek;obtain⟨_,_,p,_⟩:=I.list sq.sq;exact EqAt.str_list a i p.isList h
    |emp=>
     simp only[AW]at c;obtain⟨p,o,rfl,e⟩:=c;cases g;cases ek;obtain⟨_,_,vs,r,q⟩:=yC I.hok (.inr ⟨o,e⟩);exact nc a i (Ds S r q) h
   |tup ds=>
    obtain⟨a,vs,rfl,N,B⟩:=m;cases w;obtain⟨AQ,E,p,_⟩:=I.tuple N;cases e with
    |non=>cases c;cases g;cases ek;exact EqAt.tuple_none p h
    |bl b=>cases c;cases g;cases ek;exact EqAt.tuple_bool b p h
    |int b=>cases c;obtain⟨t,rfl⟩:=g;cases ek;exact EqAt.tuple_int b t p h
    |str b=>obtain⟨rfl,_⟩:=c;obtain⟨t,rfl⟩:=g;cases ek;exact EqAt.tuple_str b t p h
    |lst es=>obtain⟨b,us,rfl,sq,_⟩:=c;cases g;cases ek;obtain⟨_,_,p2,_⟩:=I.list sq.sq;exact EqAt.tuple_list p p2.isList h
    |tup es=>
     obtain⟨b,us,rfl,Q,C⟩:=c;cases g;obtain⟨l,F,p2,_⟩:=I.tuple Q;change oN _ _=U _ at ek;obtain⟨f,D,rfl⟩:=zc ek;have G:a≠b:=λz=>L ⟨by rw[z],a,rfl⟩;have z:=EqAt.of_refs G (RcAt.tuples (A:=A) (e:=f) p p2 h (items (by simp only[Cg]at P;omega) B C E F D));have q1:AQ.toArray.size=ds.length:=by rw[zC,<-E.length,B.length]
     have q2:l.toArray.size=es.length:=by rw[zC,<-F.length,C.length]
     rw[q1,q2]at z;exact z
    |emp=>cases ek
   |lst ds=>
    obtain⟨a,vs,rfl,N,B⟩:=m;cases w;obtain⟨AQ,E,p,_⟩:=I.list N.sq;cases e with
    |non=>cases c;cases g;cases ek;exact EqAt.list_none p.isList h
    |bl b=>cases c;cases g;cases ek;exact EqAt.list_bool b p.isList h
    |int b=>cases c;obtain⟨t,rfl⟩:=g;cases ek;exact EqAt.list_int b t p.isList h
    |str b=>obtain⟨rfl,_⟩:=c;obtain⟨t,rfl⟩:=g;cases ek;exact EqAt.list_str b t p.isList h
    |tup es=>obtain⟨b,us,rfl,sq,_⟩:=c;cases g;cases ek;obtain⟨_,_,p2,_⟩:=I.tuple sq;exact EqAt.list_tuple p.isList p2 h
    |lst es=>
     obtain⟨b,us,rfl,Q,C⟩:=c;cases g;obtain⟨l,F,p2,_⟩:=I.list Q.sq;change oN _ _=U _ at ek;obtain⟨f,D,rfl⟩:=zc ek;have G:a≠b:=λz=>L ⟨by rw[z],a,rfl⟩;have q1:AQ.toArray.size=ds.length:=by rw[zC,<-E.length,B.length]
     have q2:l.toArray.size=es.length:=by rw[zC,<-F.length,C.length]
     by_cases a0:AQ.toArray.size=l.toArray.size
     ·have z:=EqAt.of_refs G (RcAt.lists (A:=A) (e:=f) p.isList p2.isList a0 h (items (by simp only[Cg]at P;omega) B C E F D));have J:ds.length=es.length:=by omega
      rw[q1]at z;rw[J,n0,beq_self_eq_true,yf,<-J];exact z
     ·have J:(ds.length==es.length)=false:=by rw[beq_eq_false_iff_ne];omega
      rw[J,KM];exact EqAt.of_refs G (RcAt.lists_lengths p.isList p2.isList (by simpa using a0) h)
    |emp=>cases ek
   |emp=>
    cases e<;>first|(cases ek;done)|skip;simp only[AW]at m c;obtain⟨a,o,rfl,e1⟩:=m;obtain⟨b,o',rfl,e2⟩:=c;cases w;cases g;cases ek;obtain⟨_,m1,vs,r,q⟩:=yC I.hok (.inr ⟨o,e1⟩);obtain⟨_,m2,a1,r',q'⟩:=yC I.hok (.inr ⟨o',e2⟩);exact EqAt.of_refs (λz=>L ⟨by rw[z],a,rfl⟩) (N3 m1 m2 (Ds S r q) (Ds S r' q') h)
theorem TQ(I:L2.AU X AN σ H s){es:O Dt}{us:O V}{c:O A0}{f:Nat->Bool}(B:min (Du ds) (Du es)<=n)(D:A.units+n+1<cLine)(h:aK X.K H ds vs)(e:aK X.K H es us)(g:AX vs AQ)(i:AX us c)(t:∀(j:Nat) x y,ds[j]?=U x->es[j]?=U y->FN x y=U (f j)):∀j (h1:j<AQ.toArray.size) (h2:j<c.toArray.size),EqAt A.in1 s AQ.toArray[j] c.toArray[j] (f j):=by
 intro j h1 h2;have G:=g.length;have E:=i.length;have l3:=h.length;have C:=e.length;have u:j<AQ.length:=by simpa using h1
 have m:j<c.length:=by simpa using h2
 have d:ds[j]?=U (ds[j]'()):=by simp
 have d2:es[j]?=U (es[j]'()):=by simp
 obtain⟨a,ea,v⟩:=h.get d;obtain⟨b,eb,w⟩:=e.get d2;obtain⟨p,ep,l⟩:=g.get ea;obtain⟨q,z,o⟩:=i.get eb;have e1:AQ.toArray[j]=p:=by simpa[u]using ep
 have e2:c.toArray[j]=q:=by simpa[m]using z
 rw[e1,e2];have J:=zf d;have F:=zf d2;exact Pl I n () (by rw[units_in1];omega) v w l o (t j _ _ d d2)
def jK(K:B1)(H:Hp):Dt->V->Prop
 |.lst ds,v=>∃a vs,v=.ref a/\yS K H a vs/\aK K H ds vs
 |d,v=>AW K H d v
def oG:Bx->Bool
 |.n _=>true
 |.m _ _=>true
 |_=>false
def toD:Bx->Dt
 |.z d=>d
 |.l ds=>.lst ds
 |.o ds=>.lst ds
 |.n _=>.non
 |.m _ _=>.non
theorem bf.toD{v:V}(h:bf K H b v)(a:oG b=false):jK K H (toD b) v:=by
 cases b with
 |z d=>
  cases d with
  |lst ds=>exact h.Hh rfl
  |_=>exact h
 |l ds=>exact h.Hh rfl
 |o ds=>exact h.Hh rfl
 |n _=>cases a
 |m _ _=>cases a
theorem Y6(I:L2.AU X AN σ H s){e:Dt}{x y:V}{k:Bool}(N:min (Cg d) (Cg e)<=100)(hA:X.A.units+100<cLine)(z:jK X.K H d x)(h:jK X.K H e y)(B:At x u)(i:At y v)(ek:FN d e=U k):RcAt X.A s u v k/\RcNeAt X.A s u v (!k):=by
 have g:X.A.units<cLine:=by omega
 cases d with
 |non=>
  cases z;cases B;cases e with
  |non=>
   cases h;cases i;cases ek;exact⟨.none_none,.none_none⟩
  |bl c=>
   cases h;cases i;cases ek;exact⟨.none_bool c,.none_bool c⟩
  |int c=>
   cases h;obtain⟨t2,rfl⟩:=i;cases ek;exact⟨.none_int c t2,.none_int c t2⟩
  |str c=>
   obtain⟨rfl,_⟩:=h;obtain⟨t2,rfl⟩:=i;cases ek;exact⟨.none_str c t2,.none_str c t2⟩
  |tup c=>
   obtain⟨a2,w,rfl,j,l⟩:=h;cases i;obtain⟨t,m,p2,_⟩:=I.tuple j;cases ek;exact⟨.none_tuple p2 g,.none_tuple p2 g⟩
  |lst c=>
   obtain⟨a2,w,rfl,j,l⟩:=h;cases i;obtain⟨t,m,p2,_⟩:=I.list j;cases ek;exact⟨.none_list p2.isList g,.none_list p2.isList g⟩
  |emp=>cases ek
 |bl x1=>
  cases z;cases B;cases e with
  |non=>
   cases h;cases i;cases ek;exact⟨.bool_none x1,.bool_none x1⟩
  |bl c=>
   cases h;cases i;cases ek;exact⟨.bool_bool x1 c,.bool_bool x1 c⟩
  |int c=>
   cases h;obtain⟨t2,rfl⟩:=i;cases ek;exact⟨.bool_int x1 c t2,.bool_int x1 c t2⟩
  |str c=>
   obtain⟨rfl,_⟩:=h;obtain⟨t2,rfl⟩:=i;cases ek;exact⟨.bool_str x1 c t2,.bool_str x1 c t2⟩
  |tup c=>
   obtain⟨a2,w,rfl,j,l⟩:=h;cases i;obtain⟨t,m,p2,_⟩:=I.tuple j;cases ek;exact⟨.bool_tuple x1 p2 g,.bool_tuple x1 p2 g⟩
  |lst c=>
   obtain⟨a2,w,rfl,j,l⟩:=h;cases i;obtain⟨t,m,p2,_⟩:=I.list j;cases ek;exact⟨.bool_list x1 p2.isList g,.bool_list x1 p2.isList g⟩
  |emp=>cases ek
 |int x1=>
  cases z;obtain⟨t1,rfl⟩:=B;cases e with
  |non=>
   cases h;cases i;cases ek;exact⟨.int_none x1 t1,.int_none x1 t1⟩
  |bl c=>
   cases h;cases i;cases ek;exact⟨.int_bool x1 t1 c,.int_bool x1 t1 c⟩
  |int c=>
   cases h;obtain⟨t2,rfl⟩:=i;cases ek;exact⟨.int_int x1 t1 c t2,.int_int x1 t1 c t2⟩
  |str c=>
   obtain⟨rfl,_⟩:=h;obtain⟨t2,rfl⟩:=i;cases ek;exact⟨.int_str x1 t1 c t2,.int_str x1 t1 c t2⟩
  |tup c=>
   obtain⟨a2,w,rfl,j,l⟩:=h;cases i;obtain⟨t,m,p2,_⟩:=I.tuple j;cases ek;exact⟨.int_tuple x1 t1 p2 g,.int_tuple x1 t1 p2 g⟩
  |lst c=>
   obtain⟨a2,w,rfl,j,l⟩:=h;cases i;obtain⟨t,m,p2,_⟩:=I.list j;cases ek;exact⟨.int_list x1 t1 p2.isList g,.int_list x1 t1 p2.isList g⟩
  |emp=>cases ek
 |str x1=>
  obtain⟨rfl,_⟩:=z;obtain⟨t1,rfl⟩:=B;cases e with
  |non=>
   cases h;cases i;cases ek;exact⟨.str_none x1 t1,.str_none x1 t1⟩
  |bl c=>
   cases h;cases i;cases ek;exact⟨.str_bool x1 t1 c,.str_bool x1 t1 c⟩
  |int c=>
   cases h;obtain⟨t2,rfl⟩:=i;cases ek;exact⟨.str_int x1 t1 c t2,.str_int x1 t1 c t2⟩
  |str c=>
   obtain⟨rfl,_⟩:=h;obtain⟨t2,rfl⟩:=i;cases ek;exact⟨.str_str x1 t1 c t2,.str_str x1 t1 c t2⟩
  |tup c=>
   obtain⟨a2,w,rfl,j,l⟩:=h;cases i;obtain⟨t,m,p2,_⟩:=I.tuple j;cases ek;exact⟨.str_tuple x1 t1 p2 g,.str_tuple x1 t1 p2 g⟩
  |lst c=>
   obtain⟨a2,w,rfl,j,l⟩:=h;cases i;obtain⟨t,m,p2,_⟩:=I.list j;cases ek;exact⟨.str_list x1 t1 p2.isList g,.str_list x1 t1 p2.isList g⟩
  |emp=>
   simp only[jK,AW]at h;obtain⟨p,o,rfl,e⟩:=h;cases i;cases ek;obtain⟨_,_,vs,r,q⟩:=yC I.hok (.inr ⟨o,e⟩);exact⟨Om x1 t1 (Ds S r q) g,nk x1 t1 (Ds S r q) g⟩
 |tup x1=>
  obtain⟨a1,a0,rfl,J,D⟩:=z;cases B;obtain⟨E,C,p1,_⟩:=I.tuple J;cases e with
  |non=>
   cases h;cases i;cases ek;exact⟨.tuple_none p1 g,.tuple_none p1 g⟩
  |bl c=>
   cases h;cases i;cases ek;exact⟨.tuple_bool c p1 g,.tuple_bool c p1 g⟩
  |int c=>
   cases h;obtain⟨t2,rfl⟩:=i;cases ek;exact⟨.tuple_int c t2 p1 g,.tuple_int c t2 p1 g⟩
  |str c=>
   obtain⟨rfl,_⟩:=h;obtain⟨t2,rfl⟩:=i;cases ek;exact⟨.tuple_str c t2 p1 g,.tuple_str c t2 p1 g⟩
  |tup c=>
   obtain⟨a2,w,rfl,j,l⟩:=h;cases i;obtain⟨t,m,p2,_⟩:=I.tuple j;change oN _ _=U _ at ek;obtain⟨f,L,rfl⟩:=zc ek;have q1:E.toArray.size=x1.length:=by rw[zC,<-C.length,D.length]
   have q2:t.toArray.size=c.length:=by rw[zC,<-m.length,l.length]
   have it:=TQ I (n:=99) (A:=X.A) (by simp only[Cg]at N;omega) () D l C m L;rw[<-q1,<-q2];exact⟨.tuples p1 p2 g it,.tuples p1 p2 g it⟩
  |lst c=>
   obtain⟨a2,w,rfl,j,l⟩:=h;cases i;obtain⟨t,m,p2,_⟩:=I.list j;cases ek;exact⟨.tuple_list p1 p2.isList g,.tuple_list p1 p2.isList g⟩
  |emp=>cases ek
 |lst x1=>
  obtain⟨a1,a0,rfl,J,D⟩:=z;cases B;obtain⟨E,C,p1,_⟩:=I.list J;cases e with
  |non=>
   cases h;cases i;cases ek;exact⟨.list_none p1.isList g,.list_none p1.isList g⟩
  |bl c=>
   cases h;cases i;cases ek;exact⟨.list_bool c p1.isList g,.list_bool c p1.isList g⟩
  |int c=>
   cases h;obtain⟨t2,rfl⟩:=i;cases ek;exact⟨.list_int c t2 p1.isList g,.list_int c t2 p1.isList g⟩
  |str c=>
   obtain⟨rfl,_⟩:=h;obtain⟨t2,rfl⟩:=i;cases ek;exact⟨.list_str c t2 p1.isList g,.list_str c t2 p1.isList g⟩
  |tup c=>
   obtain⟨a2,w,rfl,j,l⟩:=h;cases i;obtain⟨t,m,p2,_⟩:=I.tuple j;cases ek;exact⟨.list_tuple p1.isList p2 g,.list_tuple p1.isList p2 g⟩
  |lst c=>
   obtain⟨a2,w,rfl,j,l⟩:=h;cases i;obtain⟨t,m,p2,_⟩:=I.list j;change oN _ _=U _ at ek;obtain⟨f,L,rfl⟩:=zc ek;have q1:E.toArray.size=x1.length:=by rw[zC,<-C.length,D.length]
   have q2:t.toArray.size=c.length:=by rw[zC,<-m.length,l.length]
   have it:=TQ I (n:=99) (A:=X.A) (by simp only[Cg]at N;omega) () D l C m L;by_cases F:E.toArray.size=t.toArray.size
   ·have G:x1.length=c.length:=by omega
    rw[G,n0,beq_self_eq_true,yf,<-G,<-q1];exact⟨.lists p1.isList p2.isList F g it,.lists p1.isList p2.isList F g it⟩
   ·have G:(x1.length==c.length)=false:=by rw[beq_eq_false_iff_ne];omega
    rw[G,KM];exact⟨.lists_lengths p1.isList p2.isList (by simpa using F) g,.lists_lengths p1.isList p2.isList (by simpa using F) g⟩
  |emp=>cases ek
 |emp=>
  cases e<;>first|(cases ek;done)|skip;simp only[jK,AW]at z h;obtain⟨a,o,rfl,e1⟩:=z;obtain⟨b,o',rfl,e2⟩:=h;cases B;cases i;cases ek;obtain⟨_,Q,vs,r,q⟩:=yC I.hok (.inr ⟨o,e1⟩);obtain⟨_,P,a3,W,M⟩:=yC I.hok (.inr ⟨o',e2⟩);exact⟨N3 Q P (Ds S r q) (Ds S W M) g,TD Q P (Ds S r q) (Ds S W M) g⟩
def C6(a b:Bx):Y Bx:=if oG a=true\/oG b=true then Z else if min (Cg (toD a)) (Cg (toD b))<=100 then(FN (toD a) (toD b)).bind λk=>U (.z (.bl k))else Z
def Oo(a b:Bx):Y Bx:=if oG a=true\/oG b=true then Z else if min (Cg (toD a)) (Cg (toD b))<=100 then(FN (toD a) (toD b)).bind λk=>U (.z (.bl (!k)))else Z
theorem of_eq(l:X.A.units+100<cLine):Ik X (AG .Eq) C6:=by
 intro AN s σ H x y v u Q I f i h;obtain⟨a,b,c,j,m,e,q⟩:=h;unfold C6 at e;split at e
 ·cases e
 rename_i d;have ha:oG a=false:=by cases h:oG a with|false=>rfl|true=>exact absurd (.inl h) d
 have hb:oG b=false:=by cases h:oG b with|false=>rfl|true=>exact absurd (.inr h) d
 split at e
 ·rename_i g;obtain⟨k,ek,e⟩:=AT e;cases e;exact(Y6 I g l (j.toD ha) (m.toD hb) f i ek).1 X.prog X.w X.xe _ ⟨.bl k,H,I,rfl,q _ H (AV.refl H) trivial (by unfold bf AW;rfl)⟩
 ·cases e
theorem Bj(l:X.A.units+100<cLine):Ik X (AG .NotEq) Oo:=by
 intro AN s σ H x y v u Q I f i h;obtain⟨a,b,c,j,m,e,q⟩:=h;unfold Oo at e;split at e
 ·cases e
 rename_i d;have ha:oG a=false:=by cases h:oG a with|false=>rfl|true=>exact absurd (.inl h) d
 have hb:oG b=false:=by cases h:oG b with|false=>rfl|true=>exact absurd (.inr h) d
 split at e
 ·rename_i g;obtain⟨k,ek,e⟩:=AT e;cases e;exact(Y6 I g l (j.toD ha) (m.toD hb) f i ek).2 X.prog X.w X.xe _ ⟨.bl (!k),H,I,rfl,q _ H (AV.refl H) trivial (by unfold bf AW;rfl)⟩
 ·cases e
theorem Im{i:Int}:bf K H (.z (.int i)) (.int i):=by unfold bf AW;rfl
theorem Io{b:Bool}:bf K H (.z (.bl b)) (.bl b):=by unfold bf AW;rfl
theorem Hn(h:x.length<=AA):bf K H (.z (.str x)) (.str x):=by unfold bf AW;exact⟨rfl,h⟩
theorem Qy{i:Int}{v:V}(h:bf K H (.z (.int i)) v):v=.int i:=by simpa only[bf,AW]using h
theorem WY{v:V}(h:bf K H (.z (.str x)) v):v=.str x/\x.length<=AA:=by simpa only[bf,AW]using h
theorem He{v:V}(h:bf K H (.z (.tup ds)) v):∃a vs,v=.ref a/\BR K H a vs/\aK K H ds vs:=by simpa only[bf,AW]using h
def i2(g:Int->Int->Y Dt):Bx->Bx->Y Bx
 |.z (.int i),.z (.int j)=>(g i j).bind λd=>U (.z d)
 |_,_=>Z
theorem JW{f:A0->A0->Sem A0}{r:R2}{g:Int->Int->Y Dt}(ho:Aa X f r)(h:∀i j d H Q,g i j=U d->(∀v,AW X.K H d v->Q v H)->r (.int i) (.int j) H Q):Ik X f (i2 g):=Aa.imp ho λx y H Q q=>by
 obtain⟨a,b,c,l,n,e,q⟩:=q;unfold i2 at e;split at e
 ·rename_i i j;obtain⟨d,m,e⟩:=AT e;cases e;rw[Qy l,Qy n];exact h i j d H Q m λv o=>q v H (AV.refl H) trivial o
 ·cases e
theorem HV{i:Int}:AW K H (.int i) (.int i):=by unfold AW;rfl
theorem HA{b:Bool}:AW K H (.bl b) (.bl b):=by unfold AW;rfl
abbrev BU:=i2 λi j=>U (.int (i-j))
abbrev FK:=i2 λi j=>U (.bl (decide (i<=j)))
abbrev F3:=i2 λi j=>U (.bl (decide (j<i)))
abbrev GM:=i2 λi j=>U (.bl (decide (j<=i)))
abbrev JX:=i2 λi j=>if 0<j/\j<1073741824 then U (.int (i / j))else Z
abbrev iD:=i2 λi j=>if 0<j then U (.int (i%j))else Z
abbrev LB:=i2 λi j=>if 0<=j/\j<=1000/\i.natAbs<2 ^ 64 then U (.int (i ^ j.toNat))else Z
theorem sU:Ik X (binaryOp .Sub) BU:=JW nI λi j d H Q e q=>by cases e;exact⟨i,j,rfl,rfl,q _ HV⟩
theorem CO:Ik X (AG .LtE) FK:=JW WU λi j d H Q e q=>by cases e;exact⟨i,j,rfl,rfl,q _ HA⟩
theorem Y7:Ik X (AG .Gt) F3:=JW dA λi j d H Q e q=>by cases e;exact⟨i,j,rfl,rfl,q _ HA⟩
theorem MS:Ik X (AG .GtE) GM:=JW ag λi j d H Q e q=>by cases e;exact⟨i,j,rfl,rfl,q _ HA⟩
theorem Dv:Ik X (binaryOp .FloorDiv) JX:=JW UC λi j d H Q e q=>by
 split at e
 ·rename_i h;cases e;exact⟨i,j,rfl,rfl,h,q _ HV⟩
 ·cases e
theorem cN:Ik X (binaryOp .Mod) iD:=JW sf λi j d H Q e q=>by
 split at e
 ·rename_i h;cases e;exact⟨i,j,rfl,rfl,h,q _ HV⟩
 ·cases e
theorem UP:Ik X (binaryOp .Pow) LB:=JW oi λi j d H Q e q=>by
 split at e
 ·rename_i h;cases e;exact⟨i,j,rfl,rfl,⟨h.1,by omega,h.2.2⟩,q _ HV⟩
 ·cases e
def TV:Bx->Y Bx
 |.z (.int i)=>U (.z (.int (-i)))
 |_=>Z
theorem M':S2 X (unaryOp .USub) TV:=EH.imp ai λx H Q q=>by
 obtain⟨a,c,b,e,q⟩:=q;unfold TV at e;split at e
 ·rename_i i;cases e;exact⟨i,Qy b,q _ H (AV.refl H) trivial Im⟩
 ·cases e
def W0:Nat:=1000000
theorem pS:W0<=AA:=by decide
theorem sF{l b:A1}{us:O V}{Q:VK}(I:L2.AU X AN σ H s)(n:yS X.K H l vs)(hb:yS X.K H b us)(t:vs.length+us.length<=AA)(q:∀p,H p=Z->Q (.ref p) (B6 H p (.lst (vs++us)))):
  A7 (sg X) X.A (binaryOp .Add (.ref l) (.ref b)) (EP X AN σ Q) X.xe s:=by
 obtain⟨AQ,h,⟨⟨D,B,v,sl⟩,i,e1,c1,d,f⟩,z1⟩:=I.list n;obtain⟨a,c,⟨⟨cls2,x,C,m⟩,j,e2,c2,d2,g⟩,z2⟩:=I.list hb;simp only at c1 d f c2 d2 g;subst c1 d f c2 d2 g;have z:=h.length;have y:=c.length;have e:AQ.toArray++a.toArray=(AQ++a).toArray:=by simp
 refine concat_meets ⟨_,e1,rfl⟩ ⟨_,e2,rfl⟩ noFill_list_add seq_list_add PySem.F.slot_list_add PySem.F.entry_list_add (PySem.F.args_list_add_2 _ _) (list_addW l b AQ.toArray a.toArray i j Z Z sl m (by rw[zC,zC];omega)) ⟨e1,e2,?_⟩;rw[e];exact⟨.ref s.heap.objs.size,_,I.laid (t':=s.toks) (o:=.lst (vs++us)) (λb u q=>ze _ q) (zi _) ⟨by rw[z4];exact t,_,0,h.append c,zw _ rfl⟩,rfl,q _ (I.hok.fresh (zi _))⟩
theorem f7{l b:A1}{us:O V}{Q:VK}(I:L2.AU X AN σ H s)(c:BR X.K H l vs)(hb:BR X.K H b us)(h:vs.length+us.length<=AA)(q:vs=[]->Q (.ref b) H)(q1:us=[]->Q (.ref l) H)(q2:∀p,H p=Z->Q (.ref p) (B6 H p (.tup (vs++us)))):
  A7 (sg X) X.A (binaryOp .Add (.ref l) (.ref b)) (EP X AN σ Q) X.xe s:=by
 by_cases a:vs=[]
 ·obtain⟨AQ,n,⟨⟨v,o,x,sl⟩,e1,c1,i,d⟩,z1⟩:=I.tuple c;obtain⟨g,u,⟨⟨cls2,f,t,m⟩,e2,c2,j,e⟩,z2⟩:=I.tuple hb;simp only at c1 d c2 e;subst c1 d c2 e;have:AQ=[]:=n.Jk.mpr a;exact concat_meets ⟨_,e1,rfl⟩ ⟨_,e2,rfl⟩ noFill_tuple_add seq_tuple_add PySem.F.slot_tuple_add YV (YE _ _)
   (tuple_addW0 l b AQ.toArray g.toArray i j o f sl m (by simp[this])) ⟨e1,e2,⟨.ref b,H,I,rfl,q a⟩⟩
 ·exact gl AN s σ H (.ref l) (.ref b) (.ref l) (.ref b) Q I S S ⟨l,b,vs,us,rfl,rfl,c,hb,a,h,q1,λ_=>q2⟩
def fZ:Bx->Bx->Y Bx
 |.z (.int i),.z (.int j)=>U (.z (.int (i+j)))
 |.z (.str i),.z (.str j)=>if i.length+j.length<=W0 then U (.z (.str (i++j)))else Z
 |.z (.tup xs),.z (.tup ys)=>if xs.length+ys.length<=W0 then U (.z (.tup (xs++ys)))else Z
 |a,b=>(oM a).bind λxs=>(oM b).bind λys=>if xs.length+ys.length<=W0 then U (.o (xs++ys))else Z
theorem De(i j:AJ):(i++j).length=i.length+j.length:=by
 show(i.cps++j.cps).size=_;rw[K0];rfl
theorem dD:Ik X (binaryOp .Add) fZ:=by
 intro AN s σ H x y v u Q I n o h;obtain⟨a,b,c,t,w,e,q⟩:=h;have B:=pS;unfold fZ at e;split at e
 ·rename_i i j;cases e;exact g5 AN s σ H x y v u Q I n o ⟨i,j,Qy t,Qy w,q _ H (AV.refl H) trivial Im⟩
 ·rename_i i j;split at e
  ·rename_i A;cases e;exact Wv AN s σ H x y v u Q I n o ⟨i,j,(WY t).1,(WY w).1,by omega,q _ H (AV.refl H) trivial (Hn (by rw[De];omega))⟩
  ·cases e
 ·rename_i xs ys;split at e
  ·rename_i A;cases e;obtain⟨l,vs,rfl,sl,d⟩:=He t;obtain⟨m,us,rfl,g,f⟩:=He w;cases n;cases o;have h1:=d.length;have h2:=f.length;refine f7 I sl g () (λz=>q _ H (AV.refl H) trivial ?_) (λz=>q _ H (AV.refl H) trivial ?_) λp hp=>q _ _ (bL hp) trivial ?_
   ·unfold bf AW;refine⟨m,us,rfl,g,?_⟩;have:xs=[]:=by subst z;exact eR (by simpa using h1.symm)
    rw[this,et];exact f
   ·unfold bf AW;refine⟨l,vs,rfl,sl,?_⟩;have:ys=[]:=by subst z;exact eR (by simpa using h2.symm)
    rw[this,qq];exact d
   ·unfold bf AW;exact⟨p,_,rfl,.inl (.inl bK),(d.append f).kp (.of (bL hp))⟩
  ·cases e
 ·obtain⟨xs,ea,e⟩:=AT e;obtain⟨ys,eb,e⟩:=AT e;split at e
  ·rename_i A;cases e;obtain⟨l,vs,rfl,sl,d⟩:=t.Hh ea;obtain⟨m,us,rfl,g,f⟩:=w.Hh eb;cases n;cases o;have h1:=d.length;have h2:=f.length;refine sF I sl g () λp hp=>q _ _ (bL hp) (λa ea=>by cases ea;exact hp) ⟨p,_,rfl,bK,(d.append f).kp (.of (bL hp))⟩
  ·cases e
def zj:Bx->Bx->Y Bx
 |.z (.int i),.z (.int j)=>if(-(2 ^ 64)<i/\i<2 ^ 64)\/(-(2 ^ 64)<j/\j<2 ^ 64)then U (.z (.int (i*j)))else Z
 |.z (.str x),.z (.int n)=>if n<=1000 ∧ -1000<=n/\x.length<=1000 then U (.z (.str (Txt.mul x n)))else Z
 |_,_=>Z
theorem Bl(x:Array Nat):∀(n:Nat) (a:Array Nat),((ab n x).foldl (·++·) a).size=a.size+n*x.size
 |0,a=>by simp
 |n+1,a=>by
  rw[yv,qo,Bl x n,K0,n4];omega
theorem Qz(x:AJ)(n:Int):(Txt.mul x n).length<=n.toNat*x.length+x.length:=by
 unfold Txt.mul;split
 ·exact QY _
 ·split
  ·exact Nat.le_add_left _ _
  ·show((ab n.toNat x.cps).foldl (·++·) #[]).size<=_;rw[Bl];show(#[]:Array Nat).size+n.toNat*x.cps.size<=n.toNat*x.cps.size+x.cps.size;simp
theorem sV:Ik X (binaryOp .Mult) zj:=by
 intro AN s σ H x y v u Q I g l h;obtain⟨a,b,c,m,o,e,q⟩:=h;unfold zj at e;split at e
 ·rename_i i j;split at e
  ·rename_i d;cases e;exact sk AN s σ H x y v u Q I g l ⟨i,j,Qy m,Qy o,d,q _ H (AV.refl H) trivial Im⟩
  ·cases e
 ·rename_i f n;split at e
  ·rename_i d;cases e;obtain⟨rfl,hx⟩:=WY m;have p:=Qy o;subst p;obtain⟨t,rfl⟩:=g;obtain⟨z,rfl⟩:=l;have hs:AA=16777216:=sizeLine_eq;have A:n.toNat*f.length<=1000*1000:=Nat.mul_le_mul () d.2.2;refine SB.mul ⟨?_,λh1 h2=>?_,λh1 h2=>?_⟩ λz k=>⟨.str _,H,I.tok _,⟨_,rfl⟩,q _ H (AV.refl H) trivial (Hn (ZI (Qz f n) ()))⟩
   ·have e1:decide (n < -(2 ^ 63:Int))=false:=ZA ();have e2:decide (n>=2 ^ 63)=false:=ZA ();rw[e1,e2];rfl
   ·have w:0<n:=by omega
    have:(1000:Int)<=(2 ^ 63-1) / n:=(Int.le_ediv_iff_mul_le w).mpr ();omega
   ·show decide (f.length*n.toNat>AA)=false;rw[n5];exact ZA ()
  ·cases e
 ·cases e
def Oq(i j:AJ):Bool:=!(Builtin.Str.occurrences j i 0 j.length 1).isEmpty
def Dw:Dt->Bool
 |.non=>true
 |.bl _=>true
 |.int _=>true
 |.str _=>true
 |_=>false
def Cb(x:Dt)(ys:O Dt):Y Bool:=if Dw x=true/\ys.all Dw=true then U (ys.any λy=>match FN y x with|some true=>true|_=>false)else Z
def zm:Bx->Y (O Dt)
 |.z (.lst ds)=>U ds
 |.z (.tup ds)=>U ds
 |.l ds=>U ds
 |.o ds=>U ds
 |_=>Z
def EZ:Bx->Bx->Y Bool
 |.z (.str i),.z (.str j)=>U (Oq i j)
 |.z d,b=>(zm b).bind λys=>Cb d ys
 |_,_=>Z
def CC(a b:Bx):Y Bx:=(EZ a b).bind λk=>U (.z (.bl k))
def IF(a b:Bx):Y Bx:=(EZ a b).bind λk=>U (.z (.bl (!k)))
theorem TX{v:V}(r:AW K H d v)(f:Dw d=true):yx v=true:=by
 cases d<;>first|(cases f;done)|skip
 all_goals simp only[AW]at r
 ·subst r;rfl
 ·subst r;rfl
 ·subst r;rfl
 ·obtain⟨rfl,_⟩:=r;rfl
theorem Ot{K:B1}{H:Hp}:∀{ds:O Dt} {vs:O V},aK K H ds vs->ds.all Dw=true->vs.all yx=true
 |[],_,h,_=>by simp only[aK]at h;subst h;rfl
 |d::ds,_,h,f=>by
  simp only[aK]at h;obtain⟨v,r,rfl,h1,h2⟩:=h;rw[k6,ZH]at f;rw[k6,TX h1 f.1,Ot h2 f.2];rfl
theorem QC(b:Bool):(match U b with|some true=>true|_=>false)=b:=by cases b<;>rfl
theorem gd{e:Dt}{x y:V}(a:AW K H d x)(b:AW K H e y)(fd:Dw d=true)(fe:Dw e=true):DZ x y=(match FN d e with|some true=>true|_=>false):=by
 cases d<;>first|(cases fd;done)|skip
 all_goals (cases e<;>first|(cases fe;done)|skip)
 all_goals simp only[AW]at a b
 all_goals first
  |(subst a;subst b;exact(QC _).symm)
  |(obtain⟨rfl,_⟩:=a;subst b;exact(QC _).symm)
  |(subst a;obtain⟨rfl,_⟩:=b;exact(QC _).symm)
  |(obtain⟨rfl,_⟩:=a;obtain⟨rfl,_⟩:=b;exact(QC _).symm)
theorem Y8{K:B1}{H:Hp}{d:Dt}{x:V}(a:AW K H d x)(fd:Dw d=true):∀{ds:O Dt} {vs:O V},aK K H ds vs->ds.all Dw=true->HL x vs=ds.any λy=>match FN y d with|some true=>true|_=>false
 |[],_,h,_=>by simp only[aK]at h;subst h;rfl
 |e::ds,_,h,f=>by
  simp only[aK]at h;obtain⟨v,r,rfl,h1,h2⟩:=h;rw[k6,ZH]at f;have:=Y8 a fd h2 f.2;unfold HL at this ⊢;rw[kC,kC,gd h1 a f.1 fd,this]
theorem Dy{v:V}(h:bf K H b v)(e:zm b=U ds):∃a vs,v=.ref a/\(yS K H a vs\/BR K H a vs)/\aK K H ds vs:=by
 cases b with
 |z d=>
  cases d<;>first|(cases e;done)|skip
  ·cases e;obtain⟨a,vs,e,q,r⟩:=He h;exact⟨a,vs,e,.inr q,r⟩
  ·cases e;obtain⟨a,vs,e,q,r⟩:=h.Hh rfl;exact⟨a,vs,e,.inl q,r⟩
 |l c=>
  cases e;obtain⟨a,vs,e,q,r⟩:=h.Hh rfl;exact⟨a,vs,e,.inl q,r⟩
 |o c=>
  cases e;obtain⟨a,vs,e,q,r⟩:=h.Hh rfl;exact⟨a,vs,e,.inl q,r⟩
 |n _=>cases e
 |m _ _=>cases e
theorem Ou{a:Bx}{x y:V}{k:Bool}(g:bf X.K H a x)(f:bf X.K H b y)(e:EZ a b=U k):
  (∃i j,x=.str i/\y=.str j/\k=Oq i j)\/(∃p xs,y=.ref p/\(yS X.K H p xs\/BR X.K H p xs)/\yx x=true/\xs.all yx=true/\k=HL x xs):=by
 unfold EZ at e;split at e
 ·rename_i i j;cases e;exact .inl ⟨i,j,(WY g).1,(WY f).1,rfl⟩
 ·rename_i d _;obtain⟨ys,l,e⟩:=AT e;unfold Cb at e;split at e
  ·rename_i c;cases e;obtain⟨p,vs,rfl,sq,rs⟩:=Dy f l;have h:AW X.K H d x:=g;exact .inr ⟨p,vs,rfl,sq,TX h c.1,Ot rs c.2,(Y8 h c.1 rs c.2).symm⟩
  ·cases e
 ·cases e
theorem Dz:Ik X (AG .In) CC:=by
 intro AN s σ H x y v u Q I d f h;obtain⟨a,b,c,g,l,e,q⟩:=h;obtain⟨k,ek,e⟩:=AT e;cases e;rcases Ou g l ek with⟨i,j,rfl,rfl,rfl⟩|⟨p,xs,rfl,sq,f1,f2,rfl⟩
 ·exact eJ AN s σ H _ _ v u Q I d f ⟨i,j,rfl,rfl,q _ H (AV.refl H) trivial Io⟩
 ·exact lh AN s σ H _ _ v u Q I d f ⟨p,xs,rfl,sq,f1,f2,q _ H (AV.refl H) trivial Io⟩
theorem VA:Ik X (AG .NotIn) IF:=by
 intro AN s σ H x y v u Q I d f h;obtain⟨a,b,c,g,l,e,q⟩:=h;obtain⟨k,ek,e⟩:=AT e;cases e;rcases Ou g l ek with⟨i,j,rfl,rfl,rfl⟩|⟨p,xs,rfl,sq,f1,f2,rfl⟩
 ·exact Qo AN s σ H _ _ v u Q I d f ⟨i,j,rfl,rfl,q _ H (AV.refl H) trivial Io⟩
 ·exact Qn AN s σ H _ _ v u Q I d f ⟨p,xs,rfl,sq,f1,f2,q _ H (AV.refl H) trivial Io⟩
def QD:Bx->Bool
 |.z .non=>true
 |_=>false
theorem Ov{v:V}(h:bf K H b v):decide (v=.non)=QD b:=by
 cases b with
 |z d=>
  cases d<;>simp only[bf,AW]at h
  ·subst h;rfl
  ·subst h;rfl
  ·subst h;rfl
  ·obtain⟨rfl,_⟩:=h;rfl
  ·obtain⟨_,_,rfl,_⟩:=h;rfl
  ·obtain⟨_,_,rfl,_⟩:=h;rfl
  ·obtain⟨_,_,rfl,_⟩:=h;rfl
 |l ds=>obtain⟨_,_,rfl,_⟩:=h;rfl
 |o ds=>obtain⟨_,_,rfl,_⟩:=h;rfl
 |n ds=>obtain⟨_,_,rfl,_⟩:=h;rfl
 |m ds _=>obtain⟨_,_,rfl,_⟩:=h;rfl
def Ff(a:Bx):Bx->Y Bx
 |.z .non=>U (.z (.bl (QD a)))
 |_=>Z
def DG(a:Bx):Bx->Y Bx
 |.z .non=>U (.z (.bl (!QD a)))
 |_=>Z
theorem GS:Ik X (AG .Is) Ff:=Aa.imp ng λx y H Q q=>by
 obtain⟨a,b,c,f,d,e,q⟩:=q;unfold Ff at e;split at e
 ·cases e;simp only[bf,AW]at d;exact⟨d,by rw[Ov f];exact q _ H (AV.refl H) trivial Io⟩
 ·cases e
theorem QF:Ik X (AG .IsNot) DG:=Aa.imp Y' λx y H Q q=>by
 obtain⟨a,b,c,f,d,e,q⟩:=q;unfold DG at e;split at e
 ·cases e;simp only[bf,AW]at d;exact⟨d,by rw[Ov f];exact q _ H (AV.refl H) trivial Io⟩
 ·cases e
def eY:Bx->Bx->Y Bx
 |.z (.str x),.z (.int i)=>(Mw x.cps.toList i).bind λc=>U (.z (.str ⟨#[c]⟩))
 |b,.z (.int i)=>(zm b).bind λds=>(Mw ds i).bind λd=>U (.z d)
 |_,_=>Z
theorem lS{i:Int}(r:aK K H ds vs)(e:Mw ds i=U d):∃v,Mw vs i=U v/\AW K H d v:=by
 unfold Mw at e ⊢;rw[r.length];obtain⟨j,a,e⟩:=AT e;rw[a];exact r.get e
theorem bh{a b:Expr}(ha:QV X a fa)(hb:QV X b fb)(hs:YM b:=by intro _ _;with_unfolding_all rfl):QV X (.Subscript a b pos) (b2 eY fa fb):=⟨have ha:=ha.run;have hb:=hb.run;Ij (bX UR ha hb hs) λσ H Q h=>by
 obtain⟨H0,ρ,c,E,e,q⟩:=h;obtain⟨a,ea,e⟩:=AT e;obtain⟨b,eb,e⟩:=AT e;refine⟨H0,ρ,a,E,ea,λv H1 f A t=>⟨H0,ρ,b,E.grow f,eb,λu H2 g B l=>?_⟩⟩;have j:=t.same g;unfold eY at e;split at e
 ·rename_i x i;obtain⟨o,s,e⟩:=AT e;cases e;exact .inr (.inr ⟨_,_,o,(WY j).1,Qy l,(WY j).2,s,q _ _ (f.trans g) trivial (Hn (by show(1:Nat)<=AA;decide))⟩)
 ·obtain⟨ds,y,e⟩:=AT e;obtain⟨d,z,e⟩:=AT e;cases e;obtain⟨p,vs,rfl,sq,rs⟩:=Dy j y;obtain⟨w,n,m⟩:=lS rs z;have hi:=Qy l;rcases sq with sq|sq
  ·exact .inl ⟨p,vs,_,w,rfl,hi,sq,n,q _ _ (f.trans g) trivial m⟩
  ·exact .inr (.inl ⟨p,vs,_,w,rfl,hi,sq,n,q _ _ (f.trans g) trivial m⟩)
 ·cases e⟩
theorem eC:AH "bool"=U (.type "bool"):=by decide +kernel
theorem QG:AH "int"=U (.type "int"):=by decide +kernel
theorem hJ:AH "str"=U (.type "str"):=by decide +kernel
theorem lK:AH "tuple"=U (.type "tuple"):=by decide +kernel
theorem mT:AH "list"=U (.type "list"):=by decide +kernel
theorem pQ:AH "isinstance"=U (.builtin "isinstance"):=by decide +kernel
theorem mC:AH "len"=U (.builtin "len"):=by decide +kernel
theorem sj:AH "abs"=U (.builtin "abs"):=by decide +kernel
theorem Of:AH "all"=U (.builtin "all"):=by decide +kernel
theorem My:AH "any"=U (.builtin "any"):=by decide +kernel
theorem JZ:AH "min"=U (.builtin "min"):=by decide +kernel
theorem Ci:AH "max"=U (.builtin "max"):=by decide +kernel
theorem rQ:AH "sorted"=U (.builtin "sorted"):=by decide +kernel
theorem o4:AH "sum"=U (.builtin "sum"):=by decide +kernel
def BQ:Dt->Bool
 |.bl _=>true
 |_=>false
theorem e6(I:L2.AU X AN σ H s){x:V}{Q:VK}(f:jK X.K H d x)(g:At x v)(q:Q (.bl (BQ d)) H):A7 (sg X) X.A (call (.builtin "isinstance") [v,.type "bool"]) (EP X AN σ Q) X.xe s:=by
 cases d with
 |non=>simp only[jK,AW]at f;subst f;cases g;exact IsiPair.NoneType_bool ⟨.bl _,H,I.tok _,rfl,q⟩
 |bl b=>simp only[jK,AW]at f;subst f;cases g;exact IsiPair.bool_bool ⟨.bl _,H,I,rfl,q⟩
 |int b=>simp only[jK,AW]at f;subst f;obtain⟨t,rfl⟩:=g;exact IsiPair.int_bool ⟨.bl _,H,I.tok _,rfl,q⟩
 |str b=>simp only[jK,AW]at f;obtain⟨rfl,_⟩:=f;obtain⟨t,rfl⟩:=g;exact IsiPair.str_bool ⟨.bl _,H,I.tok _,rfl,q⟩
 |tup ds=>simp only[jK,AW]at f;obtain⟨a,vs,rfl,sq,_⟩:=f;cases g;obtain⟨_,_,p,_⟩:=I.tuple sq;exact IsiPair.isTuple_bool p (λ_ _ e=>e) ⟨.bl _,H,I.tok _,rfl,q⟩
 |lst ds=>simp only[jK]at f;obtain⟨a,vs,rfl,sq,_⟩:=f;cases g;obtain⟨_,_,p,_⟩:=I.list sq;exact IsiPair.isList_bool p.isList (λ_ _ e=>e) ⟨.bl _,H,I.tok _,rfl,q⟩
 |emp=>simp only[jK,AW]at f;obtain⟨a,o,rfl,sq⟩:=f;cases g;obtain⟨h,e,c⟩:=uy I sq;exact IsiPair.dict_bool e c ⟨.bl _,H,I.tok _,rfl,q⟩
theorem TY{p:Pos}(he:QV X e f)(hg:Gl X "isinstance")(i:X.mg "isinstance"=Z)(n:Gl X "bool")(j:X.mg "bool"=Z)(hs:A9 [e,.Name "bool" p2] X.env=[(false,eval e X.env),(false,eval (.Name "bool" p2) X.env)]:=by rfl):QV X (.Call (.Name "isinstance" p) [e,.Name "bool" p2] [] pos) (b1 (λb=>if oG b=true then Z else U (.z (.bl (BQ (toD b))))) f):=⟨by
 have he:=he.run;have l:gj X (.builtin "isinstance") (λxs H Q=>∃b x,xs=[x,.ty "bool"]/\bf X.K H b x/\oG b=false/\Q (.bl (BQ (toD b))) H):=by
  intro AN s σ H xs us Q I r h;obtain⟨b,x,rfl,t,g,q⟩:=h;obtain⟨u,y,rfl,a,m⟩:=CY r;cases m;exact e6 I (t.toD g) a q
 have ha:PA X [e,.Name "bool" p2] (Dc (tF X.K f) (Dc (tC (.ty "bool")) GY)):=iw he (iw (Ji n j (v:=.ty "bool") (u:=.type "bool") eC S) sI) (by rw[hs]<;>rfl);refine Ij (sJ l hg i pQ ha () () (by rw[hs]<;>rfl) S) λσ H Q h=>?_;obtain⟨H0,ρ,c,E,e,q⟩:=h;obtain⟨b,eb,e⟩:=AT e;split at e
 ·cases e
 rename_i d;cases e;exact⟨H0,ρ,b,E,eb,λv H1 o w a=>⟨b,v,rfl,a,by simpa using d,q _ _ o trivial Io⟩⟩⟩
def Gj:Dt->Bool
 |.bl _=>true
 |.int _=>true
 |_=>false
theorem fm(I:L2.AU X AN σ H s){x:V}{Q:VK}(f:jK X.K H d x)(g:At x v)(q:Q (.bl (Gj d)) H):A7 (sg X) X.A (call (.builtin "isinstance") [v,.type "int"]) (EP X AN σ Q) X.xe s:=by
 cases d with
 |non=>simp only[jK,AW]at f;subst f;cases g;exact IsiPair.NoneType_int ⟨.bl _,H,I.tok _,rfl,q⟩
 |bl b=>simp only[jK,AW]at f;subst f;cases g;exact IsiPair.bool_int ⟨.bl _,H,I,rfl,q⟩
 |int b=>simp only[jK,AW]at f;subst f;obtain⟨t,rfl⟩:=g;exact IsiPair.int_int ⟨.bl _,H,I,rfl,q⟩
 |str b=>simp only[jK,AW]at f;obtain⟨rfl,_⟩:=f;obtain⟨t,rfl⟩:=g;exact IsiPair.str_int ⟨.bl _,H,I.tok _,rfl,q⟩
 |tup ds=>simp only[jK,AW]at f;obtain⟨a,vs,rfl,sq,_⟩:=f;cases g;obtain⟨_,_,p,_⟩:=I.tuple sq;exact IsiPair.isTuple_int p (λ_ _ e=>e) ⟨.bl _,H,I.tok _,rfl,q⟩
 |lst ds=>simp only[jK]at f;obtain⟨a,vs,rfl,sq,_⟩:=f;cases g;obtain⟨_,_,p,_⟩:=I.list sq;exact IsiPair.isList_int p.isList (λ_ _ e=>e) ⟨.bl _,H,I.tok _,rfl,q⟩
 |emp=>simp only[jK,AW]at f;obtain⟨a,o,rfl,sq⟩:=f;cases g;obtain⟨h,e,c⟩:=uy I sq;exact IsiPair.dict_int e c ⟨.bl _,H,I.tok _,rfl,q⟩
theorem W2{p:Pos}(he:QV X e f)(hg:Gl X "isinstance")(i:X.mg "isinstance"=Z)(n:Gl X "int")(j:X.mg "int"=Z)(hs:A9 [e,.Name "int" p2] X.env=[(false,eval e X.env),(false,eval (.Name "int" p2) X.env)]:=by rfl):QV X (.Call (.Name "isinstance" p) [e,.Name "int" p2] [] pos) (b1 (λb=>if oG b=true then Z else U (.z (.bl (Gj (toD b))))) f):=⟨by
 have he:=he.run;have l:gj X (.builtin "isinstance") (λxs H Q=>∃b x,xs=[x,.ty "int"]/\bf X.K H b x/\oG b=false/\Q (.bl (Gj (toD b))) H):=by
  intro AN s σ H xs us Q I r h;obtain⟨b,x,rfl,t,g,q⟩:=h;obtain⟨u,y,rfl,a,m⟩:=CY r;cases m;exact fm I (t.toD g) a q
 have ha:PA X [e,.Name "int" p2] (Dc (tF X.K f) (Dc (tC (.ty "int")) GY)):=iw he (iw (Ji n j (v:=.ty "int") (u:=.type "int") QG S) sI) (by rw[hs]<;>rfl);refine Ij (sJ l hg i pQ ha () () (by rw[hs]<;>rfl) S) λσ H Q h=>?_;obtain⟨H0,ρ,c,E,e,q⟩:=h;obtain⟨b,eb,e⟩:=AT e;split at e
 ·cases e
 rename_i d;cases e;exact⟨H0,ρ,b,E,eb,λv H1 o w a=>⟨b,v,rfl,a,by simpa using d,q _ _ o trivial Io⟩⟩⟩
def sW:Dt->Bool
 |.str _=>true
 |_=>false
theorem tj(I:L2.AU X AN σ H s){x:V}{Q:VK}(f:jK X.K H d x)(g:At x v)(q:Q (.bl (sW d)) H):A7 (sg X) X.A (call (.builtin "isinstance") [v,.type "str"]) (EP X AN σ Q) X.xe s:=by
 cases d with
 |non=>simp only[jK,AW]at f;subst f;cases g;exact IsiPair.NoneType_str ⟨.bl _,H,I.tok _,rfl,q⟩
 |bl b=>simp only[jK,AW]at f;subst f;cases g;exact IsiPair.bool_str ⟨.bl _,H,I.tok _,rfl,q⟩
 |int b=>simp only[jK,AW]at f;subst f;obtain⟨t,rfl⟩:=g;exact IsiPair.int_str ⟨.bl _,H,I.tok _,rfl,q⟩
 |str b=>simp only[jK,AW]at f;obtain⟨rfl,_⟩:=f;obtain⟨t,rfl⟩:=g;exact IsiPair.str_str ⟨.bl _,H,I,rfl,q⟩
 |tup ds=>simp only[jK,AW]at f;obtain⟨a,vs,rfl,sq,_⟩:=f;cases g;obtain⟨_,_,p,_⟩:=I.tuple sq;exact IsiPair.isTuple_str p (λ_ _ e=>e) ⟨.bl _,H,I.tok _,rfl,q⟩
 |lst ds=>simp only[jK]at f;obtain⟨a,vs,rfl,sq,_⟩:=f;cases g;obtain⟨_,_,p,_⟩:=I.list sq;exact IsiPair.isList_str p.isList (λ_ _ e=>e) ⟨.bl _,H,I.tok _,rfl,q⟩
 |emp=>simp only[jK,AW]at f;obtain⟨a,o,rfl,sq⟩:=f;cases g;obtain⟨h,e,c⟩:=uy I sq;exact IsiPair.dict_str e c ⟨.bl _,H,I.tok _,rfl,q⟩
theorem W3{p:Pos}(he:QV X e f)(hg:Gl X "isinstance")(i:X.mg "isinstance"=Z)(n:Gl X "str")(j:X.mg "str"=Z)(hs:A9 [e,.Name "str" p2] X.env=[(false,eval e X.env),(false,eval (.Name "str" p2) X.env)]:=by rfl):QV X (.Call (.Name "isinstance" p) [e,.Name "str" p2] [] pos) (b1 (λb=>if oG b=true then Z else U (.z (.bl (sW (toD b))))) f):=⟨by
 have he:=he.run;have l:gj X (.builtin "isinstance") (λxs H Q=>∃b x,xs=[x,.ty "str"]/\bf X.K H b x/\oG b=false/\Q (.bl (sW (toD b))) H):=by
  intro AN s σ H xs us Q I r h;obtain⟨b,x,rfl,t,g,q⟩:=h;obtain⟨u,y,rfl,a,m⟩:=CY r;cases m;exact tj I (t.toD g) a q
 have ha:PA X [e,.Name "str" p2] (Dc (tF X.K f) (Dc (tC (.ty "str")) GY)):=iw he (iw (Ji n j (v:=.ty "str") (u:=.type "str") hJ S) sI) (by rw[hs]<;>rfl);refine Ij (sJ l hg i pQ ha () () (by rw[hs]<;>rfl) S) λσ H Q h=>?_;obtain⟨H0,ρ,c,E,e,q⟩:=h;obtain⟨b,eb,e⟩:=AT e;split at e
 ·cases e
 rename_i d;cases e;exact⟨H0,ρ,b,E,eb,λv H1 o w a=>⟨b,v,rfl,a,by simpa using d,q _ _ o trivial Io⟩⟩⟩
def B5:Dt->Bool
 |.tup _=>true
 |_=>false
theorem mf(I:L2.AU X AN σ H s){x:V}{Q:VK}(f:jK X.K H d x)(g:At x v)(q:Q (.bl (B5 d)) H):A7 (sg X) X.A (call (.builtin "isinstance") [v,.type "tuple"]) (EP X AN σ Q) X.xe s:=by
 cases d with
 |non=>simp only[jK,AW]at f;subst f;cases g;exact IsiPair.NoneType_tuple ⟨.bl _,H,I.tok _,rfl,q⟩
 |bl b=>simp only[jK,AW]at f;subst f;cases g;exact IsiPair.bool_tuple ⟨.bl _,H,I.tok _,rfl,q⟩
 |int b=>simp only[jK,AW]at f;subst f;obtain⟨t,rfl⟩:=g;exact IsiPair.int_tuple ⟨.bl _,H,I.tok _,rfl,q⟩
 |str b=>simp only[jK,AW]at f;obtain⟨rfl,_⟩:=f;obtain⟨t,rfl⟩:=g;exact IsiPair.str_tuple ⟨.bl _,H,I.tok _,rfl,q⟩
 |tup ds=>simp only[jK,AW]at f;obtain⟨a,vs,rfl,sq,_⟩:=f;cases g;obtain⟨_,_,p,_⟩:=I.tuple sq;exact IsiPair.isTuple_tuple p (λ_ _ e=>e) ⟨.bl _,H,I,rfl,q⟩
 |lst ds=>simp only[jK]at f;obtain⟨a,vs,rfl,sq,_⟩:=f;cases g;obtain⟨_,_,p,_⟩:=I.list sq;exact IsiPair.isList_tuple p.isList (λ_ _ e=>e) ⟨.bl _,H,I.tok _,rfl,q⟩
 |emp=>simp only[jK,AW]at f;obtain⟨a,o,rfl,sq⟩:=f;cases g;obtain⟨h,e,c⟩:=uy I sq;exact IsiPair.dict_tuple e c ⟨.bl _,H,I.tok _,rfl,q⟩
theorem QH{p:Pos}(he:QV X e f)(hg:Gl X "isinstance")(i:X.mg "isinstance"=Z)(n:Gl X "tuple")(j:X.mg "tuple"=Z)(hs:A9 [e,.Name "tuple" p2] X.env=[(false,eval e X.env),(false,eval (.Name "tuple" p2) X.env)]:=by rfl):QV X (.Call (.Name "isinstance" p) [e,.Name "tuple" p2] [] pos) (b1 (λb=>if oG b=true then Z else U (.z (.bl (B5 (toD b))))) f):=⟨by
 have he:=he.run;have l:gj X (.builtin "isinstance") (λxs H Q=>∃b x,xs=[x,.ty "tuple"]/\bf X.K H b x/\oG b=false/\Q (.bl (B5 (toD b))) H):=by
  intro AN s σ H xs us Q I r h;obtain⟨b,x,rfl,t,g,q⟩:=h;obtain⟨u,y,rfl,a,m⟩:=CY r;cases m;exact mf I (t.toD g) a q
 have ha:PA X [e,.Name "tuple" p2] (Dc (tF X.K f) (Dc (tC (.ty "tuple")) GY)):=iw he (iw (Ji n j (v:=.ty "tuple") (u:=.type "tuple") lK S) sI) (by rw[hs]<;>rfl);refine Ij (sJ l hg i pQ ha () () (by rw[hs]<;>rfl) S) λσ H Q h=>?_;obtain⟨H0,ρ,c,E,e,q⟩:=h;obtain⟨b,eb,e⟩:=AT e;split at e
 ·cases e
 rename_i d;cases e;exact⟨H0,ρ,b,E,eb,λv H1 o w a=>⟨b,v,rfl,a,by simpa using d,q _ _ o trivial Io⟩⟩⟩
def VC(K:B1)(f:Ev->Y (Y Int)):TO:=λσ H Q=>∃H0 ρ o,cg K H0 H σ ρ/\f ρ=U o/\∀H',AV H H'->Q o H'
def rh(X:Cx)(e:Y Expr)(f:Ev->Y (Y Int)):Prop:=PO X e (VC X.K f)
structure HP (X:Cx) (e:Option Expr) (f:Ev->Option (Option Int)):Prop where
 run:rh X e f
theorem NH{e:Y Expr}{t t':TO}(h:PO X e t)(m:∀ σ H Q,t' σ H Q->t σ H Q):PO X e t':=λAN s σ H Q I q=>h AN s σ H Q I (m σ H Q q)
def wR:Ev->Y (Y Int):=λ_=>U Z
theorem sX  :HP X Z wR:=⟨NH XX λσ H Q h=>by
 obtain⟨H0,ρ,o,E,e,q⟩:=h;cases e;exact q H (AV.refl H)⟩
def LJ:Bx->Y (Y Int)
 |.z (.int i)=>U (U i)
 |_=>Z
def Bm(f:Ev->Y Bx):Ev->Y (Y Int):=λρ=>(f ρ).bind LJ
theorem sY(h:QV X e f):HP X (U e) (Bm f):=⟨have h:=h.run;NH (gz h) λσ H Q q=>by
 obtain⟨H0,ρ,o,E,e,q⟩:=q;obtain⟨b,eb,e⟩:=AT e;refine⟨H0,ρ,b,E,eb,λv H1 a d c=>?_⟩;unfold LJ at e;split at e
 ·rename_i i;cases e;exact⟨i,Qy c,q H1 a⟩
 ·cases e⟩
def C4(xs:O Dt)(lo hi:Y Int):O Dt:=(xs.drop (HT.jN xs.length 0 lo)).take (HT.jN xs.length xs.length hi-HT.jN xs.length 0 lo)
theorem T3(r:aK K H ds vs)(lo hi:Y Int):aK K H (C4 ds lo hi) (SX vs lo hi):=by
 unfold C4 SX;rw[r.length];exact(r.drop _).take _
theorem ae(ds:O Dt)(h1:HT.jN ds.length 0 lo=0)(h2:HT.jN ds.length ds.length hi=ds.length):C4 ds lo hi=ds:=by
 unfold C4;rw[h1,h2];simp
theorem DK{t:A1}{b c:A0}{Q:B7}(a:IsTup s.heap t items)(hs:s.heap.IsSliceOf sl b c .none)(pl:IsPart b lo)(f:IsPart c hi)(h1:HT.jN items.size 0 lo=0)(h2:HT.jN items.size items.size hi=items.size)(h:Q (.ref t) s):A7 (A8 prog w) A (getItem (.ref t) (.ref sl)) Q E s:=by
 obtain⟨os,i,e,j⟩:=id hs;have d:s.TypeIs (.ref sl) "slice":=⟨os,i,e⟩;unfold getItem
 try with_reducible refine qS ?_
 first|refine zb (zd ?_)|skip
 refine zb (KO a.typeIs () ?_);refine zb (JY (name:=Str.ofString "__getitem__") a.typeIs PyProof.Rows.slot_tuple_getitem
  (QU PyProof.Rows.slot_tuple_getitem a.typeIs entry_tuple_getitem ?_ (args_tuple_getitem _ _)))
 show A7 _ _ (Builtin.Tuple.tupleItemsOf (.ref t) >>= _) _ _ s;refine zb (tupleItemsOf_ a ?_);refine zb (Qb d ?_);rw[zl ()];refine zb (HT.vN hs pl f ?_);have g:(((HT.jN items.size 0 lo:Nat):Int)==0&&(1:Int)==1&&(HT.jN items.size items.size hi-HT.jN items.size 0 lo)==items.size)=true:=by
  rw[h1,h2];simp
 show A7 _ _ (if(((HT.jN items.size 0 lo:Nat):Int)==0&&(1:Int)==1&&(HT.jN items.size items.size hi-HT.jN items.size 0 lo)==items.size)=true then _ else _) _ _ s;rw[zl g]
 first
  |refine zb (zb (Qb a.typeIs (zd ?_)))
  |refine zb (Qb a.typeIs (zb (zd ?_)))
  |refine zb (Qb a.typeIs ?_)
 rw[zl ()]
 first
  |exact zb (km (zd ⟨_,rfl,zd h⟩))
  |exact zb (km (zb (zd (zd ⟨_,rfl,zd h⟩))))
def Eg(b:Bx)(lo hi:Y Int):Y Bx:=match b with
 |.z (.str x)=>U (.z (.str (Txt.slice x lo hi)))
 |.z (.tup ds)=>U (.z (.tup (C4 ds lo hi)))
 |b=>(oM b).bind λds=>U (.o (C4 ds lo hi))
def cK(K:B1):V->Y Int->Y Int->Hp->VK->Prop:=λx lo hi H Q=>∃b c,bf K H b x/\Eg b lo hi=U c/\∀w H',AV H H'->Nw H c w->bf K H' c w->Q w H'
theorem im:HQ X (cK X.K):=by
 intro AN s σ H x v A E lo hi sl Q I m hs pl d h;obtain⟨b,c,w,e,q⟩:=h;unfold Eg at e;split at e
 ·rename_i y;cases e;obtain⟨rfl,f⟩:=WY w;obtain⟨t,rfl⟩:=m;refine⟨"str", _,F.slot_str_getitem.lookup,typeIs_str _ _ _,?_⟩;obtain⟨o,e1,e2,e3⟩:=hs;have n:∀G k,EP X AN σ Q (.str (Txt.slice y lo hi) G) { s with toks:=k }:=λG k=>⟨.str _,H,I.tok _,⟨_,rfl⟩,q _ H (AV.refl H) trivial (Hn (ZI (Txt.slice_le y _ _) f))⟩;cases pl with
  |none=>
   cases d with
   |none=>exact KI (l:=Z) (u:=Z) (st:=Z) ⟨o,e1,e2,e3⟩ S (post_val_or_str ⟨ZI (Txt.slice_le y _ _) f,n⟩)
   |int j z=>exact KI (l:=Z) (u:=U (j,z)) (st:=Z) ⟨o,e1,e2,e3⟩ S (post_val_or_str ⟨ZI (Txt.slice_le y _ _) f,n⟩)
  |int i D=>
   cases d with
   |none=>exact KI (l:=U (i,D)) (u:=Z) (st:=Z) ⟨o,e1,e2,e3⟩ S (post_val_or_str ⟨ZI (Txt.slice_le y _ _) f,n⟩)
   |int j z=>exact KI (l:=U (i,D)) (u:=U (j,z)) (st:=Z) ⟨o,e1,e2,e3⟩ S (post_val_or_str ⟨ZI (Txt.slice_le y _ _) f,n⟩)
 ·rename_i ds;cases e;obtain⟨a,vs,rfl,sq,rs⟩:=He w;by_cases g:HT.jN vs.length 0 lo=0/\HT.jN vs.length vs.length hi=vs.length
  ·cases m;obtain⟨AQ,r,B,L⟩:=I.tuple sq;have C:AQ.toArray.size=vs.length:=by rw[zC];exact r.length.symm
   refine⟨"tuple", _,PyProof.Rows.slot_tuple_getitem.lookup,B.typeIs,DK B hs pl d (by rw[C];exact g.1) (by rw[C];exact g.2) ⟨.ref a,H,I,rfl,q _ H (AV.refl H) trivial ?_⟩⟩;rw[ae ds (by rw[<-rs.length];exact g.1) (by rw[<-rs.length];exact g.2)];exact w
  ·refine XO AN s σ H _ v A E lo hi sl Q I m hs pl d ⟨a,vs,rfl,sq,g,λp hp=>q _ _ (bL hp) trivial ?_⟩;unfold bf AW;exact⟨p,_,rfl,.inl (.inl bK),(T3 rs lo hi).kp (.of (bL hp))⟩
 ·obtain⟨ds,J,e⟩:=AT e;cases e;obtain⟨a,vs,rfl,sq,rs⟩:=w.Hh J;exact WS AN s σ H _ v A E lo hi sl Q I m hs pl d ⟨a,vs,rfl,sq,λp hp=>q _ _ (bL hp) (λa ea=>by cases ea;exact hp) ⟨p,_,rfl,bK,(T3 rs lo hi).kp (.of (bL hp))⟩⟩
def Sw(f:Ev->Y Bx)(fl fh:Ev->Y (Y Int)):Ev->Y Bx:=λρ=>(f ρ).bind λb=>(fl ρ).bind λlo=>(fh ρ).bind λhi=>Eg b lo hi
theorem J0{lo hi:Y Expr}{fl fh:Ev->Y (Y Int)}(he:QV X e f)(d:HP X lo fl)(g:HP X hi fh):QV X (.Subscript e (.Slice lo hi Z p2) pos) (Sw f fl fh):=⟨have he:=he.run;have d:=d.run;have g:=g.run;Ij (vS im he d g) λσ H Q h=>by
 obtain⟨H0,ρ,c,E,e,q⟩:=h;obtain⟨b,eb,e⟩:=AT e;obtain⟨lo,el,e⟩:=AT e;obtain⟨hi,o,e⟩:=AT e;refine⟨H0,ρ,b,E,eb,λv H1 a u n=>⟨H0,ρ,lo,E.grow a,el,λH2 i=>⟨H0,ρ,hi,E.grow (a.trans i),o,λx j=>?_⟩⟩⟩;have l:=(a.trans i).trans j;exact⟨b,c,(n.same i).same j,e,λw m p s t=>q w m (l.trans p) (s.old l) t⟩⟩
def qz:O Bx->Y Bx
 |[.z (.str x)]=>U (.z (.int x.length))
 |[b]=>(zm b).bind λds=>U (.z (.int ds.length))
 |_=>Z
theorem BI(r:vP K H [b] vs):∃v,vs=[v]/\bf K H b v:=by
 cases r with
 |cons p t=>cases t;exact⟨_,rfl,p⟩
theorem CF{c:Bx}(r:vP K H [b,c] vs):∃v u,vs=[v,u]/\bf K H b v/\bf K H c u:=by
 cases r with
 |cons p t=>
  cases t with
  |cons p' a=>cases a;exact⟨_,_,rfl,p,p'⟩
theorem mD:oH X (.builtin "len") qz:=gj.imp (Qp.or Qq) λxs H Q q=>by
 obtain⟨bs,c,b,e,q⟩:=q;unfold qz at e;split at e
 ·rename_i x;cases e;obtain⟨v,rfl,a⟩:=BI b;obtain⟨rfl,hx⟩:=WY a;exact .inr ⟨x,rfl,hx,q _ H (AV.refl H) trivial Im⟩
 ·obtain⟨ds,d,e⟩:=AT e;cases e;obtain⟨v,rfl,a⟩:=BI b;obtain⟨p,vs,rfl,sq,rs⟩:=Dy a d;exact .inl ⟨p,vs,rfl,sq,by rw[rs.length];exact q _ H (AV.refl H) trivial Im⟩
 ·cases e
def Fk:O Bx->Y Bx
 |[.z (.int i)]=>U (.z (.int (if i<0 then -i else i)))
 |_=>Z
theorem rL:oH X (.builtin "abs") Fk:=gj.imp WZ λxs H Q q=>by
 obtain⟨bs,c,a,e,q⟩:=q;unfold Fk at e;split at e
 ·rename_i i;cases e;obtain⟨v,rfl,b⟩:=BI a;have:=Qy b;subst this;exact⟨i,rfl,q _ H (AV.refl H) trivial Im⟩
 ·cases e
def W4:O Bx->Y Bx
 |[.z (.int i)]=>U (.z (.int i))
 |[.z (.bl k)]=>U (.z (.int (if k then 1 else 0)))
 |_=>Z
theorem W5:oH X (.type "int") W4:=gj.imp ce λxs H Q q=>by
 obtain⟨bs,c,b,e,q⟩:=q;unfold W4 at e;split at e
 ·rename_i i;cases e;obtain⟨v,rfl,a⟩:=BI b;have:=Qy a;subst this;exact .inl ⟨i,rfl,q _ H (AV.refl H) trivial Im⟩
 ·rename_i k;cases e;obtain⟨v,rfl,a⟩:=BI b;simp only[bf,AW]at a;subst a;exact .inr ⟨k,rfl,q _ H (AV.refl H) trivial Im⟩
 ·cases e
def lH:O Bx->Y Bx
 |[b]=>(zm b).bind λds=>U (.z (.tup ds))
 |_=>Z
theorem nM:oH X (.type "tuple") lH:=gj.imp Mz λxs H Q q=>by
 obtain⟨bs,c,d,e,q⟩:=q;unfold lH at e;split at e
 ·obtain⟨ds,b,e⟩:=AT e;cases e;obtain⟨v,rfl,f⟩:=BI d;obtain⟨p,vs,rfl,sq,rs⟩:=Dy f b;refine⟨p,vs,rfl,?_⟩;rcases sq with sq|sq
  ·refine .inl ⟨sq,λl a=>q _ _ (bL a) trivial ?_⟩;unfold bf AW;exact⟨l,vs,rfl,.inl (.inl bK),rs.kp (.of (bL a))⟩
  ·refine .inr ⟨sq,q _ H (AV.refl H) trivial ?_⟩;unfold bf AW;exact⟨p,vs,rfl,sq,rs⟩
 ·cases e
def J1:O Dt->Y (O Bool)
 |[]=>U []
 |.bl b::ds=>(J1 ds).bind λbs=>U (b::bs)
 |_=>Z
theorem Cj{K:B1}{H:Hp}:∀{ds:O Dt} {bs:O Bool} {vs:O V} {us:O A0},J1 ds=U bs->aK K H ds vs->AX vs us->us=bs.map Value.bool
 |[],_,_,_,e,r,w=>by
  cases e;simp only[aK]at r;subst r;cases w;rfl
 |d::ds,_,_,_,e,r,w=>by
  simp only[aK]at r;obtain⟨v,r',rfl,h1,h2⟩:=r;cases d<;>first|(cases e;done)|skip;simp only[J1]at e;obtain⟨bs,e1,e⟩:=AT e;cases e;simp only[AW]at h1;subst h1;cases w with
  |cons p t=>
   cases p;rw[Cj e1 h2 t];rfl
theorem D0(bs:O Bool):((cd bs.length).all λi=>bs.getD i false)=bs.all id:=by
 rw[Jn,qf,qf];constructor
 ·intro h b hb;obtain⟨i,hi,rfl⟩:=mu.mp hb;have:=h i (by simpa using hi);simpa[dg,hi]using this
 ·intro h i hi;have hi:i<bs.length:=by simpa using hi
  have:=h bs[i] (K2 hi);simpa[dg,hi]using this
theorem Ct(bs:O Bool):((cd bs.length).any λi=>bs.getD i false)=bs.any id:=by
 rw[Jn,ja,ja];constructor
 ·rintro⟨i,hi,h⟩;have hi:i<bs.length:=by simpa using hi
  exact⟨bs[i],K2 hi,by simpa[dg,hi]using h⟩
 ·rintro⟨b,hb,h⟩;obtain⟨i,hi,rfl⟩:=mu.mp hb;exact⟨i,by simpa using hi,by simpa[dg,hi]using h⟩
def Cs:O Bx->Y Bx
 |[b]=>(oM b).bind λds=>(J1 ds).bind λbs=>U (.z (.bl (bs.all id)))
 |_=>Z
def C':O Bx->Y Bx
 |[b]=>(oM b).bind λds=>(J1 ds).bind λbs=>U (.z (.bl (bs.any id)))
 |_=>Z
theorem Hj(bs:O Bool):TruthOf prog w A (λi v=>(bs.map Value.bool).toArray[i]?=U v) λi=>bs.getD i false:=λi v s Q E h q=>by
 have h':(bs.map Value.bool)[i]?=U v:=by simpa using h
 rw[Zp]at h';cases e:bs[i]? with
 |none=>rw[e]at h';cases h'
 |some b=>
  rw[e]at h';cases h';have:bs.getD i false=b:=by simp[dg,e]
  have a:Q b s:=by rw[<-this];exact q
  exact jI a
theorem Re(g:X.calm=true):oH X (.builtin "all") Cs:=by
 intro AN s σ H xs us Q I r h;obtain⟨bs,c,z,e,q⟩:=h;unfold Cs at e;split at e
 ·obtain⟨ds,p,e⟩:=AT e;obtain⟨ks,ek,e⟩:=AT e;cases e;obtain⟨v,rfl,m⟩:=BI z;obtain⟨a,vs,rfl,sq,rs⟩:=m.Hh p;obtain⟨u,rfl,l⟩:=BB r;cases l;obtain⟨AQ,w,pl,C⟩:=I.list sq;have d:=Cj ek rs w;have f:a<s.heap.objs.size:=by obtain⟨o,n,e,_⟩:=pl;exact zD e
  refine call_all_walk (k9 pl.isList ?_);refine⟨s.heap.objs.size,_,_,_,_,_,λi=>ks.getD i false,rfl,Walks.list (by show X.A.handled=Z;exact I.ok.hd g) s.heap.objs.size a (zI f) AQ.toArray,⟨⟨_,zw _ rfl,rfl,rfl⟩,pl.isList.push _⟩,?_,λh' tk k=>?_⟩
  ·rw[d];exact Hj ks
  ·have y:AQ.toArray.size=ks.length:=by rw[d];simp
   rw[y,D0];have B:L2.AU X AN σ H { s with heap:=s.heap.push { cls:=.type "list_iterator",data:=.fields #[.ref a,.int 0 0] } }:=I.kept (t':=s.toks) λb o e=>ze _ e;refine⟨.bl _,H,?_,rfl,q _ H (AV.refl H) trivial Io⟩;obtain⟨f0,f1,f2,x,t,j⟩:=I.Wq (b:=s.heap.objs.size) (H':=H) (zi _) (I.hok.fresh (zi _));exact B.turned (it:=s.heap.objs.size) (λb o hb e=>k b o (by simpa using hb) e) f0 f1 x t j
 ·cases e
theorem NU(g:X.calm=true):oH X (.builtin "any") C':=by
 intro AN s σ H xs us Q I r h;obtain⟨bs,c,z,e,q⟩:=h;unfold C' at e;split at e
 ·obtain⟨ds,p,e⟩:=AT e;obtain⟨ks,ek,e⟩:=AT e;cases e;obtain⟨v,rfl,m⟩:=BI z;obtain⟨a,vs,rfl,sq,rs⟩:=m.Hh p;obtain⟨u,rfl,l⟩:=BB r;cases l;obtain⟨AQ,w,pl,C⟩:=I.list sq;have d:=Cj ek rs w;have f:a<s.heap.objs.size:=by obtain⟨o,n,e,_⟩:=pl;exact zD e
  refine call_any_walk (k9 pl.isList ?_);refine⟨s.heap.objs.size,_,_,_,_,_,λi=>ks.getD i false,rfl,Walks.list (by show X.A.handled=Z;exact I.ok.hd g) s.heap.objs.size a (zI f) AQ.toArray,⟨⟨_,zw _ rfl,rfl,rfl⟩,pl.isList.push _⟩,?_,λh' tk k=>?_⟩
  ·rw[d];exact Hj ks
  ·have y:AQ.toArray.size=ks.length:=by rw[d];simp
   rw[y,Ct];have B:L2.AU X AN σ H { s with heap:=s.heap.push { cls:=.type "list_iterator",data:=.fields #[.ref a,.int 0 0] } }:=I.kept (t':=s.toks) λb o e=>ze _ e;refine⟨.bl _,H,?_,rfl,q _ H (AV.refl H) trivial Io⟩;obtain⟨f0,f1,f2,x,t,j⟩:=I.Wq (b:=s.heap.objs.size) (H':=H) (zi _) (I.hok.fresh (zi _));exact B.turned (it:=s.heap.objs.size) (λb o hb e=>k b o (by simpa using hb) e) f0 f1 x t j
 ·cases e
end P1
namespace P1
open L2
def gv(i:Nat):Ev->Y Bx:=λρ=>BW ρ i
def wH(g:Bx->Bx->Y Bx)(fa fb:Ev->Y Bx):Ev->Y Bool:=λρ=>(b2 g fa fb ρ).bind JM
def tV(f:Ev->Y Bx):Ev->Y Bool:=λρ=>(f ρ).bind GV
def aH:Ev->Y (O Bx):=λ_=>U []
def Ox(p:Dt->Bool)(f:Ev->Y Bx):Ev->Y Bx:=b1 (λb=>if oG b=true then Z else U (.z (.bl (p (toD b))))) f
def dR:Ev->Y Ap:=λρ=>U (.nx ρ)
def fK(f:Ev->Y Bx):Ev->Y Ap:=λρ=>(f ρ).bind F'
def Au(i:Nat)(f:Ev->Y Bx):Ev->Y Ap:=λρ=>(f ρ).bind λb=>(FO ρ i b).bind λa=>U (.nx a)
def GG(gt:Dt->Ev->Y Ev)(f:Ev->Y Bx):Ev->Y Ap:=λρ=>(f ρ).bind λb=>match b with|.z d=>(gt d ρ).bind λa=>U (.nx a)|_=>Z
def Fn(i j:Nat)(fs:Ev->Y (O Bx)):Ev->Y Ap:=λρ=>(fs ρ).bind (IX i j ρ)
def J2(i:Nat)(f:Ev->Y Bx):Ev->Y Ap:=λρ=>(f ρ).bind (IH ρ i)
def sZ(fi:Ev->Y (O Dt))(gt:Dt->Ev->Y Ev)(gb:Ev->Y Ap):Ev->Y Ap:=λρ=>(fi ρ).bind λds=>uq gt gb ds ρ
def DO(f:Ev->Y Bx):Ev->Y (O Dt):=λρ=>(f ρ).bind Fh
def Hl(f:Ev->Y Bx):Ev->Y (O Dt):=λρ=>(f ρ).bind GN
def T4(fs:Ev->Y (O Bx)):Ev->Y (O Dt):=λρ=>(fs ρ).bind ME
def jZ(i:Nat):Dt->Ev->Y Ev:=λd ρ=>U (ρ.set i (U (.z d)))
def ur:Ev->Y Bool:=λ_=>U true
theorem cR:Gg X [] ur:=⟨.inl ⟨rfl,rfl⟩⟩
theorem mF(h:QB X c p):Gg X [c] p:=⟨have h:=h.run;.inr ⟨c,rfl,h⟩⟩
theorem pi:MJ X scope cl [] []:=trivial
theorem sC{xs:AZ}(n:X.N[i]?=U x)(k:X.env.kindOf x=U .cell\/X.env.kindOf x=U .free)(a:(relabel scope X.env).names.lookup x=U .cell\/(relabel scope X.env).names.lookup x=U .free)(c:∃c,cl.lookup x=U c)(r:MJ X scope cl xs is):MJ X scope cl (x::xs) (i::is):=⟨⟨n,k,a,c⟩,r⟩
theorem mem_of_lookup{a:O (AJ×NameKind)}{x:AJ}{k:NameKind}:a.lookup x=U k->(x,k)∈a:=kD
theorem VU{xs:AZ}(clos:closureFor scope X.env=pure cl)(kind:scope.kind=.function)(cell:scope.names.all (λy=>decide (y.2≠.cell)||(cl.lookup y.1).isNone)=true)(names:scope.names.all (λy=>decide (y.2=.local->scope.names.lookup y.1=U .local))=true)(sub:CH X.env.cells cl)(has:(relabel scope X.env).names.all (λy=>!(y.2==.cell||y.2==.free)||(cl.lookup y.1).isSome||scope.names.contains (y.1,.cell))=true)(cap:MJ X scope cl xs is):wQ X scope cl xs is where
 clos:=clos
 kind:=kind
 cell:=λy a b=>by
  have:=List.all_eq_true.mp cell y a;simp only[b,ne_eq,not_true_eq_false,kA,hO,Option.isNone_iff_eq_none]at this;exact this
 names:=λy a=>QP (List.all_eq_true.mp names y a)
 sub:=sub
 has:=λx hx=>by
  have h:∃k,(relabel scope X.env).names.lookup x=U k/\(k==NameKind.cell||k==NameKind.free)=true:=by
   rcases hx with hx|hx
   ·exact⟨_,hx,rfl⟩
   ·exact⟨_,hx,rfl⟩
  obtain⟨k,e,c⟩:=h;have:=List.all_eq_true.mp has _ (mem_of_lookup e);simp only[c,JI,hO,yo]at this;rcases this with h|h
  ·exact .inr (dv.mp h)
  ·exact .inl (List.contains_iff_mem.mp h)
 cap:=cap
theorem Y9{k:Nat}(r:qb k A):A.units+100<cLine:=by have:=r.un;omega
theorem Tx{F:O Bx->Y Bx}(h:∀b:O Int,b.length<=63->F [.z (.lst (b.map .int))]=U (.z (.bl true)))(g:∀b:O Int,b.length<=63->F [.l (b.map .int)]=U (.z (.bl true)))(K:B1)(H:Hp)(a:A1)(b:O Int)(f:b.length<=63)(_:DA H)(d:yS K H a (b.map V.int)):
  ET K 1 F [.ref a] H (λv _=>v=.bl true) λ_ _ _=>False:=by
 have rs:∀c:O Int,aK K H (c.map Dt.int) (c.map V.int):=λc=>by
  induction c with
  |nil=>exact aK.nil
  |cons m c i=>exact aK.cons (by unfold AW;rfl) i
 have e:∀v (H':Hp),AV H H'->Nw H (.z (.bl true)) v->bf K H' (.z (.bl true)) v->v=.bl true:=λv H' _ _ r=>by simpa only[bf,AW]using r
 rcases d with d|d
 ·exact⟨rfl,[.l (b.map .int)],_,.cons ⟨a,_,rfl,d,rs b⟩ .nil,rfl,g b f,e⟩
 ·refine⟨rfl,[.z (.lst (b.map .int))],_,.cons ?_ .nil,rfl,h b f,e⟩;unfold bf AW;exact⟨a,_,rfl,.inr d,rs b⟩
theorem sK{st:AB}{f:A1}{k m:Nat}(F:DJ K x qual st f fd)(S:bC N ps (aO st))(d:N.length=n)(b:ps.length=m)(c:∀(a:A0) (A:A5) (outer:O Env) (s:A2) (H:Hp) (E:XK),qb k (A.deeper (AK qual (aO st) s.heap.objs.size f a))->D3 (JH Qt P w K mg base N qual (aO st) f a A outer s H E).nox (j4 st) g):
  yX P w K mg base Qt (k+1) f fd ps (ET K m (cU n g)):=by
 subst d b;exact Y2 F S c
section
variable{st:Expr}{fs:Ev->Y Bx}
theorem W6(n:Nat):Builtin.Slice.slicePlaces ((n:Int)-1) (-1) (-1)=n:=by
 unfold Builtin.Slice.slicePlaces;simp only[show ¬ ((-1:Int)>0) by decide,ZY,show -(-1:Int)=1 by decide,Int.ediv_one];split<;>omega
theorem Gk{u:Tok}{Q:Int×Int×Nat->A2->Prop}(hs:s.heap.IsSliceOf sl .none .none (.int (-1) u))(h:Q ((n:Int)-1,-1,n) s):A7 (A8 prog w) A (Builtin.Slice.sliceApplied (.ref sl) (pure (n:Int))) Q E s:=by
 obtain⟨os,a,c,b⟩:=id hs;unfold Builtin.Slice.sliceApplied Builtin.Slice.sliceFields;refine zb (zb (kf a b (x:=.none) S (zb (kf a b (x:=.none) S (zb (kf a b (x:=.int (-1) u) S (zd ?_)))))));refine zb (HT.fM (.int (-1) u) ?_);show A7 _ _ (if((-1:Int)==0)=true then _ else _) _ _ s;rw[zz ()];refine zb (HT.fM .none (zb (HT.fM .none (zb (zd ?_)))));show A7 _ _ (pure ((n:Int)-1,(-1:Int),Builtin.Slice.slicePlaces ((n:Int)-1) (-1) (-1))) _ _ s;rw[W6];exact zd h
theorem J3{α β:Type}{f:α->Y β}{g:α->β}:∀l:O α,(∀a∈l,f a=U (g a))->l.filterMap f=l.map g
 |[],_=>rfl
 |a::l,h=>by
  rw[kb,h a (zg ..),zt,J3 l λb hb=>h b (zh _ hb)]
theorem dQ(xs:Array A0):((cd xs.size).filterMap λ(m:Nat)=>xs[(((xs.size:Nat):Int)-1+(m:Int)*(-1)).toNat]?).toArray=xs.toList.reverse.toArray:=by
 congr 1;rw[J3 (g:=λm=>xs.toList.getD (xs.size-1-m) .none)]
 ·apply List.ext_getElem
  ·simp
  ·intro k h1 h2;have c:k<xs.size:=by simpa using h1
   rw[ya,n7,List.getElem_reverse,y7,z5 (by simp;omega)];simp
 ·intro m a;have a:=List.mem_range.mp a;have e:(((xs.size:Nat):Int)-1+(m:Int)*(-1)).toNat=xs.size-1-m:=by omega
  have b:xs.size-1-m<xs.size:=by omega
  rw[e,ZO b,y7,z5 (by simpa using b)];simp
theorem DN{t:A1}{u:Tok}{Q:B7}(a:IsTup s.heap t items)(hs:s.heap.IsSliceOf sl .none .none (.int (-1) u))(h:Q (.ref s.heap.objs.size) { s with heap:=s.heap.push { cls:=.type "tuple",data:=.seq items.toList.reverse.toArray } })(hsz:items.size<=AA):A7 (A8 prog w) A (getItem (.ref t) (.ref sl)) Q E s:=by
 have b:sizeOk (.seq items.toList.reverse.toArray):=by
  show items.toList.reverse.toArray.size<=AA;rw[zC,fO,ZU];exact hsz
 obtain⟨os,f,d,g⟩:=id hs;have c:s.TypeIs (.ref sl) "slice":=⟨os,f,d⟩;unfold getItem
 try with_reducible refine qS ?_
 first|refine zb (zd ?_)|skip
 refine zb (KO a.typeIs () ?_);refine zb (JY (name:=Str.ofString "__getitem__") a.typeIs PyProof.Rows.slot_tuple_getitem
  (QU PyProof.Rows.slot_tuple_getitem a.typeIs entry_tuple_getitem ?_ (args_tuple_getitem _ _)))
 show A7 _ _ (Builtin.Tuple.tupleItemsOf (.ref t) >>= _) _ _ s;refine zb (tupleItemsOf_ a ?_);refine zb (Qb c ?_);rw[zl ()];refine zb (Gk hs ?_);have e:¬ ((((items.size:Int)-1)==0&&(-1:Int)==1&&items.size==items.size)=true):=by
  rw[show((-1:Int)==1)=false from rfl,KM,ko];exact ZT
 show A7 _ _ (if(((items.size:Int)-1)==0&&(-1:Int)==1&&items.size==items.size)=true then _ else _) _ _ s;rw[zz e,dQ]
 first
  |exact zb (m:=Builtin.Tuple.tupleExact _) (ZZ (zd ⟨_,rfl,zd h⟩) b)
  |exact zb (m:=Builtin.Tuple.tupleExact _) (ZZ (zb (zd (zd ⟨_,rfl,zd h⟩))) b)
  |exact zb (zb (m:=Builtin.Tuple.tupleExact _) (ZZ (zd (zd ⟨_,rfl,zd h⟩)) b))
  |exact zb (zb (m:=Builtin.Tuple.tupleExact _) (ZZ (zd ⟨_,rfl,zd h⟩) b))
def F5:Bx->Bx->Y Bx
 |.z (.tup ds),.z (.int i)=>if i = -1 then U (.z (.tup ds.reverse))else Z
 |_,_=>Z
theorem aK.rev{K:B1}{H:Hp}:∀{ds:O Dt} {vs:O V},aK K H ds vs->aK K H ds.reverse vs.reverse
 |[],_,h=>by simp only[aK]at h;subst h;exact aK.nil
 |d::ds,_,h=>by
  simp only[aK]at h;obtain⟨v,r,rfl,b,a⟩:=h;rw[Kb,Kb];exact aK.append (aK.rev a) (aK.cons b aK.nil)
theorem fR{a c:Bx}(h:F5 a b=U c):∃ds,a=.z (.tup ds)/\b=.z (.int (-1))/\c=.z (.tup ds.reverse):=by
 unfold F5 at h;split at h
 ·rename_i ds i;split at h
  ·rename_i hi;subst hi;cases h;exact⟨ds,rfl,rfl,rfl⟩
  ·cases h
 ·cases h
theorem be(he:QV X e f)(l:QV X st fs)(B:∀v i:A0,subscripted (.Slice Z Z (U st) p2) false v i=operate [v,i] (getItem v i):=by intro _ _;with_unfolding_all rfl):QV X (.Subscript e (.Slice Z Z (U st) p2) pos) (b2 F5 f fs):=⟨by
 have he:=he.run;have l:=l.run;intro AN s σ H Q I h;obtain⟨H0,ρ,c,E,g,q⟩:=h;obtain⟨a,ea,g⟩:=AT g;obtain⟨b,eb,g⟩:=AT g;refine Subscript_ (jw (he AN s σ H (λx H1=>AV H H1/\bf X.K H1 a x) I ⟨H0,ρ,a,E,ea,λv H1 t F n=>⟨t,n⟩⟩) λv t ⟨x,H1,I1,n,sm1,BI⟩=>?_);refine wpAny_Slice ?_;rw[evalPart_none];refine zd ?_;refine zd ?_;rw[evalPart_some];refine jw (l AN t σ H1 (λy H2=>AV H1 H2/\bf X.K H2 b y) I1 ⟨H0,ρ,b,E.grow sm1,eb,λv H2 d G m=>⟨d,m⟩⟩) λvk d ⟨y,H2,I2,m,sm2,CF⟩=>?_;obtain⟨ds,rfl,rfl,rfl⟩:=fR g;have C:y=.int (-1):=by simpa only[bf,AW]using CF
 subst C;obtain⟨tk,rfl⟩:=m;obtain⟨p,vs,rfl,sq,rs⟩:∃p vs,x=.ref p/\BR X.K H2 p vs/\aK X.K H2 ds vs:=by
  have:=BI.same sm2;simpa only[bf,AW]using this
 cases n;have j:L2.AU X AN σ H2 { d with heap:=d.heap.push { cls:=.type "slice",data:=.fields #[.none,.none,.int (-1) tk] } }:=I2.kept (t':=d.toks) λb D q=>ze _ q;obtain⟨AQ,r,z,u⟩:=j.tuple sq;show A7 (sg X) X.A (subscriptTail e (.Slice Z Z (U st) p2) (.ref p) (.ref d.heap.objs.size)) (EP X AN σ Q) X.xe { d with heap:=d.heap.push { cls:=.type "slice",data:=.fields #[.none,.none,.int (-1) tk] } };refine tail_any (ops:=[.ref p,.ref d.heap.objs.size]) z.typeIs PyProof.Rows.slot_tuple_getitem.lookup (DN z (KG ..) ?_ (by rw[zC,<-r.length];exact u)) (B _ _);refine⟨.ref _,_,j.laid (t':=d.toks) (o:=.tup vs.reverse) (λb D q=>ze _ q) (zi _) ?_,rfl,q _ _ ((sm1.trans sm2).trans (bL (j.hok.fresh (zi _)))) trivial ?_⟩
 ·exact⟨by rw[fO];exact u,_,r.reverse,nJ.new _ _⟩
 ·simp only[bf,AW];exact⟨_,_,rfl,.inl (.inl bK),(aK.rev rs).kp (.of (bL (j.hok.fresh (zi _))))⟩⟩
end
def DM:Bx->Bx->Y Bx
 |.z (.int i),.z (.int j)=>U (.z (.bl (decide (i<j))))
 |.z (.str x),.z (.str y)=>U (.z (.bl (decide (x.cps.toList<y.cps.toList))))
 |_,_=>Z
theorem QJ:Ik X (AG .Lt) DM:=by
 intro AN s σ H x y v u Q I d f h;obtain⟨a,b,c,g,l,e,q⟩:=h;unfold DM at e;split at e
 ·rename_i i j;cases e;exact UX AN s σ H x y v u Q I d f ⟨i,j,Qy g,Qy l,q _ H (AV.refl H) trivial (by unfold bf;exact HA)⟩
 ·rename_i i j;cases e;obtain⟨rfl,_⟩:=WY g;obtain⟨rfl,_⟩:=WY l;obtain⟨t,rfl⟩:=d;obtain⟨m,rfl⟩:=f;exact PySem.P.lt_str ⟨.bl _,H,I,rfl,q _ H (AV.refl H) trivial (by unfold bf;exact HA)⟩
 ·cases e
def J4:O Dt->Y AZ
 |[]=>U []
 |.str x::r=>(J4 r).bind λys=>U (x::ys)
 |_=>Z
theorem Gm{K:B1}{H:Hp}:∀{ds:O Dt} {vs:O V} {ys:AZ},aK K H ds vs->J4 ds=U ys->vs=ys.map V.str/\∀y∈ys,y.length<=AA
 |[],_,_,h,e=>by cases e;simp only[aK]at h;subst h;exact⟨rfl,λy a=>by cases a⟩
 |.str x::ds,_,_,h,e=>by
  simp only[J4]at e;obtain⟨ys,e1,e2⟩:=AT e;cases e2;simp only[aK]at h;obtain⟨v,r,rfl,c,b⟩:=h;obtain⟨rfl,hx⟩:v=.str x/\x.length<=AA:=by simpa only[AW]using c
  obtain⟨rfl,h2⟩:=Gm b e1;refine⟨rfl,λy a=>?_⟩;rcases List.mem_cons.mp a with rfl|a
  ·exact hx
  ·exact h2 y a
 |.non::_,_,_,_,e=>by cases e
 |.bl _::_,_,_,_,e=>by cases e
 |.int _::_,_,_,_,e=>by cases e
 |.tup _::_,_,_,_,e=>by cases e
 |.lst _::_,_,_,_,e=>by cases e
 |.emp::_,_,_,_,e=>by cases e
theorem J5{K:B1}{H:Hp}:∀{ys:AZ},(∀y∈ys,y.length<=AA)->aK K H (ys.map Dt.str) (ys.map V.str)
 |[],_=>aK.nil
 |y::ys,h=>aK.cons (by unfold AW;exact⟨rfl,h y (zg ..)⟩) (J5 λz a=>h z (zh _ a))
theorem Ck:∀{ys:AZ} {AQ:O A0},AX (ys.map V.str) AQ->StrsAre AQ ys
 |[],_,h=>by cases h;exact .nil
 |y::ys,_,h=>by
  cases h with
  |cons r t=>
   obtain⟨tk,rfl⟩:=r;exact .cons y tk (Ck t)
theorem Gn:∀{AQ:O A0} {ys:AZ},StrsAre AQ ys->AX (ys.map V.str) AQ
 |_,_,.nil=>.nil
 |_,_,.cons y t h=>.cons ⟨t,rfl⟩ (Gn h)
theorem QK:gj X (.builtin "sorted") (λxs H Q=>∃p ys,xs=[.ref p]/\yS X.K H p (ys.map V.str)/\ys.length<64/\∀l zs,H l=Z->zs.Perm ys->sortedS zs=true->Q (.ref l) (B6 H l (.lst (zs.map V.str)))):=by
 intro AN s σ H xs us Q I r h;obtain⟨p,ys,rfl,g,t,q⟩:=h;obtain⟨u,rfl,j⟩:=BB r;cases j;obtain⟨AQ,d,pl,c⟩:=I.list g;have m:=d.length;rw[zk]at m c;refine sorted_strs pl.isList (Ck d) () λout zs hs hp f=>?_;obtain⟨n,i⟩:=sortedAll_at s.heap AQ out;refine⟨.ref (s.heap.objs.size+1),_,I.laid (t':=s.toks) (a:=s.heap.objs.size+1) (o:=.lst (zs.map V.str)) (λb o e=>sortedAll_old e) (Kj _) ?_,rfl,q _ zs (I.hok.fresh (Kj _)) hp f⟩;refine⟨by rw[zk,hp.length_eq];exact c,out.toList,n,Gn hs,?_⟩;rw[i]
def Ag(a b:AJ):Prop:=ltCps b.cps.toList a.cps.toList=false
theorem DP:∀(p:AJ) (l:AZ),risingS p l=true->(p::l).Pairwise Ag
 |p,[],_=>by simp
 |p,x::r,h=>by
  have h':(!ltCps x.cps.toList p.cps.toList&&risingS x r)=true:=h;rw[ZH]at h';have c:=DP x r h'.2;have hx:Ag p x:=by simpa[Ag]using h'.1
  refine cV.mpr ⟨λy b=>?_,c⟩;rcases List.mem_cons.mp b with rfl|b
  ·exact hx
  ·have a:Ag x y:=js c b;unfold Ag at hx a ⊢;rw[ltCps_eq]at hx a ⊢;simp only[JA]at hx a ⊢;exact nf (α:=Nat) hx a
theorem QL{l:AZ}(h:sortedS l=true):l.Pairwise Ag:=by
 cases l with
 |nil=>exact .nil
 |cons p l=>exact DP p l h
theorem DR{a b:AJ}(h:Ag a b)(h':Ag b a):a=b:=by
 unfold Ag at h h';rw[ltCps_eq]at h h';simp only[JA]at h h';have:=pG (as:=a.cps.toList) (bs:=b.cps.toList) h h';cases a;cases b;simp only[Str.mk.injEq];exact pH.mp this
theorem Za:∀{l l':AZ},l.Perm l'->l.Pairwise Ag->l'.Pairwise Ag->l=l'
 |[],l',h,_,_=>by rw[nq.mp h]
 |a::l,[],h,_,_=>by cases nw.mp h
 |a::l,b::l',h,p,p'=>by
  have e:a=b:=by
   have ha:a∈b::l':=h.mem_iff.mp (zg ..);have hb:b∈a::l:=h.mem_iff.mpr (zg ..);rcases List.mem_cons.mp ha with h1|h1
   ·exact h1
   ·rcases List.mem_cons.mp hb with h2|h2
    ·exact h2.symm
    ·exact DR (js p h2) (js p' h1)
  subst e;rw[Za ((gH a).mp h) (cV.mp p).2 (cV.mp p').2]
def F1(a b:AJ):Bool:=!ltCps b.cps.toList a.cps.toList
def oJ(ys:AZ):AZ:=ys.mergeSort F1
theorem fP(ys:AZ):(oJ ys).Perm ys:=kF ys F1
theorem wU(ys:AZ):(oJ ys).Pairwise Ag:=by
 have h:=ka (le:=F1) (λa b c h1 h2=>by
  unfold F1 at *
  rw[ltCps_eq]at *
  simp only[Q3,JA]at *
  exact nf (α:=Nat) h1 h2) (λa b=>by
  unfold F1;rw[ltCps_eq,ltCps_eq];simp only[yo,Q3,JA];exact List.le_total a.cps.toList b.cps.toList) ys
 exact h.imp λ{a b} hh=>by simpa[F1,Ag]using hh
theorem ah{ys zs:AZ}(hp:zs.Perm ys)(hs:sortedS zs=true):zs=oJ ys:=Za (hp.trans (fP ys).symm) (QL hs) (wU ys)
def Ho:O Bx->Y Bx
 |[b]=>(oM b).bind λds=>(J4 ds).bind λys=>if ys.length<64 then U (.o ((oJ ys).map Dt.str))else Z
 |_=>Z
theorem Gp:oH X (.builtin "sorted") Ho:=gj.imp QK λxs H Q q=>by
 obtain⟨bs,c,n,e,q⟩:=q;unfold Ho at e;split at e
 ·rename_i b;obtain⟨ds,m,e⟩:=AT e;obtain⟨ys,f,e⟩:=AT e;split at e
  ·rename_i g;cases e;obtain⟨v,rfl,j⟩:=BI n;obtain⟨p,vs,rfl,sq,rs⟩:=j.Hh m;obtain⟨rfl,i⟩:=Gm rs f;refine⟨p,ys,rfl,sq,g,λl zs d hp hs=>?_⟩;rw[ah hp hs];refine q _ _ (bL d) (λa ea=>by cases ea;exact d) ⟨l,_,rfl,bK,J5 λy h=>i y ((fP ys).mem_iff.mp h)⟩
  ·cases e
 ·cases e
def T5(x:AJ)(b:Bx):Y Bx:=(oM b).bind λds=>(J4 ds).bind λys=>if(ys.map (·.length)).sum+ys.length*x.length<=100000 then U (.z (.str (Txt.join x ys)))else Z
theorem nK:SO X "str.join" (λx xs H Q=>∃y p ys,x=.str y/\xs=[.ref p]/\yS X.K H p (ys.map V.str)/\(ys.map (·.length)).sum+ys.length*y.length<=100000/\Q (.str (Txt.join y ys)) H):=by
 intro AN s σ H x xs v us Q I a rs h;obtain⟨y,p,ys,rfl,rfl,sq,hb,q⟩:=h;obtain⟨t,rfl⟩:=a;obtain⟨u,rfl,b⟩:=BB rs;cases b;obtain⟨AQ,c,pl,d⟩:=I.list sq;exact join_list pl.isList (Ck c) () λe k=>⟨.str _,H,I.tok _,⟨_,rfl⟩,q⟩
theorem mi{p1:Pos}(h:QV X e f)(hx:x.length<=AA:=by decide)(d:attributeBase (.Constant (.str x) j p1) "join" X.env (eval (.Constant (.str x) j p1) X.env)=eval (.Constant (.str x) j p1) X.env:=by rfl)(g:((AD cpos (A9 [e] X.env)).all (λx=>!x.1)&&(backToKw cpos (keywordEach [] X.env)).all (λx=>x.1.isSome)&&decide ([e].length+([]:O AC).length+(if([]:O AC).isEmpty then 0 else 1)<30))=true:=by rfl)(t:(apos.endLine==cpos.line)=true:=by rfl)(hs:A9 [e] X.env=(false,eval e X.env)::A9 [] X.env:=by rfl):QV X (.Call (.Attribute (.Constant (.str x) j p1) "join" apos) [e] [] cpos) (b1 (T5 x) f):=⟨have h:=h.run;Ij (L5 (T :="str") F.plainAttrs_str F.slot_str_join F.type_str_join nK (OR (hx:=hx)) (Tg h YX hs) d g t hs S) λσ H Q q=>by
  obtain⟨H0,ρ,c,E,e,q⟩:=q;obtain⟨a,ea,e⟩:=AT e;refine⟨H0,ρ,_,E,rfl,λv H1 b u n=>?_⟩;obtain⟨rfl,y⟩:v=.str x/\x.length<=AA:=by simpa only[bf,AW]using n
  refine⟨rfl,H0,ρ,[a],E.grow b,by simp only[aq,ea,i5],λvs H2 s m=>?_⟩;obtain⟨w,rfl,l⟩:=BI m;unfold T5 at e;obtain⟨ds,o,e⟩:=AT e;obtain⟨ys,i,e⟩:=AT e;split at e
  ·rename_i hb;cases e;obtain⟨p,A,rfl,sq,rs⟩:=l.Hh o;obtain⟨rfl,z⟩:=Gm rs i;refine⟨x,p,ys,rfl,rfl,sq,hb,q _ _ (b.trans s) trivial ?_⟩;unfold bf AW;exact⟨rfl,joinOk_length (joinOk_of ())⟩
  ·cases e⟩
def MN:O Bx->Y Bx
 |[.z (.int a),.z (.int b)]=>U (.z (.int (if b>a then b else a)))
 |_=>Z
def F0:O Bx->Y Bx
 |[.z (.int a),.z (.int b)]=>U (.z (.int (if b<a then b else a)))
 |_=>Z
theorem Zb{a:Bx}(h:vP K H [a,b] vs):∃v w,vs=[v,w]/\bf K H a v/\bf K H b w:=by
 cases h with
 |cons p t=>
  cases t with
  |cons p' c=>cases c;exact⟨_,_,rfl,p,p'⟩
theorem Gq(d:X.calm=true):oH X (.builtin "max") MN:=by
 intro AN s σ H xs us Q I r h;obtain⟨bs,c,n,e,q⟩:=h;unfold MN at e;split at e
 ·rename_i a b;cases e;obtain⟨v,w,rfl,l,f⟩:=Zb n;have m:=Qy l;have j:=Qy f;subst m j;obtain⟨u,o,rfl,i,g⟩:=AX.two r;obtain⟨t,rfl⟩:=i;obtain⟨p,rfl⟩:=g;refine max_two_ints (I.ok.hd d) λh' tk kp=>?_;by_cases hb:b>a
  ·rw[zl hb]at q ⊢;exact⟨.int b,H,I.kept kp,⟨_,rfl⟩,q _ H (AV.refl H) trivial Im⟩
  ·rw[zz hb]at q ⊢;exact⟨.int a,H,I.kept kp,⟨_,rfl⟩,q _ H (AV.refl H) trivial Im⟩
 ·cases e
theorem Na(d:X.calm=true):oH X (.builtin "min") F0:=by
 intro AN s σ H xs us Q I r h;obtain⟨bs,c,n,e,q⟩:=h;unfold F0 at e;split at e
 ·rename_i a b;cases e;obtain⟨v,w,rfl,l,f⟩:=Zb n;have m:=Qy l;have j:=Qy f;subst m j;obtain⟨u,o,rfl,i,g⟩:=AX.two r;obtain⟨t,rfl⟩:=i;obtain⟨p,rfl⟩:=g;refine min_two_ints (I.ok.hd d) λh' tk kp=>?_;by_cases hb:b<a
  ·rw[zl hb]at q ⊢;exact⟨.int b,H,I.kept kp,⟨_,rfl⟩,q _ H (AV.refl H) trivial Im⟩
  ·rw[zz hb]at q ⊢;exact⟨.int a,H,I.kept kp,⟨_,rfl⟩,q _ H (AV.refl H) trivial Im⟩
 ·cases e
def J6(AO:O (AY×Dt))(x:AY):Y Dt:=(AO.find? λa=>decide (a.1=x)).map (·.2)
def QM(AO:O (AY×Dt))(x:AY)(d:Dt):O (AY×Dt):=
 if(AO.any λa=>decide (a.1=x))=true then AO.map (λa=>if a.1=x then(a.1,d)else a)else AO++[(x,d)]
theorem fX.nil:fX K H [] []:=⟨rfl,aK.nil,λp hp=>by cases hp⟩
theorem fX.inv{p:AY×Dt}{ks:O (AY×V)}(h:fX K H (p::AO) ks):∃v r,ks=(p.1,v)::r/\AW K H p.2 v/\EI p.1/\fX K H AO r:=by
 obtain⟨h1,h2,a⟩:=h;cases ks with
 |nil=>simp at h1
 |cons q r=>
  simp only[zt,kz]at h1;obtain⟨e,h1⟩:=h1;simp only[zt,aK]at h2;obtain⟨v,d,e2,c,b⟩:=h2;simp only[kz]at e2;obtain⟨rfl,rfl⟩:=e2;exact⟨q.2,r,by rw[<-e],c,a p (zg ..),h1,b,λx hx=>a x (zh _ hx)⟩
theorem fX.cons{p:AY×Dt}{AO:O (AY×Dt)}{v:V}{r:O (AY×V)}(a:AW K H p.2 v)(hp:EI p.1)(h:fX K H AO r):fX K H (p::AO) ((p.1,v)::r):=
 ⟨by simp[h.1],aK.cons a h.2.1,λx hx=>by
  rcases List.mem_cons.mp hx with rfl|hx
  ·exact hp
  ·exact h.2.2 x hx⟩
theorem fX.append{AO:O (AY×Dt)}{ks:O (AY×V)}{x:AY}{d:Dt}{v:V}(h:fX K H AO ks)(a:AW K H d v)(hx:EI x):fX K H (AO++[(x,d)]) (ks++[(x,v)]):=
 ⟨by simp[h.1],by rw[qB,qB];exact aK.append h.2.1 (aK.cons a aK.nil),λp hp=>by
  rcases List.mem_append.mp hp with hp|hp
  ·exact h.2.2 p hp
  ·cases List.mem_singleton.mp hp;exact hx⟩
theorem fX.len{ks:O (AY×V)}(h:fX K H AO ks):ks.length=AO.length:=by
 have:=congrArg dm h.1;simpa using this
theorem fX.look:∀{AO:O (AY×Dt)} {ks:O (AY×V)} {x:AY} {d:Dt},fX K H AO ks->J6 AO x=U d->∃v,FZ ks x=U v/\AW K H d v
 |[],_,_,_,_,e=>by cases e
 |p::AO,_,x,d,h,e=>by
  obtain⟨v,r,rfl,b,c,a⟩:=h.inv;unfold J6 at e;by_cases hp:p.1=x
  ·rw[List.find?_cons_of_pos (by simpa using hp)]at e;cases e;exact⟨v,Dh (by rw[hp]),b⟩
  ·rw[List.find?_cons_of_neg (by simpa using hp)]at e;obtain⟨w,e1,e2⟩:=fX.look a e;exact⟨w,(Di (by simpa using hp)).trans e1,e2⟩
theorem fX.any:∀{AO:O (AY×Dt)} {ks:O (AY×V)} {x:AY},fX K H AO ks->(ks.any λa=>decide (a.1=x))=AO.any λa=>decide (a.1=x)
 |[],ks,_,h=>by
  have:=h.len;cases ks with
  |nil=>rfl
  |cons _ _=>simp at this
 |p::AO,_,x,h=>by
  obtain⟨v,r,rfl,c,d,b⟩:=h.inv;rw[kC,kC,fX.any b]
theorem fX.ac7:∀{AO:O (AY×Dt)} {ks:O (AY×V)} {x:AY} {d:Dt} {v:V},fX K H AO ks->AW K H d v->fX K H (AO.map λa=>if a.1=x then(a.1,d)else a) (ks.map λa=>if a.1=x then(a.1,v)else a)
 |[],ks,_,_,_,h,_=>by
  have:=h.len;cases ks with
  |nil=>exact fX.nil
  |cons _ _=>simp at this
 |p::AO,_,x,d,v,h,hd=>by
  obtain⟨w,r,rfl,f,b,e⟩:=h.inv;rw[zt,zt];have c:=fX.ac7 (x:=x) e hd;by_cases hp:p.1=x
  ·rw[zl hp,zl (by simp[hp])];exact fX.cons (p:=(p.1,d)) hd b c
  ·rw[zz hp,zz (by simpa using hp)];exact fX.cons f b c
theorem fX.put{ks:O (AY×V)}{x:AY}{v:V}(h:fX K H AO ks)(a:AW K H d v)(hx:EI x):fX K H (QM AO x d) (BG ks x v):=by
 unfold QM BG;rw[h.any];split
 ·exact h.ac7 a
 ·exact h.append a hx
section
variable{ek o:Expr}{pos':Pos}
def DL:Bx->Y AY
 |.z (.str x)=>U (.inr x)
 |.z (.int i)=>U (.inl i)
 |_=>Z
theorem QS{k:AY}{v:V}(e:DL b=U k)(r:bf K H b v):v=kV k/\EI k:=by
 unfold DL at e;split at e
 ·cases e;simp only[bf,AW]at r;exact r
 ·cases e;simp only[bf,AW]at r;exact⟨r,trivial⟩
 ·cases e
def qj:Bx->Bx->Y Bx
 |.n AO,b=>(DL b).bind λk=>(J6 AO k).bind λd=>U (.z d)
 |_,_=>Z
theorem W7{a c:Bx}(h:qj a b=U c):∃AO k d,a=.n AO/\DL b=U k/\J6 AO k=U d/\c=.z d:=by
 unfold qj at h;split at h
 ·obtain⟨k,ek,h⟩:=AT h;obtain⟨d,e,h⟩:=AT h;cases h;exact⟨_,k,d,rfl,ek,e,rfl⟩
 ·cases h
theorem lX(C:X.A.units+100<cLine)(ho:QV X o fo)(f:QV X ek fk)(hs:MC ek:=by intro _ _;rfl):QV X (.Subscript o ek pos) (b2 qj fo fk):=⟨have ho:=ho.run;have f:=f.run;Ij (UQ () ho f hs) λσ H Q h=>by
 obtain⟨H0,ρ,c,E,e,q⟩:=h;obtain⟨a,ea,e⟩:=AT e;obtain⟨b,eb,e⟩:=AT e;refine⟨H0,ρ,a,E,ea,λv H1 g z s=>⟨H0,ρ,b,E.grow g,eb,λw H2 i B n=>?_⟩⟩;obtain⟨AO,x,d,rfl,t,y,rfl⟩:=W7 e;obtain⟨p,ks,rfl,u,l⟩:=s.same i;obtain⟨j,ev,m⟩:=l.look y;obtain⟨rfl,_⟩:=QS t n;exact⟨p,j,rfl,.inl ⟨ks,x,u,rfl,ev.symm⟩,q _ _ (g.trans i) trivial m⟩⟩
def T6(ρ:Ev)(i:Nat):Bx->Bx->Y Ap
 |.z d,b=>(DL b).bind λx=>match ρ[i]? with
  |some (U (.m AO w))=>if AO.length<1000 then U (.nx (ρ.set i (U (.m (QM AO x d) w))))else Z
  |_=>Z
 |_,_=>Z
def Zc(i:Nat)(f fk:Ev->Y Bx):Ev->Y Ap:=λρ=>(f ρ).bind λb=>(fk ρ).bind λk=>T6 ρ i b k
theorem W8{k:Bx}{r:Ap}(h:T6 ρ i b k=U r):∃d y AO w,b=.z d/\DL k=U y/\ρ[i]?=U (U (.m AO w))/\AO.length<1000/\r=.nx (ρ.set i (U (.m (QM AO y d) w))):=by
 unfold T6 at h;split at h
 ·obtain⟨y,c,h⟩:=AT h;split at h
  ·rename_i a;split at h
   ·rename_i e;cases h;exact⟨_,y,_,_,rfl,c,a,e,rfl⟩
   ·cases h
  ·cases h
 ·cases h
theorem Zd(i:Nat){p:Pos}(W:X.A.units+100<cLine)(he:QV X e f)(j:QV X ek fk)(z:X.N[i]?=U x:=by rfl)(F:D4 X.env.scope x:=by first|exact kB rfl|exact JE (kB S)|exact JE (JE S))(K:sa x:=by decide)(I:(x==("__classdict__":AJ))=false:=by decide)(hs:swapsWith e (U (.Subscript (.Name x p) ek pos')) pos.line X.env=pure false:=by rfl):Tj X (.Assign [.Subscript (.Name x p) ek pos'] e pos) (λρ=>(f ρ).bind λb=>(fk ρ).bind λk=>T6 ρ i b k):=⟨have he:=he.run;have j:=j.run;YT (sT () (yU (i:=i) z F K I) j he hs) λD σ H h=>by
  obtain⟨H0,ρ,r,E,e,q⟩:=h;obtain⟨b,eb,e⟩:=AT e;obtain⟨k,ek,e⟩:=AT e;refine⟨H0,ρ,b,E,eb,λv H1 t M J=>?_⟩;obtain⟨d,y,AO,Q,rfl,o,m,C,rfl⟩:=W8 e;have g:=E.grow t;obtain⟨w,e1,a,ks,rfl,ha,l,L⟩:=g.val i _ m;refine⟨_,e1,H0,ρ,_,g,ek,λu H2 c P s=>?_⟩;obtain⟨rfl,B⟩:=QS o s;have G:=g.grow c;have n:=c _ _ ha;have kp:Kp H2 (B6 H2 a (.dK (BG ks y v))):=.dk n;refine⟨a,_,rfl,HC.k (k:=y) n (by rw[l.len];exact en C ()),q _ _ ?_⟩;exact G.alM m S e1 kp ⟨a,_,rfl,bK,((l.kp (.of c)).put (x:=y) (bf.same c J) B).kp kp,L⟩⟩
end
section
variable{a b:Expr}{fs:Ev->Y (O Bx)}
theorem Gs{j}(hx:x.length<=AA:=by decide):QV X (.Constant (.str x) j pos) (cB (.str x)):=⟨P1.OR (hx:=hx)⟩
end
section
variable{a b:Expr}{fs:Ev->Y (O Bx)}
variable{AS:O Expr}
theorem aj(h1:QV X e f)(h2:D7 X es fs)(hs:A9 (e::es) X.env=(false,eval e X.env)::A9 es X.env:=by rfl):D7 X (e::es) (aq f fs):=⟨P1.Tg (h1:=h1.run) (h2:=h2.run) (hs:=hs)⟩
theorem aA  :D7 X [] (λ_=>U []):=⟨P1.YX ⟩
end
theorem oo{st:AB}{f:A1}{k m:Nat}(F:DJ K x qual st f fd)(S:bC N ps (aO st))(e:N.length=n)(b:ps.length=m)(d:∀(a:A0) (A:A5) (outer:O Env) (s:A2) (H:Hp) (E:XK),qb k (A.deeper (AK qual (aO st) s.heap.objs.size f a))->Co (JH Qt P w K mg base N qual (aO st) f a A outer s H E).nox (j4 st) g):
  yX P w K mg base Qt (k+1) f fd ps (ET K m (cU n g)):=sK F S e b λa A outer s H E c=>(d a A outer s H E c).run
theorem Hq:∀(vs:O A0) (ys:AZ),vs.length=ys.length->(∀(j:Nat) v,vs[j]?=U v->∃y t,ys[j]?=U y/\v=.str y t)->StrsAre vs ys
 |[],[],_,_=>.nil
 |v::vs,y::ys,hl,h=>by
  obtain⟨b,t,e,rfl⟩:=h 0 v rfl;cases e;exact .cons y t (Hq vs ys (by simpa using hl) λj v a=>h (j+1) v (by simpa using a))
theorem W9{AO:O (AY×A0)}{ys:AZ}(c:AO.map (·.1)=ys.map Sum.inr){a:Array A0}(h:ItemsOf (λi v=>∃k x,AO[i]?=U (k,x)/\(bG prog w).is k v=true) a AO.length):StrsAre a.toList ys:=by
 have f:AO.length=ys.length:=by have:=congrArg dm c;simpa using this
 refine Hq _ _ (by rw[ZU,h.1,f]) λj v g=>?_;obtain⟨k,x,e,hi⟩:=h.2 j v (by simpa using g);have e1:(AO.map (·.1))[j]?=U k:=by rw[Zp,e];rfl
 rw[c,Zp]at e1;cases b:ys[j]? with
 |none=>rw[b]at e1;cases e1
 |some y=>
  rw[b]at e1;cases e1;have d:lJ (Sum.inr y) v=true:=hi;rcases bO d with⟨i,t,e2,e3⟩|⟨z,t,e2,e3⟩
  ·cases e2
  ·cases e2;exact⟨_,t,rfl,e3⟩
def F8:O (AY×Dt)->Y AZ
 |[]=>U []
 |(.inr x,_)::r=>(F8 r).bind λys=>U (x::ys)
 |(.inl _,_)::_=>Z
theorem Ah:∀{AO:O (AY×Dt)} {ys:AZ},F8 AO=U ys->AO.map (·.1)=ys.map Sum.inr
 |[],_,e=>by cases e;rfl
 |(.inr x,_)::r,_,e=>by
  obtain⟨ys,e1,e⟩:=AT e;cases e;rw[zt,zt,Ah e1]
 |(.inl _,_)::_,_,e=>by cases e
theorem mP{ys:AZ}(e:F8 AO=U ys)(h:∀p∈AO,EI p.1)(y:AJ)(a:y∈ys):y.length<=AA:=by
 have:(Sum.inr y:AY)∈AO.map (·.1):=by rw[Ah e];exact List.mem_map.mpr ⟨y,a,rfl⟩
 obtain⟨p,hp,ep⟩:=List.mem_map.mp this;have:=h p hp;rw[ep]at this;exact this
theorem Ze:∀{ks:O (AY×V)} {vs:O (AY×A0)},KV ks vs->vs.map (·.1)=ks.map (·.1)
 |_,_,.nil=>rfl
 |_,_,.cons h t=>by rw[zt,zt,Ze t,h.1]
theorem cg.al1(E:cg K H0 H σ ρ)(i:Nat):cg K H0 H σ (ρ.set i Z):=by
 have back:∀(j:Nat) (b:Bx),(ρ.set i Z)[j]?=U (U b)->ρ[j]?=U (U b):=λj b e=>by
  rw[Yf]at e;split at e
  ·split at e<;>cases e
  ·exact e
 refine⟨by rw[k5];exact E.len,λj b e=>E.val j b (back j b e),λj k c a b e1 d e2 e3 f g=>E.own j k c a b (back _ _ e1) d e2 (back _ _ e3) f g,E.base,λj c a e1 d e2=>E.new j c a (back _ _ e1) d e2⟩
def kill(is:O Nat)(ρ:Ev):Ev:=is.foldl (λρ i=>ρ.set i Z) ρ
theorem cg.kill{K:B1}{H0 H:Hp}{σ:L2.St}:∀(is:O Nat) {ρ:Ev},cg K H0 H σ ρ->cg K H0 H σ (P1.kill is ρ)
 |[],_,E=>E
 |i::is,_,E=>cg.kill is (E.al1 i)
def cZ(is:O Nat):Ev->Y Ap:=λρ=>U (.nx (kill is ρ))
theorem mh{a:O AB}(is:O Nat)(h:D3 X a g):D3 X a (aF g (cZ is)):=MV h λD σ H q=>by
 obtain⟨H0,ρ,r,E,e,q⟩:=q;obtain⟨c,e1,e⟩:=AT e;refine⟨H0,ρ,c,E,e1,?_⟩;cases c with
 |nx f=>cases e;exact λσ' H' d=>q σ' H' (d.kill is)
 |rt b=>cases e;exact q
 |bk b=>cases e;exact q
 |ct b=>cases e;exact q
theorem bw{a:O AB}(is:O Nat)(h:Co X a g):Co X a (aF g (cZ is)):=⟨mh is h.run⟩
end P1
namespace S1
section
variable(rk:A0->Nat)
def at_(xs:Array Keyed)(i:Nat):Nat:=match xs[i]? with
 |some p=>rk p.1
 |none=>0
def Up(xs:Array Keyed)(k:Nat):Prop:=∀i j,i<=j->j<k->at_ rk xs i<=at_ rk xs j
def Ch(xs:Array Keyed)(k:Nat):Prop:=∀i j,i<=j->j<k->at_ rk xs j<=at_ rk xs i
structure Bs (kd:SortKind) (b:Array Keyed) (st:SortSt):Prop where
 pm:(arrOf st).Perm b
 kd:kindOf st=kd
 fl:failedOf st=none
 pd:pendingOf st=#[]
variable{rk}{b:Array Keyed}
theorem Bs.sz{st:SortSt}(h:Bs kd b st):(AM st).size=b.size:=h.pm.size_eq
theorem Bs.arr{st:SortSt}{xs:Array Keyed}(h:Bs kd b st)(hp:xs.Perm (AM st)):Bs kd b (PyProof.Rows.setArr st xs):=⟨hp.trans h.pm,h.kd,h.fl,h.pd⟩
theorem zp{xs ys:Array Keyed}(h:xs[i]?=ys[j]?):at_ rk xs i=at_ rk ys j:=by unfold at_;rw[h]
theorem OC{xs:Array Keyed}{p d:Nat}(hs:p<xs.size)(a:d<=p)(k:Nat):at_ rk (bubble xs p d) k=if k=p-d then at_ rk xs p else if p-d<k/\k<=p then at_ rk xs (k-1)else at_ rk xs k:=by
 have e:=getElem?_bubble hs d a k;by_cases q:k=p-d
 ·simp only[zl q]at e ⊢;exact zp e
 ·simp only[zz q]at e ⊢;by_cases q2:p-d<k/\k<=p
  ·simp only[zl q2]at e ⊢;exact zp e
  ·simp only[zz q2]at e ⊢;exact zp e
theorem Xa{xs:Array Keyed}(a:j<=xs.size)(k:Nat):at_ rk (mirror xs i j ((j-i) / 2)) k=if i<=k/\k<j then at_ rk xs (i+j-1-k)else at_ rk xs k:=by
 have e:=getElem?_mirror_all (i:=i) a k;by_cases q:i<=k/\k<j
 ·simp only[zl q]at e ⊢;exact zp e
 ·simp only[zz q]at e ⊢;exact zp e
theorem DW{xs:Array Keyed}(a:j<=xs.size)(he:∀k,i<=k->k<j->at_ rk xs k=at_ rk xs (j-1))(k:Nat):at_ rk (mirror xs i j ((j-i) / 2)) k=at_ rk xs k:=by
 rw[Xa a];by_cases q:i<=k/\k<j
 ·rw[zl q,he (i+j-1-k) () (),he k q.1 q.2]
 ·rw[zz q]
end
section
variable{b:Array Keyed}{rk:A0->Nat}
def Cf(prog:A3)(w:A4)(A:A5)(s:A2)(kd:SortKind)(rk:A0->Nat)(b:Array Keyed):Prop:=
 ∀(E:B7) (p q:Keyed) (Q:Bool->A2->Prop),p∈b.toList->q∈b.toList->Q (decide (rk p.1<rk q.1)) s->A7 (A8 prog w) A (keyLt' kd p.1 q.1) Q E s
theorem T7{st:SortSt}{Q:Y Bool->SortSt->Prop}(e:Cf prog w A s kd rk b)(B:Bs kd b st)(hi:i<b.size)(a:j<b.size)(h:Q (U (decide (at_ rk (AM st) i<at_ rk (AM st) j))) st):wpS (A8 prog w) A E s (ltAt' i j) Q st:=by
 have get:∀k,k<b.size->∃p,(AM st)[k]?=U p/\p∈b.toList:=λk g=>by
  have c:k<(AM st).size:=by rw[B.sz];exact g
  exact⟨(AM st)[k],getElem?_pos _ k c,(db.mp B.pm).mem_iff.mp (by simp)⟩
 obtain⟨p,e1,f⟩:=get i hi;obtain⟨q,e2,d⟩:=get j a;have h:Q (U (decide (rk p.1<rk q.1))) st:=by unfold at_ at h;rw[e1,e2]at h;exact h
 rw[ltAt'_eq];refine AL (wpS_get ?_);show wpS _ _ _ _ (elem' (AM st) i >>= λx=>elem' (AM st) j >>= λy=>lt' x y) Q st;rw[elem'_eq,elem'_eq,e1,e2];refine AL (wpS_pure ?_);refine AL (wpS_pure ?_);rw[lt'_eq];refine AL (wpS_get ?_);rw[B.kd];exact AL (wpS_lift (wpAny_attempt (e _ p q _ f d ⟨rfl,wpS_pure h⟩)))
theorem RF{st:SortSt}{a:Nat}{Q:AscSt->SortSt->Prop}(l:Cf prog w A s kd rk b)(v:n<=b.size)(ha:1<=a)(o:a<=n)(B:Bs kd b st)(hs:Up rk (AM st) a)(h:∀m,a<=m->m<=n->Up rk (AM st) m->(m=n\/at_ rk (AM st) m<at_ rk (AM st) (m-1))->Q (Z,m) st):wpS (A8 prog w) A E s (ascLoop a n) Q st:=by
 unfold ascLoop;refine wpS_forRange (I:=λx c t=>t=st/\c=(Z,x)/\Up rk (AM st) x) ?_ ?_ ⟨rfl,rfl,hs⟩
 ·rintro x c t f u ⟨rfl,rfl,d⟩;refine AL (T7 l B () () ?_);by_cases q:at_ rk (AM t) x<at_ rk (AM t) (x-1)
  ·simp only[q,Ki,qk];exact wpS_pure (h x f () d (.inr q))
  ·simp only[q,kA,zo,ZY];refine wpS_pure ⟨rfl,rfl,λi j g p=>?_⟩;by_cases hx:j<x
   ·exact d i j g hx
   ·have e:j=x:=by omega
    subst e;by_cases hi:i=j
    ·rw[hi];exact zi _
    ·have:=d i (j-1) () ();omega
 ·rintro c t ⟨rfl,rfl,d⟩;rw[show max a n=n by omega]at d ⊢;exact h n o (zi _) d (.inl S)
theorem t3{st:SortSt}{m:Nat}{Q:Y Nat->SortSt->Prop}(e:Cf prog w A s kd rk b)(l:n<=b.size)(h1:1<=m)(g:m<=n)(B:Bs kd b st)(hs:Ch rk (AM st) m)(h:∀k t,Bs kd b t->1<=k->k<=n->Up rk (AM t) k->Q (U k) t):wpS (A8 prog w) A E s (tail3 m n) Q st:=by
 unfold tail3;have a:m<=(AM st).size:=by rw[B.sz];omega
 refine AL (wpS_reverse ?_);have c:Bs kd b (PyProof.Rows.setArr st (mirror (AM st) 0 m ((m-0) / 2))):=B.arr (mirror_perm _ _ _ _);refine AL (RF e l h1 g c (λi j q o=>?_) λk p d f _=>wpS_pure (h k _ c () d f));show at_ rk (mirror (AM st) 0 m ((m-0) / 2)) i<=at_ rk (mirror (AM st) 0 m ((m-0) / 2)) j;rw[Xa a,Xa a,zl ⟨by omega,by omega⟩,zl ⟨by omega,by omega⟩];exact hs _ _ () ()
theorem Sn{st:SortSt}{m:Nat}{Q:DescSt->SortSt->Prop}(g:Cf prog w A s kd rk b)(H:n<=b.size)(h1:1<=m)(v:m<=n)(B:Bs kd b st)(hs:Ch rk (AM st) m)(h:∀k e t,Bs kd b t->m<=k->k<=n->Ch rk (AM t) k->e+1<=k->(∀i,k-(e+1)<=i->i<k->at_ rk (AM t) i=at_ rk (AM t) (k-1))->Q (Z,k,e) t):wpS (A8 prog w) A E s (descLoop m n) Q st:=by
 unfold descLoop;refine wpS_forRange (I:=λx c t=>∃e,c=(Z,x,e)/\Bs kd b t/\Ch rk (AM t) x/\e+1<=x/\∀i,x-(e+1)<=i->i<x->at_ rk (AM t) i=at_ rk (AM t) (x-1)) ?_ ?_ ⟨0,rfl,B,hs,by omega,λi q1 q2=>by rw[show i=m-1 by omega]⟩
 ·rintro x c t o F ⟨e,rfl,a,dn,f,d⟩;have p:x<=(AM t).size:=by rw[a.sz];omega
  have grow:∀xs:Array Keyed,(∀k,at_ rk xs k=at_ rk (AM t) k)->at_ rk (AM t) x<=at_ rk (AM t) (x-1)->Ch rk xs (x+1):=λxs l G i j u C=>by
   rw[l,l];by_cases hx:j<x
   ·exact dn i j u hx
   ·have y:j=x:=by omega
    subst y;by_cases hi:i=j
    ·rw[hi];exact zi _
    ·have:=dn i (j-1) () ();omega
  dsimp only;refine AL (T7 g a () () ?_);by_cases q:at_ rk (AM t) x<at_ rk (AM t) (x-1)
  ·simp only[q,Ki,qk];by_cases h0:e>0
   ·rw[zl h0];exact AL (wpS_reverse (wpS_pure ⟨0,rfl,a.arr (mirror_perm _ _ _ _),grow _ (DW p d) (),by omega,λi q1 q2=>by rw[show i=x by omega];rfl⟩))
   ·rw[zz h0];exact wpS_pure ⟨0,rfl,a,grow _ (λ_=>S) (),by omega,λi q1 q2=>by rw[show i=x by omega];rfl⟩
  ·simp only[q,kA,zo,ZY];refine AL (T7 g a () () ?_);by_cases q2:at_ rk (AM t) (x-1)<at_ rk (AM t) x
   ·simp only[q2,Ki,qk];exact wpS_pure (h x e t a o () dn f d)
   ·simp only[q2,kA,zo,ZY];refine wpS_pure ⟨e+1,rfl,a,grow _ (λ_=>S) (),by omega,λi D z=>?_⟩;rw[show x+1-1=x by omega];by_cases hi:i=x
    ·rw[hi]
    ·rw[d i () ()];omega
 ·rintro c t ⟨e,rfl,a,dn,f,d⟩;rw[show max m n=n by omega]at dn f d ⊢;exact h n e t a v (zi _) dn f d
theorem RC{st:SortSt}{m:Nat}{Q:Y Nat->SortSt->Prop}(a:Cf prog w A s kd rk b)(d:n<=b.size)(q:m+1<=n)(B:Bs kd b st)(hs:Ch rk (AM st) (m+1))(h:∀k t,Bs kd b t->1<=k->k<=n->Up rk (AM t) k->Q (U k) t):wpS (A8 prog w) A E s (descPart m n) Q st:=by
 unfold descPart;refine AL (wpS_lift (km ⟨rfl,?_⟩));refine AL (Sn a d () q B hs λk e t c u g dn v l=>?_);have f:k<=(AM t).size:=by rw[c.sz];omega
 by_cases h0:e>0
 ·simp only[zl h0];refine AL (wpS_reverse (t3 a d () g (c.arr (mirror_perm _ _ _ _)) (λi j p o=>?_) h));show at_ rk (mirror (AM t) _ _ _) j<=at_ rk (mirror (AM t) _ _ _) i;rw[DW f l,DW f l];exact dn i j p o
 ·simp only[zz h0];exact t3 a d () g c dn h
theorem VO{st:SortSt}{Q:Y Nat->SortSt->Prop}(a:Cf prog w A s kd rk b)(e:n<=b.size)(h1:1<=n)(B:Bs kd b st)(h:∀k t,Bs kd b t->1<=k->k<=n->Up rk (AM t) k->Q (U k) t):wpS (A8 prog w) A E s (countRun' 0 n) Q st:=by
 rw[countRun0_eq];refine AL (RF a e (zi 1) h1 B (λi j o f=>by rw[show i=j by omega];exact zi _) λm p l c or=>?_);by_cases d:m=n
 ·simp only[zl (show(m==n)=true by simpa using d)];exact wpS_pure (h m st B p l c)
 ·simp only[zz (show ¬ (m==n)=true by simpa using d)];have lt:=or.resolve_left d;have g:m<=(AM st).size:=by rw[B.sz];omega
  by_cases g1:m>1
  ·rw[zl g1];refine AL (T7 a B () () ?_);by_cases q:at_ rk (AM st) 0<at_ rk (AM st) (m-1)
   ·simp only[q,Ki,qk];exact wpS_pure (h m st B p l c)
   ·simp only[q,kA,zo,ZY];have all:∀k,0<=k->k<m->at_ rk (AM st) k=at_ rk (AM st) (m-1):=λk _ x=>by
     have a1:=c 0 k () x;have a2:=c k (m-1) () ();omega
    refine AL (wpS_reverse (RC a e () (B.arr (mirror_perm _ _ _ _)) (λi j o f=>?_) h));show at_ rk (mirror (AM st) _ _ _) j<=at_ rk (mirror (AM st) _ _ _) i;rw[DW g all,DW g all];by_cases u:j<m
    ·rw[all i () (),all j () u];exact zi _
    ·have v:j=m:=by omega
     subst v;by_cases hi:i=j
     ·rw[hi];exact zi _
     ·rw[all i () ()];omega
  ·rw[zz g1];have e1:m=1:=by omega
   subst e1;refine RC a e () B (λi j o f=>?_) h;by_cases hi:i=j
   ·rw[hi];exact zi _
   ·rw[show i=0 by omega,show j=1 by omega];exact jS lt
theorem LL{st:SortSt}{g:Nat}{Q:Bool->SortSt->Prop}(F:Cf prog w A s kd rk b)(K:n<=b.size)(J:g<=n)(B:Bs kd b st)(hs:Up rk (AM st) g)(h:∀t,Bs kd b t->Up rk (AM t) n->Q true t):wpS (A8 prog w) A E s (binarySort' 0 n g) Q st:=by
 rw[binarySort'_eq];simp only[yz];refine AL (wpS_mono (wpS_forRange (I:=λk c t=>c=(Z,sn)/\Bs kd b t/\Up rk (AM t) (min k n)) (Q:=λc t=>c=(Z,sn)/\Bs kd b t/\Up rk (AM t) n) ?_ ?_ ?_) ?_)
 ·rintro k c t M H ⟨rfl,f,d⟩;rw[show min k n=k by omega]at d;have v:k<b.size:=by omega
  refine AL (wpS_mono (wpS_forRange (I:=λx c a=>a=t/\∃l r,c=(Z,l,r)/\l<=r/\r<=k/\r-l<=k-x/\(∀i,i<l->at_ rk (AM t) i<=at_ rk (AM t) k)/\(∀i,r<=i->i<k->at_ rk (AM t) k<at_ rk (AM t) i))
   (Q:=λc a=>a=t/\∃l r,c=(Z,l,r)/\l<=k/\(∀i,i<l->at_ rk (AM t) i<=at_ rk (AM t) k)/\(∀i,l<=i->i<k->at_ rk (AM t) k<at_ rk (AM t) i)) ?_ ?_ ?_) ?_)
  ·rintro x c a _ hx ⟨rfl,l,r,rfl,G,m,y,lo,hi⟩;dsimp only;by_cases o:l>=r
   ·rw[zl o];have e:l=r:=by omega
    subst e;exact wpS_pure ⟨rfl,l,l,rfl,m,lo,hi⟩
   ·rw[zz o];refine AL (T7 F f v () ?_);by_cases q:at_ rk (AM a) k<at_ rk (AM a) ((l+r) / 2)
    ·simp only[q,Ki,qk];refine wpS_pure ⟨rfl,l,(l+r) / 2,rfl,by omega,by omega,by omega,lo,λi q1 q2=>?_⟩;have:=d ((l+r) / 2) i q1 q2;omega
    ·simp only[q,kA,zo,ZY];refine wpS_pure ⟨rfl,(l+r) / 2+1,r,rfl,by omega,by omega,by omega,λi q1=>?_,hi⟩;have:=d i ((l+r) / 2) () ();omega
  ·rintro c a ⟨rfl,l,r,rfl,G,m,y,lo,hi⟩;have e:l=r:=by omega
   subst e;exact⟨rfl,l,l,rfl,m,lo,hi⟩
  ·exact⟨rfl,0,k,rfl,by omega,by omega,by omega,λi hi=>by omega,λi q1 q2=>by omega⟩
  ·rintro c a ⟨rfl,l,r,rfl,L,lo,hi⟩;show wpS _ _ _ _ (moveDown' k l >>= λ_=>pure (ForInStep.yield (Z,sn))) _ _;rw[moveDown'_eq];refine AL (wpS_modify (wpS_pure ⟨rfl,f.arr (bubble_perm _ _ _),?_⟩));rw[show min (k+1) n=k+1 by omega];have u:k<(AM a).size:=by rw[f.sz];exact v
   intro i j p D;show at_ rk (bubble (AM a) k (k-l)) i<=at_ rk (bubble (AM a) k (k-l)) j;rw[OC u (),OC u (),show k-(k-l)=l by omega]
   repeat' split
   all_goals first
    |(exfalso;omega)
    |exact zi _
    |exact lo _ ()
    |exact jS (hi _ () ())
    |exact d _ _ () ()
 ·rintro c t ⟨C,f,d⟩;refine⟨C,f,?_⟩;rwa [show min (max (max g 1) n) n=n by omega]at d
 ·refine⟨rfl,B,λi j p D=>?_⟩;by_cases z:g=0
  ·rw[show i=j by omega];exact zi _
  ·exact hs i j p ()
 ·rintro c t ⟨rfl,f,d⟩;exact wpS_pure (h t f d)
def Dn(kd:SortKind)(rk:A0->Nat)(b:Array Keyed)(st:SortSt):Prop:=(AM st).Perm b/\failedOf st=Z/\pendingOf st=#[(0,b.size,0)]/\Up rk (AM st) b.size
theorem Bs.dn{st:SortSt}(B:Bs kd b st)(a:Up rk (AM st) b.size):Dn kd rk b (setPending st ((pendingOf st).push (0,b.size,0))):=⟨B.pm,B.fl,(by show(pendingOf st).push _=_;rw[B.pd];rfl),a⟩
theorem MT{st:SortSt}{Q:Unit->SortSt->Prop}(d:Cf prog w A s kd rk b)(B:Bs kd b st)(h2:2<=b.size)(l:b.size<64)
  (h:∀t,(AM t).Perm b->failedOf t=Z->Up rk (AM t) b.size->Q sn t):wpS (A8 prog w) A E s sortRuns' Q st:=by
 rw[sortRuns'_eq];refine AL (wpS_get ?_);have mr:minRun' b.size b.size 0=b.size:=by
  obtain⟨f,p⟩:∃f,b.size=f+1:=⟨b.size-1,by omega⟩;have q:minRun' (f+1) b.size 0=b.size:=(minRun'_succ f b.size 0).trans (zl l);rwa [<-p]at q
 simp only[B.sz,mr];have back:∀{t:SortSt},Bs kd b t->(pendingOf t).back?=Z:=λB=>by rw[B.pd];rfl
 refine AL (wpS_mono (wpS_forRange (I:=λx c t=>(x=0/\c=(Z,0)/\Bs kd b t)\/(1<=x/\c=(Z,b.size)/\Dn kd rk b t)) (Q:=λc t=>c=(Z,b.size)/\Dn kd rk b t) ?_ ?_ (.inl ⟨rfl,rfl,B⟩)) ?_)
 ·rintro x c t _ hx (⟨rfl,rfl,n⟩|⟨v,rfl,D⟩)
  ·dsimp only;rw[zz ()];simp only[Nat.sub_zero,n0,yz];refine AL (VO d (zi _) () n λm t2 a y j g=>?_);dsimp only;by_cases lt:m<b.size
   ·rw[zl lt];refine AL (wpS_lift (km ⟨rfl,AL (LL d (zi _) j a g λt3 B3 o=>?_)⟩));simp only[JI,zo,ZY];refine AL (wpS_get ?_);rw[back B3];exact AL (wpS_modify (wpS_pure (.inr ⟨by omega,rfl,B3.dn o⟩)))
   ·rw[zz lt];have e:m=b.size:=by omega
    subst e;refine AL (wpS_get ?_);rw[back a];exact AL (wpS_modify (wpS_pure (.inr ⟨by omega,rfl,a.dn g⟩)))
  ·dsimp only;rw[zl (zi _)];exact wpS_pure ⟨rfl,D⟩
 ·rintro c t (⟨hx,_,_⟩|⟨_,i,D⟩)
  ·omega
  ·exact⟨i,D⟩
 ·rintro c t ⟨rfl,D⟩;dsimp only;refine AL (wpS_mono (wpS_forRange (I:=λ_ c u=>u=t/\c=(Z,sn)) (Q:=λc u=>u=t/\c=(Z,sn)) ?_ (λ_ _ q=>q) ⟨rfl,rfl⟩) ?_)
  ·rintro x c u _ _ ⟨rfl,rfl⟩;refine AL (wpS_get ?_);rw[zl (by rw[D.2.2.1];exact zi 1)];exact wpS_pure ⟨rfl,rfl⟩
  ·rintro c u ⟨rfl,rfl⟩;exact wpS_pure (h _ D.1 D.2.1 D.2.2.2)
def FA(a:A1)(s s':A2):Prop:=∀c o,c≠a->s.heap.get? c=U o->s'.heap.get? c=U o
theorem LF{vs:O A0}{P:Fin->A2->Prop}(ho:s.heap.get? a=U (seqObj "list" vs.toArray n))(x:2<=vs.length->∀s',FA a s s'->∀Q:SortKind->A2->Prop,Q kd s'->A7 (A8 prog w) A (keyKind' vs.toArray) Q E s')(p:∀s',FA a s s'->Cf prog w A s' kd rk (pairsOf vs))(m:vs.length<64)(h:∀st:SortSt,(AM st).Perm (pairsOf vs)->Up rk (AM st) (pairsOf vs).size->P (.done (.ret .none)) { s with heap:=sortedHeap s.heap a vs ((AM st).map (·.2)) }):
  A7 (A8 prog w) A (Builtin.«list.sort» ⟨[.ref a],[]⟩) P E s:=by
 rw[list_sort_plain];have ha:=zD ho;refine zb (listItems_at ho S (zb (listUpdate_at ho S ?_)));obtain⟨e1,g1⟩:∃e1,(s.heap.update a (Obj.mapSeq λ_=>#[])).get? a=U (seqObj "list" #[] e1):=⟨_,get?_update_seq ho λ_=>#[]⟩;refine zb (seqEpoch_at g1 S (zb (wpAny_newTuple (zb (yb (qS ?_))))));have z1:(s.heap.update a (Obj.mapSeq λ_=>#[])).objs.size=s.heap.objs.size:=pI ..;have keep:∀c,c<s.heap.objs.size->(((s.heap.update a (Obj.mapSeq λ_=>#[])).push (seqObj "tuple" vs.toArray 0)).push (seqObj "list" #[] 0)).get? c=(s.heap.update a (Obj.mapSeq λ_=>#[])).get? c:=λc b=>by
  rw[ow _ _ _ (by rw[size_push',z1];exact zI (qV b)),ow _ _ _ (by rw[z1];exact zI b)]
 have d:=(keep a ha).trans g1;have old:FA a s { s with heap:=((s.heap.update a (Obj.mapSeq λ_=>#[])).push (seqObj "tuple" vs.toArray 0)).push (seqObj "list" #[] 0) }:=λc o b e=>by
  show(((s.heap.update a (Obj.mapSeq λ_=>#[])).push (seqObj "tuple" vs.toArray 0)).push (seqObj "list" #[] 0)).get? c=U o;rw[keep c (zD e),kc _ _ _ _ b];exact e
 show A7 _ _ _ _ _ { s with heap:=((s.heap.update a (Obj.mapSeq λ_=>#[])).push (seqObj "tuple" vs.toArray 0)).push (seqObj "list" #[] 0) };have y:vs.toArray.size=vs.length:=by simp
 have f:∀st:SortSt,(AM st).Perm (pairsOf vs)->((AM st).map (·.2)).size<=AA+1:=λst hp=>by
  have q:((AM st).map (·.2)).size=vs.length:=(Array.size_map ..).trans (hp.size_eq.trans (pairsOf_size _));rw[q,sizeLine_eq];omega
 by_cases h2:vs.toArray.size<2
 ·simp only[zl h2];refine zb (zd ?_);rw[StateT.run_pure];refine zb (zd (zb (seqEpoch_at d S (zb (listUpdate_at d S ?_ (hsz2:=f (SortSt.mk' general' (pairsOf vs) #[] 7 Z) (Array.Perm.refl _)))))));simp only[bne_self_eq_false,zo,ZY];refine zd (h (SortSt.mk' general' (pairsOf vs) #[] 7 Z) (Array.Perm.refl _) λi j z g=>?_);rw[pairsOf_size]at g;rw[show i=j by omega];exact zi _
 ·simp only[zz h2];refine zb (x () _ old _ ?_);refine zb (QR (MT (p _ old) (st:=SortSt.mk' kd (pairsOf vs) #[] 7 Z) (Q:=λ_ t=>(AM t).Perm (pairsOf vs)/\failedOf t=Z/\Up rk (AM t) (pairsOf vs).size) ⟨Array.Perm.refl _,rfl,rfl,rfl⟩ (by rw[pairsOf_size];omega) (by rw[pairsOf_size];exact m) λt q1 q2 l=>⟨q1,q2,l⟩) ?_ λ_ _ q=>q);rintro⟨⟨⟩,t⟩ s' ⟨rfl,hp,v,u⟩;dsimp only;refine zb (seqEpoch_at d S (zb (listUpdate_at d S ?_ (hsz2:=f t hp))));rw[v];simp only[bne_self_eq_false,zo,ZY];exact zd (h t hp u)
theorem rV{x:A0}{vs:O A0}{Q:B7}(g:∀(d:B7) (f:O A0->A2->Prop),(∀h' tk,s.heap.objs.size<=h'.objs.size->(∀c o,s.heap.get? c=U o->h'.get? c=U o)->f vs { s with heap:=h',toks:=tk })->A7 (A8 prog w) A.in1 (collect x) f d s)
  (u:2<=vs.length->∀(d:B7) (a:A5) (s':A2),(∀c o,s.heap.get? c=U o->s'.heap.get? c=U o)->∀Q:SortKind->A2->Prop,Q kd s'->A7 (A8 prog w) a (keyKind' vs.toArray) Q d s') (p:∀(a:A5) (s':A2),(∀c o,s.heap.get? c=U o->s'.heap.get? c=U o)->Cf prog w a s' kd rk (pairsOf vs)) (j:vs.length<64)
  (h:∀(l:A1) (h':A6) (tk n:Nat) (st:SortSt),(AM st).Perm (pairsOf vs)->Up rk (AM st) (pairsOf vs).size->s.heap.objs.size<=l->(∀c o,s.heap.get? c=U o->h'.get? c=U o)->h'.get? l=U (seqObj "list" ((AM st).map (·.2)) n)->Q (.ref l) { s with heap:=h',toks:=tk }):
  A7 (A8 prog w) A (call (.builtin "sorted") [x]) Q E s:=by
 refine Kn kind_sorted plain_sorted entry_sorted (args_sorted1 _) ?_;unfold Builtin.«sorted»;refine zb (m:=checkCount "sorted" 1 1 _) (zd (zb (g _ _ λh1 tk t ext=>zb (yb ?_))));have b:(h1.push (seqObj "list" vs.toArray 0)).get? h1.objs.size=U (seqObj "list" vs.toArray 0):=zw _ rfl;have old:∀s':A2,FA h1.objs.size { s with heap:=h1.push (seqObj "list" vs.toArray 0),toks:=tk } s'->∀c o,s.heap.get? c=U o->s'.heap.get? c=U o:=λs' q c o e=>
  q c o (zI (zD (ext c o e))) (ze _ (ext c o e))
 refine zb (qS (QU slot_list_sort ⟨_,b,rfl⟩ entry_list_sort (LF b (λq s' o=>u q _ _ s' (old s' o)) (λs' o=>p _ s' (old s' o)) j λst q1 q2=>⟨_,rfl,zd ⟨_,rfl,?_⟩⟩) (args_list_sort _)));obtain⟨n,i⟩:=sortedHeap_at (out:=(AM st).map (·.2)) b;refine h h1.objs.size _ tk n st q1 q2 t (λc o e=>?_) i;have hb:=zD (ext c o e);rw[sortedHeap_old (zI hb) (by rw[qr];exact qV hb)];exact ze _ (ext c o e)
end
end S1
namespace S1
open L2
theorem Oz(fb:Bool)(x y:A0):keyLt' (tuples' fb) x y=(do
  let xs <-Builtin.List.listItems x
  let ys <-Builtin.List.listItems y
  for ((p,q),i) in (xs.toList.zip ys.toList).zipIdx do
   if !(<-eqBool p q)then return <-oneLt' (fb&&i==0) p q
  return decide (xs.size<ys.size)):=rfl
def Zf:AY->AY->Bool
 |.inl a,.inl b=>decide (a<b)
 |.inr x,.inr y=>decide (x.cps.toList<y.cps.toList)
 |.inl _,.inr _=>true
 |.inr _,.inl _=>false
def T8:AY->AY->Bool
 |.inl _,.inl _=>true
 |.inr _,.inr _=>true
 |_,_=>false
def gQ:O AY->O AY->Bool
 |[],[]=>false
 |[],_::_=>true
 |_::_,[]=>false
 |x::xs,y::ys=>if x=y then gQ xs ys else Zf x y
def Wj:O AY->O AY->Prop
 |x::xs,y::ys=>T8 x y=true/\Wj xs ys
 |_,_=>True
theorem D9{x y:AY}{p q:A0}(hp:lJ x p=true)(c:lJ y q=true)(h:Q (decide (x=y)) s):A7 (A8 prog w) A (eqBool p q) Q E s:=
 (bG prog w).eqBool (a:=x) (b:=y) hp c h
theorem TW{fb:Bool}{x y:AY}{p q:A0}(hs:T8 x y=true)(hp:lJ x p=true)(a:lJ y q=true)(h:Q (Zf x y) s):A7 (A8 prog w) A (oneLt' fb p q) Q E s:=by
 rcases bO hp with⟨i,t,rfl,rfl⟩|⟨z,t,rfl,rfl⟩
 ·rcases bO a with⟨j,u,rfl,rfl⟩|⟨z,u,rfl,rfl⟩
  ·cases fb with
   |true=>exact oneLt_int h
   |false=>
    rw[oneLt'_eq];simp only[zo,ZY];refine zb (show A7 _ _ (AG .Lt (.int i t) (.int j u)) _ _ _ from lt_int ?_);exact jI h
  ·cases hs
 ·rcases bO a with⟨j,u,rfl,rfl⟩|⟨b,u,rfl,rfl⟩
  ·cases hs
  ·cases fb with
   |true=>exact oneLt_str h
   |false=>
    rw[oneLt'_eq];simp only[zo,ZY];refine zb (show A7 _ _ (AG .Lt (.str z t) (.str b u)) _ _ _ from PySem.P.lt_str ?_);exact jI h
def Ks(ks:O AY)(AQ:O A0):Prop:=AI (λk v=>lJ k v=true) ks AQ
def EL:O AY->O AY->Y Bool
 |x::xs,y::ys=>if x=y then EL xs ys else U (Zf x y)
 |_,_=>Z
theorem Oy:∀ks a:O AY,gQ ks a=match EL ks a with|some r=>r|none=>decide (ks.length<a.length)
 |[],[]=>rfl
 |[],_::_=>by simp[gQ,EL]
 |_::_,[]=>rfl
 |x::xs,y::ys=>by
  simp only[gQ,EL];by_cases e:x=y
  ·rw[zl e,zl e,Oy xs ys];simp only[ZE,Nat.add_lt_add_iff_right]
  ·rw[zz e,zz e]
def turn(fb:Bool):(A0×A0)×Nat->Y Bool×Unit->Sem (ForInStep (Y Bool×Unit)):=λx _=>match x with
 |((p,q),i)=>do
  let e <-eqBool p q
  if(!e)=true then do
    let r <-oneLt' (fb&&i==0) p q
    pure (ForInStep.done (U r,sn))
   else pure (ForInStep.yield (Z,sn))
theorem MI(fb:Bool):∀(ks b:O AY) (AQ a:O A0) (i:Nat) (R:Y Bool×Unit->A2->Prop),Ks ks AQ->Ks b a->Wj ks b->R (EL ks b,sn) s->A7 (A8 prog w) A (forIn ((AQ.zip a).zipIdx i) ((Z,sn):Y Bool×Unit) (turn fb)) R E s:=by
 intro ks
 induction ks with
 |nil=>intro b AQ a i R h _ _ h1;cases h;exact zd h1
 |cons x xs f=>
  intro b AQ a i R h h' hs h1;cases h with
  |@cons _ p _ AQ hp g=>
   cases h' with
   |nil=>exact zd h1
   |@cons y q ys a c d=>
    rw[KB,List.zipIdx_cons,kl];refine zb ?_;show A7 _ _ (eqBool p q >>= _) _ _ _;refine zb (D9 hp c ?_);by_cases e:x=y
    ·simp only[e,Ki,JI,zo,ZY];refine zd (f ys AQ a (i+1) R g d hs.2 ?_);simp only[EL,zl e]at h1;exact h1
    ·simp only[e,kA,JS,qk];refine zb (TW hs.1 hp c (zd (zd ?_)));simp only[EL,zz e]at h1;exact h1
theorem oQ{fb:Bool}{c:A1}{i g:AE}{d:O A0}{m:Nat}{b:O AY}(ha:s.heap.get? a=U i)(o:i.data=.seq AQ.toArray n)(p:s.heap.get? c=U g)(l:g.data=.seq d.toArray m)(j:Ks ks AQ)(f:Ks b d)(hs:Wj ks b)(h:Q (gQ ks b) s):A7 (A8 prog w) A (keyLt' (tuples' fb) (.ref a) (.ref c)) Q E s:=by
 rw[Oz];refine zb (listItems_at ha o (zb (listItems_at p l ?_)));have t:AQ.length=ks.length:=(Paired.length j).symm;have q:d.length=b.length:=(Paired.length f).symm;refine zb (MI fb ks b AQ d 0 _ j f hs ?_);rw[Oy]at h;cases e:EL ks b with
 |some r=>rw[e]at h;exact zd h
 |none=>
  rw[e]at h;refine zd ?_;simpa[t,q]using h
theorem ii(x:AY):Zf x x=false:=by
 cases x with
 |inl a=>simp[Zf]
 |inr a=>simp[Zf]
theorem tI{x y z:AY}(h:Zf x y=true)(h':Zf y z=true):Zf x z=true:=by
 cases x<;>cases y<;>cases z<;>simp only[Zf,ZN,zo,reduceCtorEq]at h h' ⊢
 ·omega
 ·exact List.lt_trans h h'
theorem gi{x y:AY}(h:Zf x y=false)(h':Zf y x=false):x=y:=by
 cases x<;>cases y<;>simp only[Zf,JA,Bool.true_eq_false,reduceCtorEq]at h h'
 ·congr 1;omega
 ·rename_i a b;have:=pG (as:=a.cps.toList) (bs:=b.cps.toList) h' h;cases a;cases b;simp only at this;rw[pH.mp this]
theorem zq:∀xs:O AY,gQ xs xs=false
 |[]=>rfl
 |x::xs=>by simp only[gQ,qk];exact zq xs
theorem tu:∀{xs ys zs:O AY},gQ xs ys=true->gQ ys zs=true->gQ xs zs=true
 |[],[],_,h,_=>by cases h
 |[],_::_,[],_,h'=>by cases h'
 |[],_::_,_::_,_,_=>rfl
 |_::_,[],_,h,_=>by cases h
 |_::_,_::_,[],_,h'=>by cases h'
 |x::xs,y::ys,z::zs,h,h'=>by
  simp only[gQ]at h h' ⊢;by_cases e1:x=y
  ·subst e1;rw[zl rfl]at h;by_cases e2:x=z
   ·subst e2;rw[zl rfl]at h' ⊢;exact tu h h'
   ·rw[zz e2]at h' ⊢;exact h'
  ·rw[zz e1]at h;by_cases e2:y=z
   ·subst e2;rw[zz e1];exact h
   ·rw[zz e2]at h';have:=tI h h';rw[zz (λe=>by subst e;rw[ii]at this;cases this)];exact this
theorem zu:∀{xs ys:O AY},gQ xs ys=false->gQ ys xs=false->xs=ys
 |[],[],_,_=>rfl
 |[],_::_,h,_=>by cases h
 |_::_,[],_,h'=>by cases h'
 |x::xs,y::ys,h,h'=>by
  simp only[gQ]at h h';by_cases e:x=y
  ·subst e;rw[zl rfl]at h h';rw[zu h h']
  ·rw[zz e]at h;rw[zz (y8 e)]at h';exact absurd (gi h h') e
def qR(xs ys:O AY):Bool:=!gQ ys xs
theorem wV(a b c:O AY)(h:qR a b=true)(h':qR b c=true):qR a c=true:=by
 unfold qR at *
 simp only[Q3]at *
 cases f:gQ c a with
 |false=>rfl
 |true=>
  cases d:gQ a b with
  |true=>rw[tu f d]at h';cases h'
  |false=>
   have e:=zu d h;subst e;rw[f]at h';cases h'
theorem wW(a b:O AY):(qR a b||qR b a)=true:=by
 unfold qR;cases h:gQ b a with
 |false=>rfl
 |true=>
  cases h':gQ a b with
  |false=>rfl
  |true=>have:=tu h h';rw[zq]at this;cases this
theorem OD{a b:O AY}(h:qR a b=true)(h':qR b a=true):a=b:=by
 unfold qR at *
 simp only[Q3]at *
 exact zu h' h
theorem zx{α:Type}{le:α->α->Prop}(c:∀a b,le a b->le b a->a=b):∀{l l':O α},l.Perm l'->l.Pairwise le->l'.Pairwise le->l=l'
 |[],l',h,_,_=>by rw[nq.mp h]
 |a::l,[],h,_,_=>by cases nw.mp h
 |a::l,b::l',h,p,p'=>by
  have e:a=b:=by
   have ha:a∈b::l':=h.mem_iff.mp (zg ..);have hb:b∈a::l:=h.mem_iff.mpr (zg ..);rcases List.mem_cons.mp ha with h1|h1
   ·exact h1
   ·rcases List.mem_cons.mp hb with h2|h2
    ·exact h2.symm
    ·exact c a b (js p h2) (js p' h1)
  subst e;rw[zx c ((gH a).mp h) (cV.mp p).2 (cV.mp p').2]
def jO(bV:O (O AY)):O (O AY):=bV.mergeSort qR
theorem mY(bV:O (O AY)):(jO bV).Perm bV:=kF ..
theorem zy(bV:O (O AY)):(jO bV).Pairwise (λa b=>qR a b=true):=ka wV wW bV
theorem oO{out:O (O AY)}(hp:out.Perm bV)(hs:out.Pairwise (λa b=>qR a b=true)):out=jO bV:=zx (λ_ _=>OD) (hp.trans (mY bV).symm) hs (zy bV)
def C7(bV:O (O AY))(k:O AY):Nat:=bV.countP λu=>gQ u k
theorem OJ{α:Type}{p q:α->Bool}:∀{l:O α},(∀x∈l,p x=true->q x=true)->(∃x∈l,p x=false/\q x=true)->l.countP p<l.countP q
 |[],_,⟨x,hx,_⟩=>by cases hx
 |a::l,h,⟨x,hx,h1,h2⟩=>by
  have le:l.countP p<=l.countP q:=ma λy b=>h y (zh _ b);rw[pJ,pJ];rcases List.mem_cons.mp hx with rfl|hx
  ·rw[h1,h2];simp;omega
  ·have:=OJ (λy b=>h y (zh _ b)) ⟨x,hx,h1,h2⟩;have ha:=h a (zg ..);cases hp:p a with
   |true=>rw[ha hp];simp;omega
   |false=>simp;omega
theorem Jq{a b:O AY}(ha:a∈bV):decide (C7 bV a<C7 bV b)=gQ a b:=by
 cases h:gQ a b with
 |true=>
  refine Zl (OJ (λu _ c=>tu c h) ⟨a,ha,zq a,h⟩)
 |false=>
  refine ZA (iT.mpr (ma λu _ c=>?_));cases hb:gQ b a with
  |true=>exact tu c hb
  |false=>rw[zu h hb];exact c
def lM(h:A6)(ks:O AY)(v:A0):Prop:=∃(a:A1) (o:AE) (AQ:O A0) (n:Nat),v=.ref a/\h.get? a=U o/\o.cls=.type "tuple" ∧ o.data=.seq AQ.toArray n/\Ks ks AQ
theorem lM.keep{h':A6}(q:lM h ks v)(k:∀c o,h.get? c=U o->h'.get? c=U o):lM h' ks v:=by
 obtain⟨a,o,AQ,n,e,g,c,d,p⟩:=q;exact⟨a,o,AQ,n,e,k _ _ g,c,d,p⟩
theorem b8{k l:AY}(h:lJ k v=true)(h':lJ l v=true):k=l:=by
 rcases bO h with⟨i,t,rfl,rfl⟩|⟨x,t,rfl,rfl⟩
 ·rcases bO h' with⟨j,u,rfl,e⟩|⟨y,u,rfl,e⟩
  ·cases e;rfl
  ·cases e
 ·rcases bO h' with⟨j,u,rfl,e⟩|⟨y,u,rfl,e⟩
  ·cases e
  ·cases e;rfl
theorem Ks.inj:∀{ks a:O AY} {AQ:O A0},Ks ks AQ->Ks a AQ->ks=a
 |_,_,[],h,h'=>by cases h;cases h';rfl
 |_,_,v::AQ,h,h'=>by
  cases h with
  |cons p t=>cases h' with
   |cons p' t'=>rw[b8 p p',Ks.inj t t']
theorem lM.inj{h:A6}{ks i:O AY}{v:A0}(q:lM h ks v)(j:lM h i v):ks=i:=by
 obtain⟨a,o,AQ,n,rfl,g,c,d,p⟩:=q;obtain⟨t,o',l,s,e,b,m,f,p'⟩:=j;cases e;rw[g]at b;cases b;rw[d]at f;injection f with e1 e2;have e3:AQ=l:=by simpa using congrArg nD e1
 subst e3;exact p.inj p'
theorem Jr{f:α->Sem β}:∀(xs:O α) (ys:O β) (Q:O β->A2->Prop),AI (λx y=>∀(c:B7) (a:β->A2->Prop),a y s->A7 (A8 prog w) A (f x) a c s) xs ys->Q ys s->A7 (A8 prog w) A (xs.mapM f) Q E s:=by
 intro xs
 induction xs with
 |nil=>intro ys Q p h;cases p;rw[List.mapM_nil];exact zd h
 |cons x xs b=>
  intro ys Q p q;cases p with
  |cons h t=>
   rw[List.mapM_cons];exact zb (h _ _ (zb (b _ _ t (zd q))))
theorem T9(v:A0):firstOfTuple' v=(do
  if(<-typeOf v) != .type "tuple" then return Z
  return (<-Builtin.List.listItems v)[0]?):=rfl
theorem cw{k:AY}(q:lM s.heap (k::ks) v):∃u,lJ k u=true/\∀(e:B7) (b:Y A0->A2->Prop),b (U u) s->A7 (A8 prog w) A (firstOfTuple' v) b e s:=by
 obtain⟨a,o,AQ,n,rfl,g,c,d,p⟩:=q;cases p with
 |@cons _ u _ AQ hp t=>
  refine⟨u,hp,λe b h=>?_⟩;rw[T9];refine zb (Qb (T :="tuple") ⟨o,g,c⟩ ?_);rw[zz ()];exact zb (listItems_at g d (zd h))
theorem dC{k:AY}(h:lJ k u=true)(b:B7)(a:B7)(q:a (.type (if k.isLeft then "int" else "str")) s):A7 (A8 prog w) A (typeOf u) a b s:=by
 rcases bO h with⟨i,t,rfl,rfl⟩|⟨x,t,rfl,rfl⟩
 ·exact Qb (typeIs_int s i t) q
 ·exact Qb (typeIs_str s x t) q
theorem O1{vs:O A0}{Q:SortKind->A2->Prop}(m:AI (lM s.heap) bV vs)(i:∀k∈bV,k≠[])(D:∀k∈bV,∀l∈bV,Wj k l)(h2:1<=vs.length)(h:Q (tuples' true) s):A7 (A8 prog w) A (keyKind' vs.toArray) Q E s:=by
 have step:∀(bV:O (O AY)) (vs:O A0),AI (lM s.heap) bV vs->(∀k∈bV,k≠[])->∃us:O A0,AI (λv u=>∀(c:B7) (a:Y A0->A2->Prop),a (U u) s->A7 (A8 prog w) A (firstOfTuple' v) a c s) vs us/\AI (λ(k:O AY) u=>∃x r,k=x::r/\lJ x u=true) bV us:=by
  intro bV vs m
  induction m with
  |nil=>intro _;exact⟨[],.nil,.nil⟩
  |@cons k v bV vs q t d=>
   intro i;obtain⟨us,p1,p2⟩:=d λk g=>i k (zh _ g);cases k with
   |nil=>exact absurd S (i _ (zg ..))
   |cons x r=>
    obtain⟨u,f,F⟩:=cw (prog:=prog) (w:=w) (A:=A) q;exact⟨u::us,.cons F p1,.cons ⟨x,r,rfl,f⟩ p2⟩
 obtain⟨us,p1,p2⟩:=step bV vs m i;have y:us.length=vs.length:=(Paired.length p1).symm;have p:∀{l:O A0} {n:O A0},AI (λv u=>∀(c:B7) (a:Y A0->A2->Prop),a (U u) s->A7 (A8 prog w) A (firstOfTuple' v) a c s) l n->AI (λv u=>∀(c:B7) (a:Y A0->A2->Prop),a u s->A7 (A8 prog w) A (firstOfTuple' v) a c s) l (n.map U):=λh=>by
  induction h with
  |nil=>exact .nil
  |cons q t d=>exact .cons q d
 rw[keyKind'_eq,Ya,map_eq_pure_bind];refine zb (zb (Jr vs (us.map U) _ (p p1) (zd ?_)));have o:(us.map U).toArray.all (·.isSome)=true:=by simp
 rw[zl o];refine zb (km ?_);have C:(us.map U).toArray.filterMap id=us.toArray:=by simp
 rw[C,oneTypeOnly'_eq,Ya,map_eq_pure_bind];have ty:∀(bV:O (O AY)) (us:O A0),AI (λ(k:O AY) u=>∃x r,k=x::r/\lJ x u=true) bV us->∃ts:O A0,AI (λu t=>∀(c:B7) (a:B7),a t s->A7 (A8 prog w) A (typeOf u) a c s) us ts/\AI (λ(k:O AY) t=>∃x r,k=x::r/\t=.type (if x.isLeft then "int" else "str")) bV ts:=by
  intro bV us hp
  induction hp with
  |nil=>exact⟨[],.nil,.nil⟩
  |@cons k u bV us q t d=>
   obtain⟨ts,q1,q2⟩:=d;obtain⟨x,r,rfl,hx⟩:=q;exact⟨_::ts,.cons (λc a h=>dC hx c a h) q1,.cons ⟨x,r,rfl,rfl⟩ q2⟩
 obtain⟨ts,q1,q2⟩:=ty bV us p2;refine zb (zb (zb (Jr us ts _ q1 (zd ?_))));have lt:ts.length=vs.length:=by rw[<-Paired.length q1,y]
 cases q2 with
 |nil=>simp at lt;omega
 |@cons H G I j h0 B=>
  obtain⟨b,r,rfl,rfl⟩:=h0;have same:∀t∈j,t=Value.type (if b.isLeft then "int" else "str"):=by
   have z:∀(bV:O (O AY)) (ts:O A0),AI (λ(k:O AY) t=>∃x r,k=x::r/\t=Value.type (if x.isLeft then "int" else "str")) bV ts->(∀k∈bV,Wj (b::r) k)->∀t∈ts,t=Value.type (if b.isLeft then "int" else "str"):=by
    intro bV ts hp
    induction hp with
    |nil=>intro _ t e;cases e
    |@cons k t bV ts q _ d=>
     intro hs u f;rcases List.mem_cons.mp f with rfl|f
     ·obtain⟨x,J,rfl,rfl⟩:=q;have:=(hs _ (zg ..)).1;cases b<;>cases x<;>first|rfl|cases this
     ·exact d (λk g=>hs k (zh _ g)) u f
   exact z _ _ B λk g=>D _ (zg ..) k (zh _ g)
  have e0:(Value.type (if b.isLeft then "int" else "str")::j).toArray[0]?=U (Value.type (if b.isLeft then "int" else "str")):=by simp
  have e1:((Value.type (if b.isLeft then "int" else "str")::j).toArray.all λx=>x==Value.type (if b.isLeft then "int" else "str"))=true:=by
   simp only[List.all_toArray,qf];intro t e;rcases List.mem_cons.mp e with rfl|e
   ·simp
   ·rw[same t e];simp
  rw[e0];simp only[e1,qk];refine zd (zd ?_);have e2:((U (Value.type (if b.isLeft then "int" else "str"))).any λx=>x !=Value.type "tuple")=true:=by
   cases b with
   |inl _=>exact(by decide:((U (Value.type "int")).any λx=>x !=Value.type "tuple")=true)
   |inr _=>exact(by decide:((U (Value.type "str")).any λx=>x !=Value.type "tuple")=true)
  rw[e2];exact h
def BA(bV:O (O AY))(vs:O A0)(v:A0):O AY:=match (vs.zip bV).find? (λp=>p.1==v)with
 |some p=>p.2
 |none=>[]
theorem oR{h:A6}:∀{bV:O (O AY)} {vs:O A0},AI (lM h) bV vs->∀v∈vs,BA bV vs v∈bV/\lM h (BA bV vs v) v
 |_,_,.nil,v,hv=>by cases hv
 |k::bV,u::vs,.cons q t,v,hv=>by
  unfold BA;rw[KB,ky];by_cases e:u=v
  ·subst e;simp only[beq_self_eq_true];exact⟨zg ..,q⟩
  ·have e':(u==v)=false:=by simpa using e
   simp only[e'];have b:v∈vs:=by
    rcases List.mem_cons.mp hv with h|h
    ·exact absurd h.symm e
    ·exact h
   have a:=oR t v b;exact⟨zh _ a.1,a.2⟩
theorem Hr{h:A6}:∀{bV:O (O AY)} {vs:O A0},AI (lM h) bV vs->∀(K:A0->O AY),(∀v∈vs,lM h (K v) v)->vs.map K=bV
 |_,_,.nil,_,_=>rfl
 |k::bV,v::vs,.cons q t,K,hK=>by
  rw[zt,(hK v (zg ..)).inj q,Hr t K λu a=>hK u (zh _ a)]
theorem Cp{h:A6}:∀{vs:O A0} {K:A0->O AY},(∀v∈vs,lM h (K v) v)->AI (lM h) (vs.map K) vs
 |[],_,_=>.nil
 |v::vs,K,hK=>.cons (hK v (zg ..)) (Cp λu a=>hK u (zh _ a))
theorem Ua{vs:O A0}(f:AI (lM s.heap) bV vs)(m:∀k∈bV,∀l∈bV,Wj k l):Cf prog w A s (tuples' true) (λv=>C7 bV (BA bV vs v)) (pairsOf vs):=by
 intro E p q Q hp b h;rw[pairsOf_toList]at hp b;obtain⟨i,t1⟩:=oR f p.1 (mem_zip_self hp).2;obtain⟨j,t2⟩:=oR f q.1 (mem_zip_self b).2;rw[Jq i]at h;have x:=m _ i _ j;obtain⟨a,o,AQ,n,e,g,c,d,k⟩:=t1;obtain⟨C,o',D,B,e',t,z,u,y⟩:=t2;rw[e,e'];exact oQ g d t u k y x h
theorem Ub{vs:O A0}(a:AI (lM h) bV vs){xs:Array Keyed}(hp:xs.Perm (pairsOf vs))(n:Up (λv=>C7 bV (BA bV vs v)) xs (pairsOf vs).size):AI (lM h) (jO bV) (xs.map (·.2)).toList:=by
 have d:xs.toList.Perm (vs.zip vs):=by rw[<-pairsOf_toList];exact db.mp hp
 have b:∀p∈xs.toList,p.1=p.2/\p.1∈vs:=λp q=>mem_zip_self (d.mem_iff.mp q);have e:(xs.map (·.2)).toList=xs.toList.map (·.1):=by
  rw[YU];exact QQ λp q=>(b p q).1.symm
 have pv:(xs.toList.map (·.1)).Perm vs:=by
  have:=d.map pF;rwa [pK (zi _)]at this
 have key:jO bV=(xs.toList.map (·.1)).map (BA bV vs):=by
  refine(oO ?_ ?_).symm
  ·have:=pv.map (BA bV vs);rwa [Hr a _ λv q=>(oR a v q).2]at this
  ·rw[dc];intro i j hi f m;have g:i<xs.size:=by simpa using hi
   have c:j<xs.size:=by simpa using f
   have u:=n i j (jS m) (by rw[<-hp.size_eq];exact c);unfold at_ at u;rw[getElem?_pos xs i g,getElem?_pos xs j c]at u;have l:=(oR a xs[j].1 (b xs[j] (by simp)).2).1;simp only[ya,mv];unfold qR;rw[<-Jq l,ZA (iT.mpr u)];rfl
 rw[key,e];refine Cp λv q=>(oR a v ?_).2;exact pv.mem_iff.mp q
end S1
namespace P1
open L2 S1
theorem J7{l:A1}{o:AE}{T:String}{vs:O A0}{Q:O A0->A2->Prop}(ho:s.heap.get? l=U o)(b:o.cls=.type T)(d:T ="list" ∨ T ="tuple")(f:o.data=.seq vs.toArray n)(g:vs.length<=AA)(h:∀h' tk,s.heap.objs.size<=h'.objs.size->(∀c o,s.heap.get? c=U o->h'.get? c=U o)->Q vs { s with heap:=h',toks:=tk }):A7 (A8 prog w) A (collect (.ref l)) Q E s:=by
 unfold collect;refine zb (wpAny_runValue (kr entry_proto_collect' ?_));show A7 _ _ (newList [] >>= λq=>again (.builtin "list.__iadd__" ⟨[q,.ref l],[]⟩)) _ _ s;refine zb (yb (zd ⟨Code.quiet_builtin _ (by decide +kernel),kr entry_list_iadd' ?_⟩));show A7 _ _ (Builtin.List.listExtendWith (.ref s.heap.objs.size) (.ref l) (.ref s.heap.objs.size)) _ _ _;unfold Builtin.List.listExtendWith;have g1:(s.heap.push (seqObj "list" #[] 0)).get? l=U o:=ze _ ho;refine zb (Qb (T:=T) ⟨o,g1,b⟩ ?_);have a:(Value.type T==Value.type "list" || Value.type T==Value.type "tuple")=true:=by rcases d with rfl|rfl<;>decide
 rw[zl (by rw[Bool.or_assoc,a];simp)];refine zb (listItems_at g1 f (zb (listItems_at (xs:=#[]) (n:=0) (zw _ S) S ?_)));rw[zz (by simp)];have g2:(s.heap.push (seqObj "list" #[] 0)).get? s.heap.objs.size=U (seqObj "list" #[] 0):=zw _ rfl;refine zb (listUpdate_at (xs:=#[]) (n:=0) g2 S (zd ?_) (QY _) (by show(#[]++vs.toArray).size<=AA+1;simp only[K0,zC,j0];omega));show A7 (A8 prog w) A (load s.heap.objs.size >>= _) Q E _;refine zb (yT (get?_update_seq g2 _) ?_);show A7 _ _ (pure ((#[]:Array A0)++vs.toArray).toList) Q E _;rw[show((#[]:Array A0)++vs.toArray).toList=vs by simp];refine zd (h _ s.toks ?_ λc i e=>?_)
 ·rw[pI,size_push'];exact Kj _
 ·rw[kc _ _ _ _ (zI (zD e))];exact ze _ e
def II:Dt->Y AY
 |.int i=>U (.inl i)
 |.str x=>U (.inr x)
 |_=>Z
def Ht:O Dt->Y (O AY)
 |[]=>U []
 |d::ds=>(II d).bind λk=>(Ht ds).bind λks=>U (k::ks)
def yE:Dt->Y (O AY)
 |.tup ds=>Ht ds
 |_=>Z
def wX:O Dt->Y (O (O AY))
 |[]=>U []
 |d::ds=>(yE d).bind λk=>(wX ds).bind λks=>U (k::ks)
def dK:AY->Dt
 |.inl i=>.int i
 |.inr x=>.str x
def BE(ks:O AY):Dt:=.tup (ks.map dK)
theorem T2{k:AY}(h:II d=U k):d=dK k:=by
 cases d<;>cases h<;>rfl
theorem Uc:∀{ds:O Dt} {ks:O AY},Ht ds=U ks->ds=ks.map dK
 |[],_,h=>by cases h;rfl
 |d::ds,_,h=>by
  obtain⟨k,e1,h⟩:=AT h;obtain⟨ks,e2,h⟩:=AT h;cases h;rw[zt,T2 e1,Uc e2]
theorem vR(h:yE d=U ks):d=BE ks:=by
 cases d with
 |tup ds=>exact congrArg Dt.tup (Uc h)
 |_=>cases h
theorem Gu:∀{ds:O Dt} {bV:O (O AY)},wX ds=U bV->ds=bV.map BE
 |[],_,h=>by cases h;rfl
 |d::ds,_,h=>by
  obtain⟨k,e1,h⟩:=AT h;obtain⟨ks,e2,h⟩:=AT h;cases h;rw[zt,vR e1,Gu e2]
theorem r8{k:AY}{v:V}(h:AW K H (dK k) v):v=kV k:=by
 cases k with
 |inl i=>exact(show v=.int i by simpa only[dK,AW]using h)
 |inr x=>exact(show v=.str x/\x.length<=AA by simpa only[dK,AW]using h).1
theorem vU{K:B1}{H:Hp}:∀{ks:O AY} {vs:O V},aK K H (ks.map dK) vs->vs=ks.map kV
 |[],_,h=>by simp only[JJ,aK]at h;exact h
 |k::ks,_,h=>by
  simp only[zt,aK]at h;obtain⟨v,r,rfl,h1,h2⟩:=h;rw[r8 h1,vU h2,zt]
theorem Zg(X:Cx):∀{us:O A0},AX (ks.map kV) us->Ks ks us:=by
 induction ks with
 |nil=>intro us h;cases h;exact .nil
 |cons k ks a=>
  intro us h;cases h with
  |cons r t=>exact .cons (JK (P:=X.prog) (w:=X.w) r) (a t)
theorem uz{AN:O (A1×AE)}{σ:L2.St}{H:Hp}{s:A2}(I:AU X AN σ H s):∀{bV:O (O AY)} {vs:O V} {AQ:O A0},aK X.K H (bV.map BE) vs->AX vs AQ->AI (lM s.heap) bV AQ
 |[],_,_,h,r=>by
  simp only[JJ,aK]at h;subst h;cases r;exact .nil
 |k::bV,_,_,h,r=>by
  simp only[zt,aK]at h;obtain⟨v,vs,rfl,h1,h2⟩:=h;cases r with
  |cons f e=>
   refine .cons ?_ (uz I h2 e);simp only[BE,AW]at h1;obtain⟨a,i,rfl,sq,rs⟩:=h1;obtain⟨AQ,b,⟨o,g,c,n,d⟩,_⟩:=I.tuple sq;cases f;rw[vU rs]at b;exact⟨a,o,AQ,n,rfl,g,c,d,Zg X b⟩
theorem Gv{AN:O (A1×AE)}{σ:L2.St}{H:Hp}{s:A2}(I:AU X AN σ H s){bV:O (O AY)}{vs:O V}{AQ:O A0}(h:aK X.K H (bV.map BE) vs)(r:AX vs AQ):∀{lss:O (O AY)} {out:O A0},AI (lM s.heap) lss out->(∀u∈out,u∈AQ)->∃zs,AX zs out/\aK X.K H (lss.map BE) zs
 |_,_,.nil,_=>⟨[],.nil,aK.nil⟩
 |l::lss,u::out,.cons q t,hm=>by
  obtain⟨zs,z1,z2⟩:=Gv I h r t λx hx=>hm x (zh _ hx);have f:∀(bV:O (O AY)) (vs:O V) (AQ:O A0),aK X.K H (bV.map BE) vs->AX vs AQ->u∈AQ->∃v,At v u/\AW X.K H (BE l) v:=by
   intro bV
   induction bV with
   |nil=>
    intro vs AQ h r a;simp only[JJ,aK]at h;subst h;cases r;cases a
   |cons k bV g=>
    intro vs AQ h r a;simp only[zt,aK]at h;obtain⟨v,vs,rfl,h1,h2⟩:=h;cases r with
    |@cons _ i _ _ b d=>
     rcases List.mem_cons.mp a with rfl|a
     ·have e:k=l:=by
       have:=uz I (bV:=[k]) (vs:=[v]) (AQ:=[u]) (by simp only[zt,JJ];exact aK.cons h1 aK.nil) (.cons b .nil);cases this with
       |cons c _=>exact c.inj q
      subst e;exact⟨v,b,h1⟩
     ·exact g vs _ h2 d a
  obtain⟨v,b,h1⟩:=f bV vs AQ h r (hm u (zg ..));exact⟨v::zs,.cons b z1,by rw[zt];exact aK.cons h1 z2⟩
def Ip(k l:O AY):Bool:=((k.zip l).all λp=>T8 p.1 p.2)
theorem zA:∀{k l:O AY},Ip k l=true->Wj k l
 |[],_,_=>by simp[Wj]
 |_::_,[],_=>by simp[Wj]
 |x::k,y::l,h=>by
  unfold Ip at h;rw[KB,k6,ZH]at h;exact⟨h.1,zA h.2⟩
def Ir(bV:O (O AY)):Bool:=decide (bV.length<64)&&(bV.all (λk=>!k.isEmpty)&&bV.all λk=>bV.all λl=>Ip k l)
def zB:O Bx->Y Bx
 |[b]=>(zm b).bind λds=>(wX ds).bind λbV=>if Ir bV=true then U (.o ((jO bV).map BE))else Z
 |_=>Z
theorem QT{v:V}(h:bf K H b v)(e:zm b=U ds):∃a vs,v=.ref a/\(yS K H a vs\/BR K H a vs)/\aK K H ds vs:=by
 cases b with
 |z d=>
  cases d<;>first|(cases e;done)|skip
  ·cases e;simp only[bf,AW]at h;obtain⟨a,vs,e,q,r⟩:=h;exact⟨a,vs,e,.inr q,r⟩
  ·cases e;simp only[bf,AW]at h;obtain⟨a,vs,e,q,r⟩:=h;exact⟨a,vs,e,.inl q.sq,r⟩
 |l c=>cases e;obtain⟨a,vs,e,q,r⟩:=h;exact⟨a,vs,e,.inl (.inl q),r⟩
 |o c=>cases e;obtain⟨a,vs,e,q,r⟩:=h;exact⟨a,vs,e,.inl (.inl (.inl q)),r⟩
 |n _=>cases e
 |m _ _=>cases e
theorem Ud:oH X (.builtin "sorted") zB:=by
 intro AN s σ H xs us Q I L h;obtain⟨bs,c,rb,e,q⟩:=h;unfold zB at e;split at e
 ·rename_i b;obtain⟨ds,E,e⟩:=AT e;obtain⟨bV,ek,e⟩:=AT e;split at e
  ·rename_i hs;cases e;simp only[Ir,ZH,ZN,qf,Q3]at hs;obtain⟨M,N,A⟩:=hs;obtain⟨v,rfl,r1⟩:=BI rb;obtain⟨p,vs,rfl,sq,rs⟩:=QT r1 E;obtain⟨u,rfl,P⟩:=BB L;cases P;have C:=Gu ek;subst C;have F:∃(AQ:O A0) (o:AE) (T:String) (n:Nat),AX vs AQ/\s.heap.get? p=U o/\o.cls=.type T/\(T ="list" ∨ T ="tuple")/\o.data=.seq AQ.toArray n/\vs.length<=AA:=by
    rcases sq with sq|sq
    ·obtain⟨AQ,f,pl,j⟩:=I.list sq;obtain⟨o,g,c,n,d⟩:=pl.isList;exact⟨AQ,o,_,n,f,g,c,.inl rfl,d,j⟩
    ·obtain⟨AQ,f,⟨o,g,c,n,d⟩,j⟩:=I.tuple sq;exact⟨AQ,o,_,n,f,g,c,.inr rfl,d,j⟩
   obtain⟨AQ,o,T,n,f,g,D,W,hd,j⟩:=F;have a2:AQ.length=bV.length:=by rw[<-f.length,rs.length,zk]
   have tv:=uz I rs f;refine rV (kd:=tuples' true) (rk:=λv=>C7 bV (BA bV AQ v)) (vs:=AQ) (λE' Q' w=>J7 g D W hd (by rw[<-f.length];exact j) w)
    (λh2 E' K s' k Q' w=>O1 (Paired.imp' (λ_ _ z=>lM.keep z k) tv) (λk t=>by have:=N k t;cases k with|nil=>cases this|cons _ _=>exact jr _ _) (λk t l i=>zA (A k t l i)) () w)
    (λK s' k=>Ua (Paired.imp' (λ_ _ z=>lM.keep z k) tv) λk t l i=>zA (A k t l i)) () λl h' tk m st hp B i ext G=>?_
   have out:=Ub tv hp B;have mem:∀u∈((AM st).map (·.2)).toList,u∈AQ:=λu y=>by
    rw[YU]at y;obtain⟨pr,J,rfl⟩:=List.mem_map.mp y;have a1:pr∈AQ.zip AQ:=by rw[<-pairsOf_toList];exact(db.mp hp).mem_iff.mp J
    have:=mem_zip_self a1;rw[<-this.1];exact this.2
   obtain⟨zs,z1,z2⟩:=Gv I rs f out mem;have a0:zs.length=bV.length:=by rw[z2.length,zk,(mY bV).length_eq]
   have x:H l=Z:=I.hok.fresh i;refine⟨.ref l,_,I.laid (t':=tk) (a:=l) (o:=.lst zs) ext i ⟨by rw[a0];exact jS (Z3 M ()),_,m,z1,?_⟩,rfl,q _ _ (bL x) (λa ea=>by cases ea;exact x) ⟨l,zs,rfl,bK,z2.kp (.of (bL x))⟩⟩;rw[G]
  ·cases e
 ·cases e
end P1
namespace S6
def vI(xs:Array Nat):Prop:=∀i j,i<j->j<xs.size->xs.getD i 0<xs.getD j 0
theorem DS{xs:Array Nat}{k a b:Nat}(h:k<xs.size):xs.getD k a=xs.getD k b:=by simp[eu,h]
theorem my{xs:Array Nat}{k a:Nat}(h:xs[k]?=U j):k<xs.size/\xs.getD k a=j:=by
 have b:k<xs.size:=by
  by_cases q:k<xs.size
  ·exact q
  ·rw[ke ()]at h;cases h
 refine⟨b,?_⟩;rw[ZO b]at h;cases h;simp[eu,b]
theorem bu{xs:Array Nat}{k a:Nat}(b:k<xs.size)(h:xs.getD k a=j):xs[k]?=U j:=by
 rw[ZO b];simp[eu,b]at h;rw[h]
theorem J8(xs:Array Nat)(j:Nat)(a:vI xs):∀(fuel lo hi:Nat),lo<=hi->hi<=xs.size->hi-lo<=fuel->(∀k,k<lo->xs.getD k 0<j)->(∀k,hi<=k->k<xs.size->j<=xs.getD k 0) →
  bn.go xs j fuel lo hi<=xs.size/\(∀k,k<bn.go xs j fuel lo hi->xs.getD k 0<j)/\∀k,bn.go xs j fuel lo hi<=k->k<xs.size->j<=xs.getD k 0
 |0,lo,hi,h1,h2,h3,h4,h5=>by
  have e:lo=hi:=by omega
  subst e;unfold bn.go;exact⟨h2,h4,h5⟩
 |fuel+1,lo,hi,h1,h2,h3,h4,h5=>by
  unfold bn.go;by_cases d:lo<hi
  ·rw[zl d];dsimp only;have c:(lo+hi) / 2<xs.size:=by omega
   rw[DS (b:=0) c];by_cases q:xs.getD ((lo+hi) / 2) 0<j
   ·rw[zl q];refine J8 xs j a fuel _ hi () h2 () (λk f=>?_) h5;by_cases e:k=(lo+hi) / 2
    ·rw[e];exact q
    ·exact en (a k _ () c) q
   ·rw[zz q];refine J8 xs j a fuel lo _ () () () h4 λk f hs=>?_;by_cases e:k=(lo+hi) / 2
    ·rw[e];omega
    ·have:=a _ k (by omega:(lo+hi) / 2<k) hs;omega
  ·rw[zz d];have e:lo=hi:=by omega
   subst e;exact⟨h2,h4,h5⟩
theorem BV{xs:Array Nat}(a:vI xs)(j:Nat):bn xs j<=xs.size/\(∀k,k<bn xs j->xs.getD k 0<j)/\∀k,bn xs j<=k->k<xs.size->j<=xs.getD k 0:=
 J8 xs j a xs.size 0 xs.size (QY _) (zi _) () (λk h=>absurd h (ku _)) λk h h'=>absurd h' ()
theorem DX{xs:Array Nat}(b:vI xs)(h:xs[i]?=U j):bn xs j=i:=by
 obtain⟨h1,h2,c⟩:=BV b j;obtain⟨hi,e⟩:=my (a:=0) h;rcases h9 (bn xs j) i with q|q|q
 ·have:=c _ (zi _) ();have:=b _ _ q hi;omega
 ·exact q
 ·have:=h2 _ q;omega
theorem WV{b:Source}{Q:Nat->A2->Prop}(a:n≠0)(h:∀i d,i<n->Q i { s with drawn:=d }):A7 M A (choose b n) Q E s:=
 λc p e=>⟨a,h _ _ (ew _ (Nat.pos_of_ne_zero a))⟩
theorem QW{α:Type}:∀{xs:O α} {i:Nat} (hi:i<xs.length),(xs[i]::xs.eraseIdx i).Perm xs
 |x::xs,0,_=>List.Perm.refl _
 |x::xs,i+1,h=>by
  rw[List.eraseIdx_cons_succ,List.getElem_cons_succ];exact(List.Perm.swap _ _ _).trans ((QW (xs:=xs) (i:=i) (by simpa using h)).cons x)
theorem az:∀(n:Nat) (xs:O α) (s:A2) (Q:O α->A2->Prop),xs.length=n->(∀ys d,ys.Perm xs->Q ys { s with drawn:=d })->A7 M A (drawOrder n xs) Q E s:=by
 intro n
 induction n with
 |zero=>
  intro xs s Q a h;cases xs with
  |nil=>
   unfold drawOrder;exact zd (h [] s.drawn (List.Perm.refl _))
  |cons x xs=>simp at a
 |succ n c=>
  intro xs s Q a h;cases xs with
  |nil=>simp at a
  |cons x xs=>
   unfold drawOrder;refine zb (WV (by simp) λi d hi=>?_);have e:(x::xs)[i]?=U (x::xs)[i]:=by simp[hi]
   rw[e];dsimp only;refine zb (c ((x::xs).eraseIdx i) _ _ (by rw[mL,zl hi];simp at a ⊢;omega) λys b hp=>zd ?_);exact h _ b ((List.Perm.cons _ hp).trans (QW hi))
theorem Zh{α:Type}(next:Nat->Nat):∀(n k:Nat) (xs:O α) (out:Array α),xs.length=n->(pickOrder.go next n k xs out).toList.Perm (out.toList++xs)
 |0,k,[],out,_=>by unfold pickOrder.go;simp
 |n+1,k,x::xs,out,hl=>by
  unfold pickOrder.go;have hi:next k%(x::xs).length<(x::xs).length:=ew _ (by simp);have e:(x::xs)[next k%(x::xs).length]?=U (x::xs)[next k%(x::xs).length]:=by rw[z5 hi]
  rw[e];dsimp only;refine(Zh next n (k+1) _ _ (by rw[mL,zl hi];simp at hl ⊢;omega)).trans ?_;rw[oC,qv];exact(List.Perm.refl _).append (QW hi)
theorem nv(next:Nat->Nat)(xs:Array α):(pickOrder next xs).toList.Perm xs.toList:=by
 have:=Zh next xs.size 0 xs.toList #[] (by simp);simpa[pickOrder]using this
structure Wk (w:World) (h:Heap) (a:Addr) (es:Array (Int×Value)) (ep:Nat) (t:SetTable):Prop where
 at_:∃o,h.get? a=some o/\o.cls=.type "set" ∧ o.data=.set es ep t
 fit:t.fits es.size=true
 led:w.params.followText "set-order"=false->t.led=true
 non:(1<es.size->t.plain=false)\/vI t.place
theorem Wk.keep{h':A6}{es:Array (Int×A0)}(x:Wk w h a es ep t)(k:∀o,h.get? a=U o->h'.get? a=U o):Wk w h' a es ep t:=
 ⟨let ⟨o,e,r⟩:=x.at_;⟨o,k o e,r⟩,x.fit,x.led,x.non⟩
def It(h:A6)(it a:A1)(first:A0)(i n ep:Nat):Prop:=∃o,h.get? it=U o/\o.cls=.type "set_iterator" ∧ o.data=.fields #[first,.int (i:Int) 0,.ref a,.int (n:Int) 0,.int (ep:Int) 0]
theorem It.keep{h':A6}{f:A0}(x:It h it a f i n ep)(k:∀o,h.get? it=U o->h'.get? it=U o):It h' it a f i n ep:=
 let ⟨o,e,r⟩:=x;⟨o,k o e,r⟩
theorem It.ty{f:A0}(x:It s.heap it a f i n ep):s.TypeIs (.ref it) "set_iterator":=let ⟨o,e,c,_⟩:=x;⟨o,e,c⟩
theorem j6:Slot "set_iterator" "__next__" "set_iterator.__next__":=
 .of (owner :="set_iterator") (n :="__next__") (by rw[typeLookup_type,builtinLookup_eq_fast];kernel_rfl) (by decide +kernel) (by decide +kernel) (by decide +kernel)
  (by first|exact .inl (by decide +kernel)|exact .inr (by decide +kernel)) (by rw[isSubtype_type];kernel_rfl)
theorem DY:Slot "set_iterator" "__iter__" "set_iterator.__iter__":=
 .of (owner :="set_iterator") (n :="__iter__") (by rw[typeLookup_type,builtinLookup_eq_fast];kernel_rfl) (by decide +kernel) (by decide +kernel) (by decide +kernel)
  (by first|exact .inl (by decide +kernel)|exact .inr (by decide +kernel)) (by rw[isSubtype_type];kernel_rfl)
theorem MP:entryFor table "set_iterator.__next__"=U Builtin.«set_iterator.__next__»:=entryFor_of_tree (by kernel_rfl)
theorem Iu:entryFor table "set.__iter__"=U Builtin.«frozenset.__iter__»:=entryFor_alias (id' :="frozenset.__iter__") (by kernel_rfl) S (by decide +kernel) (by kernel_rfl)
theorem M4:entryFor table "set_iterator.__iter__"=U Builtin.«dict_keyiterator.__iter__»:=entryFor_alias (id' :="dict_keyiterator.__iter__") (by kernel_rfl) S (by decide +kernel) (by kernel_rfl)
theorem OW:Manifest.owners.lookup (String.ofList "rotareti_tes".toList.reverse)=U Manifest.sig_set_iterator:=by kernel_rfl
theorem QX(a:A0):argsOk "set_iterator.__next__" ⟨[a],[]⟩:=by
 unfold argsOk;rw[signature?_of (id :="set_iterator.__next__") (n :="__txen__".toList) (o :="rotareti_tes".toList) (by kernel_rfl) OW];kernel_rfl
theorem QZ(a:A0):argsOk "set_iterator.__iter__" ⟨[a],[]⟩:=by
 unfold argsOk;rw[signature?_of (id :="set_iterator.__iter__") (n :="__reti__".toList) (o :="rotareti_tes".toList) (by kernel_rfl) OW];kernel_rfl
section
variable{es:Array (Int×A0)}
theorem Js{first:A0}{Q:Y A0->A2->Prop}(d:It s.heap it a first i es.size ep)(g:Wk w s.heap a es ep t)
  (h:A7 (A8 prog w) A.in1 (if let .int slot _:=first then(do
    match <-setNext a slot.toNat (i:Int).toNat (ep:Int).toNat with
    |some (x,next)=>
     setField (.ref it) 0 (rawInt next)
     setField (.ref it) 1 (rawInt ((i:Int)+1))
     ret x
    |none=>setField (.ref it) 2 .none;raiseNew (<-newExc (.type "StopIteration") []))
   else(do
    let U places <-seqItems? first|unsupported "internal:set_iterator"
    match places[(i:Int).toNat]? with
    |some (.int place _)=>
     let x <-setNextDrawn a place.toNat (ep:Int).toNat
     setField (.ref it) 1 (rawInt ((i:Int)+1))
     ret x
    |some _=>unsupported "internal:set_iterator"
    |none=>setField (.ref it) 0 (rawInt 0);setField (.ref it) 2 .none;raiseNew (<-newExc (.type "StopIteration") []))) (λf s'=>∃v,f=.done (.ret v)/\Q (U v) s') (λe s'=>s'.TypeIs e "StopIteration" ∧ Q Z s') s):A7 (A8 prog w) A (pyNext (.ref it)) Q E s:=by
 obtain⟨o,ho,q,m⟩:=id d;obtain⟨u,j,p,l⟩:=g.at_;unfold pyNext;refine zb (wpAny_attempt (JY (name:=Str.ofString "__next__") d.ty j6 (QU j6 d.ty MP ?_ (QX _))));unfold Builtin.«set_iterator.__next__»;refine zb (zd ?_);refine zb (wpAny_fieldsOf ho m ?_);show A7 _ _ (setEntries a >>= _) _ _ s;refine zb (wpAny_setEntries_of j l g.fit ?_);rw[zz (by simp)];refine QR h (λf s' c=>?_) λe s' c=>?_
 ·obtain⟨v,rfl,n⟩:=c;exact⟨v,rfl,zd n⟩
 ·refine zb (ki (T :="StopIteration") (b:=true) c.1 isSubtype_stop ?_);exact zd c.2
theorem Zi{hp:A6}{Q:Y A0->A2->Prop}(d:A.handled=Z)(h:∀h',(∀b o,hp.get? b=U o->h'.get? b=U o)->Q Z { s with heap:=h' }):
  A7 (A8 prog w) A.in1 (do raiseNew (<-newExc (.type "StopIteration") [])) (λ(c:Fin) s'=>∃v,c=.done (.ret v)/\Q (U v) s') (λe s'=>s'.TypeIs e "StopIteration" ∧ Q Z s') { s with heap:=hp }:=by
 refine zb ?_;simp only[newExc,newTuple];refine zb (ZZ ?_ (by size_fits));refine zb (m:=firstArgMember _ _) (wpAny_of_eq (a:=Value.none) (by first|rfl|(simp only[firstArgMember];rfl)) ?_);refine ZZ ?_ (by size_fits);simp only[raiseNew];refine zb (wpAny_handled ?_);rw[show A.in1.handled=Z from d];refine zb (zd (wpAny_throw ⟨⟨_,zw _ rfl,rfl⟩,?_⟩));exact h _ λb o e=>ze _ (ze _ e)
theorem It.put{f:A0}(d:It h it a f i n ep)(x:A0):It (h.update it (Obj.mapFields (·.setIfInBounds 0 x))) it a x i n ep:=by
 obtain⟨o,ho,c,b⟩:=d;exact⟨_,k8 _ ho (Obj.isFreed_of_fields (y3 b _)),(Obj.cls_mapFields ..).trans c,by rw[y3 b];simp⟩
theorem It.step{f:A0}(d:It h it a f i n ep):It (h.update it (Obj.mapFields (·.setIfInBounds 1 (rawInt ((i:Int)+1))))) it a f (i+1) n ep:=by
 obtain⟨o,ho,c,b⟩:=d;exact⟨_,k8 _ ho (Obj.isFreed_of_fields (y3 b _)),(Obj.cls_mapFields ..).trans c,by rw[y3 b];simp[rawInt]⟩
theorem It.field{f:A0}{k:Nat}{x:A0}{Q:Unit->A2->Prop}(d:It s.heap it a f i n ep)(b:k<5)(h:Q sn { s with heap:=s.heap.update it (Obj.mapFields (·.setIfInBounds k x)) }):A7 (A8 prog w) A (setField (.ref it) k x) Q E s:=by
 obtain⟨o,ho,e,c⟩:=d;exact wpAny_setField ho c (by simpa using b) h
theorem vV{f:AE->AE}{b:A1}{o:AE}(hb:b≠it)(e:h.get? b=U o):(h.update it f).get? b=U o:=by rw[kc _ _ _ _ hb];exact e
theorem PR{slot next:Nat}{x:A0}{Q:Y A0->A2->Prop}(c:It s.heap it a (.int (slot:Int) 0) i es.size ep)(g:Wk w s.heap a es ep t)
  (l:∀{f:A5} {j:B7} {d:Y (A0×Nat)->A2->Prop},d (U (x,next)) s->A7 (A8 prog w) f (setNext a slot i ep) d j s)
  (h:∀h',It h' it a (.int (next:Int) 0) (i+1) es.size ep->(∀b o,b≠it->s.heap.get? b=U o->h'.get? b=U o)->Q (U x) { s with heap:=h' }):A7 (A8 prog w) A (pyNext (.ref it)) Q E s:=by
 refine Js c g ?_;show A7 _ _ (setNext a slot i ep >>= _) _ _ s;refine zb (l ?_);refine zb (c.field () ?_);refine zb ((c.put _).field (s:={ s with heap:=_ }) () ?_);exact zd ⟨x,rfl,h _ ((c.put _).step) λb o hb e=>vV hb (vV hb e)⟩
theorem J9{slot:Nat}{Q:Y A0->A2->Prop}(m:A.handled=Z)(d:It s.heap it a (.int (slot:Int) 0) i es.size ep)(g:Wk w s.heap a es ep t)
  (l:∀{f:A5} {j:B7} {c:Y (A0×Nat)->A2->Prop},c Z s->A7 (A8 prog w) f (setNext a slot i ep) c j s)
  (h:∀h',(∀b o,b≠it->s.heap.get? b=U o->h'.get? b=U o)->Q Z { s with heap:=h' }):A7 (A8 prog w) A (pyNext (.ref it)) Q E s:=by
 refine Js d g ?_;show A7 _ _ (setNext a slot i ep >>= _) _ _ s;refine zb (l ?_);refine zb (d.field () (Zi m λh' k=>h h' λb o hb e=>k b o (vV hb e)))
theorem tm{tp:A1}{g:AE}{c:Nat}{x:Int×A0}{Q:Y A0->A2->Prop}(f:It s.heap it a (.ref tp) i es.size ep)(d:Wk w s.heap a es ep t)(q:s.heap.get? tp=U g)(u:g.data=.seq (pl.map λ(k:Nat)=>rawInt (k:Int)).toArray c)(n:pl[i]?=U j)(hx:es[j]?=U x)(h:∀h',It h' it a (.ref tp) (i+1) es.size ep->(∀b o,b≠it->s.heap.get? b=U o->h'.get? b=U o)->Q (U x.2) { s with heap:=h' }):A7 (A8 prog w) A (pyNext (.ref it)) Q E s:=by
 refine Js f d ?_;show A7 _ _ (seqItems? (.ref tp) >>= _) _ _ s;refine zb (m:=seqItems? (.ref tp)) ?_;unfold seqItems?;refine zb (yT q ?_);rw[u];refine zd ?_;dsimp only;rw[KW,show((pl.map λ(k:Nat)=>rawInt (k:Int)).toArray)[i]?=U (rawInt (j:Int)) by simp[n]];show A7 _ _ (setNextDrawn a j ep >>= _) _ _ s;obtain⟨y,l,v,p⟩:=d.at_;refine zb (m:=setNextDrawn a j ep) ?_;unfold setNextDrawn;refine zb (Q2 l p d.fit ?_);dsimp only;rw[zz (by simp),hx];refine zd ?_;refine zb (f.field () ?_);exact zd ⟨x.2,rfl,h _ f.step λb o hb e=>vV hb e⟩
theorem Ue{tp:A1}{f:AE}{c:Nat}{Q:Y A0->A2->Prop}(p:A.handled=Z)(d:It s.heap it a (.ref tp) i es.size ep)(l:Wk w s.heap a es ep t)(j:s.heap.get? tp=U f)(n:f.data=.seq (pl.map λ(k:Nat)=>rawInt (k:Int)).toArray c)(g:pl[i]?=Z)(h:∀h',(∀b o,b≠it->s.heap.get? b=U o->h'.get? b=U o)->Q Z { s with heap:=h' }):A7 (A8 prog w) A (pyNext (.ref it)) Q E s:=by
 refine Js d l ?_;show A7 _ _ (seqItems? (.ref tp) >>= _) _ _ s;refine zb (m:=seqItems? (.ref tp)) ?_;unfold seqItems?;refine zb (yT j ?_);rw[n];refine zd ?_;dsimp only;rw[KW,show((pl.map λ(k:Nat)=>rawInt (k:Int)).toArray)[i]?=Z by simpa using g];refine zb (d.field () ?_);refine zb ((d.put _).field (s:={ s with heap:=_ }) () (Zi p λh' k=>h h' λb o hb e=>k b o (vV hb (vV hb e))))
theorem Ai(h:Q (w.params.followText "set-order") s):A7 (A8 prog w) A setsByText Q E s:=by
 unfold setsByText;exact zb (wpAny_askSetting (zd h))
theorem Q0{f:A0}{Q:B7}(b:It s.heap it a f i n ep)(h:Q (.ref it) s):A7 (A8 prog w) A (pyIter (.ref it)) Q E s:=by
 refine wpAny_pyIter_slot b.ty DY (QU DY b.ty M4 ?_ (QZ _));show A7 _ _ (ret (.ref it)) _ _ s;exact zd ⟨_,rfl,"set_iterator", _,b.ty,j6.lookup,h⟩
def Q5(w:A4)(a:A1)(ep:Nat)(es:Array (Int×A0)):O A0:=(pickOrder (w.params.setOrder a ep) es).toList.map (·.2)
theorem Gw:(Q5 w a ep es).Perm (es.toList.map (·.2)):=(nv _ _).map _
theorem O2{slot:Nat}{Q:Y (A0×Nat)->A2->Prop}(f:w.params.followText "set-order"=true)(b:Wk w s.heap a es ep t)(h:Q (((Q5 w a ep es)[i]?).map λv=>(v,slot)) s):A7 (A8 prog w) A (setNext a slot i ep) Q E s:=by
 obtain⟨j,c,g,d⟩:=b.at_;unfold setNext;refine zb (Q2 c d b.fit (zb (Ai ?_)));rw[f];simp only[↓reduceIte,bne_self_eq_false,zo];refine zb (m:=setWalk a) ?_;unfold setWalk;refine zb (Q2 c d b.fit (zb (Ai ?_)));rw[f];simp only[↓reduceIte];refine zb (wpAny_askSetting (zd (zd ?_)));have e:(pickOrder (w.params.setOrder a ep) es)[i]?.map (λe=>(e.2,slot))=((Q5 w a ep es)[i]?).map λv=>(v,slot):=by
  unfold Q5;rw[Zp,rm,qh];rfl
 rw[<-e]at h;exact h
theorem Xb(p:A.handled=Z)(j:w.params.followText "set-order"=true)(m:a≠it)(c:es.size<=AA):Walks prog w A it [it,a] [it] es.size (λi v=>(Q5 w a ep es)[i]?=U v) (λi h=>It h it a (.int 0 0) i es.size ep/\Wk w h a es ep t) where
 sub:=λb hb=>by simp at hb;simp[hb]
 frame:=λ_ _ _ st g=>⟨st.1.keep λo e=>g it (by simp) o e,st.2.keep λo e=>g a (by simp) o e⟩
 item:=λi s Q E hi st d=>by
  have n:(Q5 w a ep es).length=es.size:=by rw[Gw.length_eq];simp
  obtain⟨v,f⟩:∃v,(Q5 w a ep es)[i]?=U v:=⟨(Q5 w a ep es)[i]'(),by rw[z5]⟩;refine PR (slot:=0) (next:=0) (x:=v) st.1 st.2 (λ{A' E' Q'} hq=>O2 j st.2 (by rw[f];exact hq)) λh' l k=>?_;exact d v h' s.toks f ⟨l,st.2.keep λo e=>k a o m e⟩ λb o hb e=>k b o (λx=>hb (by simp[x])) e
 done:=λs Q E st d=>by
  have n:(Q5 w a ep es).length=es.size:=by rw[Gw.length_eq];simp
  refine J9 (slot:=0) p st.1 st.2 (λ{A' E' Q'} hq=>O2 j st.2 (by rw[QI ()];exact hq)) λh' k=>?_;exact d h' s.toks λb o hb e=>k b o (λx=>hb (by simp[x])) e
 self:=λ_ _ _ _ st d=>Q0 st.1 d
def FU(pl:O Nat)(es:Array (Int×A0)):O A0:=pl.filterMap λj=>es[j]?.map (·.2)
theorem tq(h:pl.Perm (cd es.size)):(FU pl es).Perm (es.toList.map (·.2)):=by
 refine(h.filterMap _).trans ?_;rw[show(cd es.size).filterMap (λj=>es[j]?.map (·.2))=((cd es.size).filterMap λj=>es[j]?).map (·.2) by rw[List.map_filterMap],filterMap_getElem?_range]
theorem Ug:∀{pl:O Nat},(∀j∈pl,j<es.size)->∀(i:Nat) (j:Nat),pl[i]?=U j->(FU pl es)[i]?=es[j]?.map (·.2)
 |[],_,_,_,h=>by simp at h
 |k::pl,hb,i,j,h=>by
  have a:=hb k (zg ..);have e:FU (k::pl) es=es[k].2::FU pl es:=by simp[FU,a]
  rw[e];cases i with
  |zero=>cases(show k=j by simpa using h);simp[a]
  |succ i=>rw[qc];exact Ug (λj b=>hb j (zh _ b)) i j (by simpa using h)
theorem Xc{tp:A1}(u:A.handled=Z)(n:a≠it)(p:tp≠it)(hp:pl.Perm (cd es.size)):Walks prog w A it [it,a,tp] [it] es.size (λi v=>(FU pl es)[i]?=U v)
  (λi h=>It h it a (.ref tp) i es.size ep/\Wk w h a es ep t/\∃d c,h.get? tp=U d/\d.data=.seq (pl.map λ(k:Nat)=>rawInt (k:Int)).toArray c) where
 sub:=λb hb=>by simp at hb;simp[hb]
 frame:=λ_ _ _ st l=>⟨st.1.keep λo e=>l it (by simp) o e,st.2.1.keep λo e=>l a (by simp) o e,let ⟨d,c,e,r⟩:=st.2.2;⟨d,c,l tp (by simp) d e,r⟩⟩
 item:=λi s Q E hi st f=>by
  obtain⟨d,c,e1,e2⟩:=st.2.2;have q:pl.length=es.size:=by rw[hp.length_eq];simp
  have hb:∀j∈pl,j<es.size:=λj g=>List.mem_range.mp (hp.mem_iff.mp g);have g:pl[i]?=U (pl[i]'()):=by rw[z5]
  have hx:es[pl[i]'()]?=U (es[pl[i]'()]'(hb _ (K2 _))):=by rw[ZO]
  refine tm st.1 st.2.1 e1 e2 g hx λh' m k=>?_;exact f _ h' s.toks (by rw[Ug hb i _ g,hx];rfl) ⟨m,st.2.1.keep λo e=>k a o n e,d,c,k tp d p e1,e2⟩ λb o hb e=>k b o (λx=>hb (by simp[x])) e
 done:=λs Q E st f=>by
  obtain⟨d,c,e1,e2⟩:=st.2.2;have q:pl.length=es.size:=by rw[hp.length_eq];simp
  refine Ue u st.1 st.2.1 e1 e2 (by rw[QI ()]) λh' k=>?_;exact f h' s.toks λb o hb e=>k b o (λx=>hb (by simp[x])) e
 self:=λ_ _ _ _ st f=>Q0 st.1 f
def yF(t:SetTable)(i:Nat):Nat:=if i=0 then 0 else t.place.getD (i-1) 0+1
theorem nL{P:Y (A0×Nat)->Prop}{r:Y (A0×Nat)}(hp:t.place.size=es.size)(d:vI t.place)(hi:i<=es.size)
  (e:r=match es[bn t.place (yF t i)]?,t.place[bn t.place (yF t i)]? with
   |some (_,x),U j=>U (x,j+1)
   |_,_=>Z) (h:P (((es.toList.map (·.2))[i]?).map λv=>(v,yF t (i+1)))):P r:=by
 subst e;have hb:bn t.place (yF t i)=i:=by
  obtain⟨b1,b2,a⟩:=BV d (yF t i);generalize bn t.place (yF t i)=b at *
  unfold yF at b2 a;by_cases h0:i=0
  ·subst h0;rcases Nat.eq_zero_or_pos b with q|q
   ·exact q
   ·exact absurd (b2 0 q) (ku _)
  ·rw[zz h0]at b2 a;rcases h9 b i with q|q|q
   ·have:=a (i-1) () ();omega
   ·exact q
   ·have:=b2 i q;have:=d (i-1) i () ();omega
 rw[hb];have e2:yF t (i+1)=t.place.getD i 0+1:=by unfold yF;rw[zz (Nat.succ_ne_zero i)];rfl
 rw[e2]at h;by_cases q:i<es.size
 ·have c:i<t.place.size:=by omega
  rw[ZO q,ZO c];have e3:t.place.getD i 0=t.place[i]:=by simp[eu,c]
  rw[e3,Zp,qh,ZO q]at h;exact h
 ·rw[ke ()];rw[Zp,qh,ke ()]at h;exact h
theorem Ka{Q:Y (A0×Nat)->A2->Prop}(d:w.params.followText "set-order"=false)(c:Wk w s.heap a es ep t)(l:(!t.plain&&decide (es.size>1))=false)(m:vI t.place)(hi:i<=es.size)(h:Q (((es.toList.map (·.2))[i]?).map λv=>(v,yF t (i+1))) s):A7 (A8 prog w) A (setNext a (yF t i) i ep) Q E s:=by
 obtain⟨o,f,n,g⟩:=c.at_;have hp:t.place.size=es.size:=by
  have:=c.fit;simp only[dz,ZH,beq_iff_eq]at this;exact this.1
 unfold setNext;refine zb (Q2 f g c.fit (zb (Ai ?_)));rw[d];simp only[zo,↓reduceIte];split
 ·rename_i b;have b:(!t.plain&&decide (es.size>1))=true:=b;rw[l]at b;cases b
 ·have j:A7 (A8 prog w) A (if(!t.led&&!es.isEmpty)=true then unsupported "set:maker-not-led" else pure PUnit.unit) (λ_ s'=>s'=s) E s:=by
   rw[c.led d];exact zd rfl
  refine zb (QR j (λ_ s' e=>?_) λ_ _ x=>x);subst e;refine zd ?_;exact nL (P:=λr=>Q r s') hp m hi S h
theorem Uh(p:A.handled=Z)(j:w.params.followText "set-order"=false)(d:(!t.plain&&decide (es.size>1))=false)(l:vI t.place)(n:a≠it):Walks prog w A it [it,a] [it] es.size (λi v=>(es.toList.map (·.2))[i]?=U v) (λi h=>It h it a (.int (yF t i:Nat) 0) i es.size ep/\Wk w h a es ep t) where
 sub:=λb hb=>by simp at hb;simp[hb]
 frame:=λ_ _ _ st g=>⟨st.1.keep λo e=>g it (by simp) o e,st.2.keep λo e=>g a (by simp) o e⟩
 item:=λi s Q E hi st c=>by
  obtain⟨v,f⟩:∃v,(es.toList.map (·.2))[i]?=U v:=⟨(es.toList.map (·.2))[i]'(by simpa using hi),by rw[z5]⟩;refine PR (x:=v) st.1 st.2 (λ{A' E' Q'} hq=>Ka j st.2 d l (jS hi) (by rw[f];exact hq)) λh' m k=>?_;exact c v h' s.toks f ⟨m,st.2.keep λo e=>k a o n e⟩ λb o hb e=>k b o (λx=>hb (by simp[x])) e
 done:=λs Q E st c=>by
  refine J9 p st.1 st.2 (λ{A' E' Q'} hq=>Ka j st.2 d l (zi _) (by rw[QI (by simp)];exact hq)) λh' k=>?_;exact c h' s.toks λb o hb e=>k b o (λx=>hb (by simp[x])) e
 self:=λ_ _ _ _ st c=>Q0 st.1 c
theorem fg(c:Wk w s.heap a es ep t)(D:es.size<=AA){Q:B7}
  (h:∀(it:A1) (h':A6) (d:Drawn) (fp:O A1) (St:Nat->A6->Prop) (I:O A0),I.Perm (es.toList.map (·.2))->(∀p:A5,p.handled=Z->Walks prog w p it fp [it] es.size (λi v=>I[i]?=U v) St)->St 0 h'->s.heap.objs.size<=it->it<h'.objs.size →
   (∀b∈fp,b=a\/s.heap.objs.size<=b)->(∀b∈fp,b<h'.objs.size)->(∀b o,s.heap.get? b=U o->h'.get? b=U o)->Q (.ref it) { s with heap:=h',drawn:=d }):A7 (A8 prog w) A (pyIter (.ref a)) Q E s:=by
 obtain⟨L,f,P,l⟩:=id c.at_;have J:s.TypeIs (.ref a) "set":=⟨L,f,P⟩;have y:a<s.heap.objs.size:=zD f;refine wpAny_pyIter_slot J F.slot_set_iter (QU F.slot_set_iter J Iu ?_ (F.args_set_iter_1 _));show A7 _ _ (Builtin.Frozenset.sizeOf a >>= _) _ _ s;refine zb (m:=Builtin.Frozenset.sizeOf a) (zb (wpAny_setEntries_of f l c.fit (zd ?_)));have B:A7 (A8 prog w) A.in1 (setDrawn a) (λb s'=>s'=s/\b=(!(w.params.followText "set-order")&&(!t.plain&&decide (es.size>1)))) E s:=by
  unfold setDrawn;exact zb (Q2 f l c.fit (zb (Ai (zd ⟨rfl,rfl⟩))))
 refine zb (QR B (λb s' e=>?_) λ_ _ x=>x);obtain⟨rfl,rfl⟩:=e;dsimp only;by_cases g:w.params.followText "set-order"=true
 ·rw[g];simp only[JI,ko,zo,ZY];refine zb (zd ?_);refine zb (m:=setEpoch a) (wpAny_setEpoch_of f l c.fit ?_);refine zb (ZZ (zd ⟨_,rfl,"set_iterator", _,⟨_,zw _ rfl,rfl⟩,j6.lookup,?_⟩));have:=h s'.heap.objs.size (s'.heap.push { cls:=.type "set_iterator",data:=.fields #[.int 0 0,.int 0 0,.ref a,.int es.size 0,.int ep 0] }) s'.drawn [s'.heap.objs.size,a] _ _ Gw (λp n=>Xb n g (t:=t) (ep:=ep) (zI y) D)
   ⟨⟨_,zw _ rfl,rfl,rfl⟩,c.keep λo e=>ze _ e⟩ (zi _) (by rw[qr];exact qA _) (λb hb=>by simp at hb;rcases hb with rfl|rfl;exact .inr (zi _);exact .inl S)
   (λb hb=>by simp at hb;rw[qr];rcases hb with rfl|rfl;exact qA _;exact qV y) λb o e=>ze _ e
  exact this
 ·have g:w.params.followText "set-order"=false:=by simpa using g
  rw[g];simp only[JS,ye];cases B:(!t.plain&&decide (es.size>1))with
  |false=>
   have M:vI t.place:=by
    rcases c.non with q|q
    ·have hs:es.size<=1:=by
      rcases Nat.lt_or_ge 1 es.size with z|z
      ·rw[q z]at B;simp at B;omega
      ·exact z
     have hp:t.place.size=es.size:=by
      have:=c.fit;simp only[dz,ZH,beq_iff_eq]at this;exact this.1
     intro i j h1 h2;omega
    ·exact q
   rw[zz ()];refine zb (zd ?_);refine zb (m:=setEpoch a) (wpAny_setEpoch_of f l c.fit ?_);refine zb (ZZ (zd ⟨_,rfl,"set_iterator", _,⟨_,zw _ rfl,rfl⟩,j6.lookup,?_⟩));have:=h s'.heap.objs.size (s'.heap.push { cls:=.type "set_iterator",data:=.fields #[.int 0 0,.int 0 0,.ref a,.int es.size 0,.int ep 0] }) s'.drawn [s'.heap.objs.size,a] _ _ (List.Perm.refl _) (λp n=>Uh n g B M (t:=t) (ep:=ep) (zI y))
    ⟨⟨_,zw _ rfl,rfl,rfl⟩,c.keep λo e=>ze _ e⟩ (zi _) (by rw[qr];exact qA _) (λb hb=>by simp at hb;rcases hb with rfl|rfl;exact .inr (zi _);exact .inl S)
    (λb hb=>by simp at hb;rw[qr];rcases hb with rfl|rfl;exact qA _;exact qV y) λb o e=>ze _ e
   exact this
  |true=>
   rw[zl rfl];refine zb (az _ _ _ _ (by simp) λpl d hp=>?_);refine zb (wpAny_newTuple ?_ (by rw[zk,hp.length_eq,KU];exact D));refine zb (m:=setEpoch a) (wpAny_setEpoch_of (ze _ f) l c.fit ?_);refine zb (ZZ (zd ⟨_,rfl,"set_iterator", _,⟨_,zw _ rfl,rfl⟩,j6.lookup,?_⟩));generalize C:s'.heap.push { cls:=.type "tuple",data:=.seq (pl.map λ(k:Nat)=>rawInt (k:Int)).toArray }=G;have u:G.objs.size=s'.heap.objs.size+1:=by rw[<-C,qr]
   have N:G.get? s'.heap.objs.size=U { cls:=.type "tuple",data:=.seq (pl.map λ(k:Nat)=>rawInt (k:Int)).toArray }:=by rw[<-C];exact zw _ rfl
   have H:∀b o,s'.heap.get? b=U o->G.get? b=U o:=λb o e=>by rw[<-C];exact ze _ e
   have K:a<G.objs.size:=by rw[u];exact qV y
   have:=h G.objs.size (G.push { cls:=.type "set_iterator",data:=.fields #[.ref s'.heap.objs.size,.int 0 0,.ref a,.int es.size 0,.int ep 0] }) d [G.objs.size,a,s'.heap.objs.size] _ _ (tq hp) (λp n=>Xc n (t:=t) (ep:=ep) (tp:=s'.heap.objs.size) (zI K) (by rw[u];exact zI (qA _)) hp)
    ⟨⟨_,zw _ rfl,rfl,rfl⟩,c.keep λo e=>ze _ (H _ _ e),_,0,ze _ N,rfl⟩ (by rw[u];exact Kj _) (by rw[qr];exact qA _)
    (λb hb=>by simp at hb;rcases hb with rfl|rfl|rfl;exact .inr (by rw[u];exact Kj _);exact .inl rfl;exact .inr (zi _))
    (λb hb=>by
     simp at hb;rw[qr];rcases hb with rfl|rfl|rfl
     ·exact qA _
     ·exact qV K
     ·exact qV (by rw[u];exact qA _)) λb o e=>ze _ (H _ _ e)
   exact this
end
end S6
namespace S6
open P1
section
variable{es:Array (Int×A0)}
theorem Sj{b:O A0}{a:Array A0}(f:b.length=n)(h:ItemsOf (λi v=>b[i]?=U v) a n):a.toList=b:=by
 apply pf;intro j;by_cases d:j<n
 ·have c:j<a.size:=by rw[h.1];exact d
  have e:a.toList[j]?=U a[j]:=by simp[c]
  rw[e,h.2 j a[j] (by simp[c])]
 ·rw[QI (by rw[ZU,h.1];omega),QI ()]
theorem Hu{Q:O A0->A2->Prop}(B:A.handled=Z)(I:Wk w s.heap a es ep t)(y:es.size<=AA)
  (N:∀f h' d tk,f.Perm (es.toList.map (·.2))->s.heap.objs.size<=h'.objs.size->(∀b o,s.heap.get? b=some o->h'.get? b=some o)->Q f { s with heap:=h',drawn:=d,toks:=tk }):
  A7 (A8 prog w) A (collect (.ref a)) Q E s:=by
 obtain⟨i,g,m,b3⟩:=id I.at_;have hT:s.TypeIs (.ref a) "set":=⟨i,g,m⟩;have C:a<s.heap.objs.size:=zD g;unfold collect;refine zb (wpAny_runValue (kr F.entry_proto_collect ?_));rw[Around.under_plainId F.plain_proto_collect _];show A7 _ A.in1 (newList [] >>= λq=>again (.builtin "list.__iadd__" ⟨[q,.ref a],[]⟩)) _ _ s;refine zb (ZZ (zd ⟨plainId_quiet F.plain_list_iadd _,kr F.entry_list_iadd ?_⟩));rw[Around.under_plainId F.plain_list_iadd _];show A7 _ A.in1 (Builtin.List.listExtendWith (.ref s.heap.objs.size) (.ref a) (.ref s.heap.objs.size)) _ _ _;unfold Builtin.List.listExtendWith;generalize n:(s.heap.push { cls:=.type "list",data:=.seq ([]:O A0).toArray })=H;have h:∀b o,s.heap.get? b=some o->H.get? b=some o:=λb o e=>by rw[<-n];exact ze _ e
 have v:H.objs.size=s.heap.objs.size+1:=by rw[<-n,qr]
 have X:H.get? s.heap.objs.size=some (seqObj "list" #[] 0):=by rw[<-n];exact zw _ rfl
 have a2:Wk w H a es ep t:=I.keep λo e=>h a o e;refine zb (Qb (T :="set") ⟨i,h _ _ g,m⟩ ?_);have h1:Builtin.List.listSameRef (.ref s.heap.objs.size) (.ref a)=false:=by simp[Builtin.List.listSameRef];exact yA C
 simp only[h1,show(Value.type "set"==Value.type "list")=false by decide,show(Value.type "set"==Value.type "tuple")=false by decide,m9,zo,ZY];refine zb (fg (s:={ s with heap:=H }) a2 y λit G d fp St f hp W a5 a1 b0 P b4 l=>?_);refine zb (qS ?_);unfold Builtin.List.listLengthHint;have p:Shared.TypeIs { s with heap:=G,drawn:=d } (.ref a) "set":=⟨i,l _ _ (h _ _ g),m⟩;refine zb (wpAny_specialOf (T :="set") p F.slot_set_len.lookup ?_)
 wp_delta
 refine zb (ki (T :="set") (b:=true) p (by rw[isSubtype_type];kernel_rfl) ?_);show A7 _ A.in1 (typeOf (Value.ref a) >>= _) _ _ _;refine zb (Qb (T :="set") p (zd ?_));rw[zl ()];show A7 _ A.in1 (Builtin.List.listTouch (Value.ref s.heap.objs.size) >>= λ_=>again (Code.builtin "list.extend.loop" ⟨[Value.ref s.heap.objs.size,Value.ref it,Value.ref s.heap.objs.size],[]⟩)) _ _ _;have u:G.get? s.heap.objs.size=some (seqObj "list" #[] 0):=l _ _ X;unfold Builtin.List.listTouch;refine zb (zb (listUpdate_at u S (listUpdate_at (get?_update_seq u _) S ?_ (by show _<=_;decide) (by show _<=_;decide)) (by show _<=_;decide) (by show _<=_;decide)));have D:s.heap.objs.size∉fp:=λc=>by
  rcases P _ c with e|e
  ·exact yA C e
  ·have e:H.objs.size<=s.heap.objs.size:=e;rw[v]at e;exact absurd e (Nat.not_succ_le_self _)
 have z:=get?_update_seq (get?_update_seq u (λx=>x.push Value.none)) (λx=>x.pop);generalize L:(G.update s.heap.objs.size (Obj.mapSeq λx=>x.push Value.none)).update s.heap.objs.size (Obj.mapSeq λx=>x.pop)=U at z;have keep:∀b,b≠s.heap.objs.size->U.get? b=G.get? b:=λb hb=>by rw[<-L,kc _ _ _ _ hb,kc _ _ _ _ hb]
 have a3:St 0 U:=(W A B).frame 0 G U a5 λb hb o e=>by rw[keep b λx=>D (x▸hb)];exact e
 show A7 _ A.in1 (again _) _ _ { s with heap:=U,drawn:=d };have ho:f.length=es.size:=by rw[hp.length_eq];simp
 refine zd ⟨plainId_quiet F.plain_extend_loop _,codeAny_extend_loopS (W A.in1 B).toS y s.heap.objs.size D _ es.size 0 { s with heap:=U,drawn:=d } #[] _ S (QY _) a3 z (ItemsOf.nil _) λs' a0 c' j J K=>?_⟩;show A7 _ A (load s.heap.objs.size >>= _) _ _ s';refine zb (yT J (zd ?_));show Q a0.toList s';rw[Sj ho K];have key:=N f s'.heap s'.drawn s'.toks hp (jS (zD J)) λb M e=>by
  have hb:=zD e;refine j.heap b M (λc=>?_) ((keep b (zI hb)).trans (l _ _ (h _ _ e)));simp only[Qr,QN,or_false]at c;rcases c with c|c
  ·exact zI hb c
  ·have:H.objs.size<=it:=a1;rw[v,<-c]at this;exact absurd hb (iT.mpr (ov this))
 have e1:s'.gens=s.gens:=j.gens;have e2:s'.os=s.os:=j.os;rw[<-e1,<-e2]at key;exact key
end
theorem Aj{α:Type}[DecidableEq α]:∀{xs ys:O α},xs.Nodup->ys.Nodup->(∀z,z∈xs↔z∈ys)->xs.Perm ys
 |[],ys,_,_,h=>by
  have:ys=[]:=List.eq_nil_iff_forall_not_mem.mpr λz a=>by simpa using(h z).mpr a
  subst this;exact .refl _
 |x::xs,ys,hx,hy,h=>by
  have c:x∈ys:=(h x).mp (zg ..);have b:=bT.mp hx;refine((Aj b.2 (hy.erase x) λz=>?_).cons x).trans (List.perm_cons_erase c).symm;rw[hy.mem_erase_iff];constructor
  ·intro a;exact⟨λe=>b.1 (e▸a),(h z).mp (zh _ a)⟩
  ·intro⟨hn,a⟩;rcases List.mem_cons.mp ((h z).mpr a)with e|e
   ·exact absurd e hn
   ·exact e
theorem uD{R:α->β->Prop}:∀{l l':O β},l'.Perm l->∀{ys:O α},AI R ys l->∃a,a.Perm ys/\AI R a l':=by
 intro l l' hp
 replace hp:=hp.symm
 induction hp with
 |nil=>intro ys h;exact⟨ys,.refl _,h⟩
 |cons x _ g=>intro ys h;cases h with|cons r t=>obtain⟨zs,z1,z2⟩:=g t;exact⟨_::zs,z1.cons _,.cons r z2⟩
 |swap x y l=>intro ys h;cases h with|cons r t=>cases t with|cons c i=>exact⟨_,List.Perm.swap _ _ _,.cons c (.cons r i)⟩
 |trans _ _ b e=>intro ys h;obtain⟨zs,z1,z2⟩:=b h;obtain⟨us,f,d⟩:=e z2;exact⟨us,f.trans z1,d⟩
theorem Kc{R:α->β->Prop}{xs:O α}{us:O β}{ys:O α}{vs:O β}(h:AI R xs us)(k:AI R ys vs):AI R (xs++ys) (us++vs):=by
 induction h with
 |nil=>exact k
 |cons r _ a=>exact .cons r a
theorem gS(t:SetTable)(es:Array (Int×A0))(h:Int)(x:A0):(layNew t es h x).2.1.led=t.led:=by
 unfold layNew;split
 ·dsimp only[oa,oe];generalize dz _ _=b;cases b<;>rfl
 ·rfl
theorem Si(t:SetTable)(es:Array (Int×A0))(n:Nat):(relayAll t es n).2.1.led=t.led/\(t.plain=false->(relayAll t es n).2.1.plain=false):=by
 unfold relayAll;split
 ·rename_i d f e;have a:d.led=t.led/\d.plain=t.plain:=by
   unfold kG nA at e;cases c:cP (cD n-1) (es.map (·.1))with
   |none=>rw[c]at e;cases e
   |some g=>rw[c]at e;cases e;exact⟨rfl,rfl⟩
  dsimp only;generalize (coversAll f es.size&&_)=b;cases b
  ·exact⟨rfl,λ_=>S⟩
  ·exact⟨a.1,λhp=>a.2.trans hp⟩
 ·exact⟨rfl,λ_=>S⟩
def BY(w:A4):AE:={ cls:=.type "set",dict:=Z,data:=.set #[] 0 (.fresh 0 0 (!w.params.followText "set-order")) }
structure Dx (prog:Program) (w:World) (S:Addr) (wr:List Addr) {κ:Type} (C:Heap->List κ->Prop) (P:Nat->Value->Prop) (val:Nat->κ) (n:Nat):Prop where
 keep:∀h h' ys,C h ys->(∀b o,b∉wr->h.get? b=some o->h'.get? b=some o)->C h' ys
 add:∀(A:Around) (E:B7) (s:Shared) (i:Nat) (v:Value) (ys:List κ) (Q:Bool->Shared->Prop),A.units<cLine->i<n->P i v->C s.heap ys->ys.length<=i →
  (∀b h' tk ys',Heap.SameBut S s.heap h'->C h' ys'->(∀z,z∈ys'↔z∈ys\/z=val i)->ys'.length<=i+1->s.toks<=tk->Q b { s with heap:=h',toks:=tk })->wpAny (model prog w) A (setAdd S v) Q E s
section
variable{R:Result->A2->Prop}{I:A1}{wr:O A1}{P:Nat->A0->Prop}{St:Nat->A2->Prop}{C:A6->O κ->Prop}{val:Nat->κ}
theorem w8(W:WalksS prog w A.in1 I fp wr (λa b=>b=a) n P St)(S:A1)(M:S∉fp)(ad:Dx prog w S wr C P val n)(B:A.units+1<cLine):
  ∀(k i:Nat) (s:A2) (ys:O κ),n-i=k->i<=n->St i s->C s.heap ys->(∀z,z∈ys↔∃j,j<i/\z=val j)->ys.length<=i →
   (∀s' d,Moved (S::wr) (λa b=>b=a) s s'->C s'.heap d->(∀z,z∈d↔∃j,j<n/\z=val j)->R (.ok (.ret .none)) s') →
   AF (A8 prog w) A (.builtin "set.update.loop" ⟨[.ref S,.ref I],[]⟩) R s:=by
 have sub:∀b,b∈wr->b∈S::wr:=λb q=>zh _ q;intro k
 induction k with
 |zero=>
  intro i s ys X hi st h f p g;have:i=n:=by omega
  subst this;refine kr F.entry_set_update_loop ?_;rw[Around.under_plainId YY _];show A7 _ A.in1 (pyNext (.ref I) >>= _) _ _ s;refine zb (W.done s _ _ st λs' c=>?_);show A7 _ A.in1 (ret Value.none) _ _ s';exact zd (g s' ys (c.mono sub) (ad.keep _ _ _ h c.heap) f)
 |succ k J=>
  intro i s ys X hi st h f p g;have l:i<n:=by omega
  refine kr F.entry_set_update_loop ?_;rw[Around.under_plainId YY _];show A7 _ A.in1 (pyNext (.ref I) >>= _) _ _ s;refine zb (W.item i s _ _ l st λv s' D Q c=>?_);show A7 _ A.in1 (holding [v] (setAdd S v) >>= _) _ _ s';refine zb (qS (ad.add _ _ s' i v ys _ B l D (ad.keep _ _ _ h c.heap) p λb h' tk d t x y H m=>?_));refine zd ⟨plainId_quiet YY _,J (i+1) _ d () l (W.frame _ s' _ _ Q m λb hb o e=>?_) x (λz=>?_) H λK u E G N=>?_⟩
  ·rw[t.2 b λq=>M (q▸hb)];exact e
  ·rw[y z,f z];constructor
   ·rintro(⟨j,L,e⟩|e)
    ·exact⟨j,by omega,e⟩
    ·exact⟨i,by omega,e⟩
   ·rintro⟨j,L,e⟩;by_cases q:j=i
    ·exact .inr (q▸e)
    ·exact .inl ⟨j,by omega,e⟩
  ·refine g K u (Moved.trans W.gtrans ((c.mono sub).then_heap m λb o hb e=>?_) E) G N;rw[t.2 b λq=>hb (by rw[q];exact zg)];exact e
end
theorem Xd(x:A0){Q₁:B7}(h:Q₁ (.ref s.heap.objs.size) { s with heap:=s.heap.push (BY w) }):
  AF (A8 prog w) A (.call (.builtin "set.__new__") ⟨[.type "set",x],[]⟩) (wants Q₁ E) s:=by
 refine codeAny_of_tree ?_;show A7 _ A.in1 (do checkBuiltinCall "set.__new__" ⟨[.type "set",x],[]⟩;again (.builtin "set.__new__" ⟨[.type "set",x],[]⟩)) _ _ s;refine zb (wpAny_of_eq (F.newCall_set_1 x) (zd ⟨plainId_quiet F.plain_set_new _,kr F.entry_set_new ?_⟩));rw[Around.under_plainId F.plain_set_new _];unfold Builtin.«set.__new__» Builtin.Frozenset.newClass;have a:=sub_set_self;obtain⟨hp,g,d,tk,os⟩:=s;dsimp only
 wp_walk
 refine wpAny_askSetting (zd ?_);dsimp only;simp only[newObj];refine zb (wpAny_alloc (zd ?_));exact zd h
theorem C1:isSubtype (.type "tuple") (.type "set")=pure false:=by rw[isSubtype_type];kernel_rfl
theorem BS:isSubtype (.type "tuple") (.type "frozenset")=pure false:=by rw[isSubtype_type];kernel_rfl
theorem Xe(hU:A.units+60<cLine){T:String}{l:A1}{o:AE}{C:A6->O κ->Prop}{P:Nat->A0->Prop}{val:Nat->κ}{Q:B7}(hh:A.handled=Z)(ho:s.heap.get? l=U o)(a3:o.cls=.type T)(v:T ="list" ∨ T ="tuple")(a5:∀(d:A5) (E':B7) (L:B7) (h0:A6),d.handled=Z->(∀b a,s.heap.get? b=U a->h0.get? b=U a) →
   (∀(h':A6) (St:Nat->A6->Prop),(∀d,d.handled=Z->Walks prog w d h0.objs.size [h0.objs.size,l] [h0.objs.size] n P St)->St 0 h'->(∀b a,h0.get? b=U a->h'.get? b=U a)->L (.ref h0.objs.size) { s with heap:=h' })->A7 (A8 prog w) d (pyIter (.ref l)) L E' { s with heap:=h0 })(ad:Dx prog w s.heap.objs.size [s.heap.objs.size+1] C P val n)(a1:∀h',h'.get? s.heap.objs.size=U (BY w)->(∀b a,s.heap.get? b=U a->h'.get? b=U a)->C h' [])(h:∀(h':A6) (tk:Nat) (ys:O κ),C h' ys->(∀z,z∈ys↔∃j,j<n/\z=val j)->(∀b a,s.heap.get? b=U a->h'.get? b=U a)->Q (.ref s.heap.objs.size) { s with heap:=h',toks:=tk }):
  A7 (A8 prog w) A (call (.type "set") [.ref l]) Q E s:=by
 obtain⟨c,tl,c8⟩:=F.called_set.mro;have d0:=F.called_set.made;have c6:=F.called_set.sub;have X:l<s.heap.objs.size:=zD ho;refine wpAny_call (codeAny_of_tree ?_);show A7 _ _ (callAny (.type "set") _) _ _ _;refine zd ⟨Code.quiet_builtin _ (by decide +kernel),kr F.entry_type_call ?_⟩;rw[Around.under_plain (weight_type_call_type "set" [.ref l] []) rfl];have h1:=F.called_set.notType;have h2:=F.called_set.canCreate;have d2:=F.typeCall_set_1 (.ref l)
 repeat (any_goals (first|assumption|wp_step))
 refine codeAny_mono (Xd (.ref l) (E:=E) (Q₁:=λM J=>M=.ref s.heap.objs.size/\J={ s with heap:=s.heap.push (BY w) }) ⟨rfl,rfl⟩) λr J m=>?_;cases r with
 |error e=>exact m
 |ok fl=>
  cases fl with
  |ret M=>
   obtain⟨rfl,rfl⟩:=m;generalize x:s.heap.push (BY w)=H;have I:H.objs.size=s.heap.objs.size+1:=by rw[<-x,qr]
   have B:H.get? s.heap.objs.size=U (BY w):=by rw[<-x];exact zw _ rfl
   have i:∀b a,s.heap.get? b=U a->H.get? b=U a:=λb a e=>by rw[<-x];exact ze _ e
   have a0:Shared.TypeIs { s with heap:=H } (.ref s.heap.objs.size) "set":=⟨_,B,rfl⟩;have d1:=F.called_set.init.lookup;have c0:=F.called_set.init.bind (.ref s.heap.objs.size)
   repeat (any_goals (first|assumption|wp_step))
   refine codeAny_mono (codeAny_call_builtin (R:=wants (λr f=>r=.none/\∃h' tk ys,f={ s with heap:=h',toks:=tk }/\C h' ys/\(∀z,z∈ys↔∃j,j<n/\z=val j)/\(∀b a,s.heap.get? b=U a->h'.get? b=U a)) E) F.called_set.init.plain F.entry_set_init (check_set_init_1 a0 ?_)) λb0 f t=>?_
   ·have y:Shared.TypeIs { s with heap:=H } (.ref l) T:=⟨o,i _ _ ho,a3⟩;have i1:isSubtype (.type T) (.type "set")=pure false:=by rcases v with rfl|rfl;exact F.sub_list_set;exact C1
    have i2:isSubtype (.type T) (.type "frozenset")=pure false:=by rcases v with rfl|rfl;exact F.sub_list_frozenset;exact BS
    have N:(Value.type T==Value.type "dict")=false:=by rcases v with rfl|rfl<;>decide
    show A7 _ _ (Builtin.«set.__init__» ⟨[.ref s.heap.objs.size,.ref l],[]⟩) _ _ _;have K:∀d:A5,d.handled=Z->d.units+4<cLine->A7 (A8 prog w) d (Builtin.Frozenset.updateFrom "set.__init__" s.heap.objs.size (.ref l)) (λ_ f=>∃h' tk ys,f={ s with heap:=h',toks:=tk }/\C h' ys/\(∀z,z∈ys↔∃j,j<n/\z=val j)/\(∀b a,s.heap.get? b=U a->h'.get? b=U a)) E { s with heap:=H }:=by
     intro d D d3;unfold Builtin.Frozenset.updateFrom Builtin.Frozenset.isAnySet;refine zb (zb (ki y i1 ?_));refine ki y i2 ?_;simp only[zo,ZY];refine zb (Qb y ?_);simp only[N,zo,ZY];refine zb (a5 d _ _ H D i λG St W b4 p=>?_);rw[I]at W;rw[I];have b3:s.heap.objs.size∉[s.heap.objs.size+1,l]:=λq=>by
      simp only[Qr,QN,or_false]at q;rcases q with q|q
      ·exact zI (qA _) q
      ·exact yA X q
     refine zb (wpAny_runValue (w8 (W d.in1 D).toS s.heap.objs.size b3 ad () (n-0) 0 _ [] S (QY _) b4 (a1 G (p _ _ B) λb a e=>p _ _ (i _ _ e)) (λz=>⟨λq=>(by cases q),λ⟨j,q,_⟩=>absurd q (ku _)⟩) (zi _) λs' ys g c1 c2=>?_));refine zd ⟨s'.heap,s'.toks,ys,?_,c1,c2,λb a e=>?_⟩
     ·have e1:s'.gens=s.gens:=g.gens;have e2:s'.os=s.os:=g.os;have e3:s'.drawn=s.drawn:=g.drawn;rw[<-e1,<-e2,<-e3]
     ·have hb:=zD e;refine g.heap b a (λq=>?_) (p _ _ (i _ _ e));simp only[Qr,QN,or_false]at q;rcases q with q|q
      ·exact zI hb q
      ·exact zI (qV hb) q
    have hb:(BY w).data=.set #[] 0 (.fresh 0 0 (!w.params.followText "set-order")):=rfl;unfold Builtin.«set.__init__» noKeywords;generalize b9:Builtin.Frozenset.updateFrom=UF at K ⊢;unfold BY at B
    wp_walk
    refine QR (K _ (by simp[hh]) (by simp;omega)) (λu f q=>?_) λ_ _ q=>q;obtain⟨h',tk,ys,rfl,q⟩:=q;show A7 _ _ (ret Value.none) _ _ _;exact zd ⟨rfl,h',tk,ys,rfl,q⟩
   ·cases b0 with
    |error e=>exact t
    |ok a2=>
     cases a2 with
     |ret r=>
      obtain⟨rfl,h',tk,ys,rfl,c1,c2,c3⟩:=t
      repeat (any_goals (first|assumption|wp_step))
      exact h _ _ _ c1 c2 c3
     |_=>exact False.elim t
  |_=>exact False.elim m
end S6
namespace S6
open PySem
theorem Zj(j:Nat):r9 #[] j=false:=by
 unfold r9;simp
structure Tb (t:SetTable):Prop where
 mask:t.mask=7\/t.mask=31\/t.mask=127
 dum:t.dummies=#[]
 rise:vI t.place
 bd:∀j:Nat,j∈t.place->j<=t.mask
 full:t.place.size<=t.mask
theorem Gx(h:Tb t)(e:t.place[i]?=U j):t.slot j=.live i:=by
 unfold nC;simp only[DX h.rise e,e,beq_self_eq_true,qk]
theorem VZ(h:Tb t)(e:j∉t.place):t.slot j=.empty:=by
 unfold nC;have:(t.place[bn t.place j]?==U j)=false:=by
  cases q:t.place[bn t.place j]? with
  |none=>rfl
  |some x=>
   by_cases hx:x=j
   ·subst hx;exact absurd (mq q) e
   ·simp[hx]
 simp only[this,zo,ZY,h.dum,Zj]
def M5(mask:Nat)(p:SetTable.Probe):SetTable.Probe:=
 if p.more>0 then { p with j:=p.j+1,more:=p.more-1 }else
 { p with j:=(dd mask p.i p.perturb).1,more:=cF mask (dd mask p.i p.perturb).1-(dd mask p.i p.perturb).1,i:=(dd mask p.i p.perturb).1,perturb:=(dd mask p.i p.perturb).2 }
theorem P2(t:SetTable)(p:SetTable.Probe):t.advance p=M5 t.mask p:=rfl
def ES(mask i perturb:Nat):SetTable.Probe:={ j:=i,more:=cF mask i-i,i,perturb,dummy:=Z }
def iU(mask:Nat)(h:Int):Nat->SetTable.Probe
 |0=>ES mask (cb h%(mask+1)) (cb h)
 |n+1=>M5 mask (iU mask h n)
theorem Zk(mask:Nat)(h:Int):∀n,(iU mask h n).dummy=Z
 |0=>rfl
 |n+1=>by
  have:=Zk mask h n;unfold iU M5;split<;>exact this
theorem Ui{t:SetTable}(b:Tb t)(a:Nat->Int)(h:Int):∀(d fuel n:Nat),d<fuel->(∀m,n<=m->m<n+d->∃i,t.place[i]?=U (iU t.mask h m).j/\a i≠h) →
  ((iU t.mask h (n+d)).j∉t.place->da.go t a h fuel (iU t.mask h n)=U (.empty (iU t.mask h (n+d)).j Z)) ∧
  ∀i,t.place[i]?=U (iU t.mask h (n+d)).j->a i=h->da.go t a h fuel (iU t.mask h n)=U (.candidate (iU t.mask h (n+d)).j i (iU t.mask h (n+d+1)))
 |0,fuel+1,n,_,_=>by
  refine⟨λe=>?_,λi e1 e2=>?_⟩
  ·unfold da.go;rw[oh]at e ⊢;rw[VZ b e];simp only[Zk]
  ·unfold da.go;rw[oh]at e1 ⊢;rw[Gx b e1];simp only[e2,beq_self_eq_true,qk,P2];rfl
 |d+1,fuel+1,n,hd,hp=>by
  obtain⟨i,e1,e2⟩:=hp n (zi _) ();have c:=Ui b a h d fuel (n+1) () λm h1 h2=>hp m () ();have e:da.go t a h (fuel+1) (iU t.mask h n)=da.go t a h fuel (iU t.mask h (n+1)):=by
   conv=>lhs;unfold da.go
   rw[Gx b e1];simp only[beq_iff_eq,e2,ZY,P2];rfl
  rw[e,show n+(d+1)=n+1+d by omega];exact c
theorem Xf:∀(xs ys:O Nat),xs.Nodup->(∀x,x∈xs->x∈ys)->xs.length<=ys.length
 |[],_,_,_=>QY _
 |x::xs,ys,hn,hs=>by
  have b:=bT.mp hn;have a:=hs x (zg ..);have:=Xf xs (ys.erase x) b.2 λz c=>(ey (λe:z=x=>b.1 (by rw[<-e];exact c))).mpr (hs z (zh _ c));have:=YI a;have:0<ys.length:=kR a;simp only[ZE];omega
def nx(M i:Nat):Nat:=(i*5+1)%M
def Uj(M:Nat):Nat->Nat->Nat
 |0,i=>i
 |k+1,i=>Uj M k (nx M i)
theorem Jt(M:Nat):∀(a b i:Nat),Uj M (a+b) i=Uj M b (Uj M a i)
 |0,b,i=>by rw[yz];rfl
 |a+1,b,i=>by rw[Nat.succ_add];exact Jt M a b _
theorem UT:(∀r,r<8->∃k,k<8/\Uj 8 k 0=r)/\Uj 8 8 0=0:=by decide +kernel
theorem Y1:(∀r,r<32->∃k,k<32/\Uj 32 k 0=r)/\Uj 32 32 0=0:=by decide +kernel
theorem X1:(∀r,r<128->∃k,k<128/\Uj 128 k 0=r)/\Uj 128 128 0=0:=by decide +kernel
theorem IZ{M:Nat}(h:(∀r,r<M->∃k,k<M/\Uj M k 0=r)/\Uj M M 0=0){r:Nat}(hi:i<M)(c:r<M):∃k,k<M/\Uj M k i=r:=by
 obtain⟨a,ha,rfl⟩:=h.1 i hi;obtain⟨b,hb,rfl⟩:=h.1 r c;by_cases q:a<=b
 ·exact⟨b-a,by omega,by rw[<-Jt,show a+(b-a)=b by omega]⟩
 ·exact⟨M-a+b,by omega,by rw[<-Jt,show a+(M-a+b)=M+b by omega,Jt,h.2]⟩
theorem XN(h:mask=7\/mask=31\/mask=127){r:Nat}(hi:i<mask+1)(a:r<mask+1):∃k,k<mask+1/\Uj (mask+1) k i=r:=by
 rcases h with rfl|rfl|rfl
 ·exact IZ UT hi a
 ·exact IZ Y1 hi a
 ·exact IZ X1 hi a
def lp(mask:Nat)(h:Int):Nat->Nat×Nat
 |0=>(cb h%(mask+1),cb h)
 |l+1=>dd mask (lp mask h l).1 (lp mask h l).2
theorem Kd(mask i:Nat):i<=cF mask i/\cF mask i<=i+9:=by unfold cF;split<;>omega
theorem SI(h:i<=mask):cF mask i<=mask:=by unfold cF;split<;>omega
theorem Ea{mask:Nat}{h:Int}{s i p:Nat}(e:iU mask h s=ES mask i p):∀k,k<=cF mask i-i->iU mask h (s+k)={ ES mask i p with j:=i+k,more:=cF mask i-i-k }
 |0,_=>by rw[oh,e];rfl
 |k+1,hk=>by
  have a:=Ea e k ();show M5 mask (iU mask h (s+k))=_;rw[a];unfold M5;rw[zl (by dsimp only;omega)];rfl
theorem Uk{h:Int}{s p:Nat}(e:iU mask h s=ES mask i p):iU mask h (s+(cF mask i-i)+1)=ES mask (dd mask i p).1 (dd mask i p).2:=by
 show M5 mask (iU mask h (s+(cF mask i-i)))=_;rw[Ea e _ (zi _)];unfold M5;rw[zz (by dsimp only;omega)];rfl
theorem OT(mask:Nat)(h:Int):∀l,∃s,s<=10*l/\iU mask h s=ES mask (lp mask h l).1 (lp mask h l).2
 |0=>⟨0,by omega,rfl⟩
 |l+1=>by
  obtain⟨s,hs,e⟩:=OT mask h l;have:=Kd mask (lp mask h l).1;exact⟨_,by omega,Uk e⟩
theorem f8(mask:Nat)(h:Int):∀l,(lp mask h l).1<mask+1
 |0=>ew _ (jH _)
 |l+1=>ew _ (jH _)
theorem Ul(mask:Nat)(h:Int):∀l,(lp mask h l).2*32 ^ l<=cb h
 |0=>by simp[lp]
 |l+1=>by
  have a:=Ul mask h l;show(lp mask h l).2 / 32*32 ^ (l+1)<=_;have h1:(lp mask h l).2 / 32*32<=(lp mask h l).2:=Nat.div_mul_le_self _ _;have h2:=Nat.mul_le_mul_right (32 ^ l) h1;rw[Nat.pow_succ,n5 (32 ^ l) 32,<-Nat.mul_assoc];exact ZI h2 a
theorem Ta(h:Int):cb h<18446744073709551616:=by
 unfold cb;have h1:h%18446744073709551616<18446744073709551616:=hF _ ();have h2:0<=h%18446744073709551616:=kH _ ();show(h%18446744073709551616).toNat<_;omega
theorem Zm(mask:Nat)(h:Int):∀k,(lp mask h (12+k)).2<32
 |0=>by
  have h1:=Ul mask h 12;have h2:=Ta h;rw[show(32:Nat) ^ 12=1152921504606846976 from rfl]at h1;show(lp mask h 12).2<32;omega
 |k+1=>by
  have:=Zm mask h k;show(lp mask h (12+k)).2 / 32<32;omega
theorem nS(mask:Nat)(h:Int):∀k,(lp mask h (12+k)).1=Uj (mask+1) k (lp mask h 12).1:=by
 have step:∀k,(lp mask h (12+k+1)).1=nx (mask+1) (lp mask h (12+k)).1:=λk=>by
  have:=Zm mask h k;show((lp mask h (12+k)).1*5+1+(lp mask h (12+k)).2 / 32)%(mask+1)=_;rw[show(lp mask h (12+k)).2 / 32=0 by omega];rfl
 have b:∀k i,Uj (mask+1) k (nx (mask+1) i)=nx (mask+1) (Uj (mask+1) k i):=λk=>by
  induction k with
  |zero=>intro i;rfl
  |succ k a=>intro i;exact a _
 intro k
 induction k with
 |zero=>rfl
 |succ k a=>
  rw[show 12+(k+1)=12+k+1 by omega,step,a];exact(b k _).symm
theorem PP(b:mask=7\/mask=31\/mask=127)(h:Int){r:Nat}(a:r<mask+1):∃l,l<mask+13/\(lp mask h l).1=r:=by
 obtain⟨k,c,e⟩:=XN b (f8 mask h 12) a;exact⟨12+k,by omega,by rw[nS,e]⟩
theorem ub(h:Tb t):∃r,r<t.mask+1/\r∉t.place:=by
 by_cases q:∃r,r<t.mask+1/\r∉t.place
 ·exact q
 ·exfalso;have:=Xf (cd (t.mask+1)) t.place.toList YR λx hx=>by
   rw[yY]at hx;by_cases a:x∈t.place
   ·exact eH.mpr a
   ·exact absurd ⟨x,hx,a⟩ q
  rw[KU,ZU]at this;have:=h.full;omega
theorem e7(a:Tb t)(h:Int):∃n,n<10*ca t.mask/\(iU t.mask h n).j∉t.place:=by
 obtain⟨r,b,c⟩:=ub a;obtain⟨l,d,e⟩:=PP a.mask h b;obtain⟨s,hs,e'⟩:=OT t.mask h l;refine⟨s,by unfold ca;omega,?_⟩;rw[e'];show(lp t.mask h l).1∉_;rw[e];exact c
theorem Xg(c:Tb t)(h:Int):∃n,n<10*ca t.mask/\(iU t.mask h n).j∉t.place/\∀m,m<n->(iU t.mask h m).j∈t.place:=by
 obtain⟨n,g,d⟩:=e7 c h;have:∀k,(∃n,n<=k/\(iU t.mask h n).j∉t.place/\∀m,m<n->(iU t.mask h m).j∈t.place)\/∀m,m<=k->(iU t.mask h m).j∈t.place:=λk=>by
  induction k with
  |zero=>
   by_cases q:(iU t.mask h 0).j∈t.place
   ·exact .inr λm a=>by rw[show m=0 by omega];exact q
   ·exact .inl ⟨0,zi _,q,λm a=>absurd a (ku _)⟩
  |succ k b=>
   rcases b with⟨n,h1,h2⟩|b
   ·exact .inl ⟨n,by omega,h2⟩
   ·by_cases q:(iU t.mask h (k+1)).j∈t.place
    ·exact .inr λm a=>by
      by_cases e:m=k+1
      ·rw[e];exact q
      ·exact b m ()
    ·exact .inl ⟨k+1,zi _,q,λm a=>b m ()⟩
 rcases this n with⟨m,h1,h2,f⟩|q
 ·exact⟨m,by omega,h2,f⟩
 ·exact absurd (q n (zi _)) d
theorem gD(xs:Array α)(k:Nat)(a:α):xs.getD k a=xs[k]?.getD a:=by
 by_cases h:k<xs.size
 ·rw[ZO h];simp[eu,h]
 ·rw[ke ()];simp[eu,h]
structure Tok (t:SetTable) (es:Array (Int×Value)):Prop extends Tb t where
 size:t.place.size=es.size
 reach:∀(i j:Nat) e,t.place[i]?=some j->es[i]?=some e->∃n,n<10*ca t.mask/\(iU t.mask e.1 n).j=j/\∀m,m<n->(iU t.mask e.1 m).j∈t.place
theorem Eb(xs:Array α)(p:Nat)(x:α):(bc xs p x).toList=xs.toList.take p++x::xs.toList.drop p:=by
 unfold bc;simp[Array.toList_extract,dw]
theorem Jj{xs:Array α}{p:Nat}(hp:p<=xs.size)(x:α)(i:Nat):(bc xs p x)[i]?=if i<p then xs[i]? else if i=p then U x else xs[i-1]?:=by
 rw[<-qh,Eb,List.getElem?_append];have a:(xs.toList.take p).length=p:=by rw[JP,ZU];omega
 rw[a];by_cases h1:i<p
 ·rw[zl h1,zl h1,List.getElem?_take,zl h1,qh]
 ·rw[zz h1,zz h1];by_cases h2:i=p
  ·rw[zl h2,h2,Nat.sub_self];rfl
  ·rw[zz h2,show i-p=(i-p-1)+1 by omega,qc,ol,qh,show p+(i-p-1)=i-1 by omega]
theorem zF(xs:Array α)(p:Nat)(x:α):(bc xs p x).size=xs.size+1:=by
 rw[<-ZU,Eb,z4,ZE,JP,QO,ZU];omega
theorem Zn{xs:Array α}{p:Nat}{x y:α}:y∈bc xs p x↔y∈xs\/y=x:=by
 rw[<-eH,Eb,kX,Qr,<-eH];constructor
 ·rintro(h|h|h)
  ·exact .inl (ym h)
  ·exact .inr h
  ·exact .inl (yn h)
 ·rintro(h|h)
  ·rw[<-kq p xs.toList,kX]at h;rcases h with h|h
   ·exact .inl h
   ·exact .inr (.inr h)
  ·exact .inr (.inl h)
theorem Um{xs:Array Nat}(c:vI xs)(e:j∉xs):vI (bc xs (bn xs j) j):=by
 obtain⟨h1,h2,g⟩:=BV c j;intro a b d hb;rw[zF]at hb;have ga:∀i,i<xs.size+1->(bc xs (bn xs j) j).getD i 0=if i<bn xs j then xs.getD i 0 else if i=bn xs j then j else xs.getD (i-1) 0:=λi hi=>by
  rw[gD,Jj h1];by_cases q1:i<bn xs j
  ·rw[zl q1,zl q1,<-gD]
  ·rw[zz q1,zz q1];by_cases q2:i=bn xs j
   ·rw[zl q2,zl q2];rfl
   ·rw[zz q2,zz q2,<-gD]
 have gt:∀k,bn xs j<=k->k<xs.size->j<xs.getD k 0:=λk f hs=>by
  have q:=g k f hs;rcases Nat.lt_or_eq_of_le q with q|q
  ·exact q
  ·exact absurd (mq (bu hs q.symm)) e
 rw[ga a (),ga b hb];by_cases a1:a<bn xs j
 ·rw[zl a1];by_cases b1:b<bn xs j
  ·rw[zl b1];exact c a b d ()
  ·rw[zz b1];have:=h2 a a1;by_cases b2:b=bn xs j
   ·rw[zl b2];exact this
   ·rw[zz b2];exact en this (gt _ () ())
 ·rw[zz a1];by_cases a2:a=bn xs j
  ·rw[zl a2,zz (),zz ()];exact gt _ () ()
  ·rw[zz a2,zz (),zz ()];exact c _ _ () ()
theorem hB{es:Array (Int×A0)}(h:Tok t es){d:Int}{x:A0}(w:n<10*ca t.mask)(y:(iU t.mask d n).j∉t.place)(hp:∀m,m<n->(iU t.mask d m).j∈t.place)(o:(iU t.mask d n).j<=t.mask)(hs:es.size+1<=t.mask):
  Tok (t.put (iU t.mask d n).j).1 (bc es (t.put (iU t.mask d n).j).2 (d,x))/\(t.put (iU t.mask d n).j).1.led=t.led/\(t.put (iU t.mask d n).j).1.plain=t.plain/\(t.put (iU t.mask d n).j).1.mask=t.mask:=by
 have v:=h.dum;have s:t.put (iU t.mask d n).j=({ t with place:=bc t.place (bn t.place (iU t.mask d n).j) (iU t.mask d n).j,dummies:=#[] },bn t.place (iU t.mask d n).j):=by
  unfold oa;rw[v];simp only[Zj,zo,ZY]
 rw[s];have l:=h.size;have hb:=(BV h.rise (iU t.mask d n).j).1;refine⟨{ mask:=h.mask,dum:=rfl,rise:=Um h.rise y,bd:=λj u=>?_,full:=?_,size:=?_,reach:=λi j e h1 h2=>?_ },rfl,rfl,rfl⟩
 ·rcases Zn.mp u with q|q
  ·exact h.bd j q
  ·rw[q];exact o
 ·show(bc _ _ _).size<=t.mask;rw[zF];omega
 ·show(bc _ _ _).size=_;rw[zF,zF,l]
 ·have h1:(bc t.place (bn t.place (iU t.mask d n).j) (iU t.mask d n).j)[i]?=U j:=h1;rw[Jj hb]at h1;rw[Jj (by rw[<-l];exact hb)]at h2;have g:∀e':Int×A0,(∃n,n<10*ca t.mask/\(iU t.mask e'.1 n).j=j/\∀m,m<n->(iU t.mask e'.1 m).j∈t.place)->∃f,f<10*ca t.mask/\(iU t.mask e'.1 f).j=j/\∀m,m<f->(iU t.mask e'.1 m).j∈bc t.place (bn t.place (iU t.mask d n).j) (iU t.mask d n).j:=
   λe' ⟨n,a,b,c⟩=>⟨n,a,b,λm p=>Zn.mpr (.inl (c m p))⟩
  by_cases q1:i<bn t.place (iU t.mask d n).j
  ·rw[zl q1]at h1 h2;exact g e (h.reach i j e h1 h2)
  ·rw[zz q1]at h1 h2;by_cases q2:i=bn t.place (iU t.mask d n).j
   ·rw[zl q2]at h1 h2;cases h1;cases h2;exact g (d,x) ⟨n,w,rfl,hp⟩
   ·rw[zz q2]at h1 h2;exact g e (h.reach (i-1) j e h1 h2)
theorem SD{mask:Nat}(h:Int):∀n,(iU mask h n).j+(iU mask h n).more<=mask
 |0=>by
  have h1:cb h%(mask+1)<mask+1:=ew _ (jH _);have:=SI (mask:=mask) (i:=cb h%(mask+1)) ();have:=Kd mask (cb h%(mask+1));show cb h%(mask+1)+(cF mask (cb h%(mask+1))-cb h%(mask+1))<=mask;omega
 |n+1=>by
  have b:=SD (mask:=mask) h n;show(M5 mask (iU mask h n)).j+(M5 mask (iU mask h n)).more<=mask;unfold M5;split
  ·dsimp only;omega
  ·dsimp only;generalize a:(dd mask (iU mask h n).i (iU mask h n).perturb).1=i;have h1:i<mask+1:=by rw[<-a];exact ew _ (jH _)
   have:=SI (mask:=mask) (i:=i) ();have:=Kd mask i;omega
theorem Xh(h:Int)(n:Nat):(iU mask h n).j<=mask:=by have:=SD (mask:=mask) h n;omega
def Xi(owner:Array (Y Nat))(j:Nat):Prop:=(owner.getD j (U 0)).isNone=false
theorem O4{mask:Nat}{h:Int}{owner:Array (Y Nat)}:∀(fuel l s j:Nat),iU mask h s=ES mask (lp mask h l).1 (lp mask h l).2->s<=10*l->(∀m,m<s->Xi owner (iU mask h m).j) →
  cP.free mask owner fuel (lp mask h l).1 (lp mask h l).2=U j->∃n,n<10*(l+fuel)/\(iU mask h n).j=j/\(owner.getD j (U 0)).isNone=true/\∀m,m<n->Xi owner (iU mask h m).j
 |0,l,s,j,_,_,_,e=>by unfold cP.free at e;cases e
 |fuel+1,l,s,j,hs,hl,ho,e=>by
  have i:=Kd mask (lp mask h l).1;unfold cP.free at e;cases c:(cd (cF mask (lp mask h l).1+1-(lp mask h l).1)).find? λk=>(owner.getD ((lp mask h l).1+k) (U 0)).isNone with
  |some k=>
   rw[c]at e;cases e;obtain⟨h1,h2,f⟩:=List.find?_range_eq_some.mp c;rw[yY]at h2;refine⟨s+k,by omega,?_,h1,λm g=>?_⟩
   ·rw[Ea hs k ()]
   ·by_cases q:m<s
    ·exact ho m q
    ·have d:=f (m-s) ();rw[show m=s+(m-s) by omega,Ea hs (m-s) ()];simpa[Xi]using d
  |none=>
   rw[c]at e;have f:=jL.mp c;obtain⟨n,a,b⟩:=O4 fuel (l+1) _ j (Uk hs) () (λm g=>by
    by_cases q:m<s
    ·exact ho m q
    ·have d:=f (m-s) ();rw[show m=s+(m-s) by omega,Ea hs (m-s) ()];simpa[Xi]using d) e
   exact⟨n,by omega,b⟩
theorem O5{mask:Nat}{h:Int}{owner:Array (Y Nat)}:∀(fuel l:Nat),cP.free mask owner fuel (lp mask h l).1 (lp mask h l).2=Z->∀l',l<=l'->l'<l+fuel->Xi owner (lp mask h l').1
 |0,l,_,l',h1,h2=>by omega
 |fuel+1,l,e,l',h1,h2=>by
  have d:=Kd mask (lp mask h l).1;unfold cP.free at e;cases a:(cd (cF mask (lp mask h l).1+1-(lp mask h l).1)).find? λk=>(owner.getD ((lp mask h l).1+k) (U 0)).isNone with
  |some k=>rw[a]at e;cases e
  |none=>
   rw[a]at e;have c:=jL.mp a;by_cases q:l'=l
   ·subst q;have b:=c 0 ();simpa[Xi]using b
   ·exact O5 fuel (l+1) e l' () ()
structure Ow (mask:Nat) (hs:List Int) (owner:Array (Option Nat)):Prop where
 size:owner.size=mask+1
 lt:∀(j idx:Nat),owner[j]?=some (some idx)->idx<hs.length
 all:∀(idx:Nat) h,hs[idx]?=some h->∃j,owner[j]?=some (some idx)/\∃n,n<10*ca mask/\(iU mask h n).j=j/\∀m,m<n->Xi owner (iU mask h m).j
 inj:∀(j j' idx:Nat),owner[j]?=some (some idx)->owner[j']?=some (some idx)->j=j'
theorem Pw{hs:O Int}(o:Ow mask hs owner)(c:j<=mask):Xi owner j↔∃a,owner[j]?=U (U a):=by
 unfold Xi;have b:j<owner.size:=by rw[o.size];omega
 rw[gD,ZO b];cases owner[j]with
 |none=>simp
 |some i=>simp
theorem af{f:Nat->Nat}:∀{xs:O Nat},xs.Nodup->(∀x∈xs,∀y∈xs,f x=f y->x=y)->(xs.map f).Nodup:=λ{xs} hn hi=>
 List.pairwise_map.mpr (KA (λha hb a e=>a (hi _ ha _ hb e)) hn)
theorem df{hs:O Int}(o:Ow mask hs owner)(g:hs.length<=mask):∃r,r<mask+1/\¬ Xi owner r:=by
 by_cases q:∃r,r<mask+1/\¬ Xi owner r
 ·exact q
 ·exfalso;have all:∀r,r<mask+1->∃b,owner[r]?=U (U b):=λr a=>by
   by_cases c:Xi owner r
   ·exact(Pw o ()).mp c
   ·exact absurd ⟨r,a,c⟩ q
  have f:∀r,r<mask+1->owner[r]?=U (U ((owner[r]?.getD Z).getD 0)):=λr a=>by
   obtain⟨b,e⟩:=all r a;rw[e];rfl
  have:=Xf ((cd (mask+1)).map λr=>(owner[r]?.getD Z).getD 0) (cd hs.length) (af YR λx hx y d e=>by
   rw[yY]at hx d;have e1:=f x hx;have e2:=f y d;rw[e]at e1;exact o.inj x y _ e1 e2) λx hx=>by
    obtain⟨r,a,rfl⟩:=List.mem_map.mp hx;rw[yY]at a;exact List.mem_range.mpr (o.lt r _ (f r a))
  rw[zk,KU,KU]at this;omega
theorem fN(f:mask=7\/mask=31\/mask=127){hs:O Int}(o:Ow mask hs owner)(x:hs.length<=mask)(h:Int):
  ∃j,cP.free mask owner (ca mask) (cb h%(mask+1)) (cb h)=U j/\Ow mask (hs++[h]) (owner.setIfInBounds j (U hs.length)):=by
 obtain⟨r,u,z⟩:=df o x;cases p:cP.free mask owner (ca mask) (cb h%(mask+1)) (cb h)with
 |none=>
  obtain⟨l,B,e⟩:=PP f h u;have:=O5 (h:=h) (owner:=owner) (ca mask) 0 p l (QY _) (by unfold ca;omega);rw[e]at this;exact absurd this z
 |some j=>
  obtain⟨n,h1,h2,s,v⟩:=O4 (h:=h) (owner:=owner) (ca mask) 0 0 j S (zi _) (λm f=>absurd f (ku _)) p;rw[yz]at h1;have A:j<=mask:=by rw[<-h2];exact Xh h n
  have y:j<owner.size:=by rw[o.size];omega
  have get:∀k:Nat,(owner.setIfInBounds j (U hs.length))[k]?=if k=j then U (U hs.length)else owner[k]?:=λk=>by
   rw[Array.getElem?_setIfInBounds];by_cases q:k=j
   ·rw[zl q,zl q.symm,zl y]
   ·rw[zz q,zz (λe=>q e.symm)]
  have old:∀k d:Nat,owner[k]?=U (U d)->k≠j:=λk d e q=>by
   subst q;rw[gD,e]at s;cases s
  have i:∀k,Xi owner k->Xi (owner.setIfInBounds j (U hs.length)) k:=λk q=>by
   unfold Xi at q ⊢;rw[gD]at q ⊢;rw[get];by_cases e:k=j
   ·rw[zl e];rfl
   ·rw[zz e];exact q
  refine⟨j,rfl,⟨by rw[Array.size_setIfInBounds];exact o.size,λk d e=>?_,λd g e=>?_,λa b d e1 e2=>?_⟩⟩
  ·rw[get]at e;rw[z4];by_cases q:k=j
   ·rw[zl q]at e;cases e;simp
   ·rw[zz q]at e;have:=o.lt k d e;simp;omega
  ·by_cases q:d<hs.length
   ·rw[qa q]at e;obtain⟨k,e1,w,a,b,c⟩:=o.all d g e;exact⟨k,by rw[get,zz (old k d e1)];exact e1,w,a,b,λm f=>i _ (c m f)⟩
   ·rw[QA ()]at e;have:d-hs.length=0:=by
     by_cases t:d-hs.length=0
     ·exact t
     ·rw[QI (by simp;omega)]at e;cases e
    rw[this]at e;cases e;have:d=hs.length:=by omega
    subst this;exact⟨j,by rw[get,zl rfl],n,h1,h2,λm f=>i _ (v m f)⟩
  ·rw[get]at e1 e2;by_cases q1:a=j
   ·by_cases q2:b=j
    ·rw[q1,q2]
    ·rw[zl q1]at e1;rw[zz q2]at e2;cases e1;have:=o.lt b _ e2;omega
   ·by_cases q2:b=j
    ·rw[zz q1]at e1;rw[zl q2]at e2;cases e2;have:=o.lt a _ e1;omega
    ·rw[zz q1]at e1;rw[zz q2]at e2;exact o.inj a b d e1 e2
theorem SW(mask:Nat):Ow mask [] (re (mask+1) Z):=by
 have no:∀(j a:Nat),(re (mask+1) (Z:Y Nat))[j]?≠U (U a):=λj a e=>by
  rw[Array.getElem?_replicate]at e;split at e<;>cases e
 exact⟨Array.size_replicate,λj a e=>absurd e (no j a),λa h e=>by simp at e,λj b a e=>absurd e (no j a)⟩
theorem lx(g:mask=7\/mask=31\/mask=127)(hs:O Int)(b:hs.length<=mask):∃owner,cP mask hs.toArray=U owner/\Ow mask hs owner:=by
 have key:∀(ys xs:O Int) (owner:Array (Y Nat)),Ow mask xs owner->xs.length+ys.length<=mask->∃d,ys.foldl (λ(f:Y (Array (Y Nat)×Nat)) h=>do
   let (owner,k) <-f
   let j <-cP.free mask owner (ca mask) (cb h%(mask+1)) (cb h)
   pure (owner.setIfInBounds j (U k),k+1)) (U (owner,xs.length))=U (d,xs.length+ys.length)/\Ow mask (xs++ys) d:=by
  intro ys
  induction ys with
  |nil=>intro xs owner o _;exact⟨owner,rfl,by rw[qq];exact o⟩
  |cons y ys i=>
   intro xs owner o b;rw[ZE]at b;obtain⟨j,e,o'⟩:=fN g o () y;obtain⟨a,e2,c⟩:=i (xs++[y]) _ o' (by simp;omega);refine⟨a,?_,by rw[qv]at c;exact c⟩;rw[qo];simp only[Option.bind_eq_bind,i5,e,pure];rw[show(xs++[y]).length=xs.length+1 by simp]at e2;rw[ZE,show xs.length+(ys.length+1)=xs.length+1+ys.length by omega];exact e2
 obtain⟨a,e,o⟩:=key hs [] _ (SW mask) (by simpa using b);refine⟨a,?_,by simpa using o⟩;unfold cP;rw[List.foldl_toArray];exact congrArg (Option.map (·.1)) e
theorem J3{α β:Type}{f:α->Y β}{g:α->β}:∀{xs:O α},(∀x∈xs,f x=U (g x))->xs.filterMap f=xs.map g
 |[],_=>rfl
 |x::xs,h=>by
  rw[kb,h x (zg ..),zt,J3 λy a=>h y (zh _ a)]
theorem Zo{xs:O Nat}(h:xs.Pairwise (· < ·)):vI xs.toArray:=by
 intro i j c b;have a:j<xs.length:=by simpa using b
 rw[gD,gD,ef,ef,z5 a,z5 ()];exact dc.mp h i j () a c
theorem X'{es:Array (Int×A0)}{wanted:Nat}(A:cD wanted-1=7\/cD wanted-1=31\/cD wanted-1=127)(F:es.size<=cD wanted-1):
  ∃t' B,t.relaid (es.map (·.1)) wanted=U (t',B)/\(B.filterMap (es[·]?)).toList.Perm es.toList/\Tok t' (B.filterMap (es[·]?))/\t'.led=t.led/\t'.plain=t.plain/\t'.mask=cD wanted-1:=by
 generalize H:cD wanted-1=mask at A F ⊢;have hs:(es.toList.map (·.1)).length=es.size:=by simp
 obtain⟨d,e,o⟩:=lx A (es.toList.map (·.1)) ();have ea:es.map (·.1)=(es.toList.map (·.1)).toArray:=by
  apply Array.ext';simp
 let L:O (Nat×Nat):=(cd (mask+1)).filterMap λj=>(d.getD j Z).map λk=>(j,k)
 have f:∀j k,(j,k)∈L↔d[j]?=U (U k):=λj k=>by
  show(j,k)∈List.filterMap _ _↔_;rw[hE];constructor
  ·rintro⟨a,ha,q⟩;rw[gD]at q;cases h1:d[a]? with
   |none=>rw[h1]at q;cases q
   |some x=>
    rw[h1]at q;cases x with
    |none=>cases q
    |some y=>cases q;exact h1
  ·intro q;refine⟨j,List.mem_range.mpr ?_,?_⟩
   ·by_cases h:j<d.size
    ·rw[<-o.size];exact h
    ·rw[ke ()]at q;cases q
   ·rw[gD,q];rfl
 have C:L.Pairwise λa b=>a.1<b.1:=by
  refine List.pairwise_filterMap.mpr (ll.imp λ{a b} hab x hx y hy=>?_);cases h1:d.getD a Z with
  |none=>rw[h1]at hx;cases hx
  |some u=>
   cases h2:d.getD b Z with
   |none=>rw[h2]at hy;cases hy
   |some v=>rw[h1]at hx;rw[h2]at hy;cases hx;cases hy;exact hab
 have I:(L.map (·.2)).Nodup:=by
  refine List.pairwise_map.mpr (KA (λ{a b} ha hb hab e=>?_) C);have h1:=(f a.1 a.2).mp ha;have h2:=(f b.1 b.2).mp hb;rw[e]at h1;have:=o.inj _ _ _ h1 h2;omega
 have s:(L.map (·.2)).Perm (cd es.size):=Aj I YR λz=>by
  rw[KL,yY];constructor
  ·rintro⟨a,ha,rfl⟩;have:=o.lt _ _ ((f a.1 a.2).mp ha);omega
  ·intro K;obtain⟨j,h1,_⟩:=o.all z ((es.toList.map (·.1))[z]'()) (z5 ());exact⟨(j,z),(f j z).mpr h1,rfl⟩
 let g:Nat->Int×A0:=λk=>es.getD k (0,.none)
 have hg:∀k,k<es.size->es[k]?=U (g k):=λk l=>by
  show _=U (es.getD k _);rw[gD,ZO l];rfl
 have D:(L.map (·.2)).filterMap (λk=>es[k]?)=(L.map (·.2)).map g:=J3 λk l=>hg k (List.mem_range.mp (s.mem_iff.mp l));have eL:((L.map (·.2)).toArray.filterMap (λk=>es[k]?)).toList=L.map λp=>g p.2:=by
  rw[lq,D,QE];rfl
 refine⟨{ mask:=mask,place:=(L.map (·.1)).toArray,dummies:=#[],finger:=t.finger,led:=t.led,moves:=t.movedTo mask,plain:=t.plain },(L.map (·.2)).toArray,?_,?_,?_,rfl,rfl,rfl⟩
 ·unfold kG nA;rw[H,ea,e];rfl
 ·rw[lq,D];refine(s.map g).trans ?_;have:(cd es.size).map g=es.toList:=by
   apply pf;intro i;rw[Zp];by_cases h:i<es.size
   ·rw[fD h,qh,hg i h];rfl
   ·rw[QI (by simp;omega),QI (by simp;omega)];rfl
  rw[this]
 ·have sz:L.length=es.size:=by
   have:=s.length_eq;rw[zk,KU]at this;exact this
  refine { mask:=A,dum:=rfl,rise:=Zo (List.pairwise_map.mpr C),bd:=λj w=>?_,full:=?_,size:=?_,reach:=λi j x h1 h2=>?_ }
  ·have w:j∈L.map (·.1):=by simpa using w
   obtain⟨a,ha,rfl⟩:=List.mem_map.mp w;have q:=(f a.1 a.2).mp ha;have:a.1<d.size:=by
    by_cases h:a.1<d.size
    ·exact h
    ·rw[ke ()]at q;cases q
   have:=o.size;show a.1<=mask;omega
  ·show(L.map (·.1)).toArray.size<=mask;simp only[zC,zk];omega
  ·rw[<-ZU (xs:=Array.filterMap _ _),eL];simp
  ·have h1:(L.map (·.1)).toArray[i]?=U j:=h1;rw[ef,Zp]at h1;rw[<-qh,eL,Zp]at h2;cases hi:L[i]? with
   |none=>rw[hi]at h1;cases h1
   |some p=>
    rw[hi]at h1 h2;cases h1;cases h2;have hp:(p.1,p.2)∈L:=Q1 hi;have q:=(f p.1 p.2).mp hp;have l:p.2<es.size:=List.mem_range.mp (s.mem_iff.mp (List.mem_map.mpr ⟨p,hp,rfl⟩));have J:(es.toList.map (·.1))[p.2]?=U (g p.2).1:=by
     rw[Zp,qh,hg _ l];rfl
    obtain⟨G,q1,n,a,b,c⟩:=o.all _ _ J;have:G=p.1:=o.inj _ _ _ q1 q;subst this;refine⟨n,a,b,λm E=>?_⟩;obtain⟨k,q2⟩:=(Pw o (Xh _ _)).mp (c m E);show _∈(L.map (·.1)).toArray;rw[List.mem_toArray];exact List.mem_map.mpr ⟨(_,k),(f _ _).mpr q2,rfl⟩
end S6
namespace S6
open P1 L2
abbrev cQ(prog:A3)(w:A4)(ks:O AY):Int:=tupleKeyHash (bG prog w) ks
def TE(prog:A3)(w:A4)(h:A6)(z:O AY×A1)(e:Int×A0):Prop:=e=(cQ prog w z.1,.ref z.2)/\IsTupleKey (bG prog w) h z.1 z.2
structure IG (prog:Program) (w:World) (h:Heap) (zs:List (List AY×Addr)) (es:Array (Int×Value)) (t:SetTable):Prop where
 rel:Paired (TE prog w h) zs es.toList
 nd:(zs.map (·.1)).Nodup
 tok:Tok t es
 load:es.size*5<t.mask*3
 led:w.params.followText "set-order"=false->t.led=true
 non:0<es.size->t.plain=false
def Tu(prog:A3)(w:A4)(h:A6)(a:A1)(zs:O (O AY×A1)):Prop:=∃o es ep t,h.get? a=U o/\o.ExactSet/\o.data=.set es ep t/\IG prog w h zs es t
theorem Zq{h':A6}{b:A1}(x:IsTupleKey (bG prog w) h ks b)(k:∀o,h.get? b=U o->o.cls=.type "tuple" → h'.get? b=U o):IsTupleKey (bG prog w) h' ks b:=
 let ⟨o,AQ,n,e,c,r⟩:=x;⟨o,AQ,n,k o e c,c,r⟩
theorem Uo{h':A6}{l:O (Int×A0)}(k:∀b o,h.get? b=U o->o.cls=.type "tuple" → h'.get? b=U o)(r:AI (TE prog w h) zs l):AI (TE prog w h') zs l:=by
 induction r with
 |nil=>exact .nil
 |cons q _ a=>exact .cons ⟨q.1,Zq q.2 λo e c=>k _ o e c⟩ a
theorem IG.size{es:Array (Int×A0)}(x:IG prog w h zs es t):es.size=zs.length:=by rw[x.rel.length];simp
theorem Tok.fits{t:SetTable}{es:Array (Int×A0)}(h:Tok t es):t.fits es.size=true:=by
 unfold dz rW;have h1:=h.full;have h2:=h.size;rw[h.dum];simp[h2];omega
theorem Tok.odd{es:Array (Int×A0)}(h:Tok t es):t.gaveWay=false:=by
 unfold SetTable.gaveWay;rcases h.mask with e|e|e<;>rw[e]<;>rfl
theorem O6{d:Nat}{b:A1}(f:IsTupleKey (bG prog w) s.heap ks b)(h:Q false s):A7 (A8 prog w) A (ofAClassStatement (d+1) (.ref b)) Q E s:=by
 have g:=f.typeIs;obtain⟨o,items,n,ho,_,i,hi⟩:=f;unfold ofAClassStatement;refine zb (Qb g ?_);dsimp only;refine zb (zd ?_);simp only[JI,zo,ZY];refine zb (wpAny_seqItems ho i ?_);dsimp only;refine zb ?_;rw[<-ot];refine YN _ (λAS r s'=>r.1=Z/\s'=s/\∀v∈AS,carriedByValue v=true) _ ?_ ?_ _ _ ⟨rfl,rfl,hi.byValue⟩
 ·rintro v AS r s' ⟨c,rfl,e⟩;have j:ofAClassStatement d v=pure false:=by
   have:=e v zg;cases v with
   |ref a=>simp[carriedByValue]at this
   |_=>unfold ofAClassStatement;rfl
  rw[j];refine zb (zd ?_);simp only[zo,ZY];exact zd ⟨rfl,rfl,λu l=>e u (zh _ l)⟩
 ·rintro⟨p,m⟩ s' ⟨c,rfl,_⟩;simp only at c;subst c;exact zd h
theorem t7{b:A1}(g:IsTupleKey (bG prog w) s.heap ks b)(vs:O A0)(j:∀v∈vs,∃c a,v=.ref c/\IsTupleKey (bG prog w) s.heap a c)(h:Q false s):A7 (A8 prog w) A (searchCouldBeSeen (.ref b) vs) Q E s:=by
 unfold searchCouldBeSeen;refine zb ?_;refine YN _ (λAS r s'=>r.1=Z/\s'=s/\∀v∈AS,∃c a,v=.ref c/\IsTupleKey (bG prog w) s.heap a c) _ ?_ ?_ _ _ ⟨rfl,rfl,j⟩
 ·rintro v AS r s' ⟨d,rfl,e⟩;obtain⟨c,a,rfl,f⟩:=e v zg;have i:∀v∈AS,∃c a,v=.ref c/\IsTupleKey (bG prog w) s'.heap a c:=λu l=>e u (zh _ l);dsimp only;split
  ·exact zd ⟨rfl,rfl,i⟩
  ·refine zb (wpAny_eqIsQuiet_tuple g ?_);simp only[JI,zo,ZY];refine zb (wpAny_eqIsQuiet_tuple f ?_);simp only[JI,zo,ZY];refine zb (O6 g ?_);simp only[zo,ZY];refine zb (O6 f ?_);simp only[zo,ZY];exact zd ⟨rfl,rfl,i⟩
 ·rintro⟨n,m⟩ s' ⟨d,rfl,_⟩;simp only at d;subst d;exact zd h
theorem Q6{h:A6}:∀{zs:O (O AY×A1)} {l:O (Int×A0)},AI (TE prog w h) zs l->∀{i:Nat} {e},l[i]?=U e->∃z,zs[i]?=U z/\TE prog w h z e
 |_,_,.nil,i,e,q=>by simp at q
 |_,_,.cons r _,0,e,q=>by simp at q;subst q;exact⟨_,rfl,r⟩
 |_,_,.cons _ t,i+1,e,q=>by
  rw[qc]at q;obtain⟨z,z1,z2⟩:=Q6 t q;exact⟨z,by rw[qc];exact z1,z2⟩
theorem Ed{h:A6}:∀{zs:O (O AY×A1)} {l:O (Int×A0)},AI (TE prog w h) zs l->∀{i:Nat} {z},zs[i]?=U z->∃e,l[i]?=U e/\TE prog w h z e
 |_,_,.nil,i,e,q=>by simp at q
 |_,_,.cons r _,0,e,q=>by simp at q;subst q;exact⟨_,rfl,r⟩
 |_,_,.cons _ t,i+1,e,q=>by
  rw[qc]at q;obtain⟨z,z1,z2⟩:=Ed t q;exact⟨z,by rw[qc];exact z1,z2⟩
theorem EE(p:Nat->Prop):∀(k n:Nat),p (n+k)->∃d,d<=k/\p (n+d)/\∀m,n<=m->m<n+d->¬ p m
 |0,n,h=>⟨0,zi _,h,λm h1 h2=>absurd h2 ()⟩
 |k+1,n,h=>by
  by_cases q:p n
  ·exact⟨0,QY _,q,λm h1 h2=>absurd h2 ()⟩
  ·obtain⟨d,h1,h2,c⟩:=EE p k (n+1) (by rw[show n+1+k=n+(k+1) by omega];exact h);refine⟨d+1,by omega,by rw[show n+(d+1)=n+1+d by omega];exact h2,λm a b=>?_⟩;by_cases e:m=n
   ·rw[e];exact q
   ·exact c m () ()
theorem EQ{o:AE}{es:Array (Int×A0)}{b:A1}(hu:A.units<cLine)(ho:s.heap.get? a=U o)(W:o.data=.set es ep t)(x:IG prog w s.heap zs es t)(X:IsTupleKey (bG prog w) s.heap ks b){N:Nat}(hN:N<10*ca t.mask)(g:(iU t.mask (cQ prog w ks) N).j∉t.place)(hp:∀m,m<N->(iU t.mask (cQ prog w ks) m).j∈t.place){Q:SetFound->A2->Prop}(h1:ks∈zs.map (·.1)->Q (.there Z) s)(h2:ks∉zs.map (·.1)->Q (.free (iU t.mask (cQ prog w ks) N).j false) s):
  ∀(k n fuel:Nat) (C:Y SetTable.Probe),n+k=N->k<fuel->C.getD (t.probeStart (cQ prog w ks))=iU t.mask (cQ prog w ks) n->(∀m,m<n->∀i:Nat,t.place[i]?=U (iU t.mask (cQ prog w ks) m).j->∀z:O AY×A1,zs[i]?=U z->z.1≠ks) →
   A7 (A8 prog w) A (setSearchFrom a (.ref b) (cQ prog w ks) true fuel C) Q E s:=by
 have get:∀{i:Nat} {e},es[i]?=U e->∃z,zs[i]?=U z/\TE prog w s.heap z e:=λ{i e} q=>Q6 x.rel (by rw[qh];exact q);have P:=x.tok.fits;intro k
 induction k using Nat.strongRecOn with
 |ind k ih=>
  intro n fuel C hn a3 a0 hb;cases fuel with
  |zero=>omega
  |succ fuel=>
  unfold setSearchFrom;refine zb (Q2 ho W P ?_);dsimp only;rw[zz (by rw[x.tok.odd];decide)];refine zb (zd ?_);rw[a0];obtain⟨d,d1,d2,I⟩:=EE (λm=>m=N\/∃i:Nat,t.place[i]?=U (iU t.mask (cQ prog w ks) m).j/\∃e:Int×A0,es[i]?=U e/\e.1=cQ prog w ks) k n (.inl hn);have live:∀m,m<N->∃i:Nat,t.place[i]?=U (iU t.mask (cQ prog w ks) m).j/\∃e,es[i]?=U e:=λm l=>by
   obtain⟨i,hi,e⟩:=mO (hp m l);have f:i<es.size:=by rw[<-x.tok.size];exact hi
   exact⟨i,by rw[ZO hi,e],es[i],ZO f⟩
  have pr:=Ui x.tok.toTb (λi=>(es[i]?.map (·.1)).getD 0) (cQ prog w ks) d (10*ca t.mask) n () λm a1 a2=>by
   have q:=I m a1 a2;obtain⟨i,e1,e,e2⟩:=live m ();refine⟨i,e1,λq'=>q (.inr ⟨i,e1,e,e2,?_⟩)⟩;simpa[e2]using q'
  have M:t.probe (λi=>(es[i]?.map (·.1)).getD 0) (cQ prog w ks) (iU t.mask (cQ prog w ks) n)=da.go t (λi=>(es[i]?.map (·.1)).getD 0) (cQ prog w ks) (10*ca t.mask) (iU t.mask (cQ prog w ks) n):=rfl;by_cases F:n+d=N
  ·have p1:=pr.1 (by rw[F];exact g);rw[F]at p1;show A7 _ _ (match t.probe (λi=>(es[i]?.map (·.1)).getD 0) (cQ prog w ks) (iU t.mask (cQ prog w ks) n)with|some met=>_|_=>_) _ _ _;rw[M,p1];dsimp only;refine zd (h2 λl=>?_);obtain⟨z,hz,D⟩:=List.mem_map.mp l;obtain⟨i,hi,e⟩:=jv hz;obtain⟨B,e1,e2⟩:=Ed x.rel (show zs[i]?=U z by rw[z5 hi,e]);rw[qh]at e1;have f:i<t.place.size:=by rw[x.tok.size,x.size];exact hi
   obtain⟨h,b1,b2,J⟩:=x.tok.reach i _ B (ZO f) e1;rw[e2.1,D]at b2 J;have lt:h<N:=by
    rcases h9 h N with q|q|q
    ·exact q
    ·exfalso;rw[<-q]at g;rw[b2]at g;exact g (Array.getElem_mem f)
    ·exact absurd (J N q) g
   by_cases q:h<n
   ·exact hb h q i (by rw[b2];exact ZO f) z (by rw[z5 hi,e]) D
   ·exact I h () () (.inr ⟨i,by rw[b2];exact ZO f,B,e1,by rw[e2.1,D]⟩)
  ·rcases d2 with q|⟨i,i1,e,i2,i3⟩
   ·exact absurd q F
   ·have p2:=pr.2 i i1 (by simpa[i2]using i3);show A7 _ _ (match t.probe (λi=>(es[i]?.map (·.1)).getD 0) (cQ prog w ks) (iU t.mask (cQ prog w ks) n)with|some met=>_|_=>_) _ _ _;rw[M,p2];dsimp only;obtain⟨z,z1,z2⟩:=get i2;have H:∀v∈((es.filter (·.1==cQ prog w ks)).toList.map (·.2)),∃c ls,v=.ref c/\IsTupleKey (bG prog w) s.heap ls c:=λv H=>by
     obtain⟨u,L,rfl⟩:=List.mem_map.mp H;rw[Array.toList_filter,bt]at L;obtain⟨jj,hj,ej⟩:=jv L.1;obtain⟨y,y1,y2⟩:=Q6 x.rel (show es.toList[jj]?=U u by rw[z5 hj,ej]);exact⟨y.2,y.1,by rw[y2.1],y2.2⟩
    have K:A7 (A8 prog w) A (do
      let U (_,y):=es[i]?|unsupported "internal:set-entry"
      let equal <-holding [y] (eqBool y (.ref b))
      let (es',_,t') <-setState a
      if(true&&equal)=true then return SetFound.there Z
      let U same:=t'.sameMemory t.moves t.mask|unsupported "set.changed-during-lookup:is-the-new-block-at-the-old-address"
      let still <-match (if same then t'.slot (iU t.mask (cQ prog w ks) (n+d)).j else .empty)with
       |.live i'=>match es'[i']? with
        |some (_,y')=>do pure (if <-isSame y' y then U i' else Z)
        |none=>pure Z
       |_=>pure Z
      match still with
      |none=>rule "set.search.anew"; setSearchFrom a (.ref b) (cQ prog w ks) true fuel Z
      |some i'=>if equal then return .there (U i')else setSearchFrom a (.ref b) (cQ prog w ks) true fuel (U (iU t.mask (cQ prog w ks) (n+d+1)))) Q E s:=by
     rw[i2,z2.1];dsimp only;refine zb (qS (wpAny_eqBool_tuple hu z2.2 X ?_));refine zb (Q2 ho W P ?_);dsimp only;by_cases p:z.1=ks
     ·rw[Zl p];simp only[Bool.and_self,qk];exact zd (h1 (List.mem_map.mpr ⟨z,Q1 z1,p⟩))
     ·rw[ZA p];simp only[KM,zo,ZY];have sm:t.sameMemory t.moves t.mask=U true:=by unfold SetTable.sameMemory;simp
      rw[sm];dsimp only;simp only[qk];rw[Gx x.tok.toTb i1];dsimp only;rw[i2,z2.1];dsimp only;refine zb (wpAny_isSame_ref_self (zb (zd ?_)));simp only[qk];refine ih (N-(n+d+1)) () (n+d+1) fuel _ () () S λm l i' G y y1=>?_;by_cases c1:m<n
      ·exact hb m c1 i' G y y1
      ·by_cases c2:m=n+d
       ·subst c2;have:i'=i:=by
         have s1:=DX x.tok.rise G;have s2:=DX x.tok.rise i1;omega
        subst this;rw[z1]at y1;cases y1;exact p
       ·have q:=I m () ();intro e';obtain⟨B,e1,e2⟩:=Ed x.rel y1;rw[qh]at e1;exact q (.inr ⟨i',G,B,e1,by rw[e2.1,e']⟩)
    split
    ·refine zb (t7 X _ H ?_);simp only[zo,ZY];exact K
    ·exact K
def FM(ks:O AY):Prop:=∃x:AJ,(Sum.inr x:AY)∈ks
theorem sw{b:A1}(c:IsTupleKey (bG prog w) s.heap ks b)(hx:FM ks)(h:Q false s):A7 (A8 prog w) A (hashByValue 8 (.ref b)) Q E s:=by
 have f:=c.typeIs;obtain⟨o,items,n,ho,_,j,hi⟩:=c;unfold hashByValue;refine zb (wpAny_specialOf f F.slot_tuple_hash.lookup ?_);dsimp only;refine zb (wpAny_seqItems ho j ?_);show A7 _ _ (forIn items _ _ >>= _) _ _ s;refine zb ?_;rw[<-ot];refine YN _ (λAS r s'=>r.1=Z/\s'=s/\∃left,ItemsAre (bG prog w) left AS/\FM left) _ ?_ ?_ _ _ ⟨rfl,rfl,ks,hi,hx⟩
 ·rintro v AS r s' ⟨d,rfl,left,a,x,hx⟩;cases a with
  |@cons k _ l _ h1 g=>
   rcases bO h1 with⟨i,t,rfl,rfl⟩|⟨y,t,rfl,rfl⟩
   ·have e:hashByValue 7 (.int i t)=pure true:=by unfold hashByValue;rfl
    rw[e];refine zb (zd ?_);simp only[JI,zo,ZY];refine zd ⟨rfl,rfl,l,g,x,?_⟩;rcases List.mem_cons.mp hx with q|q
    ·cases q
    ·exact q
   ·have e:hashByValue 7 (.str y t)=pure false:=by unfold hashByValue;rfl
    rw[e];refine zb (zd ?_);simp only[JS,qk];exact zd (zd h)
 ·rintro⟨p,m⟩ s' ⟨d,rfl,left,a,x,hx⟩;cases a;cases hx
theorem bq{es:Array (Int×A0)}(h:Tok t es):Tok { t with plain:=false } es:={ mask:=h.mask,dum:=h.dum,rise:=h.rise,bd:=h.bd,full:=h.full,size:=h.size,reach:=h.reach }
theorem Sk{b:A1}(hu:A.units<cLine)(hS:Tu prog w s.heap a zs)(hk:IsTupleKey (bG prog w) s.heap ks b)(hx:FM ks)(d1:zs.length+1<=70)(h:∀r h' X,Heap.SameBut a s.heap h'->Tu prog w h' a X->(∀z,z∈X↔z∈zs\/(z=(ks,b)/\ks∉zs.map (·.1)))->X.length<=zs.length+1->Q r { s with heap:=h' }):A7 (A8 prog w) A (setAddHashed a (.ref b) (cQ prog w ks)) Q E s:=by
 obtain⟨o,es,ep,t,ho,M,B,x⟩:=id hS;have d0:=x.size;have a3:=x.tok.fits;have b0:=x.load;have c2:o.cls≠.type "tuple":=by rw[M.1];decide
 obtain⟨N,f,n2,n3⟩:=Xg x.tok.toTb (cQ prog w ks);have d2:10*ca t.mask<100000:=by
  unfold ca;rcases x.tok.mask with e|e|e<;>rw[e]<;>decide
 unfold setAddHashed setAddHashedIn;refine qS (zb (Q2 ho B a3 ?_));dsimp only;have hb:byScan (.ref b) es=false:=by unfold byScan;rfl
 rw[hb];simp only[zo,ZY];unfold setSearch;refine zb (EQ hu ho B x hk f n2 n3 (λl=>?_) (λl=>?_) N 0 100000 Z () () S λm l=>absurd l (ku _))
 ·dsimp only;exact zd (h _ s.heap zs (Heap.SameBut.refl a s.heap) hS (λz=>⟨.inl,λq=>q.elim id λq=>absurd l q.2⟩) (Kj _))
 ·dsimp only;refine zb (Q2 ho B a3 ?_);dsimp only;have hj:=Xh (mask:=t.mask) (cQ prog w ks) N;have c8:es.size+1<=t.mask:=by rcases x.tok.mask with e|e|e<;>rw[e]at b0 ⊢<;>omega
  obtain⟨pt,pl,pp,J⟩:=hB (x:=.ref b) x.tok f n2 n3 hj c8;generalize hP:t.put (iU t.mask (cQ prog w ks) N).j=P at pt pl pp J ⊢;obtain⟨t1,p⟩:=P;dsimp only at pt pl pp J ⊢;have c3:(bc es p (cQ prog w ks,.ref b)).toList.Perm (es.toList++[(cQ prog w ks,.ref b)]):=by
   rw[Eb];refine(pL).trans ?_;rw[kq];exact(hQ _ _).symm
  have r0:AI (TE prog w s.heap) (zs++[(ks,b)]) (es.toList++[(cQ prog w ks,.ref b)]):=Kc x.rel (.cons ⟨rfl,hk⟩ .nil);obtain⟨I,q1,r1⟩:=uD c3 r0;have a0:(I.map (·.1)).Nodup:=(q1.map (·.1)).nodup_iff.mpr (by
   rw[qB];exact List.nodup_append.mpr ⟨x.nd,by simp,λu c1 v hv=>by simp at hv;subst hv;exact λe=>l (e▸c1)⟩)
  have m1:∀z,z∈I↔z∈zs\/(z=(ks,b)/\ks∉zs.map (·.1)):=λz=>by
   rw[q1.mem_iff,kX,kQ];exact⟨λq=>q.imp id λe=>⟨e,l⟩,λq=>q.imp id λe=>e.1⟩
  have l1:I.length=zs.length+1:=by rw[q1.length_eq];simp
  have n:(bc es p (cQ prog w ks,Value.ref b)).size=es.size+1:=zF _ _ _;have up:∀(hp:A6) (D:AE) (e1 e2:Array (Int×A0)) (f:Nat) (u1 y:SetTable),hp.get? a=U D->D.data=.set e1 f u1->(hp.update a (Obj.putSet e2 y)).get? a=U { D with data:=.set e2 (f+1) y }:=λhp D e1 e2 f u1 y g q=>by
   have:=k8 (Obj.putSet e2 y) g (by rw[putSet_of e2 y q];rfl);rw[putSet_of e2 y q]at this;exact this
  have kp:∀{h':A6},Heap.SameBut a s.heap h'->∀c H,s.heap.get? c=U H->H.cls=.type "tuple" → h'.get? c=U H:=λsb c H e ec=>by
   rw[sb.2 c λq=>by subst q;rw[ho]at e;cases e;exact c2 ec];exact e
  have a1:∀t2:SetTable,Tok t2 (bc es p (cQ prog w ks,.ref b))->t2.led=t1.led->t2.plain=false->t2.mask=t1.mask->A7 (A8 prog w) A (do
    storeSet a (bc es p (cQ prog w ks,.ref b)) t2
    if(!false&&t2.tooFull)=true then setRelay a (cf (es.size+1))
    pure true) Q E s:=by
   intro t2 F l2 p2 m2;have g1:=up s.heap o es (bc es p (cQ prog w ks,.ref b)) ep t t2 ho B;refine zb (y9 ho B ?_ (fits_of_scanBound (by rw[n];have:scanBound=4096:=rfl;omega)));have K:Heap.SameBut a s.heap (s.heap.update a (Obj.putSet (bc es p (cQ prog w ks,.ref b)) t2)):=Kt ..;have b3:t2.fill=es.size+1:=by unfold rW;rw[F.dum,F.size,n];rfl
   have a5:w.params.followText "set-order"=false->t2.led=true:=λq=>l2.trans (pl.trans (x.led q));by_cases d:t2.tooFull=true
   ·rw[d];simp only[JS,Bool.and_self,qk];have hf:t2.fill*5>=t2.mask*3:=by unfold pO at d;simpa using d
    rw[b3,m2,J]at hf;have hg:cf (es.size+1)=(es.size+1)*4:=by unfold cf;rw[zz ()]
    have a2:(es.size=4/\t.mask=7)\/(es.size=18/\t.mask=31):=by
     rcases x.tok.mask with e|e|e<;>rw[e]at hf b0
     ·exact .inl ⟨by omega,e⟩
     ·exact .inr ⟨by omega,e⟩
     ·omega
    have G:(es.size=4->cD (cf (es.size+1))=32)/\(es.size=18->cD (cf (es.size+1))=128):=by
     rw[hg];exact⟨λe=>by rw[e];decide,λe=>by rw[e];decide⟩
    have L:cD (cf (es.size+1))-1=31/\es.size=4\/cD (cf (es.size+1))-1=127/\es.size=18:=by
     rcases a2 with⟨e,_⟩|⟨e,_⟩
     ·exact .inl ⟨by rw[G.1 e],e⟩
     ·exact .inr ⟨by rw[G.2 e],e⟩
    obtain⟨t3,C,e3,b4,k3,l3,p3,m3⟩:=X' (t:=t2) (es:=bc es p (cQ prog w ks,.ref b)) (wanted:=cf (es.size+1)) (by rcases L with⟨e,_⟩|⟨e,_⟩<;>rw[e]<;>simp) (by rw[n];rcases L with⟨e,e'⟩|⟨e,e'⟩<;>rw[e,e']<;>decide);unfold setRelay;refine zb (zb (Q2 g1 S F.fits ?_));dsimp only;have c0:¬ (cD (cf (es.size+1))>AA):=by
     rcases a2 with⟨e,_⟩|⟨e,_⟩
     ·rw[G.1 e];decide
     ·rw[G.2 e];decide
    rw[zz c0];have W:(C.filterMap (λi=>(bc es p (cQ prog w ks,Value.ref b))[i]?)).size=(bc es p (cQ prog w ks,Value.ref b)).size:=by
     rw[<-ZU,b4.length_eq,ZU]
    rw[e3];refine zb ?_;show A7 _ _ (if((C.filterMap (λi=>(bc es p (cQ prog w ks,Value.ref b))[i]?)).size !=(bc es p (cQ prog w ks,Value.ref b)).size)=true then _ else pure (C.filterMap (λi=>(bc es p (cQ prog w ks,Value.ref b))[i]?),t3)) _ _ _;rw[zz (by rw[W];simp)];refine zd ?_;dsimp only;refine y9 g1 S ?_ (fits_of_scanBound (by rw[W,n];have:scanBound=4096:=rfl;omega));have g2:=up _ _ (bc es p (cQ prog w ks,.ref b)) (C.filterMap (λi=>(bc es p (cQ prog w ks,Value.ref b))[i]?)) _ t2 t3 g1 rfl;have b9:Heap.SameBut a s.heap ((s.heap.update a (Obj.putSet (bc es p (cQ prog w ks,.ref b)) t2)).update a (Obj.putSet (C.filterMap (λi=>(bc es p (cQ prog w ks,Value.ref b))[i]?)) t3)):=K.trans (Kt ..);obtain⟨c6,q2,r2⟩:=uD b4 r1;refine zd (h _ _ c6 b9 ⟨_,_,_,t3,g2,M,rfl,⟨Uo (kp b9) r2,(q2.map (·.1)).nodup_iff.mpr a0,k3,?_,λq=>l3.trans (a5 q),λ_=>p3.trans p2⟩⟩ (λz=>by rw[q2.mem_iff];exact m1 z) (by rw[q2.length_eq];omega));rw[W,n,m3];rcases L with⟨e,e'⟩|⟨e,e'⟩<;>rw[e,e']<;>decide
   ·have d:t2.tooFull=false:=by simpa using d
    rw[d];simp only[KM,zo,ZY];refine zb (zd ?_);refine zd (h _ _ I K ⟨_,_,_,t2,g1,M,rfl,⟨Uo (kp K) r1,a0,F,?_,a5,λ_=>p2⟩⟩ m1 ());unfold pO at d;rw[b3]at d;rw[n];simpa using d
  split
  ·refine zb (sw hk hx ?_);simp only[zo,ZY];exact a1 { t1 with plain:=false } (bq pt) S S rfl
  ·rename_i hp;refine zb (zd ?_);simp only[qk];exact a1 t1 pt S (by simpa using hp) rfl
end S6
namespace S1
open L2
theorem Xj{x:A0}(G:O A0->Prop)(kd:SortKind)(rk:O A0->A0->Nat){Q:B7}(p:∀(g:B7) (j:O A0->A2->Prop),(∀vs h' d tk,G vs->s.heap.objs.size<=h'.objs.size->(∀c o,s.heap.get? c=U o->h'.get? c=U o)->j vs { s with heap:=h',drawn:=d,toks:=tk })->A7 (A8 prog w) A.in1 (collect x) j g s)
  (y:∀vs,G vs->2<=vs.length->∀(g:B7) (b:A5) (s':A2),(∀c o,s.heap.get? c=U o->s'.heap.get? c=U o)->∀Q:SortKind->A2->Prop,Q kd s'->A7 (A8 prog w) b (keyKind' vs.toArray) Q g s') (u:∀vs,G vs->∀(b:A5) (s':A2),(∀c o,s.heap.get? c=U o->s'.heap.get? c=U o)->Cf prog w b s' kd (rk vs) (pairsOf vs)) (i:∀vs,G vs->vs.length<64)
  (h:∀vs,G vs->∀(l:A1) (h':A6) (d:Drawn) (tk n:Nat) (st:SortSt),(AM st).Perm (pairsOf vs)->Up (rk vs) (AM st) (pairsOf vs).size->s.heap.objs.size<=l->(∀c o,s.heap.get? c=U o->h'.get? c=U o)->h'.get? l=U (seqObj "list" ((AM st).map (·.2)) n)->Q (.ref l) { s with heap:=h',drawn:=d,toks:=tk }):
  A7 (A8 prog w) A (call (.builtin "sorted") [x]) Q E s:=by
 refine Kn kind_sorted plain_sorted entry_sorted (args_sorted1 _) ?_;unfold Builtin.«sorted»;refine zb (m:=checkCount "sorted" 1 1 _) (zd (zb (p _ _ λvs h1 d tk a v ext=>?_)));have z:=i vs a;refine zb (yb ?_);have f:(h1.push (seqObj "list" vs.toArray 0)).get? h1.objs.size=U (seqObj "list" vs.toArray 0):=zw _ rfl;have old:∀s':A2,FA h1.objs.size { s with heap:=h1.push (seqObj "list" vs.toArray 0),drawn:=d,toks:=tk } s'->∀c o,s.heap.get? c=U o->s'.heap.get? c=U o:=λs' q c o e=>
  q c o (zI (zD (ext c o e))) (ze _ (ext c o e))
 refine zb (qS (QU slot_list_sort ⟨_,f,rfl⟩ entry_list_sort (LF f (λq s' o=>y vs a q _ _ s' (old s' o)) (λs' o=>u vs a _ s' (old s' o)) (i vs a) λst q1 q2=>⟨_,rfl,zd ⟨_,rfl,?_⟩⟩) (args_list_sort _)));obtain⟨n,t⟩:=sortedHeap_at (out:=(AM st).map (·.2)) f;refine h vs a h1.objs.size _ d tk n st q1 q2 v (λc o e=>?_) t;have hb:=zD (ext c o e);rw[sortedHeap_old (zI hb) (by rw[qr];exact qV hb)];exact ze _ (ext c o e)
end S1
namespace S6
theorem wY(n:Nat):vI (Array.range n):=λi j b a=>by
 have a:j<n:=by simpa using a
 rw[gD,gD,m6,m6,zl a,zl ()];exact b
theorem Q7{t:SetTable}{f:Nat->Int}{h:Int}{j:Nat}{a:Y Nat}:∀(fuel:Nat) (p:SetTable.Probe),(∀d,p.dummy=U d->∀i,t.slot d≠.live i)->da.go t f h fuel p=U (.empty j a)->∀i,t.slot (a.getD j)≠.live i
 |0,p,_,e=>by cases e
 |fuel+1,p,hd,e=>by
  unfold da.go at e;cases hs:t.slot p.j with
  |empty=>
   rw[hs]at e;cases e;cases q:p.dummy with
   |none=>intro i;show t.slot p.j≠_;rw[hs];exact SetTable.Slot.noConfusion
   |some d=>exact hd d q
  |dummy=>
   rw[hs]at e;refine Q7 fuel _ (λd q i=>?_) e;have:(t.advance { p with dummy:=U p.j }).dummy=U p.j:=by
    unfold pR;split<;>rfl
   rw[this]at q;cases q;rw[hs];exact SetTable.Slot.noConfusion
  |live i=>
   rw[hs]at e;dsimp only at e;split at e
   ·cases e
   ·refine Q7 fuel _ (λd q=>hd d ?_) e;have:(t.advance p).dummy=p.dummy:=by
     unfold pR;split<;>rfl
    rw[<-this];exact q
theorem XU(a:vI t.place)(h:j∈t.place):∃i,t.slot j=.live i:=by
 obtain⟨i,hi,e⟩:=mO h;have g:t.place[i]?=U j:=by rw[ZO hi,e]
 have b:=DX a g;refine⟨i,?_⟩;unfold nC;simp only[b,g,beq_self_eq_true,qk]
theorem VX(c:vI t.place){h:Int}{sl:Nat}{b:Bool}(e:t.freeSlot h=U (sl,b)):sl∉t.place:=λa=>by
 obtain⟨i,hi⟩:=XU c a;unfold SetTable.freeSlot at e;split at e
 ·rename_i j f q;cases e;unfold da at q;exact Q7 _ _ (λd z=>by cases z) q i hi
 ·cases e
theorem om{es:Array (Int×A0)}{h:Int}{x:A0}(a:vI t.place):vI (layNew t es h x).2.1.place:=by
 unfold layNew;split
 ·rename_i sl b e;have:=Um a (VX a e);dsimp only[oa,oe];generalize dz _ _=b;cases b
  ·exact wY _
  ·exact this
 ·exact wY _
theorem Xk{g:Nat->Y Nat}:∀l:O Nat,(l.filterMap λj=>(g j).map λk=>(j,k)).map (·.1)=l.filter λj=>(g j).isSome
 |[]=>rfl
 |j::l=>by
  rw[kb,kK];cases e:g j with
  |none=>simp[e,Xk l]
  |some k=>simp[e,Xk l]
theorem Xl(t:SetTable)(es:Array (Int×A0))(n:Nat):vI (relayAll t es n).2.1.place:=by
 unfold relayAll;split
 ·rename_i f d e;have c:vI f.place:=by
   unfold kG nA at e;cases a:cP (cD n-1) (es.map (·.1))with
   |none=>rw[a]at e;cases e
   |some g=>
    rw[a]at e;cases e;refine Zo ?_;rw[Xk];exact ll.filter _
  dsimp only;generalize (coversAll d es.size&&_)=b;cases b
  ·exact wY _
  ·exact c
 ·exact wY _
def FH(prog:A3)(w:A4)(y:Int)(e:Int×A0):Prop:=∃tk,e=((intKind prog w).hash y,.int y tk)
structure Fc (prog:Program) (w:World) (ys:List Int) (es:Array (Int×Value)) (t:SetTable):Prop where
 rel:Paired (FH prog w) ys es.toList
 nd:ys.Nodup
 fit:t.fits es.size=true
 led:w.params.followText "set-order"=false->t.led=true
 rise:vI t.place
def Ti(prog:A3)(w:A4)(h:A6)(a:A1)(ys:O Int):Prop:=∃o es ep t,h.get? a=U o/\o.ExactSet/\o.data=.set es ep t/\Fc prog w ys es t
theorem Ti.keep{h':A6}(x:Ti prog w h a ys)(k:∀o,h.get? a=U o->h'.get? a=U o):Ti prog w h' a ys:=
 let ⟨o,es,ep,t,e,r⟩:=x;⟨o,es,ep,t,k o e,r⟩
theorem Fc.elems{es:Array (Int×A0)}(x:Fc prog w ys es t):ElemsOf (intKind prog w) es.toList:=by
 have:∀{ys:O Int} {l:O (Int×A0)},AI (FH prog w) ys l->ElemsOf (intKind prog w) l:=by
  intro ys l h
  induction h with
  |nil=>intro e a;cases a
  |cons r _ b=>
   intro e a;rcases List.mem_cons.mp a with rfl|a
   ·obtain⟨tk,rfl⟩:=r;exact⟨⟨_,intKind_is _ _ _ _,rfl⟩,rfl⟩
   ·exact b e a
 exact this x.rel
theorem Fc.size{es:Array (Int×A0)}(x:Fc prog w ys es t):es.size=ys.length:=by rw[x.rel.length];simp
theorem Zr{y z:Int}{e:Int×A0}(h:FH prog w y e):(intKind prog w).is z e.2=true↔z=y:=by
 obtain⟨tk,rfl⟩:=h;constructor
 ·intro q;exact(intKind prog w).inj _ _ _ q (intKind_is _ _ _ _)
 ·rintro rfl;exact intKind_is _ _ _ _
theorem Ke{y:Int}:∀{ys:O Int} {l:O (Int×A0)},AI (FH prog w) ys l->((l.findIdx? λe=>(intKind prog w).is y e.2)=Z↔y∉ys)
 |_,_,.nil=>by simp
 |z::ys,e::l,.cons r t=>by
  rw[List.findIdx?_cons];by_cases q:(intKind prog w).is y e.2=true
  ·rw[zl q,(Zr r).mp q];simp
  ·rw[zz q];have:y≠z:=λe'=>q ((Zr r).mpr e');rw[Option.map_eq_none_iff,Ke t];simp[this]
theorem W'{y:Int}{tk:Nat}(hS:Ti prog w s.heap a ys)(b9:ys.length+1<scanBound)(h:∀b h' K,Heap.SameBut a s.heap h'->Ti prog w h' a K->(∀z,z∈K↔z∈ys\/z=y)->K.length<=ys.length+1->Q b { s with heap:=h' }):A7 (A8 prog w) A (setAddHashed a (.int y tk) ((intKind prog w).hash y)) Q E s:=by
 obtain⟨o,es,ep,t,ho,a0,F,x⟩:=id hS;have b3:=x.size;have c2:es.size+1<scanBound:=by rw[b3];exact b9
 have a2:=x.elems;have b4:=intKind_is prog w y tk;unfold setAddHashed setAddHashedIn;refine qS (zb (Q2 ho F x.fit ?_));dsimp only;rw[byScan_of (knd:=intKind prog w) (x:=.int y tk) S () a2];simp only[↓reduceIte];unfold setAddByScan;refine zb (zb (km (zb (wpAny_setScan_of b4 ho F x.fit a2 ?_))));cases H:es.toList.findIdx? (λe=>(intKind prog w).is y e.2)with
 |some j=>
  dsimp only;have i:y∈ys:=by
   by_cases q:y∈ys
   ·exact q
   ·rw[(Ke x.rel).mpr q]at H;cases H
  refine zd (zd (h _ s.heap ys (Heap.SameBut.refl a s.heap) hS (λz=>⟨.inl,λq=>q.elim id λe=>e▸i⟩) (Kj _)))
 |none=>
  dsimp only;have i:y∉ys:=(Ke x.rel).mp H;have gw:∀(b:Bool) {a1:A2} {Q':Unit->A2->Prop},Q' sn a1->A7 (A8 prog w) A (match b with|true=>rule "set.scan.the-table-gave-way" | false=>pure sn) Q' E a1:=
   λb _ _ d=>by cases b;exact zd d;exact km d
  have l:=layNew_perm t es ((intKind prog w).hash y) (.int y tk);have p:=layNew_fits t es ((intKind prog w).hash y) (.int y tk);have D:=gS t es ((intKind prog w).hash y) (.int y tk);have B:=om (es:=es) (h:=(intKind prog w).hash y) (x:=.int y tk) x.rise;generalize layNew t es ((intKind prog w).hash y) (.int y tk)=L at l p D B ⊢;obtain⟨c,t1,c1,c3⟩:=L;dsimp only at l p D B ⊢;rw[oC]at l;refine zb (gw _ ?_);have c0:AI (FH prog w) (ys++[y]) (es.toList++[((intKind prog w).hash y,.int y tk)]):=Kc x.rel (.cons ⟨tk,rfl⟩ .nil);obtain⟨C,p1,r1⟩:=uD l c0;have N:C.Nodup:=p1.nodup_iff.mpr (List.nodup_append.mpr ⟨x.nd,by simp,λu hu v hv=>by simp at hv;subst hv;exact λe=>i (e▸hu)⟩);have m1:∀z,z∈C↔z∈ys\/z=y:=λz=>by rw[p1.mem_iff];simp
  have l1:C.length=ys.length+1:=by rw[p1.length_eq];simp
  have z1:c.size=es.size+1:=by rw[<-ZU,l.length_eq];simp
  have P:∀t2:SetTable,t2.fits c.size=true->t2.led=t1.led->vI t2.place->A7 (A8 prog w) A (do
    storeSet a c t2
    if(!c1&&t2.tooFull)=true then do
      (match (relayAll t2 c (cf c.size)).2.2 with|true=>rule "set.scan.the-table-gave-way" | false=>pure sn)
      storeSet a (relayAll t2 c (cf c.size)).1 (relayAll t2 c (cf c.size)).2.1
      pure (U true)
     else pure (U true)) (λr s'=>∃b,r=U b/\Q b s') E s:=by
   intro t2 f2 l2 p2;have W:∀(hp:A6) (n:AE) (e1 e2:Array (Int×A0)) (G:Nat) (u1 f:SetTable),hp.get? a=U n->n.data=.set e1 G u1->(hp.update a (Obj.putSet e2 f)).get? a=U { n with data:=.set e2 (G+1) f }:=λhp n e1 e2 G u1 f g q=>by
    have:=k8 (Obj.putSet e2 f) g (by rw[putSet_of e2 f q];rfl);rw[putSet_of e2 f q]at this;exact this
   have g1:=W s.heap o es c ep t t2 ho F;refine zb (y9 ho F ?_ (fits_of_scanBound ()));split
   ·have hp:=relayAll_perm t2 c (cf c.size);have I:=relayAll_fits t2 c (cf c.size);have M:=Si t2 c (cf c.size);have d:=Xl t2 c (cf c.size);generalize relayAll t2 c (cf c.size)=Rl at hp I M d ⊢;obtain⟨X,t3,c6⟩:=Rl;dsimp only at hp I M d ⊢;obtain⟨b0,J,r2⟩:=uD hp r1;refine zb (gw _ ?_);refine zb (y9 g1 S ?_ (fits_of_scanBound (by rw[<-ZU,hp.length_eq,ZU];omega)));have g2:=W _ _ c X _ t2 t3 g1 rfl;exact zd ⟨true,rfl,h _ _ b0 ((Kt ..).trans (Kt ..)) ⟨_,X,_,t3,g2,a0,rfl,r2,J.nodup_iff.mpr N,I,λq=>(M.1.trans l2).trans (D.trans (x.led q)),d⟩ (λz=>by rw[J.mem_iff];exact m1 z) (by rw[J.length_eq];exact yB l1)⟩
   ·exact zd ⟨true,rfl,h _ _ C (Kt ..) ⟨_,c,_,t2,g1,a0,rfl,r1,N,f2,λq=>l2.trans (D.trans (x.led q)),p2⟩ m1 (yB l1)⟩
  have a3:∀{m:Sem (Y Bool)},A7 (A8 prog w) A m (λr s'=>∃b,r=U b/\Q b s') E s->A7 (A8 prog w) A m (λr s'=>A7 (A8 prog w) A (match r with|some a5=>pure a5|none=>setAddHashedIn a (.int y tk) ((intKind prog w).hash y) 99999) Q E s') E s:=λi=>QR i (λr s' q=>by obtain⟨b,rfl,q⟩:=q;exact zd q) λ_ _ q=>q;refine a3 ?_;split
  ·refine zb ?_;rw[hashByValue_scannable 8 (x:=.int y tk) rfl];refine zd ?_;exact P t1 p S B
  ·refine zb (zd ?_);simp only[↓reduceIte];exact P t1 p S B
end S6
namespace P1
open L2 S6
section
theorem O7{d:Drawn}(I:AU X AN σ H s):AU X AN σ H { s with drawn:=d }:=⟨I.ok,I.os,I.bare,I.base,I.loc,I.cell,I.free,I.uw,I.pin,I.hok,I.len⟩
variable{fs:Ev->Y AZ}{p:Pos}
end
section
variable{xs:AZ}
end
section
variable{xs:AZ}
variable{fs:Ev->Y AZ}{p':Pos}
end
end P1
namespace P1
open L2 S1 S6
def Ts(prog:A3)(w:A4)(h:A6)(a:A1)(zs:O (O AY×A1)):Prop:=∃o es ep t,h.get? a=U o/\o.ExactSet/\o.data=.set es ep t/\es.toList=zs.map (λz=>(cQ prog w z.1,(.ref z.2:A0)))/\t.fits es.size=true/\(w.params.followText "set-order"=false->t.led=true)/\(0<es.size->t.plain=false)
theorem Uq{prog:A3}{w:A4}{h:A6}:∀{zs:O (O AY×A1)} {l:O (Int×A0)},AI (TE prog w h) zs l->l=zs.map (λz=>(cQ prog w z.1,(.ref z.2:A0)))
 |_,_,.nil=>rfl
 |_,_,.cons r t=>by rw[zt,<-Uq t,r.1]
theorem Ts.of(x:Tu prog w h a zs):Ts prog w h a zs:=
 let ⟨o,es,ep,t,e,r,d,q⟩:=x;⟨o,es,ep,t,e,r,d,Uq q.rel,q.tok.fits,q.led,q.non⟩
theorem Ts.keep{h':A6}(x:Ts prog w h a zs)(k:∀o,h.get? a=U o->h'.get? a=U o):Ts prog w h' a zs:=
 let ⟨o,es,ep,t,e,r⟩:=x;⟨o,es,ep,t,k o e,r⟩
def GL(X:Cx)(a:A1)(zs:O (O AY×A1)):HO:=.ext λh=>Ts X.prog X.w h a zs
theorem X2(X:Cx)(h:Ks ks us):ItemsAre (bG X.prog X.w) ks us:=by
 induction h with
 |nil=>exact .nil
 |cons r _ a=>exact .cons r a
theorem sr(X:Cx)(h:ItemsAre (bG X.prog X.w) ks us):Ks ks us:=by
 induction h with
 |nil=>exact .nil
 |cons r _ a=>exact .cons r a
theorem Ur(X:Cx)(q:lM h ks v):∃b,v=.ref b/\IsTupleKey (bG X.prog X.w) h ks b:=by
 obtain⟨a,o,AQ,n,e,g,c,d,p⟩:=q;exact⟨a,e,o,AQ.toArray,n,g,c,d,by simpa using X2 X p⟩
theorem UU(X:Cx){b:A1}(q:IsTupleKey (bG X.prog X.w) h ks b):lM h ks (.ref b):=by
 obtain⟨o,AQ,n,g,c,d,p⟩:=q;exact⟨b,o,AQ.toList,n,rfl,g,c,by simpa using d,sr X p⟩
def br(X:Cx):O V->Hp->VK->Prop:=λxs H Q=>∃v b ds bV,xs=[v]/\bf X.K H b v/\zm b=U ds/\wX ds=U bV/\bV.length<=64/\(∀k∈bV,FM k) ∧
 ∀a zs H',AV H H'->H' a=U (GL X a zs)->(∀k,k∈zs.map (·.1)↔k∈bV)->(zs.map (·.1)).Nodup->(∀z∈zs,AW X.K H' (BE z.1) (.ref z.2))->Q (.ref a) H'
def CU(X:Cx)(S:A1)(AQ:O A0)(h:A6)(ys:O (O AY)):Prop:=∃zs,zs.map (·.1)=ys/\Tu X.prog X.w h S zs/\∀z∈zs,(.ref z.2:A0)∈AQ
theorem Eh{h:A6}:∀{bV:O (O AY)} {vs:O A0},AI (lM h) bV vs->∀{i:Nat} {v:A0},vs[i]?=U v->∃k,bV[i]?=U k/\lM h k v
 |_,_,.nil,i,v,q=>by simp at q
 |_,_,.cons r _,0,v,q=>by simp at q;subst q;exact⟨_,rfl,r⟩
 |_,_,.cons _ t,i+1,v,q=>by
  rw[qc]at q;obtain⟨z,z1,z2⟩:=Eh t q;exact⟨z,by rw[qc];exact z1,z2⟩
theorem Us{h0:A6}{S:A1}(hs:AI (lM h0) bV AQ)(hl:bV.length<=64)(hx:∀k∈bV,FM k)(B:h0.objs.size=S):Dx X.prog X.w S [S+1] (λh zs=>(∀b o,h0.get? b=U o->h.get? b=U o)/\CU X S AQ h zs) (λi v=>AQ.toArray[i]?=U v) (λi=>bV.getD i []) AQ.length where
 keep:=λh h' ys t k=>by
  obtain⟨j,zs,e,t,m⟩:=t;have u:∀b o,(b=S\/b<S)->h.get? b=U o->h'.get? b=U o:=λb o hb e=>k b o (by
   simp only[Qr,QN,or_false];rcases hb with rfl|hb
   ·exact zI (qA _)
   ·exact zI (qV hb)) e
  have old:∀b o,h0.get? b=U o->h'.get? b=U o:=λb o e=>u b o (.inr (by rw[<-B];exact zD e)) (j b o e);refine⟨old,zs,e,?_,m⟩;obtain⟨o,es,ep,K,g,r,d,q⟩:=t;refine⟨o,es,ep,K,u S o (.inl rfl) g,r,d,⟨?_,q.nd,q.tok,q.load,q.led,q.non⟩⟩;have key:∀{zs:O (O AY×A1)} {l:O (Int×A0)},AI (TE X.prog X.w h) zs l->(∀z∈zs,(.ref z.2:A0)∈AQ)->AI (TE X.prog X.w h') zs l:=by
   intro zs l r
   induction r with
   |nil=>intro _;exact .nil
   |cons q _ M=>
    intro m;refine .cons ⟨q.1,Zq q.2 λo e c=>?_⟩ (M λz p=>m z (zh _ p));obtain⟨i,hi,N⟩:=jv (m _ (zg ..));obtain⟨kk,_,tv⟩:=Eh hs (show AQ[i]?=U _ by rw[z5 hi,N]);obtain⟨b,eb,⟨ob,_,_,gb,_⟩⟩:=Ur X tv;cases eb;exact u _ o (.inr (by rw[<-B];exact zD gb)) e
  exact key q.rel m
 add:=λA E s i v ys Q C hi n P p h=>by
  obtain⟨j,zs,e,t,m⟩:=P;have n:AQ[i]?=U v:=by simpa using n
  obtain⟨ks,e1,tv⟩:=Eh hs n;have I:=tv.keep j;obtain⟨b,rfl,G⟩:=Ur X I;have L:bV.getD i []=ks:=by simp[dg,e1]
  have W:AQ.length=bV.length:=hs.length.symm;have a0:zs.length=ys.length:=by rw[<-e,zk]
  unfold setAdd;refine qS (zb (wpAny_pyHash_tuple C G ?_));refine Sk (s:={ s with toks:=s.toks+(ks.length+1) }) C t G (hx ks (Q1 e1)) () λr h' D F J a l=>?_;refine h r h' _ (D.map (·.1)) F ⟨λc o g=>?_,D,rfl,J,λz p=>?_⟩ (λz=>?_) (by rw[zk];omega) (i0 _ _)
  ·rw[F.2 c λq=>by subst q;have:=zD g;rw[B]at this;exact kg _ this];exact j c o g
  ·rcases(a z).mp p with q|⟨q,_⟩
   ·exact m z q
   ·subst q;exact Q1 n
  ·rw[L,<-e,KL,KL];constructor
   ·rintro⟨y,f,rfl⟩;rcases(a y).mp f with q|⟨q,_⟩
    ·exact .inl ⟨y,q,rfl⟩
    ·exact .inr (congrArg pF q)
   ·rintro(⟨y,f,x⟩|H)
    ·exact⟨y,(a y).mpr (.inl f),x⟩
    ·rw[H];by_cases q:ks∈zs.map (·.1)
     ·obtain⟨y,f,x⟩:=List.mem_map.mp q;exact⟨y,(a y).mpr (.inl f),x⟩
     ·exact⟨(ks,b),(a _).mpr (.inr ⟨rfl,q⟩),rfl⟩
theorem b5(hc:X.calm=true)(hu:X.A.units+100<cLine):gj X (.type "set") (br X):=by
 intro AN s σ H xs us Q I r h;obtain⟨v,b,ds,bV,rfl,rb,ed,ek,hl,hx,q⟩:=h;obtain⟨u,rfl,ru⟩:=BB r;obtain⟨p,vs,rfl,sq,rs⟩:=QT rb ed;have b0:=Gu ek;subst b0;cases ru;have hh:=I.ok.hd hc;have N:∀(h':A6) (tk:Nat) (ys:O (O AY)) (AQ:O A0),AX vs AQ->((∀b o,s.heap.get? b=U o->h'.get? b=U o)/\CU X s.heap.objs.size AQ h' ys)->(∀z,z∈ys↔∃j,j<AQ.length/\z=bV.getD j [])->(∀b E,s.heap.get? b=U E->h'.get? b=U E)->EP X AN σ Q (.ref s.heap.objs.size) { s with heap:=h',toks:=tk }:=by
  intro h' tk ys AQ J cu C k;obtain⟨_,zs,e,t,m⟩:=cu;have a2:=I.hok.fresh (zi s.heap.objs.size);have W:AQ.length=bV.length:=by rw[<-J.length,rs.length,zk]
  have tv:=uz I rs J;refine⟨.ref s.heap.objs.size,_,I.laid (t':=tk) (a:=s.heap.objs.size) (o:=GL X s.heap.objs.size zs) k (zi _) ?_,rfl,q _ zs _ (bL a2) bK (λz=>?_) ?_ λz l=>?_⟩
  ·obtain⟨o,es,ep,t',ho,_⟩:=id t;exact⟨Ts.of t,⟨o,ho⟩,λh1 h2 t1 k1=>Ts.keep t1 k1⟩
  ·rw[e,C z];constructor
   ·rintro⟨j,f,rfl⟩;rw[W]at f;simp[dg,f]
   ·intro l;obtain⟨j,f,e⟩:=jv l;exact⟨j,by rw[W];exact f,by simp[dg,f,e]⟩
  ·obtain⟨o,es,ep,t',ho,_,_,x⟩:=t;exact x.nd
  ·obtain⟨o,es,ep,t',ho,_,_,x⟩:=t;obtain⟨i,hi,ei⟩:=jv l;obtain⟨ee,_,te⟩:=Ed x.rel (show zs[i]?=U z by rw[z5 hi,ei]);have tz:=UU X te.2;have a1:=m z l;obtain⟨j,f,ej⟩:=jv a1;obtain⟨kk,_,a5⟩:=Eh tv (show AQ[j]?=U (.ref z.2) by rw[z5 f,ej]);have ek:kk=z.1:=(a5.keep k).inj tz;obtain⟨w1,M,r2⟩:=Gv I rs J (lss:=[kk]) (out:=[.ref z.2]) (.cons a5 .nil) (λu hu=>by cases List.mem_singleton.mp hu;exact a1);cases M with
   |@cons w0 _ _ _ r0 M=>
    cases M;simp only[zt,JJ,aK]at r2;obtain⟨v0,B,ev,F,_⟩:=r2;simp only[kz]at ev;rw[<-ev.1]at F;have hw:w0=V.ref z.2:=by
     have q1:=F;simp only[BE,AW]at q1;obtain⟨a0,ws,e0,_⟩:=q1;subst e0;cases r0;rfl
    rw[<-ek,<-hw];exact F.kp (.of (bL a2))
 have a3:∀h':A6,h'.get? s.heap.objs.size=U (BY X.w)->∀AQ:O A0,CU X s.heap.objs.size AQ h' []:=λh' e AQ=>
  ⟨[],rfl,⟨_,#[],0,_,e,⟨rfl,rfl,rfl⟩,rfl,⟨.nil,JO,{ mask:=.inl rfl,dum:=rfl,rise:=λi j _ f=>absurd f (ku _),bd:=λj f=>by simp[hC]at f,full:=QY _,size:=rfl,reach:=λi j e h1=>by simp[hC]at h1 },(show 0*5<7*3 by decide),λq=>by simp[hC,q],λq=>absurd q (kg _)⟩⟩,λz l=>by cases l⟩
 rcases sq with sq|sq
 ·obtain⟨AQ,B,pl,l⟩:=I.list sq;obtain⟨o,g,c,n,d⟩:=pl.isList;refine Xe () (T :="list") hh g c (.inl S) (P:=λi v=>AQ.toArray[i]?=U v) (n:=AQ.length) (λK E' Q' h0 D y G=>?_) (Us (uz I rs B) hl hx S) (λh' e k=>⟨k,a3 h' e AQ⟩) λh' tk zs tx C k=>N h' tk zs AQ B tx C k;refine k9 (items:=AQ.toArray) ⟨o,y _ _ g,c,n,d⟩ ?_;have L:p≠h0.objs.size:=zI (zD (y _ _ g));refine G _ (λi h=>h.IsListIter h0.objs.size p i/\h.IsList p AQ.toArray) (λK D=>by have:=Walks.list (prog:=X.prog) (w:=X.w) D h0.objs.size p L AQ.toArray;rw[zC]at this;exact this) ⟨⟨_,zw _ rfl,rfl,rfl⟩,⟨o,ze _ (y _ _ g),c,n,d⟩⟩ λb E e=>ze _ e
 ·obtain⟨AQ,B,pl,l⟩:=I.tuple sq;obtain⟨o,g,c,n,d⟩:=id pl;refine Xe () (T :="tuple") hh g c (.inr S) (P:=λi v=>AQ.toArray[i]?=U v) (n:=AQ.length) (λK E' Q' h0 D y G=>?_) (Us (uz I rs B) hl hx S) (λh' e k=>⟨k,a3 h' e AQ⟩) λh' tk zs tx C k=>N h' tk zs AQ B tx C k;refine wpAny_pyIter_tuple (items:=AQ.toArray) ⟨o,y _ _ g,c,n,d⟩ ?_;have L:p≠h0.objs.size:=zI (zD (y _ _ g));refine G _ (λi h=>h.IsTupleIter h0.objs.size p i/\h.IsTuple p AQ.toArray) (λK D=>by have:=Walks.tuple (prog:=X.prog) (w:=X.w) D h0.objs.size p L AQ.toArray;rw[zC]at this;exact this) ⟨⟨_,zw _ rfl,rfl,rfl⟩,⟨o,ze _ (y _ _ g),c,n,d⟩⟩ λb E e=>ze _ e
theorem lI(I:AU X AN σ H s)(h:H a=U (GL X a zs)):Ts X.prog X.w s.heap a zs:=(I.hok _ _ h).1
def mo(X:Cx):O V->Hp->VK->Prop:=λxs H Q=>∃a zs,xs=[.ref a]/\H a=U (GL X a zs)/\Ir (zs.map (·.1))=true/\(∀z∈zs,AW X.K H (BE z.1) (.ref z.2))/\∀l H' us,AV H H'->H l=Z->H' l=U (.lst us)->aK X.K H' ((jO (zs.map (·.1))).map BE) us->Q (.ref l) H'
theorem a6(hc:X.calm=true):gj X (.builtin "sorted") (mo X):=by
 intro AN s σ H xs us Q I r h;obtain⟨a,zs,rfl,ha,hs,x,q⟩:=h;obtain⟨u,rfl,ru⟩:=BB r;cases ru;simp only[Ir,ZH,ZN,qf,Q3]at hs;obtain⟨C,a0,L⟩:=hs;rw[zk]at C;obtain⟨o,es,ep,t,ho,b0,hd,D,ft,b4,M⟩:=lI I ha;have f:es.size=zs.length:=by rw[<-ZU,D,zk]
 have P:Wk X.w s.heap a es ep t:=⟨⟨o,ho,b0.1,hd⟩,ft,b4,.inl λq=>M ()⟩;have a1:aK X.K H ((zs.map (·.1)).map BE) (zs.map λz=>(V.ref z.2))/\AX (zs.map λz=>(V.ref z.2)) (zs.map λz=>(.ref z.2:A0)):=by
  clear D ha q C a0 L f P M
  induction zs with
  |nil=>exact⟨aK.nil,.nil⟩
  |cons z zs p=>
   obtain⟨i1,i2⟩:=p λy hy=>x y (zh _ hy);exact⟨aK.cons (x z (zg ..)) i1,.cons S i2⟩
 have a3:=uz I a1.1 a1.2;have tz:∀z∈zs,lM s.heap z.1 (.ref z.2):=λz g=>by
  have:=uz I (bV:=[z.1]) (vs:=[V.ref z.2]) (AQ:=[.ref z.2]) (aK.cons (x z g) aK.nil) (.cons S .nil);cases this with
  |cons q' _=>exact q'
 refine Xj (λvs=>∃ys:O (O AY×A1),ys.Perm zs/\vs=ys.map λz=>(.ref z.2:A0)) (tuples' true) (λvs v=>C7 (vs.map λu=>BA (zs.map (·.1)) (zs.map λz=>(.ref z.2:A0)) u) (BA (vs.map λu=>BA (zs.map (·.1)) (zs.map λz=>(.ref z.2:A0)) u) vs v))
  (λE' Q' B=>Hu (by exact I.ok.hd hc) P (by rw[f,sizeLine_eq];omega) λm h1 d tk hp a5 ext=>B m h1 d tk ?_ a5 ext) ?_ ?_ ?_ ?_
 ·rw[D,QE]at hp;have:∀{m vs:O A0},m.Perm vs->∀zs:O (O AY×A1),vs=zs.map (λz=>(.ref z.2:A0))->∃ys:O (O AY×A1),ys.Perm zs/\m=ys.map λz=>(.ref z.2:A0):=by
   intro m vs hp
   induction hp with
   |nil=>intro zs e;cases zs with|nil=>exact⟨[],.refl _,rfl⟩|cons _ _=>cases e
   |cons y _ p=>
    intro zs e;cases zs with
    |nil=>cases e
    |cons z zs=>
     rw[zt]at e;injection e with e1 e2;obtain⟨ys,p1,p2⟩:=p zs e2;exact⟨z::ys,p1.cons _,by rw[zt,e1,p2]⟩
   |swap y1 y2 l=>
    intro zs e
    match zs,e with
    |z1::z2::zs,e=>
     simp only[zt,kz]at e;exact⟨z2::z1::zs,List.Perm.swap _ _ _,by simp only[zt];rw[e.1,e.2.1,e.2.2]⟩
    |[_],e=>simp at e
    |[],e=>cases e
   |trans _ _ c0 b9=>
    intro zs e;obtain⟨ys,p1,p2⟩:=b9 zs e;obtain⟨us,q1,q2⟩:=c0 ys p2;exact⟨us,q1.trans p1,q2⟩
  exact this hp zs rfl
 all_goals
  intro vs hG;obtain⟨ys,py,rfl⟩:=hG;have hm:∀v∈(ys.map λz=>(.ref z.2:A0)),v∈(zs.map λz=>(.ref z.2:A0)):=λv F=>((py.map _).mem_iff).mp F;have a2:∀v∈(ys.map λz=>(.ref z.2:A0)),lM s.heap (BA (zs.map (·.1)) (zs.map λz=>(.ref z.2:A0)) v) v:=λv F=>(oR a3 v (hm v F)).2;have tv:=Cp a2;have W:(ys.map λz=>(.ref z.2:A0)).map (λu=>BA (zs.map (·.1)) (zs.map λz=>(.ref z.2:A0)) u)=ys.map (·.1):=by
   rw[QE];refine QQ λz f=>?_;have g:=py.mem_iff.mp f;exact(a2 (.ref z.2) (List.mem_map.mpr ⟨z,f,rfl⟩)).inj (tz z g)
  have mk:∀k∈(ys.map λz=>(.ref z.2:A0)).map (λu=>BA (zs.map (·.1)) (zs.map λz=>(.ref z.2:A0)) u),k∈zs.map (·.1):=λk c=>by
   rw[W]at c;exact((py.map _).mem_iff).mp c
 ·intro h2 E' A' s' k Q' B;exact O1 (Paired.imp' (λ_ _ z=>lM.keep z k) tv) (λk c=>by have:=a0 k (mk k c);cases k with|nil=>cases this|cons _ _=>exact jr _ _) (λk c l i=>zA (L k (mk k c) l (mk l i))) () B
 ·intro A' s' k;exact Ua (Paired.imp' (λ_ _ z=>lM.keep z k) tv) λk c l i=>zA (L k (mk k c) l (mk l i))
 ·rw[zk,py.length_eq];exact C
 ·intro l h' d tk n st hp up i ext hL;have out:=Ub tv hp up;have mem:∀u∈((AM st).map (·.2)).toList,u∈(ys.map λz=>(.ref z.2:A0)):=λu A=>by
   rw[YU]at A;obtain⟨pr,b3,rfl⟩:=List.mem_map.mp A;have c2:pr∈(ys.map λz=>(.ref z.2:A0)).zip (ys.map λz=>(.ref z.2:A0)):=by rw[<-pairsOf_toList];exact(db.mp hp).mem_iff.mp b3
   have:=mem_zip_self c2;rw[<-this.1];exact this.2
  have J:H l=Z:=I.hok.fresh i;have back:∀{G:O (O AY)} {out:O A0},AI (lM s.heap) G out->(∀u∈out,u∈(ys.map λz=>(.ref z.2:A0)))->∃b,AX b out/\aK X.K H (G.map BE) b:=by
   intro G out pr
   induction pr with
   |nil=>intro _;exact⟨[],.nil,aK.nil⟩
   |cons q0 _ p=>
    intro N;obtain⟨b,E,j⟩:=p λu A=>N u (zh _ A);obtain⟨z,f,ez⟩:=List.mem_map.mp (N _ (zg ..));subst ez;have g:=py.mem_iff.mp f;have ek:=q0.inj (tz z g);refine⟨.ref z.2::b,.cons S E,?_⟩;rw[zt,ek];exact aK.cons (x z g) j
  obtain⟨b,E,j⟩:=back out mem;rw[W]at j;have es:jO (ys.map (·.1))=jO (zs.map (·.1)):=oO ((mY _).trans (py.map _)) (zy _);rw[es]at j;have c1:b.length=zs.length:=by rw[j.length,zk,(mY _).length_eq,zk]
  refine⟨.ref l,_,O7 (d:=d) (I.laid (t':=tk) (a:=l) (o:=.lst b) ext i ⟨by rw[c1,sizeLine_eq];omega,_,n,E,?_⟩),rfl,q _ _ b (bL J) J bK (j.kp (.of (bL J)))⟩;rw[hL]
def Gy{α:Type}[DecidableEq α]:O α->O α
 |[]=>[]
 |y::ys=>if y∈ys then Gy ys else y::Gy ys
section
variable [DecidableEq α]
theorem pU:∀{ys:O α} {z:α},z∈Gy ys↔z∈ys
 |[],z=>by simp[Gy]
 |y::ys,z=>by
  unfold Gy;split
  ·rename_i h;rw[pU,Qr];exact⟨.inr,λq=>q.elim (λe=>e▸h) id⟩
  ·rw[Qr,Qr,pU]
theorem Gz:∀(ys:O α),(Gy ys).Nodup
 |[]=>JO
 |y::ys=>by
  unfold Gy;split
  ·exact Gz ys
  ·rename_i h;exact bT.mpr ⟨λq=>h (pU.mp q),Gz ys⟩
theorem Ju:∀(ys:O α),(Gy ys).length<=ys.length
 |[]=>zi _
 |y::ys=>by
  have:=Ju ys;unfold Gy;split<;>simp<;>omega
theorem Q8{β:Type}[DecidableEq β]{f:α->β}(hi:∀a b,f a=f b->a=b):∀(ys:O α),Gy (ys.map f)=(Gy ys).map f
 |[]=>rfl
 |y::ys=>by
  have c:f y∈ys.map f↔y∈ys:=⟨λq=>by obtain⟨z,d,e⟩:=List.mem_map.mp q;rw[<-hi _ _ e];exact d,λq=>List.mem_map.mpr ⟨y,q,rfl⟩⟩;rw[zt];unfold Gy;by_cases q:y∈ys
  ·rw[zl q,zl (c.mpr q),Q8 hi ys]
  ·rw[zz q,zz λh=>q (c.mp h),zt,Q8 hi ys]
end
section
def Ut(ks:O AY):Bool:=ks.any λk=>k.isRight
theorem Sm(h:Ut ks=true):FM ks:=by
 unfold Ut at h;rw[ja]at h;obtain⟨k,a,e⟩:=h;cases k with
 |inl i=>cases e
 |inr x=>exact⟨x,a⟩
def tU(X:Cx)(f:Ev->Y (O (O AY))):L2.TE:=λσ H Q=>∃H0 ρ bV,cg X.K H0 H σ ρ/\f ρ=U bV/\∀a zs H',AV H H'->H' a=U (GL X a zs)->(∀k,k∈zs.map (·.1)↔k∈bV)->(zs.map (·.1)).Nodup->(∀z∈zs,AW X.K H' (BE z.1) (.ref z.2))->Q (.ref a) H'
def X0(X:Cx)(e:Expr)(f:Ev->Y (O (O AY))):Prop:=PE X e (tU X f)
structure SA (X:Cx) (e:Expr) (f:Ev->Option (List (List AY))):Prop where
 run:X0 X e f
def SG(b:Bx):Y (O (O AY)):=(zm b).bind λds=>(wX ds).bind λbV=>if bV.length<=64/\bV.all Ut=true then U bV else Z
def Xm(f:Ev->Y Bx):Ev->Y (O (O AY)):=λρ=>(f ρ).bind SG
def Kf(fs:Ev->Y (O (O AY))):Ev->Y Bx:=λρ=>(fs ρ).bind λbV=>if Ir bV=true then U (.o ((jO (Gy bV)).map BE))else Z
variable{fs:Ev->Y (O (O AY))}{p:Pos}
theorem Zt(j:X.calm=true)(l:X.A.units+100<cLine)(hg:Gl X "set")(i:X.mg "set"=Z)(ha:QV X e f)(he:A9 (e::[]) X.env=(false,eval e X.env)::A9 [] X.env:=by rfl):SA X (.Call (.Name "set" p) [e] [] pos) (Xm f):=by
 refine⟨Ij (FW (T :="set") (b5 j l) hg i S (iw ha.run sI he) (he:=he)) λσ H Q h=>?_⟩;obtain⟨H0,ρ,bV,E,c,q⟩:=h;obtain⟨b,eb,c⟩:=AT c;obtain⟨ds,o,c⟩:=AT c;obtain⟨x,ek,c⟩:=AT c;split at c
 ·rename_i d;cases c;rw[qf]at d;exact⟨H0,ρ,b,E,eb,λv H1 s w n=>⟨v,b,ds,bV,rfl,n,o,ek,d.1,λk t=>Sm (d.2 k t),λa zs H2 u e2 m nd g=>q a zs H2 (s.trans u) e2 m nd g⟩⟩
 ·cases c
theorem ff{lss:O (O AY)}(h:Ir bV=true)(d:lss.length<=bV.length)(a:∀k∈lss,k∈bV):Ir lss=true:=by
 simp only[Ir,ZH,ZN,qf,Q3]at h ⊢;exact⟨by omega,λk b=>h.2.1 k (a k b),λk b l c=>h.2.2 k (a k b) l (a l c)⟩
theorem Zu(o:X.calm=true)(hg:Gl X "sorted")(j:X.mg "sorted"=Z)(ha:SA X e fs)(he:A9 (e::[]) X.env=(false,eval e X.env)::A9 [] X.env:=by rfl):QV X (.Call (.Name "sorted" p) [e] [] pos) (Kf fs):=by
 refine⟨Ij (sJ (id :="sorted") (a6 o) hg j S (iw ha.run sI he) (he:=he)) λσ H Q h=>?_⟩;obtain⟨H0,ρ,b,E,c,q⟩:=h;obtain⟨bV,i,c⟩:=AT c;split at c
 ·rename_i t;cases c;refine⟨H0,ρ,bV,E,i,λa zs H1 f e1 m nd s=>⟨a,zs,rfl,e1,?_,s,λl H2 us g v e2 d=>?_⟩⟩
  ·have e3:=(Aj nd (Gz bV) λz=>by rw[m z,pU]).length_eq;have:=Ju bV;exact ff t () λk u=>(m k).mp u
  ·have n:=Aj nd (Gz bV) λz=>by rw[m z,pU]
   have es:jO (zs.map (·.1))=jO (Gy bV):=oO ((mY _).trans n) (zy _);rw[es]at d;exact q _ H2 (f.trans g) (λa ea=>by cases ea;exact f.free v) ⟨l,us,rfl,e2,d⟩
 ·cases c
end
end P1
namespace P1
open L2
def Kg:Bx->Bx->Y Bx
 |.z (.str k),.z d=>U (.z (.tup [.str k,d]))
 |_,_=>Z
theorem Xn{a:Bx}{y:Dt}(h:Kg a b=U (.z y)):∃k d,a=.z (.str k)/\b=.z d/\y=.tup [.str k,d]:=by
 unfold Kg at h;split at h
 ·cases h;exact⟨_,_,rfl,rfl,rfl⟩
 ·cases h
def MB(AO:O (AY×Dt)):Dt->O (AY×Dt)
 |.tup [.str k,d]=>QM AO (.inr k) d
 |_=>AO
def dictOf(out:O Dt):O (AY×Dt):=out.foldl MB []
theorem Uu(out:O Dt)(k:AJ)(d:Dt):dictOf (out++[.tup [.str k,d]])=QM (dictOf out) (.inr k) d:=by
 unfold dictOf;rw[JU];rfl
theorem gm{AO:O (AY×V)}{k:AY}{v:V}{r:A0}{Q:Unit->A2->Prop}(I:L2.AU X AN σ H s)(e:H a=U (.dK AO))(l:AO.length<AA)(i:At (kV k) u)(f:At v r)(h:∀s',L2.AU X AN σ (B6 H a (.dK (BG AO k v))) s'->Q sn s'):
  A7 (sg X) A (dictSet a u r) Q E s:=by
 obtain⟨z,m,vs,c,n⟩:=Lm I.hok e;have d:vs.length<=AA:=by rw[<-c.length];exact z
 have j:(BG AO k v).length<=AA:=by have:=qd AO k v;omega
 refine wpAny_dictSet_pairs (hsz:=d) (JK i) n λh' b hs=>h _ ?_;have g:∃q,h'.get? a=U q:=let ⟨q,_,_,hq,_⟩:=b;⟨q,hq⟩;exact Jl I (by rw[e];exact True.intro) hs g (Wz j m (c.put k f) b)
section
variable{kx vx:Expr}{xs:AZ}
def FD(K:B1)(_:A1)(H:Hp)(a:O Dt)(o:HO):Prop:=∃us,o=.dK us/\fX K H (dictOf a) us/\us.length<=a.length
theorem FD.kp{K:B1}{D:A1}{H H':Hp}{a:O Dt}{o:HO}(k:Kp H H'):FD K D H a o->FD K D H' a o:=λ⟨us,e,r,z⟩=>⟨us,e,r.kp k,z⟩
theorem l9(P:PV X kx fk)(F:PV X vx fv):FY X (λD env=>do let g <-eval kx env;let vv <-holding [g] (eval vx env);standAt { kx.pos with endLine:=vx.pos.endLine,endCol:=vx.pos.endCol };holding [g,vv] (dictSet D g vv)) (Op (b2 Kg fk fv)) (FD X.K) 999 n:=by
 refine OK λAN s σ H H0 ρ D o o1 ys I En eb hD ⟨us,e,r4,hl⟩ hi=>?_;subst e;obtain⟨b,e0,e1⟩:=AT eb;obtain⟨y,rfl,rfl⟩:=Gf e1;obtain⟨bk,E,eb⟩:=AT e0;obtain⟨Q,u,eb⟩:=AT eb;obtain⟨c,q,rfl,rfl,rfl⟩:=Xn eb;refine zb (QR (P AN s σ H (λv a=>AV H a/\bf X.K a (.z (.str c)) v) I ⟨H0,ρ,_,En,E,λv a f _ d=>⟨f,d⟩⟩) (λg C h=>?_) λ_ _ z=>z);obtain⟨w,m,N,rk,p,G⟩:=h;refine zb (qS (QR (F AN C σ m (λv a=>AV m a/\AW X.K a q v) N ⟨H0,ρ,_,En.grow p,u,λv a f _ d=>⟨f,d⟩⟩) (λv f h=>?_) λ_ _ z=>z));obtain⟨i,a,J,A,M,d⟩:=h;have j:=p.trans M;have l:a D=U (.dK us):=j _ _ hD;obtain⟨rfl,L⟩:w=.str c/\c.length<=AA:=by simpa only[bf,AW]using G
 have kp:Kp a (B6 a D (.dK (BG us (Sum.inr c) i))):=.dk l;refine zb (YA (qS ?_));simp only[lz]at hi;refine gm J l (by have:(1000:Nat)<AA:=();omega) (k:=Sum.inr c) rk A λW B=>?_;have t:=((r4.kp (.of j)).put (x:=Sum.inr c) d L).kp kp;exact⟨a,_,B,j,kp,BG us (Sum.inr c) i,rfl,by rw[Uu];exact t,by have:=qd us (Sum.inr c) i;simp;omega⟩
def Zv(fi:Ev->Y (O Dt))(gt:Dt->Ev->Y Ev)(p:Ev->Y Bool)(fk fv:Ev->Y Bx)(is:O Nat)(n:Nat):Ev->Y Bx:=λρ=>(fi ρ).bind λds=>
 if ds.length<1000 then(Hi gt p (b2 Kg fk fv) (mz is ρ++ab n Z) ds).bind λout=>U (.m (dictOf out) Z)else Z
theorem XL(hu:X.A.units+100<cLine)(ts:AZ)(O:wQ X scope cl xs is)(W:X.calm=true)(hi:GW X tgt iter fi)
  (L:∀C c d fp,DH (Mu X (xs++ts) scope cl C c d fp) tgt gt) (l:∀C c d fp,Gg (Mu X (xs++ts) scope cl C c d fp) ifs p) (a2:∀C c d fp,QV (Mu X (xs++ts) scope cl C c d fp) kx fk) (a1:∀C c d fp,QV (Mu X (xs++ts) scope cl C c d fp) vx fv) (j:DI is.length (is.length+ts.length) gt)
  (hs:∀x,foldedSetIterable iter X.env x=pure x:=by intro _;rfl):QV X (.DictComp kx vx [⟨tgt,iter,ifs,0⟩] scope pos) (Zv fi gt p fk fv is ts.length):=⟨λAN s σ H Q I h=>by
 obtain⟨H0,ρ,b,E,e,q⟩:=h;obtain⟨ds,P,e⟩:=AT e;split at e
 ·rename_i z;obtain⟨out,i,e⟩:=AT e;cases e;rw[arm_eval_DictComp];refine Kx (use:=Z) S hs O.clos O.kind O.names ?_;refine jw (hi.run AN s σ H (λJ H'=>AV H H'/\B4 X.K J ds H') I ⟨H0,ρ,ds,E,P,λJ H' s' y=>⟨s',y⟩⟩) λv s1 h1=>jw h1 λa5 s2 h2=>?_;obtain⟨it,fp,tn,J,H2,rfl,g,T,st,hf,f,Y⟩:=h2;refine Ol (B:=Oj) (Ac:=FD X.K) (O0:=.dK []) (N:=999) (RR:=λt C=>compPost (sg X) X.A X.xe Z (EP X AN σ Q) t C) (ts:=ts) (xs:=xs) O W (λC c d fp=>(L C c d fp).run) (λC c d fp=>(l C c d fp).run) (λC c d fp=>l9 (a2 C c d fp).run (a1 C c d fp).run) j (i0 ..) g ((E.grow f).caps is ts.length) (Tp T) st hf Y i (ZI (Af i) (Nat.le_of_lt_succ z)) ?_
   ZZ (λ_=>S8 s2.heap g.big) (λ_=>⟨[],rfl,fX.nil,zi _⟩) FD.kp (λ_ _ _=>S) codeAny_compStart_dict λh=>h
  rintro D C s' H' o hD u M ⟨m,hn⟩ a3 a0 ⟨us,rfl,n,_⟩;refine⟨m,hn,λh' sb=>⟨.ref D,H',?_,rfl,q (.ref D) H' (f.trans a3) (λa ea=>by cases ea;exact f.free hD) ⟨D,us,rfl,a0,n,λb hb=>by cases hb⟩⟩⟩;obtain⟨f0,f1,f2,f3,F,G⟩:=M;exact u.turned (t':=s'.toks) (λb o hb e=>(sb.2 b hb).trans e) f0 f1 f3 F G
 ·cases e⟩
end
section
variable{ks:O (AY×V)}{o:AE}
theorem Uv(hb:∀f u,X.H₀ a≠U (.yw f u))(I:L2.AU X AN σ H s)(e:H a=U (.yw o (.dK ks))):L2.AU X AN σ (B6 H a (.dK ks)) s:=by
 have ne:∀{b:A1} {u:HO},H b=U u->u≠.yw o (.dK ks)->b≠a:=λq n z=>by subst z;rw[e]at q;cases q;exact n rfl
 have nn:∀{b:A1},H b=Z->b≠a:=λq z=>by subst z;rw[e]at q;cases q
 refine⟨I.ok,I.os,I.bare,⟨I.base.keep,I.base.slot,λb f q n hx=>?_,I.base.there,λb xs q=>?_,λb f u q=>?_,λb ps q=>?_⟩,I.loc,I.cell,?_,λx c q=>?_,λp hp=>?_,λb f q=>?_,I.len⟩
 ·have:=I.base.free b f q n hx;rw[aV (nn this)];exact this
 ·have:=I.base.tups b xs q;rw[aV (ne this λz=>by cases z)];exact this
 ·have:=I.base.Ih b f u q;rw[aV (λz=>by subst z;exact hb _ _ q)];exact this
 ·obtain⟨m,this⟩:=I.base.Mv b ps q;exact⟨m,by rw[aV (ne this λz=>by cases z)];exact this⟩
 ·have:=I.free;rw[aV (nn this)];exact this
 ·have:=I.uw x c q;rw[aV (nn this)];exact this
 ·obtain⟨p1,p2,p3⟩:=I.pin p hp;exact⟨p1,by rw[aV (nn p2)];exact p2,p3⟩
 ·have st:∀{c:A1} {w:HO},ju X.prog X.w H s.heap c w->ju X.prog X.w (B6 H a (.dK ks)) s.heap c w:=λx=>
   x.stay (λ_ _ _ r=>r) (λd r=>by rw[aV (ne r λz=>by cases z)];exact r) λd xs r=>by rw[aV (ne r λz=>by cases z)];exact r
  by_cases g:b=a
  ·subst g;rw[bK]at q;cases q;exact st (I.hok _ _ e).2
  ·rw[aV g]at q;exact st (I.hok _ _ q)
theorem gI(I:L2.AU X AN σ H s)(e:H a=U (.dK ks))(ho:s.heap.get? a=U o):L2.AU X AN σ (B6 H a (.yw o (.dK ks))) s:=by
 have:=I.write (t':=s.toks) (h':=s.heap) (x:=a) (e:=a) (o:=.yw o (.dK ks)) (by rw[e];exact True.intro) (.inl S) (λ_ _ _ z=>z) ⟨o,ho⟩ ⟨ho,(I.hok _ _ e).stay (λ_ _ _ r=>r) (λd r=>by rw[aV (qO r e (by intro z;cases z))];exact r) λd xs r=>by rw[aV (qO r e (by intro z;cases z))];exact r⟩;exact this
theorem l5(I:L2.AU X AN σ H s)(e:H a=U (.dK ks)):∀b u,X.H₀ a≠U (.yw b u):=λb u q=>by
 have:=I.base.Ih a b u q;rw[e]at this;cases this
mutual
theorem AW.Uv{K:B1}(e:H a=U (.yw o (.dK ks)))(f:ks≠[]):∀{d:Dt} {v:V},AW K H d v->AW K (B6 H a (.dK ks)) d v
 |.non,_,h=>by simpa only[AW]using h
 |.bl _,_,h=>by simpa only[AW]using h
 |.int _,_,h=>by simpa only[AW]using h
 |.str _,_,h=>by simpa only[AW]using h
 |.tup ds,_,h=>by
  simp only[AW]at h ⊢;obtain⟨b,vs,e1,q,r⟩:=h;refine⟨b,vs,e1,?_,aK.Uv e f r⟩;rcases q with (q|⟨c,q⟩)|q
  ·exact .inl (.inl (by rw[aV (λz=>by subst z;rw[e]at q;cases q)];exact q))
  ·exact .inl (.inr ⟨c,by rw[aV (λz=>by subst z;rw[e]at q;cases q)];exact q⟩)
  ·exact .inr q
 |.lst ds,_,h=>by
  simp only[AW]at h ⊢;obtain⟨b,vs,e1,q,r⟩:=h;refine⟨b,vs,e1,?_,aK.Uv e f r⟩;rcases q with⟨c,q⟩|q
  ·exact .inl ⟨c,by rw[aV (λz=>by subst z;rw[e]at q;cases q)];exact q⟩
  ·exact .inr q
 |.emp,_,h=>by
  simp only[AW]at h ⊢;obtain⟨b,c,e1,q⟩:=h;exact⟨b,c,e1,by rw[aV (λz=>by subst z;rw[e]at q;cases q;exact f S)];exact q⟩
theorem aK.Uv{K:B1}(e:H a=U (.yw o (.dK ks)))(b:ks≠[]):∀{ds:O Dt} {vs:O V},aK K H ds vs->aK K (B6 H a (.dK ks)) ds vs
 |[],_,h=>by simpa only[aK]using h
 |d::ds,_,h=>by
  simp only[aK]at h ⊢;obtain⟨v,r,e1,q,t⟩:=h;exact⟨v,r,e1,AW.Uv e b q,aK.Uv e b t⟩
end
def S0(a:A1)(o:AE)(ks:O (AY×V)):It:=
 ⟨λi H=>H a=U (.yw o (.dK ks))/\i<ks.length,λi H x H'=>H'=H/\(ks.map λk=>kV k.1)[i]?=U x,λi H=>H a=U (.yw o (.dK ks))/\ks.length<=i⟩
theorem Zw(x:ju P w H h a (.yw o (.dK ks))){es:Array DictEntry}(b:o.data=.dict es ep):∃vs,KV ks vs/\h.DictAt (bG P w) a vs ep:=by
 obtain⟨e,_,_,vs,f,j,i,g,e2,c,d,r⟩:=x;rw[e]at e2;cases e2;rw[b]at d;cases d;exact⟨vs,f,o,es,e,c,b,r⟩
theorem PC:∀{ks:O (AY×V)} {vs:O (AY×A0)},KV ks vs->∀{i:Nat} {p},ks[i]?=U p->∃x,vs[i]?=U (p.1,x)
 |_,_,.nil,i,p,q=>by simp at q
 |_,_,.cons h _,0,p,q=>by simp at q;subst q;exact⟨_,by rw[List.getElem?_cons_zero,h.1]⟩
 |_,_,.cons _ t,i+1,p,q=>by
  rw[qc]at q;obtain⟨x,hx⟩:=PC t q;exact⟨x,by rw[qc];exact hx⟩
theorem O8(it:A1){es:Array DictEntry}(F:o.data=.dict es ep)(N:a≠it):CI P w K tg (S0 a o ks) [it] it (λi h=>h.IsKeyIter it a i ks.length ep) where
 mem:=by simp
 obj:=λi h st b hb=>by
  have e:b=it:=by simpa using hb
  subst e;obtain⟨f,e,c,d⟩:=st;exact⟨f,e,λv z=>by rw[d]at z;cases z⟩
 keep:=λi h h' st k=>st.at λf e=>k it (by simp) f e
 item:=by
  intro X p A u D i AN s σ H E I g st hg;subst p A u;obtain⟨ha,hi⟩:=hg;obtain⟨vs,m,y⟩:=Zw (I.hok _ _ ha) F;have l:ks.length=vs.length:=m.length;obtain⟨x,hx⟩:=PC m (show ks[i]?=U ks[i] by simp[hi]);obtain⟨f0,f1,f2,B,n,q⟩:=g it (by simp);rw[l]at st;refine wpAny_pyNext_dict_item st y hx λkey h' L C M=>?_;rw[<-l]at C;have G:L2.AU X AN σ H { s with heap:=h' }:=I.turned (t':=s.toks) (λb f hb e=>(M.2 b hb).trans e) f0 f1 B n q;obtain⟨f,e,c,d⟩:=id C;refine⟨key,rfl,Oa (s:={ s with heap:=h' }) e c d () ⟨kV (ks[i]).1,H,G,?_,⟨rfl,by rw[Zp,z5 hi];rfl⟩,C,λb hb=>(g b hb).1⟩⟩;have J:lJ (ks[i]).1 key=true:=L;rcases bO J with⟨j,t,e2,e3⟩|⟨z,t,e2,e3⟩
  ·rw[e2,e3];exact⟨t,rfl⟩
  ·rw[e2,e3];exact⟨t,rfl⟩
 done:=by
  intro X p A u D i AN s σ H E I g st hg;subst p A u;obtain⟨ha,hi⟩:=hg;obtain⟨vs,m,y⟩:=Zw (I.hok _ _ ha) F;have l:ks.length=vs.length:=m.length;obtain⟨f0,f1,f2,B,n,q⟩:=g it (by simp);rw[l]at st;exact wpAny_pyNext_dict_end (I.ok.hd D) st y (QI ()) λh' eb=>⟨rfl,I.turned (t':=s.toks) (λb f hb e=>eb b f hb e) f0 f1 B n q⟩
 self:=λ_ _ _ _ _ st h=>wpAny_pyIter_keyiter st h
def Xo:AY->Dt
 |.inl i=>.int i
 |.inr x=>.str x
theorem VT{k:AY}(h:EI k):AW K H (Xo k) (kV k):=by
 cases k with
 |inl i=>unfold Xo AW;rfl
 |inr x=>unfold Xo AW;exact⟨rfl,h⟩
def Do:Bx->Y (O Dt)
 |.n AO=>U (AO.map λp=>Xo p.1)
 |_=>Z
theorem bS(h:Do b=U ds):∃AO,b=.n AO/\ds=AO.map λp=>Xo p.1:=by
 unfold Do at h;split at h
 ·cases h;exact⟨_,rfl,rfl⟩
 ·cases h
theorem Hv(ha:Hs a=U (.yw o (.dK ks)))(b:fX K Hs AO ks):B4 K (S0 a o ks) (AO.map λp=>Xo p.1) Hs:=.of λi H s=>by
 have f:=b.len;refine⟨λd e=>?_,λe=>⟨s _ _ ha,by rw[zk]at e;omega⟩⟩;rw[Zp]at e;cases hp:AO[i]? with
 |none=>rw[hp]at e;cases e
 |some p=>
  rw[hp]at e;cases e;have hi:i<AO.length:=(bv.mp hp).1;refine⟨⟨s _ _ ha,by omega⟩,λx H' y=>?_⟩;obtain⟨y1,y2⟩:=y;refine⟨y1,?_⟩;have h1:(ks.map (·.1))[i]?=U p.1:=by rw[b.1,Zp,hp];rfl
  rw[Zp]at h1 y2;cases c:ks[i]? with
  |none=>rw[c]at h1;cases h1
  |some q=>
   rw[c]at h1 y2;cases y2;have:q.1=p.1:=by simpa using h1
   show AW K H (Xo p.1) (kV q.1);rw[this];exact VT (b.2.2 p (Q1 hp))
theorem Xp{H1:Hp}(e:H1 a=U (.dK ks))(E:cg K H1 H1 (Ce is σ++ab n Z) (mz is ρ++ab n Z)):cg K (B6 H1 a (.yw o (.dK ks))) (B6 H1 a (.yw o (.dK ks))) (Ce is σ++ab n Z) (mz is ρ++ab n Z):=by
 have kp:Kp H1 (B6 H1 a (.yw o (.dK ks))):=.dk e;have f:∀(j:Nat) c,(mz is ρ++ab n Z)[j]?=U (U c)->yM c=false:=λj c e=>by
  by_cases p:j<is.length
  ·rw[qa (by simp[mz];omega)]at e;unfold mz at e;rw[Zp]at e;cases q:is[j]? with
   |none=>rw[q]at e;cases e
   |some i=>
    rw[q]at e;have:BW ρ i=U c:=by simpa using e
    exact Dk this
  ·rw[QA (by simp[mz];omega),Q4]at e;split at e<;>cases e
 refine⟨E.len,λj b eb=>?_,λj k c a b e h=>absurd h (by rw[f j c e];exact ZT),AV.refl _,λj c a e h=>absurd h (by rw[f j c e];exact ZT)⟩;obtain⟨v,ev,r⟩:=E.val j b eb;refine⟨v,ev,?_⟩;cases b with
 |z d=>exact AW.kp kp r
 |o ds=>have:=f j _ eb;cases this
 |m ds _=>have:=f j _ eb;cases this
 |l ds=>
  obtain⟨b,vs,e1,q,r⟩:=r;refine⟨b,vs,e1,?_,r.kp kp⟩;rcases q with q|⟨g,q⟩
  ·exact .inl (by rw[aV (qO q e (by intro z;cases z))];exact q)
  ·exact .inr ⟨g,by rw[aV (qO q e (by intro z;cases z))];exact q⟩
 |n ds=>
  obtain⟨b,vs,e1,q,r⟩:=r;refine⟨b,vs,e1,?_,r.kp kp⟩;by_cases hb:b=a
  ·subst hb;rcases q with q|⟨g,q⟩
   ·rw[e]at q;cases q;exact .inr ⟨o,bK⟩
   ·rw[e]at q;cases q
  ·rcases q with q|⟨g,q⟩
   ·exact .inl (by rw[aV hb];exact q)
   ·exact .inr ⟨g,by rw[aV hb];exact q⟩
end
section
variable{fd:Ev->Y Bx}{xs:AZ}
def Uw(fd:Ev->Y Bx):Ev->Y (O Dt):=λρ=>(fd ρ).bind Do
theorem ci(ρ:Ev):Hi gt p fe ρ []=U []:=rfl
theorem Ux(ts:AZ)(O:wQ X scope cl xs is)(b3:X.calm=true)(hi:QV X iter fd)
  (Sv:∀C d f fp,DH (Mu X (xs++ts) scope cl C d f fp) tgt gt) (a2:∀C d f fp,Gg (Mu X (xs++ts) scope cl C d f fp) ifs p) (c0:∀C d f fp,QV (Mu X (xs++ts) scope cl C d f fp) elt fe) (a1:DI is.length (is.length+ts.length) gt)
  (hs:∀x,foldedSetIterable iter X.env x=pure x:=by intro _;rfl):QV X (.ListComp elt [⟨tgt,iter,ifs,0⟩] scope pos) (d7 (Uw fd) gt p fe is ts.length):=⟨λAN s σ H Q I h=>by
 obtain⟨H0,ρ,b,E,e,q⟩:=h;obtain⟨ds,M,e⟩:=AT e;split at e
 ·rename_i a3;obtain⟨out,t,e⟩:=AT e;cases e;obtain⟨bd,c6,M⟩:=AT M;obtain⟨AO,rfl,rfl⟩:=bS M;rw[eval_ListComp];refine Kx (use:=Z) S hs O.clos O.kind O.names ?_;refine jw (hi.run AN s σ H (λv H1=>AV H H1/\bf X.K H1 (.n AO) v) I ⟨H0,ρ,_,E,c6,λv H1 c _ r1=>⟨c,r1⟩⟩) λv c ⟨v',H1,I1,rv,s01,r1⟩=>?_;obtain⟨a,ks,rfl,g,y⟩:=r1;cases rv;obtain⟨_,c3,vs,kv,l,es,ep,W⟩:=yC I1.hok g;have a0:=W.1;have a5:=W.2.2.1;refine wpAny_pyIter_dict c3 (⟨l,es,W⟩:c.heap.DictAt (bG X.prog X.w) a vs ep) ?_;have b9:a<c.heap.objs.size:=zD a0;have hl:ks.length=vs.length:=kv.length;have b0:∀{H':Hp},L2.AU X AN σ H' c->∀b∈[c.heap.objs.size],wI X AN H' b:=λi b hb=>by
   have e:b=c.heap.objs.size:=by simpa using hb
   subst e;exact i.Wq (zi _) (i.hok.fresh (zi _))
  have c1:Heap.IsKeyIter (c.heap.push { cls:=.type "dict_keyiterator",data:=.fields #[.ref a,.int 0 0,.int vs.length 0,.int ep 0] }) c.heap.objs.size a 0 ks.length ep:=⟨_,zw _ rfl,rfl,by rw[hl];rfl⟩;rcases g with g|⟨o',g⟩
  ·
   have I2:=gI I1 g a0;have P:L2.AU X AN σ (B6 H1 a (.yw l (.dK ks))) { c with heap:=c.heap.push { cls:=.type "dict_keyiterator",data:=.fields #[.ref a,.int 0 0,.int vs.length 0,.int ep 0] } }:=I2.kept (t':=c.toks) λb o e=>ze _ e;have c8:fX X.K (B6 H1 a (.yw l (.dK ks))) AO ks:=y.kp (.dk g);refine Dq (B:=Oj) (RR:=λF C=>compPost (sg X) X.A X.xe Z (EP X AN σ Q) F C) (ts:=ts) (xs:=xs) O b3 (λC d f fp=>(Sv C d f fp).run) (λC d f fp=>(a2 C d f fp).run) (λC d f fp=>(c0 C d f fp).run) a1 P (Xp g ((E.grow s01).caps is ts.length)) (Tp (O8 c.heap.objs.size a5 (zI b9))) c1 (b0 I2) (Hv bK c8) a3 t ?_;intro D C s' H' us j i L ⟨m,hn⟩ s2' hD' r';have N:H' a=U (.yw l (.dK ks)):=s2' _ _ bK;have b4:D≠a:=λz=>by subst z;rw[bK]at j;cases j
   have d0:H1 D=Z:=by rw[aV b4]at j;exact j
   have sm:AV H1 (B6 H' a (.dK ks)):=λb u e=>by
    by_cases hb:b=a
    ·subst hb;rw[g]at e;cases e;exact bK
    ·rw[aV hb];exact s2' b u (by rw[aV hb];exact e)
   have rr:aK X.K (B6 H' a (.dK ks)) out us:=by
    by_cases hk:ks=[]
    ·have:AO=[]:=by have:=y.len;rw[hk]at this;exact List.length_eq_zero_iff.mp (by simpa using this.symm)
     subst this;simp only[JJ]at t;rw[ci]at t;cases t;simpa only[aK]using r'
    ·exact aK.Uv N hk r'
   refine⟨m,hn,λh' sb=>⟨.ref D,B6 H' a (.dK ks),?_,rfl,q _ _ (s01.trans sm) (λa ea=>by cases ea;exact s01.free d0) ⟨D,us,rfl,by rw[aV b4];exact hD',rr⟩⟩⟩;obtain⟨f0,f1,f2,f3,G,J⟩:=L;have c2:C≠a:=λz=>by subst z;rw[N]at f0;cases f0
   exact(Uv (l5 I1 g) i N).turned (t':=s'.toks) (λb o hb e=>(sb.2 b hb).trans e) (by rw[aV c2];exact f0) f1 f3 G J
  ·have d1:o'=l:=by
    have:=(I1.hok _ _ g).1;rw[a0]at this;cases this;rfl
   subst d1;have P:L2.AU X AN σ H1 { c with heap:=c.heap.push { cls:=.type "dict_keyiterator",data:=.fields #[.ref a,.int 0 0,.int vs.length 0,.int ep 0] } }:=I1.kept (t':=c.toks) λb o e=>ze _ e;refine Dq (B:=Oj) (RR:=λF C=>compPost (sg X) X.A X.xe Z (EP X AN σ Q) F C) (ts:=ts) (xs:=xs) O b3 (λC d f fp=>(Sv C d f fp).run) (λC d f fp=>(a2 C d f fp).run) (λC d f fp=>(c0 C d f fp).run) a1 P ((E.grow s01).caps is ts.length) (Tp (O8 c.heap.objs.size a5 (zI b9))) c1 (b0 I1) (Hv g y) a3 t ?_;intro D C s' H' us j i L ⟨m,hn⟩ s2' hD' r';refine⟨m,hn,λh' sb=>⟨.ref D,H',?_,rfl,q _ _ (s01.trans s2') (λa ea=>by cases ea;exact s01.free j) ⟨D,us,rfl,hD',r'⟩⟩⟩;obtain⟨f0,f1,f2,f3,G,J⟩:=L;exact i.turned (t':=s'.toks) (λb o hb e=>(sb.2 b hb).trans e) f0 f1 f3 G J
 ·cases e⟩
end
theorem Uy{R:Result->A2->Prop}{d:A1}{AO:O (AY×A0)}(K:A.handled=Z)(Q:(d==sysModules)=false)(g:s.heap.DictAt (bG prog w) d AO ep)(L:AO.length<=AA)(S:A1)(m:d≠S)(n:A0)(q:Nat)(z:s.heap.get? S=some { cls:=.type "list",data:=.seq #[] q })(H:∀h' tk j a,(∀b o,b≠S->s.heap.get? b=some o->h'.get? b=some o)->h'.get? S=some { cls:=.type "list",dict:=Z,data:=.seq j a,slots:=#[] } →
   ItemsOf (λi v=>∃k x,AO[i]?=some (k,x)/\(bG prog w).is k v=true) j AO.length->R (.ok (.ret n)) { s with heap:=h',toks:=tk }):
  A7 (A8 prog w) A.in1 (Builtin.List.listExtendWith (.ref S) (.ref d) n)
   (λB s'=>match B with|.done f=>R (.ok f) s'|.again a=>a.quiet=true/\AF (A8 prog w) A a R s') (λe s'=>R (.error e) s') s:=by
 have M:d<s.heap.objs.size:=by obtain⟨o,_,ho,_⟩:=g;exact zD ho
 have I:S<s.heap.objs.size:=zD z;unfold Builtin.List.listExtendWith;refine zb (Qb (T :="dict") g.dictOf.typeIs ?_);have h1:Builtin.List.listSameRef (.ref S) (.ref d)=false:=by simp[Builtin.List.listSameRef];exact λe=>m e.symm
 simp only[h1,show(Value.type "dict"==Value.type "list")=false by decide,show(Value.type "dict"==Value.type "tuple")=false by decide,m9,zo,ZY];refine zb (wpAny_pyIter_dict Q g ?_);refine zb (qS ?_);have c:=g.at' (h':=s.heap.push { cls:=.type "dict_keyiterator",data:=.fields #[.ref d,.int 0 0,.int AO.length 0,.int ep 0] }) λo e=>ze _ e;unfold Builtin.List.listLengthHint;refine zb (wpAny_specialOf (T :="dict") c.dictOf.typeIs F.slot_dict_len.lookup ?_)
 wp_delta
 refine zb (ki (T :="dict") (b:=true) c.dictOf.typeIs (by rw[isSubtype_type];kernel_rfl) ?_);show A7 _ A.in1 (typeOf (Value.ref d) >>= _) _ _ _;refine zb (Qb (T :="dict") c.dictOf.typeIs (zd ?_));rw[zl ()];show A7 _ A.in1 (Builtin.List.listTouch (Value.ref S) >>= λ_=>again (Code.builtin "list.extend.loop" ⟨[Value.ref S,Value.ref s.heap.objs.size,n],[]⟩)) _ _ _;generalize l:s.heap.push { cls:=.type "dict_keyiterator",data:=.fields #[.ref d,.int 0 0,.int AO.length 0,.int ep 0] }=G at c ⊢;have p:G.get? S=some { cls:=.type "list",data:=.seq #[] q }:=by
  rw[<-l];exact ze _ z
 have N:G.get? s.heap.objs.size=some { cls:=.type "dict_keyiterator",data:=.fields #[.ref d,.int 0 0,.int AO.length 0,.int ep 0] }:=by
  rw[<-l];exact zw _ rfl
 unfold Builtin.List.listTouch;refine zb (zb (listUpdate_at p rfl (listUpdate_at (get?_update_seq p _) rfl ?_ (by show _<=_;decide) (by show _<=_;decide)) (by show _<=_;decide) (by show _<=_;decide)));have y:s.heap.objs.size≠S:=yA I;have u:=get?_update_seq (get?_update_seq p (λx=>x.push Value.none)) (λx=>x.pop);generalize D:(G.update S (Obj.mapSeq λx=>x.push Value.none)).update S (Obj.mapSeq λx=>x.pop)=U at u;have keep:∀b,b≠S->U.get? b=G.get? b:=λb hb=>by rw[<-D,kc _ _ _ _ hb,kc _ _ _ _ hb]
 have X:U.IsKeyIter s.heap.objs.size d 0 AO.length ep/\U.DictAt (bG prog w) d AO ep:=⟨⟨_,(keep _ y).trans N,rfl,rfl⟩,c.at' λo e=>(keep d m).trans e⟩;show A7 _ A.in1 (again _) _ _ { s with heap:=U };have P:S∉[s.heap.objs.size,d]:=λh=>by
  simp only[Qr,QN,or_false]at h;rcases h with h|h
  ·exact y h.symm
  ·exact m h.symm
 refine zd ⟨plainId_quiet F.plain_extend_loop _,codeAny_extend_loopS (Walks.dictKeys (A:=A.in1) K s.heap.objs.size d (zI M) AO ep).toS L S P _ AO.length 0 { s with heap:=U } #[] _ rfl (QY _) X u (ItemsOf.nil _) λs' j a t W C=>?_⟩;rw[Moved.eq_with t];refine H s'.heap s'.toks j a (λb E hb e=>?_) W C;have J:=zD e;refine t.heap b E (λh=>?_) ((keep b hb).trans ?_)
 ·simp only[Qr,QN,or_false]at h;rcases h with h|h
  ·exact hb h
  ·exact zI J h
 ·rw[<-l];exact ze _ e
theorem Kh{Q:B7}{d:A1}{AO:O (AY×A0)}(u:A.handled=Z)(B:(d==sysModules)=false)(g:s.heap.DictAt (bG prog w) d AO ep)(y:AO.length<=AA)(t:∀h' tk c f,(∀b o,s.heap.get? b=U o->h'.get? b=U o) →
   h'.get? s.heap.objs.size=U { cls:=.type "list",dict:=Z,data:=.seq c f,slots:=#[] }->ItemsOf (λi v=>∃k x,AO[i]?=U (k,x)/\(bG prog w).is k v=true) c AO.length->Q (.ref s.heap.objs.size) { s with heap:=h',toks:=tk }):
  A7 (A8 prog w) A (call (.type "list") [.ref d]) Q E s:=by
 have m:d<s.heap.objs.size:=by obtain⟨o,_,ho,_⟩:=g;exact zD ho
 refine callType_codes (Q₁:=λn j=>n=.ref s.heap.objs.size/\j={ s with heap:=s.heap.push { cls:=.type "list",data:=.seq #[] } }) F.called_list (F.typeCall_list_1 _) F.entry_list_init
  (code_list_new _ ⟨rfl,rfl⟩) λn j q=>?_
 obtain⟨rfl,rfl⟩:=q;have a:(s.heap.push { cls:=.type "list",data:=.seq #[] }).get? s.heap.objs.size=U { cls:=.type "list",data:=.seq #[] }:=zw _ rfl;have h:=g.at' (h':=s.heap.push { cls:=.type "list",data:=.seq #[] }) λo e=>ze _ e;refine⟨⟨_,a,rfl⟩,F.args_list_init_2 _ _,?_⟩;generalize z:s.heap.push { cls:=.type "list",data:=.seq #[] }=H at a h ⊢;show A7 _ _ (do let old <-Builtin.List.listItems (.ref s.heap.objs.size);Builtin.List.listUpdate (.ref s.heap.objs.size) (λ_=>#[]);letGo old.toList.reverse;Builtin.List.listExtendWith (.ref s.heap.objs.size) (.ref d) .none) _ _ { s with heap:=H };refine zb ?_;unfold Builtin.List.listItems;refine zb (wpAny_seqItems a S (zd ?_));show A7 _ _ (updateSeq s.heap.objs.size (λ_=>#[]) >>= λ_=>letGo (#[]:Array A0).toList.reverse >>= λ_=>Builtin.List.listExtendWith (.ref s.heap.objs.size) (.ref d) .none) _ _ _;refine zb (wpAny_updateSeq a S ?_);have C:=k8 (Obj.mapSeq (λ_=>(#[]:Array A0))) a rfl;have l:∀b o,b≠s.heap.objs.size->H.get? b=U o->(H.update s.heap.objs.size (Obj.mapSeq (λ_=>(#[]:Array A0)))).get? b=U o:=
  λb o hb e=>(k4 _ _ (y8 hb)).trans e
 refine zb (wpAny_letGo ?_);refine Uy (A:=A.in1) u B (h.at' λo e=>l d o (zI m) e) y s.heap.objs.size (zI m) .none _ C λh' tk c f G D p=>?_;exact⟨rfl,t h' tk c f (λb o e=>G b o (zI (zD e)) (l b o (zI (zD e)) (by rw[<-z];exact ze _ e))) D p⟩
theorem d4{P:Nat->A0->Prop}(val:Nat->AJ)(a:∀i v,P i v->∃t,v=.str (val i) t):CmpOf prog w A .Lt P (λi j=>decide ((val i).cps.toList<(val j).cps.toList)):=λi j c d s Q E hi b h=>by
 obtain⟨t,rfl⟩:=a i c hi;obtain⟨u,rfl⟩:=a j d b;exact richCompare_gives (op:=.Lt) (typeIs_str s _ t) (typeIs_str s _ u) F.slot_str_lt F.entry_str_lt (F.args_str_lt_2 _ _) (gives_str_lt _ _ t u) (λx=>nomatch x) h
theorem Ee{P:Nat->A0->Prop}(val:Nat->AJ)(a:∀i v,P i v->∃t,v=.str (val i) t):CmpOf prog w A .Gt P (λi j=>decide ((val j).cps.toList<(val i).cps.toList)):=λi j c d s Q E hi b h=>by
 obtain⟨t,rfl⟩:=a i c hi;obtain⟨u,rfl⟩:=a j d b;exact richCompare_gives (op:=.Gt) (typeIs_str s _ t) (typeIs_str s _ u) F.slot_str_gt F.entry_str_gt (F.args_str_gt_2 _ _) (gives_str_gt _ _ t u) (λx=>nomatch x) h
def two(a b:AJ)(i:Nat):AJ:=if i=0 then a else b
theorem Mk{a b:AJ}{t u:Tok}(i:Nat)(v:A0)(h:(#[Value.str a t,Value.str b u])[i]?=U v):∃t',v=.str (two a b i) t':=by
 match i,h with
 |0,h=>cases h;exact⟨t,rfl⟩
 |1,h=>cases h;exact⟨u,rfl⟩
 |_+2,h=>simp at h
theorem Uz{a b:AJ}{t u:Tok}{Q:B7}{d:Nat->Nat->Bool}(y:A.handled=Z)(f:CmpOf prog w A.in1 op (λi v=>(#[Value.str a t,Value.str b u])[i]?=U v) d)(h:∀h' tk,(∀c o,s.heap.get? c=U o->h'.get? c=U o)->Q (if d 1 0=true then .str b u else .str a t) { s with heap:=h',toks:=tk }):
  A7 (A8 prog w) A.in1 (pyIter (.ref s.heap.objs.size)) (λit j=>∃I fp wr n P St d,it=.ref I/\Walks prog w A.in1 I fp wr n P St/\St 0 j.heap/\(∀b∈fp,b<j.heap.objs.size)/\0<n/\CmpOf prog w A.in1 op P d ∧
   ∀v h' tk,P (argBest d (n-1)) v->(∀b o,b∉wr->j.heap.get? b=U o->h'.get? b=U o)->Q v { j with heap:=h',toks:=tk }) E
   { s with heap:=s.heap.push { cls:=.type "tuple",data:=.seq #[.str a t,.str b u] } }:=by
 have p:(s.heap.push { cls:=.type "tuple",data:=.seq #[.str a t,.str b u] }).IsTuple s.heap.objs.size #[.str a t,.str b u]:=⟨_,zw _ rfl,rfl,0,rfl⟩;refine wpAny_pyIter_tuple p ?_;have l:(s.heap.push { cls:=.type "tuple",data:=.seq #[.str a t,.str b u] }).objs.size=s.heap.objs.size+1:=qr ..;refine⟨_,[_,s.heap.objs.size],[_],_,_,_,d,rfl,Walks.tuple (A:=A.in1) y _ s.heap.objs.size (by rw[l];exact zI (qA _)) #[.str a t,.str b u],
  ⟨⟨_,zw _ rfl,rfl,rfl⟩,p.push _⟩,λc f=>?_,by simp,f,λv h' tk x B=>?_⟩
 ·show c<((s.heap.push _).push _).objs.size;rw[qr,l];rcases List.mem_cons.mp f with rfl|f
  ·rw[l];exact qA _
  ·rcases List.mem_cons.mp f with rfl|f
   ·exact qV (qA _)
   ·cases f
 ·have hold:∀c o,s.heap.get? c=U o->h'.get? c=U o:=λc o e=>by
   refine B c o (λm=>?_) (ze _ (ze _ e));rcases List.mem_cons.mp m with e1|m
   ·have:=zD e;rw[e1,l]at this;exact kg _ (Nat.lt_of_succ_lt this)
   ·cases m
  have:=h h' tk hold;have z:v=if d 1 0=true then Value.str b u else Value.str a t:=by
   have g:(#[Value.str a t,Value.str b u])[argBest d 1]?=U v:=x;unfold argBest argBest at g;by_cases q:d 1 0=true
   ·rw[zl q]at g ⊢;exact(by simpa using g.symm)
   ·rw[zz q]at g ⊢;exact(by simpa using g.symm)
  rw[z];exact this
def zG:O Bx->Y Bx
 |[.z (.str a),.z (.str b)]=>U (.z (.str (if abn b a=true then b else a)))
 |_=>Z
where abn (x y:AJ):Bool:=decide (x.cps.toList<y.cps.toList)
def UG:O Bx->Y Bx
 |[.z (.str a),.z (.str b)]=>U (.z (.str (if zG.abn a b=true then b else a)))
 |_=>Z
theorem Zx(g:X.calm=true):oH X (.builtin "min") zG:=by
 intro AN s σ H xs us Q I r h;obtain⟨bs,c,l,e,q⟩:=h;unfold zG at e;split at e
 ·rename_i a b;cases e;obtain⟨v,w,rfl,f,d⟩:=Zb l;obtain⟨rfl,h1⟩:=WY f;obtain⟨rfl,h2⟩:=WY d;obtain⟨u,m,rfl,j,i⟩:=AX.two r;obtain⟨t,rfl⟩:=j;obtain⟨n,rfl⟩:=i;refine call_min_two (Uz (I.ok.hd g) (d4 (two a b) Mk) λh' tk kp=>?_);show EP X AN σ Q (if zG.abn b a=true then _ else _) _;by_cases hb:zG.abn b a=true
  ·rw[zl hb]at q ⊢;exact⟨.str b,H,I.kept kp,⟨_,rfl⟩,q _ H (AV.refl H) trivial d⟩
  ·rw[zz hb]at q ⊢;exact⟨.str a,H,I.kept kp,⟨_,rfl⟩,q _ H (AV.refl H) trivial f⟩
 ·cases e
theorem e8(g:X.calm=true):oH X (.builtin "max") UG:=by
 intro AN s σ H xs us Q I r h;obtain⟨bs,c,l,e,q⟩:=h;unfold UG at e;split at e
 ·rename_i a b;cases e;obtain⟨v,w,rfl,f,d⟩:=Zb l;obtain⟨rfl,h1⟩:=WY f;obtain⟨rfl,h2⟩:=WY d;obtain⟨u,m,rfl,j,i⟩:=AX.two r;obtain⟨t,rfl⟩:=j;obtain⟨n,rfl⟩:=i;refine call_max_two (Uz (I.ok.hd g) (Ee (two a b) Mk) λh' tk kp=>?_);show EP X AN σ Q (if zG.abn a b=true then _ else _) _;by_cases hb:zG.abn a b=true
  ·rw[zl hb]at q ⊢;exact⟨.str b,H,I.kept kp,⟨_,rfl⟩,q _ H (AV.refl H) trivial d⟩
  ·rw[zz hb]at q ⊢;exact⟨.str a,H,I.kept kp,⟨_,rfl⟩,q _ H (AV.refl H) trivial f⟩
 ·cases e
def Kl:O Bx->Y Bx
 |[.n AO]=>(F8 AO).bind λys=>U (.o (ys.map Dt.str))
 |_=>Z
theorem XY(t:X.calm=true):oH X (.type "list") Kl:=by
 intro AN s σ H xs us Q I r h;obtain⟨bs,c,E,e,q⟩:=h;unfold Kl at e;split at e
 ·rename_i AO;obtain⟨ys,d,e⟩:=AT e;cases e;have m:AO.length=ys.length:=by have:=congrArg dm (Ah d);simpa using this
  obtain⟨v,rfl,C⟩:=BI E;obtain⟨a,ks,rfl,p,b⟩:=C;obtain⟨u,rfl,x⟩:=BB r;cases x;obtain⟨B,n,vs,g,o,es,ep,A⟩:=yC I.hok p;have D:vs.map (·.1)=ys.map Sum.inr:=by rw[Ze g,b.1];exact Ah d
  have F:ks.length=vs.length:=g.length;refine Kh (I.ok.hd t) n ⟨o,es,A⟩ () λh' tk l i ext j w=>?_;have z1:=W9 D w;have z:∀y∈ys,y.length<=AA:=mP d b.2.2;have f:=I.hok.fresh (zi s.heap.objs.size);refine⟨.ref s.heap.objs.size,_,I.laid (t':=tk) (a:=s.heap.objs.size) (o:=.lst (ys.map V.str)) ext (zi _) ?_,rfl,q _ _ (bL f) (λa ea=>by cases ea;exact f) ⟨_,_,rfl,bK,J5 z⟩⟩;refine⟨by rw[zk,<-m,<-b.len];exact B,l.toList,i,Gn z1,?_⟩;rw[j]
 ·cases e
def Cc(H:Hp)(a:A1):Hp:=λb=>if b=a then Z else H b
theorem Zy{b:A1}(h:b≠a):Cc H a b=H b:=zz h
theorem Zz:Cc H a a=Z:=zl rfl
def EN:Bx->Bool
 |.z _=>true
 |_=>false
def GA(K:B1)(n:Nat)(G:A1->O (AY×Dt)->O Bx->Y (O (AY×Dt))):Sp:=λvs H Q _=>vs.length=n+1/\∃a ks AO AS bs b,vs=.ref a::AS/\H a=U (.dK ks)/\fX K H AO ks/\vP K H bs AS/\bs.all EN=true/\G a AO bs=U b/\∀H' c,AV (Cc H a) H'->H' a=U (.dK c)->fX K H' b c->Q .non H'
def UJ(n:Nat)(g:Ev->Y Ap):A1->O (AY×Dt)->O Bx->Y (O (AY×Dt)):=λa AO bs=>(g ((Bx.m AO (U a)::bs).map U++ab (n-(bs.length+1)) Z)).bind λr=>match r with
 |.nx ρ=>match ρ[0]? with
  |some (U (Bx.m kvs' (U b)))=>if b=a then U kvs' else Z
  |_=>Z
 |_=>Z
theorem Xq{c:O (AY×Dt)}{bs:O Bx}(h:UJ n g a AO bs=U c):∃ ρ,g ((Bx.m AO (U a)::bs).map U++ab (n-(bs.length+1)) Z)=U (.nx ρ)/\ρ[0]?=U (U (.m c (U a))):=by
 obtain⟨r,er,h⟩:=AT h;cases r with
 |nx ρ=>
  dsimp only at h;split at h
  ·rename_i k b e;split at h
   ·rename_i hb;cases h;subst hb;exact⟨ρ,er,e⟩
   ·cases h
  ·cases h
 |rt _=>cases h
 |bk _=>cases h
 |ct _=>cases h
theorem Xr{R:α->β->Prop}:∀{xs:O α} {ys:O β},AI R xs ys->∀{i:Nat} {x:α},xs[i]?=U x->∃y,ys[i]?=U y/\R x y:=by
 intro xs ys h
 induction h with
 |nil=>intro i x q;simp at q
 |cons r _ a=>
  intro i x q;cases i with
  |zero=>simp at q;subst q;exact⟨_,rfl,r⟩
  |succ i=>
   rw[qc]at q;obtain⟨y,y1,y2⟩:=a q;exact⟨y,by rw[qc];exact y1,y2⟩
theorem cg.startM{bs:O Bx}{AS:O V}{ks:O (AY×V)}(ha:H a=U (.dK ks))(n:fX K H AO ks)(r:vP K H bs AS)(l:bs.all EN=true):cg K (Cc H a) H (L2.start N (.ref a::AS)) ((Bx.m AO (U a)::bs).map U++ab (N.length-(bs.length+1)) Z):=by
 have t:bs.length=AS.length:=Paired.length r;have s:vP K H (.m AO (U a)::bs) (.ref a::AS):=.cons ⟨a,ks,rfl,ha,n,λb h=>by cases h;rfl⟩ r;have get:∀(i:Nat) b,((Bx.m AO (U a)::bs).map U++ab (N.length-(bs.length+1)) Z)[i]?=U (U b)->(Bx.m AO (U a)::bs)[i]?=U b:=λi b e=>by
  by_cases hi:i<(Bx.m AO (U a)::bs).length
  ·rw[qa (by simpa using hi),Zp]at e;cases q:(Bx.m AO (U a)::bs)[i]? with
   |none=>rw[q]at e;cases e
   |some w=>rw[q]at e;simpa using e
  ·rw[QA (by simp at hi ⊢;omega),Q4]at e;split at e<;>cases e
 have p:∀(i:Nat) b,((Bx.m AO (U a)::bs).map U++ab (N.length-(bs.length+1)) Z)[i]?=U (U b)->i≠0->loose b=false:=λi b e hi=>by
  have e2:=get i b e;cases i with
  |zero=>exact absurd S hi
  |succ j=>
   rw[qc]at e2;have:=List.all_eq_true.mp l b (Q1 e2);cases b<;>first|rfl|cases this
 have g:∀c,yM c=true->loose c=true:=λc d=>by cases c<;>first|rfl|cases d
 have zero:∀(i:Nat) c,((Bx.m AO (U a)::bs).map U++ab (N.length-(bs.length+1)) Z)[i]?=U (U c)->loose c=true->i=0:=λi c e d=>by
  by_cases hi:i=0
  ·exact hi
  ·rw[p i c e hi]at d;cases d
 have st:∀i v,(Value.ref a=Value.ref a)->(V.ref a::AS)[i]?=U v->(L2.start N (.ref a::AS))[i]?=U (U v):=λi v _ e=>by
  have hi:i<(V.ref a::AS).length:=(bv.mp e).1;unfold L2.start;rw[qa (by simpa using hi),Zp,e];rfl
 refine⟨by unfold L2.start;simp[t],λi b e=>?_,λi j c x b e1 f _ e3 hb _=>?_,λb o e=>?_,λi c x e f e2=>?_⟩
 ·obtain⟨v,e1,u⟩:=Xr s (get i b e);exact⟨v,st i v S e1,u⟩
 ·rw[zero i c e1 (g c f),zero j b e3 hb]
 ·by_cases hb:b=a
  ·subst hb;rw[Zz]at e;cases e
  ·rw[Zy hb]at e;exact e
 ·have hi:=zero i c e (g c f);subst hi;rw[st 0 (.ref a) S rfl]at e2;cases e2;exact Zz
theorem aS{st:AB}{f:A1}{k m:Nat}(F:DJ K x qual st f fd)(S:bC N ps (aO st))(u:N.length=n)(l:ps.length=m+1)(p:∀(c:A0) (A:A5) (outer:O Env) (s:A2) (H:Hp) (E:XK),qb k (A.deeper (AK qual (aO st) s.heap.objs.size f c))->Co (JH Qt P w K mg base N qual (aO st) f c A outer s H E).nox (j4 st) g):
  yX P w K mg base Qt (k+1) f fd ps (GA K m (UJ n g)):=by
 subst u;refine F.ok S (λvs H Q E h=>by rw[l];exact h.1) λc A outer s H vs Q E o h=>?_;obtain⟨C,a,ks,AO,AS,bs,D,rfl,ha,j,y,i,e,q⟩:=h;refine⟨_,(p c A outer s H E o).run,?_⟩;obtain⟨ρ,er,e0⟩:=Xq e;refine⟨Cc H a,_,_,cg.startM ha j y i,er,?_⟩;intro σ' H' d;obtain⟨v,ev,b,z,rfl,hb,B,t⟩:=d.val 0 _ e0;have:=t a rfl;subst this;exact q H' z d.base hb B
open Classical in
noncomputable def Hw(i n:Nat)(G:A1->O (AY×Dt)->O Bx->Y (O (AY×Dt)))(fs:Ev->Y (O Bx)):Ev->Y Ap:=λρ=>match ρ[i]? with
 |some (U (.m AO w))=>(fs ρ).bind λbs=>if h:bs.length=n/\bs.all EN=true/\∃b,∀a,G a AO bs=U b then U (.nx (ρ.set i (U (.m (Classical.choose h.2.2) w))))else Z
 |_=>Z
theorem Xu{fs:Ev->Y (O Bx)}{r:Ap}(h:Hw i n G fs ρ=U r):∃AO w bs c,ρ[i]?=U (U (.m AO w))/\fs ρ=U bs/\bs.length=n/\bs.all EN=true/\(∀a,G a AO bs=U c)/\r=.nx (ρ.set i (U (.m c w))):=by
 unfold Hw at h;split at h
 ·rename_i AO w e;obtain⟨bs,eb,h⟩:=AT h;split at h
  ·rename_i b;cases h;exact⟨AO,w,bs,_,e,eb,b.1,b.2.1,Classical.choose_spec b.2.2,rfl⟩
  ·cases h
 ·cases h
theorem p5{fs:Ev->Y (O Bx)}{b:O (AY×Dt)}{w:Y A1}{bs:O Bx}(e:ρ[i]?=U (U (.m AO w)))(eb:fs ρ=U bs)(h:bs.length=n)(g:bs.all EN=true)(d:∀a,G a AO bs=U b):Hw i n G fs ρ=U (.nx (ρ.set i (U (.m b w)))):=by
 unfold Hw;rw[e];simp only[eb,aoj];have c:bs.length=n/\bs.all EN=true/\∃b,∀a,G a AO bs=U b:=⟨h,g,b,d⟩;rw[dif_pos c];have:=Classical.choose_spec c.2.2 0;rw[d 0]at this;injection this with this;rw[<-this]
where aoj {α β:Type} (a:α) (f:α->Y β):(U a).bind f=f a:=rfl
theorem cg.amg{H':Hp}{C:O (AY×Dt)}{w:Y A1}{ks I:O (AY×V)}(E:cg K H0 H σ ρ)(h:ρ[i]?=U (U (.m AO w)))(hs:σ[i]?=U (U (.ref a)))(ha:H a=U (.dK ks))(P:AV (Cc H a) H')(Q:H' a=U (.dK I))(L:fX K H' C I)(a0:∀b,w=U b->b=a):
  cg K H0 H' σ (ρ.set i (U (.m C w))):=by
 have hi:i<ρ.length:=(bv.mp h).1;have hb:H0 a=Z:=E.new i _ a h S hs;have g:∀b u,b≠a->H b=U u->H' b=U u:=λb u D e=>P b u (by rw[Zy D];exact e);have kp:Kp H H':=⟨λb xs e=>g b _ (qO e ha (by intro z;cases z)) e,λb ob u e=>g b _ (qO e ha (by intro z;cases z)) e⟩;refine⟨by rw[k5];exact E.len,λj B e=>?_,λj M c f B e1 G e2 e3 X J=>?_,λc o e=>?_,λj c f e1 G e2=>?_⟩
 ·rcases BC e with⟨rfl,e',_⟩|⟨D,e'⟩
  ·cases e';exact⟨_,hs,a,I,rfl,Q,L,a0⟩
  ·obtain⟨v,e1,y⟩:=E.val j B e';refine⟨v,e1,?_⟩;have A:∀f,v=.ref f->loose B=true->f≠a:=λf ev W z=>by
    subst z;exact D (E.own i j _ _ _ h S hs e' W (by rw[e1,ev])).symm
   cases B with
   |z d=>exact AW.kp kp y
   |l F=>
    obtain⟨f,p,rfl,q,s⟩:=y;have x:=A f S rfl;exact⟨f,p,rfl,q.imp (g _ _ x) λ⟨o,q⟩=>⟨o,g _ _ x q⟩,s.kp kp⟩
   |o F=>
    obtain⟨f,p,rfl,q,s⟩:=y;exact⟨f,p,rfl,g _ _ (A f S S) q,s.kp kp⟩
   |n F=>
    obtain⟨f,p,rfl,q,s⟩:=y;have x:=A f S rfl;exact⟨f,p,rfl,q.imp (g _ _ x) λ⟨o,q⟩=>⟨o,g _ _ x q⟩,s.kp kp⟩
   |m F _=>
    obtain⟨f,p,rfl,q,s,N⟩:=y;exact⟨f,p,rfl,g _ _ (A f S S) q,s.kp kp,N⟩
 ·have back:∀{j:Nat} {c:Bx},(ρ.set i (U (.m C w)))[j]?=U (U c)->∃t,ρ[j]?=U (U t)/\(yM c=true->yM t=true)/\(loose c=true->loose t=true):=λ{j c} e=>by
   rcases BC e with⟨rfl,e',_⟩|⟨_,e'⟩
   ·exact⟨_,h,λ_=>S,λ_=>S⟩
   ·exact⟨c,e',id,id⟩
  obtain⟨t,p1,p2,_⟩:=back e1;obtain⟨b2,q1,_,q3⟩:=back e3;exact E.own j M t f b2 p1 (p2 G) e2 q1 (q3 X) J
 ·have e2:=E.base c o e;exact g c o (λz=>by subst z;rw[hb]at e;cases e) e2
 ·rcases BC e1 with⟨rfl,e',_⟩|⟨_,e'⟩
  ·exact E.new _ _ f h S e2
  ·exact E.new j c f e' G e2
section
variable{fs:Ev->Y (O Bx)}{p px spos:Pos}{k:Nat}{f:A1}
theorem ZC(i:Nat)(F:yX X.prog X.w X.K X.mg X.base Qt k f fd ps (GA X.K n G))(m:qb k X.A)(hg:Gl X x)(l:X.mg x=U (.ref f))(hk:keepIn X.K (.ref f)=true)(hb:Be X.K fd ps [])
  (ha:D7 X es fs) (u:X.N[i]?=U y:=by rfl) (L:D4 X.env.scope y:=by first|exact kB rfl|exact JE (kB S)|exact JE (JE S)) (W:sa y:=by decide)
  (Q:(y==("__classdict__":AJ))=false:=by decide) (J:sa x:=by decide) (he:A9 (.Name y px::es) X.env=(false,eval (.Name y px) X.env)::A9 es X.env:=by rfl) (s:(AD pos (A9 es X.env)).any (·.1)=false:=by rfl) (hs:swapsWith (.Call (.Name x p) (.Name y px::es) [] pos) Z spos.line X.env=pure false:=by rfl):
  Tj X (.Expr (.Call (.Name x p) (.Name y px::es) [] pos) spos) (Hw i n G fs):=⟨YT (Qk (YK F m hg l hk hb .nil OP (iw (yU (i:=i) u L W Q) ha.run he) J he s) hs) λD σ H h=>by
 obtain⟨H0,ρ,r,E,e,q⟩:=h;obtain⟨AO,w,bs,o,c,eb,I,P,t,rfl⟩:=Xu e;obtain⟨v,e1,a,ks,rfl,C,j,a0⟩:=E.val i _ c;refine⟨_,e1,H0,ρ,bs,E,eb,λvs H1 b g=>?_⟩;have d:=b _ _ C;refine⟨by simp only[qq,ZE];rw[<-Paired.length g,I],a,ks,AO,vs,bs,o,by simp,d,j.kp (.of b),g,P,t a,λH' a1 z B M=>?_⟩;exact q σ H' ((E.grow b).amg c e1 d z B M a0)⟩
end
def EG:Y Bool->Bool
 |some true=>true
 |_=>false
def GH(x:Dt)(ys:O Dt):Y Bool:=if(ys.all λy=>(FN y x).isSome&&decide (min (Cg y) (Cg x)<=60))=true then U (ys.any λy=>EG (FN y x))else Z
def M6(a b:Bx):Y Bx:=match a with
 |.z d=>(zm b).bind λys=>(GH d ys).bind λk=>U (.z (.bl (!k)))
 |_=>Z
theorem Os(I:L2.AU X AN σ H s)(G:X.A.units+100<cLine){x:V}(z:AW X.K H d x)(B:At x u){ys:O Dt}(rs:aK X.K H ys vs)(m:AX vs AQ){k:Bool}(f:GH d ys=U k):
  ∃e:A0->Bool,(∀y,y∈AQ->SeqAt.EqAt X.A.in1 s y u (e y))/\AQ.any e=k:=by
 unfold GH at f;split at f
 ·rename_i o;injection f with f;rw[qf]at o;have at_:∀(i:Nat) y,AQ[i]?=U y->∃c,ys[i]?=U c/\SeqAt.EqAt X.A.in1 s y u (EG (FN c d)):=λi y l=>by
   have D:=m.length;have C:=rs.length;have hi:i<AQ.length:=(bv.mp l).1;have a:i<ys.length:=by omega
   obtain⟨v,ev,E⟩:=rs.get (show ys[i]?=U ys[i] by simp[a]);obtain⟨J,p,t⟩:=m.get ev;rw[l]at p;cases p;refine⟨ys[i],by simp[a],?_⟩;have j:=o ys[i] (K2 a);rw[ZH]at j;obtain⟨b,hb⟩:=dv.mp j.1;have:=Pl I 60 (A:=X.A.in1) (QP j.2) (by rw[units_in1];omega) E z t B hb;rw[hb];cases b<;>exact this
  classical
  refine⟨λy=>decide (∃(i:Nat) (c:Dt),AQ[i]?=U y/\ys[i]?=U c/\EG (FN c d)=true),λy l=>?_,?_⟩
  ·dsimp only;by_cases q:∃(i:Nat) (c:Dt),AQ[i]?=U y/\ys[i]?=U c/\EG (FN c d)=true
   ·rw[Zl q];obtain⟨i,c,h1,h2,g⟩:=q;obtain⟨F,e1,e2⟩:=at_ i y h1;rw[h2]at e1;cases e1;rw[g]at e2;exact e2
   ·rw[ZA q];obtain⟨i,hi,n⟩:=jv l;have h1:AQ[i]?=U y:=by rw[z5 hi,n]
    obtain⟨c,e1,e2⟩:=at_ i y h1;have:EG (FN c d)=false:=by
     cases w:EG (FN c d)with
     |false=>rfl
     |true=>exact absurd ⟨i,c,h1,e1,w⟩ q
    rw[this]at e2;exact e2
  ·rw[<-f,Jn,ja,ja];constructor
   ·rintro⟨y,l,h⟩;obtain⟨i,c,h1,h2,g⟩:=QP h;exact⟨c,Q1 h2,g⟩
   ·rintro⟨c,j,g⟩;obtain⟨i,hi,n⟩:=jv j;have D:=m.length;have C:=rs.length;have a:i<AQ.length:=by omega
    exact⟨AQ[i],K2 a,Zl ⟨i,c,by simp[a],by rw[z5 hi,n],g⟩⟩
 ·cases f
theorem Jv(m:X.A.units+100<cLine):Ik X (AG .NotIn) M6:=by
 intro AN s σ H x y v u Q I j t h;obtain⟨a,b,c,l,z,e,q⟩:=h;unfold M6 at e;split at e
 ·rename_i d;obtain⟨ys,o,e⟩:=AT e;obtain⟨k,ek,e⟩:=AT e;cases e;obtain⟨p,vs,rfl,sq,rs⟩:=QT z o;cases t;rcases sq with sq|sq
  ·obtain⟨AQ,i,pl,n⟩:=I.list sq;obtain⟨f,f1,f2⟩:=Os I m l j rs i ek;refine SeqAt.notIn_listAt f pl.isList (λw g=>f1 w (by simpa using g)) ⟨.bl (!k),H,I,by rw[show AQ.toArray.any f=AQ.any f by simp,f2];rfl,q _ H (AV.refl H) trivial (by simp only[bf,AW])⟩
  ·obtain⟨AQ,i,pl,n⟩:=I.tuple sq;obtain⟨f,f1,f2⟩:=Os I m l j rs i ek;refine SeqAt.notIn_tupleAt f pl (λw g=>f1 w (by simpa using g)) ⟨.bl (!k),H,I,by rw[show AQ.toArray.any f=AQ.any f by simp,f2];rfl,q _ H (AV.refl H) trivial (by simp only[bf,AW])⟩
 ·cases e
section
variable{st:O AB}
end
open AutoSeq1 (wpAny_loadPart')
open SeqAt
theorem LN(I:L2.AU X AN σ H s)(h:BR X.K H a xs):∃AQ:O A0,AX xs AQ/\nJ s.heap a AQ.toArray:=by
 rcases h with h|⟨o,AQ,n,c,b,hs,d,r⟩
 ·obtain⟨z,AQ,r,p⟩:=h.ok I.hok;exact⟨AQ,r,p⟩
 ·exact⟨AQ.toList,r,o,I.kIn a o c,b.1,⟨n,by simpa using hs⟩,b.2⟩
section
variable{o:Expr}{fx:Ev->Y Bx}
end
section
variable{t:Ev->Y Bool}
def D1(t:Ev->Y Bool)(g:Ev->Y Ap):Nat->Ev->Y Ap
 |0,_=>Z
 |n+1,ρ=>(t ρ).bind λb=>if b=true then(g ρ).bind λr=>match r with
  |.nx ρ'=>D1 t g n ρ'
  |.ct ρ'=>D1 t g n ρ'
  |.bk ρ'=>U (.nx ρ')
  |.rt b=>U (.rt b)
  else U (.nx ρ)
theorem a8(n:Nat)(hp:PassesOwn (sg X) X.A X.env X.xe)(l:PB X c t)(hb:D3 X body g):L6 X (.While c body [] pos) (D1 t g n):=
 YT (dr hp l hb) λD σ H q=>by
  obtain⟨H0,ρ,r,E,e,f⟩:=q;refine⟨λm σ H=>∃H0 ρ r,cg X.K H0 H σ ρ/\D1 t g m ρ=U r/\WL X.K H0 D r,⟨n,H0,ρ,r,E,e,f⟩,?_⟩;rintro m σ H ⟨H0,ρ,r,E,e,f⟩;cases m with
  |zero=>cases e
  |succ m=>
   obtain⟨b,eb,e⟩:=AT e;refine⟨H0,ρ,b,E,eb,λH1 j=>?_⟩;cases b with
   |false=>
    rw[zz ()]at e ⊢;cases e;exact f σ H1 (E.grow j)
   |true=>
    rw[zl rfl]at e ⊢;obtain⟨i,er,e⟩:=AT e;refine⟨λσ' H'=>∃h,h<m+1/\∃H0 ρ r,cg X.K H0 H' σ' ρ/\D1 t g h ρ=U r/\WL X.K H0 D r,λσ' H' z=>z,H0,ρ,i,E.grow j,er,?_⟩;cases i with
    |nx d=>exact λσ' H' a=>⟨m,qA m,H0,d,r,a,e,f⟩
    |ct d=>exact λσ' H' a=>⟨m,qA m,H0,d,r,a,e,f⟩
    |bk d=>cases e;exact λσ' H' a=>f σ' H' a
    |rt b=>cases e;exact f
theorem UL(n:Nat)(hp:PassesOwn (sg X) X.A X.env X.xe)(a:QB X c t)(hb:Co X body g):Tj X (.While c body [] pos) (D1 t g n):=⟨a8 n hp a.run hb.run⟩
end
section
variable{h':A6}
end
section
variable{p:Pos}{fs:Ev->Y (O Bx)}
end
def GT(j i:Nat)(f:Ev->Y Bx):Ev->Y Ap:=λρ=>(f ρ).bind λb=>match b with
 |.z (.int k)=>match ρ[i]? with
  |some (U (.o ds))=>if -(2 ^ 62)<=k/\k<2 ^ 62 then(seqIndex? k ds.length).bind λm=>(ds[m]?).bind λd=>(FO (ρ.set i (U (.o (ds.eraseIdx m)))) j (.z d)).bind λa=>U (.nx a)else Z
  |_=>Z
 |_=>Z
theorem Km{K:B1}{H:Hp}:∀(m:Nat) {ds:O Dt} {vs:O V},aK K H ds vs->aK K H (ds.eraseIdx m) (vs.eraseIdx m)
 |m,[],vs,h=>by
  cases vs with
  |nil=>exact h
  |cons v vs=>have:=h.length;simp at this
 |m,d::ds,vs,h=>by
  cases vs with
  |nil=>have:=h.length;simp at this
  |cons v vs=>
   obtain⟨a,r,e,q,t⟩:∃a r,v::vs=a::r/\AW K H d a/\aK K H ds r:=by
    simpa only[aK]using h
   cases e;cases m with
   |zero=>exact t
   |succ m=>exact aK.cons q (Km m t)
theorem TH(j i:Nat){p:Pos}(nd:X.N.Nodup)(he:PV X e f)(B:X.N[i]?=U x:=by rfl)(M:D4 X.env.scope x:=by first|exact kB rfl|exact JE (kB S)|exact JE (JE S))(hd:sa x:=by decide)(a0:(x==("__classdict__":AJ))=false:=by decide)(n:A9 [e] X.env=[(false,eval e X.env)]:=by rfl)(A:attributeBase (.Name x p) "pop" X.env (eval (.Name x p) X.env)=eval (.Name x p) X.env:=by rfl)(W:((AD cpos (A9 [e] X.env)).all (λx=>!x.1)&&(backToKw cpos (keywordEach [] X.env)).all (λx=>x.1.isSome)
   && decide ([e].length+([]:O AC).length+(if([]:O AC).isEmpty then 0 else 1)<30))=true:=by rfl)(J:(apos.endLine==cpos.line)=true:=by rfl)(Q:X.N[j]?=U y:=by rfl)(K:DV X.env.scope y:=by first|exact kB rfl|exact JE S)(hs:swapsWith (.Call (.Attribute (.Name x p) "pop" apos) [e] [] cpos) (U (.Name y p2)) pos.line X.env=pure false:=by rfl)(I:X.fn y=true\/X.env.scope.names.lookup y=U .local:=by first|exact .inl rfl|exact .inr S):
  L6 X (.Assign [.Name y p2] (.Call (.Attribute (.Name x p) "pop" apos) [e] [] cpos) pos) (GT j i f):=
 YT (RU nd Q K (L5 PySem.F.plainAttrs_list PySem.F.slot_list_pop PySem.F.type_list_pop UY (yU (i:=i) B M hd a0) (iw he sI (by rw[n]<;>rfl)) A W J (by rw[n]<;>rfl) S) hs I) λD σ H h=>by
  obtain⟨H0,ρ,r,E,e,q⟩:=h;obtain⟨b,eb,e⟩:=AT e;split at e
  ·rename_i k;split at e
   ·rename_i ds l;split at e
    ·rename_i hb;obtain⟨m,P,e⟩:=AT e;obtain⟨d,C,e⟩:=AT e;obtain⟨a1,L,e⟩:=AT e;cases e;obtain⟨v,e1,a,vs,rfl,ha,rs⟩:=E.val i _ l;refine⟨_,e1,.inl ⟨rfl,vs,.inl (.inl ha)⟩,H0,ρ,_,E,eb,λu H1 c n1 r1=>?_⟩;have E1:=E.grow c;have o:=rs.kp (.of c);obtain⟨w,t,s⟩:=o.get C;have G:u=.int k:=by simpa only[bf,AW]using r1
     subst G;have g:=c _ _ ha;refine⟨a,vs,k,m,w,rfl,rfl,g,by omega,by omega,by rw[rs.length];exact P,t,?_⟩;have E2:=E1.acr l e1 g (Km m o);have kp:Kp H1 (B6 H1 a (.lst (vs.eraseIdx m))):=.lst g;exact q _ _ (YZ E2 (AV.refl _) (b:=.z d) (by simp only[bf];exact AW.kp kp s) trivial L)
    ·cases e
   ·cases e
  ·cases e
theorem av(j i:Nat){p:Pos}(nd:X.N.Nodup)(he:QV X e f)(d:X.N[i]?=U x:=by rfl)(n:D4 X.env.scope x:=by first|exact kB rfl|exact JE (kB S)|exact JE (JE S))(m:sa x:=by decide)(h:(x==("__classdict__":AJ))=false:=by decide)(b:A9 [e] X.env=[(false,eval e X.env)]:=by rfl)(a:attributeBase (.Name x p) "pop" X.env (eval (.Name x p) X.env)=eval (.Name x p) X.env:=by rfl)(g:((AD cpos (A9 [e] X.env)).all (λx=>!x.1)&&(backToKw cpos (keywordEach [] X.env)).all (λx=>x.1.isSome)
   && decide ([e].length+([]:O AC).length+(if([]:O AC).isEmpty then 0 else 1)<30))=true:=by rfl)(q:(apos.endLine==cpos.line)=true:=by rfl)(c:X.N[j]?=U y:=by rfl)(l:DV X.env.scope y:=by first|exact kB rfl|exact JE S)(hs:swapsWith (.Call (.Attribute (.Name x p) "pop" apos) [e] [] cpos) (U (.Name y p2)) pos.line X.env=pure false:=by rfl)(o:X.fn y=true\/X.env.scope.names.lookup y=U .local:=by first|exact .inl rfl|exact .inr S):
  Tj X (.Assign [.Name y p2] (.Call (.Attribute (.Name x p) "pop" apos) [e] [] cpos) pos) (GT j i f):=
 ⟨TH j i nd he.run d n m h b a g q c l hs o⟩
def yG:O Dt->Y B9
 |[]=>U []
 |.int k::r=>(yG r).bind λks=>U (k::ks)
 |_=>Z
def FX(ks:O Int):Bool:=decide (ks.length<=1000)&&ks.all λk=>decide (-1000000000000<=k/\k<=1000000000000)
def GE:O Bx->Y Bx
 |[b]=>(oM b).bind λds=>(yG ds).bind λks=>if FX ks=true then U (.z (.int ks.sum))else Z
 |_=>Z
theorem Cq{K:B1}{H:Hp}:∀{ds:O Dt} {ks:O Int} {vs:O V} {AQ:O A0},yG ds=U ks->aK K H ds vs->AX vs AQ->AQ.length=ks.length/\∀i v,AQ[i]?=U v->∃t,v=Value.int (ks.getD i 0) t
 |[],ks,vs,AQ,e,r,w=>by
  cases e;simp only[aK]at r;subst r;cases w;exact⟨rfl,λi v h=>by simp at h⟩
 |d::ds,ks,vs,AQ,e,r,w=>by
  cases d with
  |int k=>
   simp only[yG]at e;obtain⟨n,e1,e2⟩:=AT e;cases e2;obtain⟨a,b,rfl,q,t⟩:∃a b,vs=a::b/\AW K H (.int k) a/\aK K H ds b:=by
    simpa only[aK]using r
   have m:a=.int k:=by simpa only[AW]using q
   subst m;cases w with
   |cons c g=>
    obtain⟨l,rfl⟩:=c;obtain⟨j,f⟩:=Cq e1 t g;refine⟨by simp[j],λi v h=>?_⟩;cases i with
    |zero=>simp at h;exact⟨l,h.symm⟩
    |succ i=>simpa using f i v (by simpa using h)
  |_=>cases e
theorem By(ks:O Int):∀n,n<=ks.length->preSum (λi=>ks.getD i 0) n=(ks.take n).sum
 |0,_=>by simp[preSum]
 |n+1,h=>by
  have a:n<ks.length:=by omega
  rw[preSum,By ks n (),dF a,List.sum_append];simp[a]
theorem Pi:∀(ks:O Int),(∀k∈ks,-1000000000000<=k/\k<=1000000000000) → -(1000000000000*(ks.length:Int))<=ks.sum/\ks.sum<=1000000000000*(ks.length:Int)
 |[],_=>by simp
 |k::ks,h=>by
  have h1:=h k (zg ..);have h2:=Pi ks λx hx=>h x (zh _ hx);rw[hY,ZE]
  push_cast
  omega
theorem ri(y:X.calm=true):oH X (.builtin "sum") GE:=by
 intro AN s σ H xs us Q I r h;obtain⟨bs,c,L,e,q⟩:=h;unfold GE at e;split at e
 ·obtain⟨ds,C,e⟩:=AT e;obtain⟨ks,ek,e⟩:=AT e;split at e
  ·rename_i d;cases e;obtain⟨v,rfl,J⟩:=BI L;obtain⟨a,vs,rfl,sq,rs⟩:=J.Hh C;obtain⟨u,rfl,F⟩:=BB r;cases F;obtain⟨AQ,w,pl,P⟩:=I.list sq;obtain⟨l,G⟩:=Cq ek rs w;unfold FX at d;rw[ZH,ZN,qf]at d;have f:∀k∈ks,-1000000000000<=k/\k<=1000000000000:=λk t=>QP (d.2 k t);have g:a<s.heap.objs.size:=by obtain⟨o,n,e,_⟩:=pl;exact zD e
   refine call_sum_walk (k9 pl.isList ?_);refine⟨s.heap.objs.size,_,_,_,_,_,λi=>ks.getD i 0,rfl,Walks.list (by show X.A.handled=Z;exact I.ok.hd y) s.heap.objs.size a (zI g) AQ.toArray,⟨⟨_,zw _ rfl,rfl,rfl⟩,pl.isList.push _⟩,?_,λi v hp=>?_,λj N=>?_,λh' tk t' k=>?_⟩
   ·intro b hb;have D:(s.heap.push { cls:=.type "list_iterator",data:=.fields #[.ref a,.int 0 0] }).objs.size=s.heap.objs.size+1:=qr ..;simp only[Qr,QN,or_false]at hb;show b<(s.heap.push { cls:=.type "list_iterator",data:=.fields #[.ref a,.int 0 0] }).objs.size;rw[D];rcases hb with rfl|rfl
    ·exact qA _
    ·exact qV g
   ·exact G i v (by simpa using hp)
   ·have z:j<ks.length:=by
     have:AQ.toArray.size=ks.length:=by simpa using l
     omega
    have b1:=f (ks.getD j 0) (by simp[z]);have b2:=Pi (ks.take (j+1)) λx hx=>f x (ym hx);have M:(ks.take (j+1)).length<=1000:=by rw[JP];omega
    rw[By ks (j+1) ()];unfold InLong;dsimp only;refine⟨⟨by omega,by omega⟩,by omega,by omega⟩
   ·have E:AQ.toArray.size=ks.length:=by simpa using l
    rw[E,By ks ks.length (zi _),qs];have p:L2.AU X AN σ H { s with heap:=s.heap.push { cls:=.type "list_iterator",data:=.fields #[.ref a,.int 0 0] } }:=I.kept (t':=s.toks) λb o e=>ze _ e;refine⟨.int _,H,?_,⟨_,rfl⟩,q _ H (AV.refl H) trivial (by simp only[bf,AW])⟩;obtain⟨f0,f1,f2,K,m,B⟩:=I.Wq (b:=s.heap.objs.size) (H':=H) (zi _) (I.hok.fresh (zi _));exact p.turned (it:=s.heap.objs.size) (λb o hb e=>k b o (by simpa using hb) e) f0 f1 K m B
  ·cases e
 ·cases e
section
variable{ek ev:Expr}{st:AB}
def I0:Ev->Y Ap:=λ_=>Z
theorem ZD:Tj X st I0:=⟨λD AN s σ H I q=>by
 obtain⟨H0,ρ,r,E,e,q⟩:=q;cases e⟩
def O9(f:Ev->Y Bx):Ev->Y Ap:=λρ=>(f ρ).bind λ_=>U (.nx ρ)
theorem Q9(he:QV X e f)(hs:swapsWith e Z pos.line X.env=pure false:=by rfl):Tj X (.Expr e pos) (O9 f):=⟨YT (Qk he.run hs) λD σ H h=>by
 obtain⟨H0,ρ,r,E,e,q⟩:=h;obtain⟨b,eb,e⟩:=AT e;cases e;exact⟨H0,ρ,b,E,eb,λv H1 a c d=>q _ _ (E.grow a)⟩⟩
def Pa:Bx->Bx->Y Bx
 |.z (.str x),.z d=>U (.m [(.inr x,d)] Z)
 |_,_=>Z
theorem Xv{a c:Bx}(h:Pa a b=U c):∃x d,a=.z (.str x)/\b=.z d/\c=.m [(.inr x,d)] Z:=by
 unfold Pa at h;split at h
 ·cases h;exact⟨_,_,rfl,rfl,rfl⟩
 ·cases h
theorem W1(t:QV X ek fk)(s:QV X ev fv):QV X (.Dict [U ek] [ev] pos) (b2 Pa fk fv):=⟨Ij (mN (sQ t.run s.run XA) S S (by simp) (zS S)) λσ H Q h=>by
 obtain⟨H0,ρ,c,E,e,q⟩:=h;obtain⟨a,ea,e⟩:=AT e;obtain⟨b,eb,e⟩:=AT e;intro p hp;have g:AV H (B6 H p (.dK [])):=bL hp;refine⟨H0,ρ,a,E.grow g,ea,λv H1 f u n=>⟨H0,ρ,b,(E.grow g).grow f,eb,λw H2 j y m=>?_⟩⟩;obtain⟨x,d,rfl,rfl,rfl⟩:=Xv e;obtain⟨rfl,hx⟩:v=.str x/\x.length<=AA:=by simpa only[bf,AW]using n
 have i:H2 p=U (.dK []):=j _ _ (f _ _ bK);have kp:Kp H2 (B6 H2 p (.dK (Gb [] [(Sum.inr x,w)]))):=.dk i;refine⟨i,[(Sum.inr x,w)],rfl,zS rfl,q _ _ ?_ (λa ea=>by cases ea;exact hp) ⟨p,_,rfl,bK,?_,λb h=>by cases h⟩⟩
 ·intro b o hb;have l:b≠p:=λz=>by rw[z,hp]at hb;cases hb
  rw[aV l];exact j _ _ (f _ _ (g _ _ hb))
 ·exact fX.cons (p:=(Sum.inr x,d)) (AW.kp kp m) hx fX.nil⟩
def IM(AO:O (AY×α))(x:AY):Bool:=AO.any λa=>decide (a.1=x)
def FC(a:Bx):Bx->Y Bx
 |.n AO=>(DL a).bind λx=>U (.z (.bl (!IM AO x)))
 |_=>Z
theorem fX.aok{p:A1}{ks:O (AY×V)}(a:Rd H p (.dK ks))(b:fX K H AO ks)(x:AY):∃o,Fs H p (kV x) o/\o.isSome=IM AO x:=by
 refine⟨FZ ks x,.inl ⟨ks,x,a,rfl,rfl⟩,?_⟩;unfold IM FZ;rw[<-b.any,h6,Jn,List.find?_isSome,ja]
theorem ZF(t:X.A.units+100<cLine):Ik X (AG .NotIn) FC:=by
 intro AN s σ H x y v u Q I f j h;obtain⟨a,b,c,l,n,e,q⟩:=h;unfold FC at e;split at e
 ·rename_i AO;obtain⟨k,ek,e⟩:=AT e;cases e;obtain⟨p,ks,rfl,m,d⟩:=n;obtain⟨rfl,_⟩:=QS ek l;cases j;obtain⟨o,g,ho⟩:=d.aok m k;exact a4 () I g f λs' i=>⟨.bl (!o.isSome),H,i,rfl,q _ H (AV.refl H) trivial (by simp only[bf,AW];rw[ho])⟩
 ·cases e
end
section
variable{st:Expr}{fs:Ev->Y Bx}
def FF(a b:Bx):Y Bx:=(oM a).bind λds=>match b with
 |.z (.int i)=>if i = -1 then U (.o ds.reverse)else Z
 |_=>Z
theorem ir{a c:Bx}(h:FF a b=U c):∃ds,oM a=U ds/\b=.z (.int (-1))/\c=.o ds.reverse:=by
 unfold FF at h;obtain⟨ds,d,h'⟩:=AT h;clear h;split at h'
 ·split at h'
  ·rename_i hi;subst hi;injection h' with h';exact⟨ds,d,rfl,h'.symm⟩
  ·cases h'
 ·cases h'
theorem agX(he:QV X e f)(C:QV X st fs)(D:∀v i:A0,subscripted (.Slice Z Z (U st) p2) false v i=operate [v,i] (getItem v i):=by intro _ _;with_unfolding_all rfl):QV X (.Subscript e (.Slice Z Z (U st) p2) pos) (b2 FF f fs):=by
 refine⟨?_⟩;intro AN s σ H Q I h;obtain⟨H0,ρ,c,E,g,q⟩:=h;obtain⟨a,ea,g⟩:=AT g;obtain⟨b,eb,g⟩:=AT g;refine Subscript_ (jw (he.run AN s σ H (λx H1=>AV H H1/\bf X.K H1 a x) I ⟨H0,ρ,a,E,ea,λv H1 m L l=>⟨m,l⟩⟩) λv m ⟨x,H1,I1,l,sm1,BI⟩=>?_);refine wpAny_Slice ?_;rw[evalPart_none];refine zd ?_;refine zd ?_;rw[evalPart_some];refine jw (C.run AN m σ H1 (λy H2=>AV H1 H2/\bf X.K H2 b y) I1 ⟨H0,ρ,b,E.grow sm1,eb,λv H2 d M j=>⟨d,j⟩⟩) λvk d ⟨y,H2,I2,j,sm2,CF⟩=>?_;obtain⟨ds,G,rfl,rfl⟩:=ir g;have F:y=.int (-1):=by simpa only[bf,AW]using CF
 subst F;obtain⟨tk,rfl⟩:=j;obtain⟨p,vs,rfl,sq,rs⟩:=(BI.same sm2).Hh G;cases l;have t:L2.AU X AN σ H2 { d with heap:=d.heap.push { cls:=.type "slice",data:=.fields #[.none,.none,.int (-1) tk] } }:=I2.kept (t':=d.toks) λb J q=>ze _ q;obtain⟨AQ,r,u,B⟩:=t.list sq;show A7 (sg X) X.A (subscriptTail e (.Slice Z Z (U st) p2) (.ref p) (.ref d.heap.objs.size)) (EP X AN σ Q) X.xe { d with heap:=d.heap.push { cls:=.type "slice",data:=.fields #[.none,.none,.int (-1) tk] } };refine tail_any (ops:=[.ref p,.ref d.heap.objs.size]) u.isList.typeIs list_getitem_lookup (wpAny_getItem_list_slice u.isList (KG ..) .none .none (.int _ _) () ?_ (by rw[zC,<-r.length];exact B)) (D _ _);rw[PySem.W.krv_pick];have n:=t.hok.fresh (zi _);refine⟨.ref _,_,t.laid (t':=d.toks) (o:=.lst vs.reverse) (λb J q=>ze _ q) (zi _) ?_,rfl,q _ _ ((sm1.trans sm2).trans (bL n)) (λa z=>by cases z;exact(sm1.trans sm2).free n) ?_⟩
 ·exact⟨by rw[fO];exact B,AQ.reverse,0,r.reverse,zw _ rfl⟩
 ·exact⟨_,_,rfl,bK,(aK.rev rs).kp (.of (bL n))⟩
end
theorem ad{a b:Nat}(h:a≠b):@Ne A1 a b:=h
section
variable{K:Type} [DecidableEq K] {knd:KeyKind prog w K}
end
section
variable{ea eb:Expr}{p1 pos1 pos2:Pos}
end
theorem Ko:∀{AQ:O A0} {ks:O Int},AQ.length=ks.length->(∀(i:Nat) (v:A0),AQ[i]?=U v->∃t,v=Value.int (ks.getD i 0) t)->∃xs:O (Int×Tok),AQ=xs.map (λp=>Value.int p.1 p.2)/\xs.map (·.1)=ks
 |[],[],_,_=>⟨[],rfl,rfl⟩
 |[],_::_,h,_=>by cases h
 |_::_,[],h,_=>by cases h
 |v::AQ,k::ks,h,g=>by
  obtain⟨t,a⟩:=g 0 v rfl;obtain⟨xs,e1,e2⟩:=Ko (AQ:=AQ) (ks:=ks) (by simpa using h) λi v b=>by simpa using g (i+1) v (by simpa using b)
  exact⟨(k,t)::xs,by rw[zt,<-e1,a];rfl,by rw[zt,e2]⟩
theorem qT(xs:AZ)(is:O Nat)(e:closureFor scope X.env=pure cl:=by with_unfolding_all rfl)(c:scope.kind=.function:=by rfl)(b:scope.names.all (λy=>decide (y.2≠.cell)||(cl.lookup y.1).isNone)=true:=by rfl)(a:scope.names.all (λy=>decide (y.2=.local->scope.names.lookup y.1=U .local))=true:=by decide +kernel)(sub:CH X.env.cells cl:=by repeat (first|exact trivial|refine⟨rfl,?_⟩))(has:(relabel scope X.env).names.all (λy=>!(y.2==.cell||y.2==.free)||(cl.lookup y.1).isSome||scope.names.contains (y.1,.cell))=true:=by rfl)(d:MJ X scope cl xs is:=by repeat (first|exact pi|refine sC S (by first|exact .inl rfl|exact .inr S) (by first|exact .inl rfl|exact .inr S) ⟨_,rfl⟩ ?_)):wQ X scope cl xs is:=VU e c b a sub has d
theorem jy{a:Scope}(h1:a.kind=.function:=by rfl)(h2:a.isCoroutine=false:=by rfl)(f:a.isGenerator=false:=by rfl)(c:N.Nodup:=by decide +kernel)(b:N.take ps.length=ps:=by rfl)(d:∀x∈ps,a.names.lookup x=U .local\/a.names.lookup x=U .cell:=by decide +kernel)(e:∀y∈a.names,y.2≠.free:=by decide +kernel):bC N ps a:=⟨h1,h2,f,c,b,d,e⟩
instance:Inhabited Dt:=⟨.non⟩
theorem As(a:α)(f:α->Y β):(U a).bind f=f a:=(i5 a f).trans (Eq.refl _)
def hold:Y Prop->Prop
 |none=>True
 |some p=>p
def aY:Y Prop->Y Prop->Y Prop
 |none,q=>q
 |some p,Z=>U p
 |some p,U q=>U (p/\q)
def Kq(c:Prop):Y Prop->Y Prop
 |none=>Z
 |some p=>U (c->p)
theorem aB{p q:Y Prop}(h:hold (aY p q)):hold p/\hold q:=by
 cases p with
 |none=>exact⟨trivial,h⟩
 |some p=>cases q with
  |none=>exact⟨h,trivial⟩
  |some q=>exact h
theorem nO{c:Prop}{p:Y Prop}(h:hold (Kq c p))(a:c):hold p:=by
 cases p with
 |none=>trivial
 |some p=>exact h a
structure R {α β:Type} (f:Ev->Option β) (ρ:Ev) (c:α->β) where
 v:α
 D:Option Prop
 ok:hold D->f ρ=some (c v)
abbrev zE(e:α->Dt):α->Bx:=λa=>.z (e a)
abbrev oE(e:α->Dt):O α->Bx:=λxs=>.o (xs.map e)
abbrev lE(e:α->Dt):O α->Bx:=λxs=>.l (xs.map e)
abbrev tE:Bool->Bool:=λb=>b
abbrev iE(e:α->Dt):O α->O Dt:=λxs=>xs.map e
abbrev eI:Int->Dt:=Dt.int
abbrev eB:Bool->Dt:=Dt.bl
abbrev eS:AJ->Dt:=Dt.str
abbrev eD:Dt->Dt:=λd=>d
abbrev eN:Unit->Dt:=λ_=>.non
abbrev eL(e:α->Dt):O α->Dt:=λxs=>.lst (xs.map e)
abbrev eT(e:α->Dt):O α->Dt:=λxs=>.tup (xs.map e)
abbrev eO(e:α->Dt):Y α->Dt:=λo=>match o with|none=>.non|some a=>e a
abbrev LZ(a:α->Dt):α->Dt:=λx=>.tup [a x]
abbrev Wm(a:α->Dt)(b:β->Dt):α×β->Dt:=λx=>.tup [a x.1,b x.2]
abbrev EK(a:α->Dt)(b:β->Dt)(c:γ->Dt):α×β×γ->Dt:=λx=>.tup [a x.1,b x.2.1,c x.2.2]
abbrev D5(a:α->Dt)(b:β->Dt)(c:γ->Dt)(d:δ->Dt):α×β×γ×δ->Dt:=λx=>.tup [a x.1,b x.2.1,c x.2.2.1,d x.2.2.2]
structure RL {α:Type} (f:Ev->Option Bx) (ρ:Ev) (e:α->Dt) where
 v:List α
 D:Option Prop
 b:Bx
 lk:oM b=some (v.map e)
 ok:hold D->f ρ=some b
section
variable{fs:Ev->Y (O Bx)}{e:α->Dt}{e':β->Dt}
def jz(a:R f ρ (oE e)):RL f ρ e:=⟨a.v,a.D,_,rfl,a.ok⟩
def eG(a:R f ρ (lE e)):RL f ρ e:=⟨a.v,a.D,_,rfl,a.ok⟩
def M7(a:R f ρ (zE (eL e))):RL f ρ e:=⟨a.v,a.D,_,rfl,a.ok⟩
def Lp(b:Bx)(ds:O Dt):Prop:=b=.z (.lst ds)\/b=.l ds
theorem Lp.Hh(h:Lp b ds):oM b=U ds:=by rcases h with rfl|rfl<;>rfl
theorem Lp.get{b:Bx}{ds:O Dt}{i:Nat}(h:Lp b ds)(hi:ρ[i]?=U (U b)):BW ρ i=U b:=by
 rcases h with rfl|rfl<;>(unfold BW;rw[hi])
theorem vW(h:oM b=U ds):Lp (P1.lend b) ds:=by
 cases b with
 |z d=>cases d<;>cases h;exact .inl rfl
 |l d=>cases h;exact .inr rfl
 |o d=>cases h;exact .inr rfl
 |n d=>cases h
 |m d _=>cases h
def ao(i:Nat)(c:α->Bx)(a:α)(h:BW ρ i=U (c a)):R (gv i) ρ c:=⟨a,Z,λ_=>h⟩
def jP(i:Nat)(e:α->Dt)(a:O α)(h:Lp b (a.map e))(hi:ρ[i]?=U (U b)):RL (gv i) ρ e:=⟨a,Z,b,h.Hh,λ_=>h.get hi⟩
def vX(d:Dt)(e:α->Dt)(a:α)(h:d=e a):R (cB d) ρ (zE e):=⟨a,Z,λ_=>by rw[h];rfl⟩
def ZG(a:R f ρ (zE e)):R f ρ (zE eD):=⟨e a.v,a.D,a.ok⟩
def Xw(a:R f ρ (zE e)):R f ρ (zE (eO e)):=⟨U a.v,a.D,a.ok⟩
def P6:R (cB .non) ρ (zE (eO e)):=⟨Z,Z,λ_=>S⟩
def Pb[Inhabited α](a:R f ρ (zE (eO e))):R f ρ (zE e):=⟨a.v.getD default,aY a.D (U (a.v.isSome=true)),λh=>by
 obtain⟨h1,h2⟩:=aB h;rw[a.ok h1];have h2:a.v.isSome=true:=h2;cases b:a.v with
 |none=>rw[b]at h2;cases h2
 |some x=>rfl⟩
def Gc(a:R f ρ (oE e)):R (b1 CW f) ρ (zE (eL e)):=⟨a.v,a.D,λh=>by simp only[b1,a.ok h,As,CW]⟩
def mZ(a:R f ρ (zE e)):R (b1 CW f) ρ (zE e):=⟨a.v,a.D,λh=>by simp only[b1,a.ok h,As,CW]⟩
def iV(a:R fa ρ (zE eI))(b:R fb ρ (zE eI)):R (b2 fZ fa fb) ρ (zE eI):=⟨a.v+b.v,aY a.D b.D,λh=>by
 obtain⟨h1,h2⟩:=aB h;simp only[b2,a.ok h1,b.ok h2,As,fZ]⟩
def zH(a:R fa ρ (zE eI))(b:R fb ρ (zE eI)):R (b2 BU fa fb) ρ (zE eI):=⟨a.v-b.v,aY a.D b.D,λh=>by
 obtain⟨h1,h2⟩:=aB h;simp only[b2,a.ok h1,b.ok h2,As,i2]⟩
def G0(a b:Int):Prop:=(-18446744073709551616<a/\a<18446744073709551616)\/(-18446744073709551616<b/\b<18446744073709551616)
def Ic(a:R fa ρ (zE eI))(b:R fb ρ (zE eI)):R (b2 zj fa fb) ρ (zE eI):=⟨a.v*b.v,aY (aY a.D b.D) (U (G0 a.v b.v)),λh=>by
 obtain⟨h,c⟩:=aB h;obtain⟨h1,h2⟩:=aB h;simp only[b2,a.ok h1,b.ok h2,As];exact zl c⟩
def Ra(n:Int)(a : -18446744073709551616<n/\n<18446744073709551616)(b:R fb ρ (zE eI)):R (b2 zj (cB (.int n)) fb) ρ (zE eI):=⟨n*b.v,b.D,λh=>by
 simp only[b2,b.ok h,As,cB];exact zl (.inl a)⟩
def ZJ(a:R fa ρ (zE eI))(n:Int)(b : -18446744073709551616<n/\n<18446744073709551616):R (b2 zj fa (cB (.int n))) ρ (zE eI):=⟨a.v*n,a.D,λh=>by
 simp only[b2,a.ok h,As,cB];exact zl (.inr b)⟩
def Ei(a:R fa ρ (zE eI))(n:Int)(b:0<n/\n<1073741824):R (b2 JX fa (cB (.int n))) ρ (zE eI):=⟨a.v / n,a.D,λh=>by
 simp only[b2,a.ok h,As,i2,cB,zl b]⟩
def Kr(a:R fa ρ (zE eI))(b:R fb ρ (zE eI)):R (b2 iD fa fb) ρ (zE eI):=⟨a.v%b.v,aY (aY a.D b.D) (U (0<b.v)),λh=>by
 obtain⟨h,c⟩:=aB h;obtain⟨h1,h2⟩:=aB h;have c:0<b.v:=c;simp only[b2,a.ok h1,b.ok h2,As,i2,zl c]⟩
def dM(a:R fa ρ (zE eI))(n:Int)(b:0<n):R (b2 iD fa (cB (.int n))) ρ (zE eI):=⟨a.v%n,a.D,λh=>by
 simp only[b2,a.ok h,As,i2,cB,zl b]⟩
def lP(a b:Int)(n:Nat)(h:0<=b/\b<=1000/\a.natAbs<18446744073709551616)(hb:b.toNat=n):R (b2 LB (cB (.int a)) (cB (.int b))) ρ (zE eI):=⟨a ^ n,Z,λ_=>by
 simp only[b2,As,cB];show((if 0<=b/\b<=1000/\a.natAbs<2 ^ 64 then U (Dt.int (a ^ b.toNat))else Z).bind λd=>U (Bx.z d))=_;rw[zl h,hb];rfl⟩
def IT(a:R fa ρ (zE eI))(b:R fb ρ (zE eI)):R (b2 FK fa fb) ρ (zE eB):=⟨decide (a.v<=b.v),aY a.D b.D,λh=>by
 obtain⟨h1,h2⟩:=aB h;simp only[b2,a.ok h1,b.ok h2,As,i2]⟩
def IA(a:R fa ρ (zE eI))(b:R fb ρ (zE eI)):R (b2 F3 fa fb) ρ (zE eB):=⟨decide (b.v<a.v),aY a.D b.D,λh=>by
 obtain⟨h1,h2⟩:=aB h;simp only[b2,a.ok h1,b.ok h2,As,i2]⟩
def EX(a:R fa ρ (zE eI))(b:R fb ρ (zE eI)):R (b2 GM fa fb) ρ (zE eB):=⟨decide (b.v<=a.v),aY a.D b.D,λh=>by
 obtain⟨h1,h2⟩:=aB h;simp only[b2,a.ok h1,b.ok h2,As,i2]⟩
def LV(a:R fa ρ (zE eI))(b:R fb ρ (zE eI)):R (b2 DM fa fb) ρ (zE eB):=⟨decide (a.v<b.v),aY a.D b.D,λh=>by
 obtain⟨h1,h2⟩:=aB h;simp only[b2,a.ok h1,b.ok h2,As,DM]⟩
def vJ(x y:AJ):Bool:=decide (x.cps.toList<y.cps.toList)
def cm(a:R fa ρ (zE eS))(b:R fb ρ (zE eS)):R (b2 DM fa fb) ρ (zE eB):=⟨vJ a.v b.v,aY a.D b.D,λh=>by
 obtain⟨h1,h2⟩:=aB h;simp only[b2,a.ok h1,b.ok h2,As,DM,vJ]⟩
end
class B8 {α:Type} [DecidableEq α] (e:α->Dt) (n:outParam Nat):Prop where
 eq:∀a b,FN (e a) (e b)=some (decide (a=b))
 dp:∀a,Cg (e a)<=n
class D6 {α:Type} (e:α->Dt):Prop where
 l:∀a,FN .non (e a)=some false
 r:∀a,FN (e a) .non=some false
instance:B8 eI 1:=⟨λa b=>rfl,λa=>by simp[Cg]⟩
instance:B8 eB 1:=⟨λa b=>rfl,λa=>by simp[Cg]⟩
instance:B8 eS 1:=⟨λa b=>rfl,λa=>by simp[Cg]⟩
instance:D6 eI:=⟨λa=>rfl,λa=>rfl⟩
instance:D6 eB:=⟨λa=>rfl,λa=>rfl⟩
instance:D6 eS:=⟨λa=>rfl,λa=>rfl⟩
section
variable [DecidableEq α] [DecidableEq β] [DecidableEq γ] [DecidableEq δ] {e:α->Dt}{e':β->Dt}{e'':γ->Dt}{e3:δ->Dt}{m k l:Nat}
theorem Ku[B8 e n]:∀xs ys:O α,oN (xs.map e) (ys.map e)=U (decide (xs=ys))
 |[],[]=>by simp[oN]
 |[],y::ys=>by simp[oN]
 |x::xs,[]=>by simp[oN]
 |x::xs,y::ys=>by
  simp only[zt,oN,B8.eq,Ku xs ys];congr 1;by_cases h:x=y<;>by_cases h':xs=ys<;>simp[h,h']
theorem Kv[B8 e n]:∀xs:O α,Du (xs.map e)<=n
 |[]=>by simp[Du]
 |x::xs=>by
  have:=B8.dp (e:=e) x;have:=Kv xs;simp only[zt,Du];omega
instance [B8 e n]:B8 (eL e) (n+1):=⟨λa b=>Ku a b,λa=>by simp only[Cg];have:=Kv (e:=e) a;omega⟩
instance [B8 e n]:B8 (eT e) (n+1):=⟨λa b=>Ku a b,λa=>by simp only[Cg];have:=Kv (e:=e) a;omega⟩
instance:D6 (eL e):=⟨λa=>rfl,λa=>rfl⟩
instance:D6 (eT e):=⟨λa=>rfl,λa=>rfl⟩
instance:D6 (LZ e):=⟨λa=>rfl,λa=>rfl⟩
instance:D6 (Wm e e'):=⟨λa=>rfl,λa=>rfl⟩
instance:D6 (EK e e' e''):=⟨λa=>rfl,λa=>rfl⟩
instance:D6 (D5 e e' e'' e3):=⟨λa=>rfl,λa=>rfl⟩
instance [B8 e n]:B8 (LZ e) (n+1):=⟨λa b=>by
 simp only[Jm,oN,B8.eq,yf],λa=>by
 have:=B8.dp (e:=e) a;simp only[Cg,Du];omega⟩
theorem FI{a b:Nat}(h:a<=n)(h':b<=m):max a b<=max n m:=Nat.max_le.mpr ⟨ZI h (Nat.le_max_left ..),ZI h' (Nat.le_max_right ..)⟩
theorem L0{a:Nat}(h:a<=n):max a 0<=n:=Nat.max_le.mpr ⟨h,QY _⟩
instance [B8 e n] [B8 e' m]:B8 (Wm e e') (max n m+1):=⟨λa b=>by
 obtain⟨a,a'⟩:=a;obtain⟨b,b'⟩:=b;simp only[Jm,oN,B8.eq,rK.injEq,kZ,yf],λa=>YO (FI (B8.dp (e:=e) a.1) (L0 (B8.dp (e:=e') a.2)))⟩
instance [B8 e n] [B8 e' m] [B8 e'' k]:B8 (EK e e' e'') (max n (max m k)+1):=⟨λa b=>by
 obtain⟨a,a',a2⟩:=a;obtain⟨b,b',b2⟩:=b;simp only[Jm,oN,B8.eq,rK.injEq,kZ,yf],λa=>YO (FI (B8.dp (e:=e) a.1) (FI (B8.dp (e:=e') a.2.1) (L0 (B8.dp (e:=e'') a.2.2))))⟩
instance [B8 e n] [B8 e' m] [B8 e'' k] [B8 e3 l]:B8 (D5 e e' e'' e3) (max n (max m (max k l))+1):=⟨λa b=>by
 obtain⟨a,a',a2,a3⟩:=a;obtain⟨b,b',b2,b3⟩:=b;simp only[Jm,oN,B8.eq,rK.injEq,kZ,yf],λa=>YO (FI (B8.dp (e:=e) a.1) (FI (B8.dp (e:=e') a.2.1) (FI (B8.dp (e:=e'') a.2.2.1) (L0 (B8.dp (e:=e3) a.2.2.2)))))⟩
instance [B8 e n] [D6 e]:B8 (eO e) (n+1):=⟨λa b=>by
 cases a with
 |none=>cases b with
  |none=>exact rfl
  |some b=>exact(D6.l (e:=e) b).trans (by simp)
 |some a=>cases b with
  |none=>exact(D6.r (e:=e) a).trans (by simp)
  |some b=>exact(B8.eq (e:=e) a b).trans (by simp),λa=>by
 cases a with
 |none=>show Cg .non<=n+1;simp[Cg]
 |some a=>exact Nat.le_succ_of_le (B8.dp (e:=e) a)⟩
end
section
variable{fs:Ev->Y (O Bx)}{e:α->Dt}{e':β->Dt}
def C2[DecidableEq α][B8 e n](c:n<=100)(a:R fa ρ (zE e))(b:R fb ρ (zE e)):R (b2 C6 fa fb) ρ (zE eB):=⟨decide (a.v=b.v),aY a.D b.D,λh=>by
 obtain⟨h1,h2⟩:=aB h;have:=B8.dp (e:=e) a.v;simp only[b2,a.ok h1,b.ok h2,As,C6,oG,toD,zo,or_self,ZY,B8.eq];rw[zl ()]⟩
def F2[DecidableEq α][B8 e n](c:n<=100)(a:R fa ρ (zE e))(b:R fb ρ (zE e)):R (b2 Oo fa fb) ρ (zE eB):=⟨!decide (a.v=b.v),aY a.D b.D,λh=>by
 obtain⟨h1,h2⟩:=aB h;have:=B8.dp (e:=e) a.v;simp only[b2,a.ok h1,b.ok h2,As,Oo,oG,toD,zo,or_self,ZY,B8.eq];rw[zl ()]⟩
theorem uF(h:oM b=U ds):toD b=.lst ds/\oG b=false:=by
 cases b with
 |z d=>cases d<;>cases h;exact⟨rfl,rfl⟩
 |l d=>cases h;exact⟨rfl,rfl⟩
 |o d=>cases h;exact⟨rfl,rfl⟩
 |n d=>cases h
 |m d _=>cases h
def NA[DecidableEq α][B8 e n](c:n+1<=100)(a:RL fa ρ e)(b:RL fb ρ e):R (b2 C6 fa fb) ρ (zE eB):=⟨decide (a.v=b.v),aY a.D b.D,λh=>by
 obtain⟨h1,h2⟩:=aB h;have:=B8.dp (e:=eL e) a.v;simp only[b2,a.ok h1,b.ok h2,As,C6,(uF a.lk).1,(uF a.lk).2,(uF b.lk).1,(uF b.lk).2,zo,or_self,ZY];have e1:=B8.eq (e:=eL e) a.v b.v;rw[zl (ZI (Nat.min_le_left _ _) (ZI (B8.dp (e:=eL e) a.v) c)),e1,As]⟩
def XB[DecidableEq α][B8 e n](c:n+1<=100)(a:RL fa ρ e)(b:RL fb ρ e):R (b2 Oo fa fb) ρ (zE eB):=⟨!decide (a.v=b.v),aY a.D b.D,λh=>by
 obtain⟨h1,h2⟩:=aB h;simp only[b2,a.ok h1,b.ok h2,As,Oo,(uF a.lk).1,(uF a.lk).2,(uF b.lk).1,(uF b.lk).2,zo,or_self,ZY];have e1:=B8.eq (e:=eL e) a.v b.v;rw[zl (ZI (Nat.min_le_left _ _) (ZI (B8.dp (e:=eL e) a.v) c)),e1,As]⟩
def mS(a b:Dt):Bool:=(FN a b).getD false
def ID(a b:Dt):Prop:=(FN a b).isSome=true/\min (Cg a) (Cg b)<=100
def SE(a:R fa ρ (zE eD))(b:R fb ρ (zE eD)):R (b2 Oo fa fb) ρ (zE eB):=⟨!mS a.v b.v,aY (aY a.D b.D) (U (ID a.v b.v)),λh=>by
 obtain⟨h,c⟩:=aB h;obtain⟨h1,h2⟩:=aB h;obtain⟨c,e⟩:ID a.v b.v:=c;simp only[b2,a.ok h1,b.ok h2,As,Oo,oG,toD,zo,or_self,ZY,zl e];cases d:FN a.v b.v with
 |none=>rw[d]at c;cases c
 |some k=>simp only[mS,d,As,q5];exact zl e⟩
def ZK(a:R fa ρ (zE (eO e)))(b:∀x,QD (.z (e x))=false):R (b2 DG fa (cB .non)) ρ (zE eB):=⟨a.v.isSome,a.D,λh=>by
 simp only[b2,a.ok h,As,cB,DG];cases c:a.v with
 |none=>rfl
 |some x=>simp only[y0,b,JS]⟩
def tB(a:R fa ρ (zE eB))(b:R fb ρ (zE eB)):R (yN fa fb) ρ (zE eB):=⟨a.v&&b.v,aY a.D (Kq (a.v=true) b.D),λh=>by
 obtain⟨h1,h2⟩:=aB h;simp only[yN,a.ok h1,As,JM];cases c:a.v with
 |true=>simp only[qk,ye];exact b.ok (nO h2 c)
 |false=>simp only[zo,ZY,ko]⟩
def VI(a:R fa ρ (zE eB)):R (HM fa) ρ (zE eB):=⟨!a.v,a.D,λh=>by simp only[HM,a.ok h,As,JM]⟩
def UW(a:R fa ρ (zE eB)):R (tV fa) ρ tE:=⟨a.v,a.D,λh=>by simp only[tV,a.ok h,As,GV]⟩
def lm(a:RL fa ρ e):R (tV fa) ρ tE:=⟨!a.v.isEmpty,a.D,λh=>by
 have:GV a.b=U (!(a.v.map e).isEmpty):=by
  have:=a.lk;generalize a.v.map e=ds at this
  revert this
  generalize a.b=b;intro this;cases b with
  |z d=>cases d<;>cases this;rfl
  |l d=>cases this;rfl
  |o d=>cases this;rfl
  |n d=>cases this
  |m d _=>cases this
 simp only[tV,a.ok h,As,this,List.isEmpty_map]⟩
def dU{g:Bx->Bx->Y Bx}(a:R (b2 g fa fb) ρ (zE eB)):R (wH g fa fb) ρ tE:=⟨a.v,a.D,λh=>by simp only[wH,a.ok h,As,JM]⟩
def OQ(a:R p ρ tE)(b:R q ρ tE):R (F6 p q) ρ tE:=⟨a.v&&b.v,aY a.D (Kq (a.v=true) b.D),λh=>by
 obtain⟨h1,h2⟩:=aB h;simp only[F6,a.ok h1,As];cases c:a.v with
 |true=>simp only[qk,ye];exact b.ok (nO h2 c)
 |false=>simp only[zo,ZY,ko]⟩
def Xx(a:R p ρ tE)(b:R q ρ tE):R (DC p q) ρ tE:=⟨a.v||b.v,aY a.D (Kq (a.v=false) b.D),λh=>by
 obtain⟨h1,h2⟩:=aB h;simp only[DC,a.ok h1,As];cases c:a.v with
 |true=>simp only[qk,Bool.true_or]
 |false=>simp only[zo,ZY,hO];exact b.ok (nO h2 c)⟩
def Kw(a:R p ρ tE):R (MF p) ρ tE:=⟨!a.v,a.D,λh=>by simp only[MF,a.ok h,As]⟩
def Mc{g g':Bx->Bx->Y Bx}(a:R (b2 g fa fb) ρ (zE eB))(b:R (b2 g' fb fc) ρ (zE eB)):R (F7 g g' fa fb fc) ρ (zE eB):=⟨a.v&&b.v,aY a.D (Kq (a.v=true) b.D),λh=>by
 obtain⟨h1,e⟩:=aB h;have e1:=a.ok h1;simp only[b2]at e1;obtain⟨x,ex,e1⟩:=AT e1;obtain⟨y,c,e1⟩:=AT e1;simp only[F7,ex,c,As,e1,JM];cases d:a.v with
 |true=>
  have e2:=b.ok (nO e d);simp only[b2,c,As]at e2;simp only[qk,ye];exact e2
 |false=>simp only[zo,ZY,ko]⟩
end
section
variable{ε:Type}{fd:Ev->Y Bx}{fs:Ev->Y (O Bx)}{e:α->Dt}{e':β->Dt}{e'':γ->Dt}{e3:δ->Dt}
def OY(e:α->Dt):R (cG mj aH) ρ (zE (eT e)):=⟨[],Z,λ_=>S⟩
def vE(a:R fa ρ (zE e)):R (cG mj (aq fa aH)) ρ (zE (LZ e)):=⟨a.v,a.D,λh=>by
 simp only[cG,aq,aH,a.ok h,As];rfl⟩
def S'(a:R fa ρ (zE e))(b:R fb ρ (zE e')):R (cG mj (aq fa (aq fb aH))) ρ (zE (Wm e e')):=⟨(a.v,b.v),aY a.D b.D,λh=>by
 obtain⟨h1,h2⟩:=aB h;simp only[cG,aq,aH,a.ok h1,b.ok h2,As];rfl⟩
def Kz(a:R fa ρ (zE e))(b:R fb ρ (zE e'))(c:R fc ρ (zE e'')):R (cG mj (aq fa (aq fb (aq fc aH)))) ρ (zE (EK e e' e'')):=⟨(a.v,b.v,c.v),aY a.D (aY b.D c.D),λh=>by
 obtain⟨h1,h⟩:=aB h;obtain⟨h2,d⟩:=aB h;simp only[cG,aq,aH,a.ok h1,b.ok h2,c.ok d,As];rfl⟩
def KC(a:R fa ρ (zE e))(b:R fb ρ (zE e'))(c:R fc ρ (zE e''))(d:R fd ρ (zE e3)):R (cG mj (aq fa (aq fb (aq fc (aq fd aH))))) ρ (zE (D5 e e' e'' e3)):=⟨(a.v,b.v,c.v,d.v),aY a.D (aY b.D (aY c.D d.D)),λh=>by
 obtain⟨h1,h⟩:=aB h;obtain⟨h2,h⟩:=aB h;obtain⟨g,f⟩:=aB h;simp only[cG,aq,aH,a.ok h1,b.ok h2,c.ok g,d.ok f,As];rfl⟩
def eZ(e:α->Dt):R aH ρ (λxs:O α=>xs.map (zE e)):=⟨[],Z,λ_=>S⟩
def cH(a:R fa ρ (zE e))(t:R fs ρ (λxs:O α=>xs.map (zE e))):R (aq fa fs) ρ (λxs:O α=>xs.map (zE e)):=⟨a.v::t.v,aY a.D t.D,λh=>by
 obtain⟨h1,h2⟩:=aB h;simp only[aq,a.ok h1,t.ok h2,As,zt]⟩
theorem Ej:∀xs:O α,Qv (xs.map (zE e))=U (xs.map e)
 |[]=>rfl
 |x::xs=>by simp only[zt,Qv,Ej xs,As]
def lN(t:R fs ρ (λxs:O α=>xs.map (zE e)))(a:t.v.length<=1000):R (cG oF fs) ρ (oE e):=⟨t.v,t.D,λh=>by
 simp only[cG,t.ok h,As,oF,zk,zl a,Ej]⟩
def iP(t:R fs ρ (λxs:O α=>xs.map (zE e)))(a:t.v.length<=1000):R (cG mj fs) ρ (zE (eT e)):=⟨t.v,t.D,λh=>by
 simp only[cG,t.ok h,As,mj,zk,zl a,Ej]⟩
def Xy(t:R fs ρ (λxs:O Dt=>xs.map (zE eD)))(a:t.v.length<=1000):R (cG mj fs) ρ (zE eD):=⟨.tup t.v,t.D,λh=>by
 simp only[cG,t.ok h,As,mj,zk,zl a,Ej,q7,id]⟩
def at'[Inhabited α](xs:O α)(i:Int):α:=(Mw xs i).getD default
def In(n:Nat)(i:Int):Prop:=-(n:Int)<=i/\i<n
theorem Ak{xs:O α}{i:Int}(h:In xs.length i):∃x,Mw xs i=U x:=by
 obtain⟨h1,h2⟩:=h;unfold Mw FB;by_cases h0:0<=i
 ·rw[zl h0,zl h2];exact⟨xs[i.toNat]'(),z5 ()⟩
 ·rw[zz h0,zl h1];exact⟨xs[(i+xs.length).toNat]'(),z5 ()⟩
theorem ip{xs:O α}{i:Int}{x:α}(h:Mw xs i=U x):Mw (xs.map e) i=U (e x):=by
 unfold Mw at h ⊢;rw[zk];obtain⟨j,a,h⟩:=AT h;rw[a,As,Zp,h];rfl
theorem Pv[Inhabited α]{xs:O α}{i:Int}(h:In xs.length i):Mw (xs.map e) i=U (e (at' xs i)):=by
 obtain⟨x,hx⟩:=Ak h;rw[ip hx];unfold at';rw[hx];rfl
theorem UZ{i:Int}(h:oM b=U ds):eY b (.z (.int i))=(Mw ds i).bind λd=>U (.z d):=by
 cases b with
 |z d=>cases d<;>cases h;rfl
 |l d=>cases h;rfl
 |o d=>cases h;rfl
 |n d=>cases h
 |m d _=>cases h
def iu[Inhabited α](a:RL fa ρ e)(b:R fb ρ (zE eI)):R (b2 eY fa fb) ρ (zE e):=⟨at' a.v b.v,aY (aY a.D b.D) (U (In a.v.length b.v)),λh=>by
 obtain⟨h,c⟩:=aB h;obtain⟨h1,h2⟩:=aB h;simp only[b2,a.ok h1,b.ok h2,As,UZ a.lk,Pv (show In a.v.length b.v from c)]⟩
def OV[Inhabited α](a:R fa ρ (zE (eT e)))(b:R fb ρ (zE eI)):R (b2 eY fa fb) ρ (zE e):=⟨at' a.v b.v,aY (aY a.D b.D) (U (In a.v.length b.v)),λh=>by
 obtain⟨h,c⟩:=aB h;obtain⟨h1,h2⟩:=aB h;simp only[b2,a.ok h1,b.ok h2,As,eY,zm,Pv (show In a.v.length b.v from c)]⟩
def ch(x:AJ)(i:Int):AJ:=⟨#[(Mw x.cps.toList i).getD 0]⟩
def ZL(a:R fa ρ (zE eS))(b:R fb ρ (zE eI)):R (b2 eY fa fb) ρ (zE eS):=⟨ch a.v b.v,aY (aY a.D b.D) (U (In a.v.length b.v)),λh=>by
 obtain⟨h,c⟩:=aB h;obtain⟨h1,h2⟩:=aB h;obtain⟨x,hx⟩:=Ak (xs:=a.v.cps.toList) (i:=b.v) (show In a.v.length b.v from c);simp only[b2,a.ok h1,b.ok h2,As,eY,hx,ch,q5]⟩
def DD(d:Dt)(i:Int):Dt:=match eY (.z d) (.z (.int i))with|some (.z y)=>y|_=>.non
def IL(d:Dt)(i:Int):Prop:=match d with
 |.tup ds=>In ds.length i
 |.lst ds=>In ds.length i
 |.str x=>In x.length i
 |_=>False
def OA(a:R fa ρ (zE eD))(b:R fb ρ (zE eI)):R (b2 eY fa fb) ρ (zE eD):=⟨DD a.v b.v,aY (aY a.D b.D) (U (IL a.v b.v)),λh=>by
 obtain⟨h,d⟩:=aB h;obtain⟨h1,h2⟩:=aB h;have d:IL a.v b.v:=d;simp only[b2,a.ok h1,b.ok h2,As];show eY (.z a.v) (.z (.int b.v))=U (.z (DD a.v b.v));unfold DD;cases e:a.v with
 |tup ds=>
  rw[e]at d;obtain⟨x,hx⟩:=Ak (show In ds.length b.v from d);simp only[eY,zm,As,hx]
 |lst ds=>
  rw[e]at d;obtain⟨x,hx⟩:=Ak (show In ds.length b.v from d);simp only[eY,zm,As,hx]
 |str x=>
  rw[e]at d;obtain⟨c,hx⟩:=Ak (xs:=x.cps.toList) (show In x.length b.v from d);simp only[eY,As,hx]
 |non=>rw[e]at d;exact absurd d id
 |bl _=>rw[e]at d;exact absurd d id
 |int _=>rw[e]at d;exact absurd d id
 |emp=>rw[e]at d;exact absurd d id⟩
def d8(a:R fa ρ (zE e))(g:α->β)(e':β->Dt)(i:Int)(h:∀x,eY (.z (e x)) (.z (.int i))=U (.z (e' (g x)))):R (b2 eY fa (cB (.int i))) ρ (zE e'):=⟨g a.v,a.D,λb=>by
 simp only[b2,a.ok b,As,cB,h]⟩
def cut(xs:O α)(lo hi:Y Int):O α:=(xs.drop (HT.jN xs.length 0 lo)).take (HT.jN xs.length xs.length hi-HT.jN xs.length 0 lo)
theorem ZM(xs:O α)(lo hi:Y Int):C4 (xs.map e) lo hi=(cut xs lo hi).map e:=by
 unfold C4 cut;rw[zk,List.map_take,List.map_drop]
abbrev pE:Y Int->Y Int:=λo=>o
def FL:R wR ρ pE:=⟨Z,Z,λ_=>S⟩
def FS(a:R fa ρ (zE eI)):R (Bm fa) ρ pE:=⟨U a.v,a.D,λh=>by simp only[Bm,a.ok h,As,LJ]⟩
variable{fl fh:Ev->Y (Y Int)}
theorem sR(h:oM b=U ds):Eg b lo hi=U (.o (C4 ds lo hi)):=by
 cases b with
 |z d=>cases d<;>cases h;rfl
 |l d=>cases h;rfl
 |o d=>cases h;rfl
 |n d=>cases h
 |m d _=>cases h
def PY(a:RL fa ρ e)(l:R fl ρ pE)(u:R fh ρ pE):R (Sw fa fl fh) ρ (oE e):=⟨cut a.v l.v u.v,aY a.D (aY l.D u.D),λh=>by
 obtain⟨h1,h⟩:=aB h;obtain⟨h2,b⟩:=aB h;simp only[Sw,a.ok h1,l.ok h2,u.ok b,As,sR a.lk,ZM]⟩
def fE(a:R fa ρ (zE (eT e)))(l:R fl ρ pE)(u:R fh ρ pE):R (Sw fa fl fh) ρ (zE (eT e)):=⟨cut a.v l.v u.v,aY a.D (aY l.D u.D),λh=>by
 obtain⟨h1,h⟩:=aB h;obtain⟨h2,b⟩:=aB h;simp only[Sw,a.ok h1,l.ok h2,u.ok b,As,Eg,ZM]⟩
def NM(a:R fa ρ (zE eS))(l:R fl ρ pE)(u:R fh ρ pE):R (Sw fa fl fh) ρ (zE eS):=⟨Txt.slice a.v l.v u.v,aY a.D (aY l.D u.D),λh=>by
 obtain⟨h1,h⟩:=aB h;obtain⟨h2,b⟩:=aB h;simp only[Sw,a.ok h1,l.ok h2,u.ok b,As,Eg]⟩
def LI:Dt->O Dt
 |.tup ds=>ds
 |.lst ds=>ds
 |_=>[]
def lc(a:R fa ρ (zE eD))(l:R fl ρ pE)(u:R fh ρ pE):R (Sw fa fl fh) ρ (zE eD):=⟨.tup (cut (LI a.v) l.v u.v),aY (aY a.D (aY l.D u.D)) (U (B5 a.v=true)),λh=>by
 obtain⟨h,b⟩:=aB h;obtain⟨h1,h⟩:=aB h;obtain⟨h2,d⟩:=aB h;have b:B5 a.v=true:=b;simp only[Sw,a.ok h1,l.ok h2,u.ok d,As];cases c:a.v<;>rw[c]at b<;>first|(cases b;done)|rfl⟩
def eM(a:R fa ρ (zE (eT e))):R (b2 F5 fa (b1 TV (cB (.int 1)))) ρ (zE (eT e)):=⟨a.v.reverse,a.D,λh=>by
 simp only[b2,b1,a.ok h,As,cB,TV,F5,qk,zE,eT,ra]⟩
def Pg(n:Nat):Prop:=n<=1000000
def Pc(a:R fa ρ (zE eS))(b:R fb ρ (zE eS)):R (b2 fZ fa fb) ρ (zE eS):=⟨a.v++b.v,aY (aY a.D b.D) (U (Pg (a.v.length+b.v.length))),λh=>by
 obtain⟨h,c⟩:=aB h;obtain⟨h1,h2⟩:=aB h;simp only[b2,a.ok h1,b.ok h2,As,fZ,zl (show a.v.length+b.v.length<=W0 from c)]⟩
def am(a:R fa ρ (zE (eT e)))(b:R fb ρ (zE (eT e))):R (b2 fZ fa fb) ρ (zE (eT e)):=⟨a.v++b.v,aY (aY a.D b.D) (U (Pg (a.v.length+b.v.length))),λh=>by
 obtain⟨h,c⟩:=aB h;obtain⟨h1,h2⟩:=aB h;simp only[b2,a.ok h1,b.ok h2,As,fZ,zk,zl (show a.v.length+b.v.length<=W0 from c),zE,eT,qB]⟩
theorem Th{e:Bx}{f:O Dt}(h:oM b=U ds)(h':oM e=U f)(c:ds.length+f.length<=W0):fZ b e=U (.o (ds++f)):=by
 cases b with
 |z d=>
  cases d<;>cases h;cases e with
  |z a=>cases a<;>cases h';exact zl c
  |l a=>cases h';exact zl c
  |o a=>cases h';exact zl c
  |n a=>cases h'
  |m a=>cases h'
 |l d=>
  cases h;cases e with
  |z a=>cases a<;>cases h';exact zl c
  |l a=>cases h';exact zl c
  |o a=>cases h';exact zl c
  |n a=>cases h'
  |m a=>cases h'
 |o d=>
  cases h;cases e with
  |z a=>cases a<;>cases h';exact zl c
  |l a=>cases h';exact zl c
  |o a=>cases h';exact zl c
  |n a=>cases h'
  |m a=>cases h'
 |n d=>cases h
 |m d _=>cases h
def NB(a:RL fa ρ e)(b:RL fb ρ e):R (b2 fZ fa fb) ρ (oE e):=⟨a.v++b.v,aY (aY a.D b.D) (U (Pg (a.v.length+b.v.length))),λh=>by
 obtain⟨h,c⟩:=aB h;obtain⟨h1,h2⟩:=aB h;simp only[b2,a.ok h1,b.ok h2,As];rw[Th a.lk b.lk (by rw[zk,zk];exact c)];simp only[oE,qB]⟩
def OM(a:R fa ρ (zE eS))(b:R fb ρ (zE eI)):R (b2 zj fa fb) ρ (zE eS):=⟨Txt.mul a.v b.v,aY (aY a.D b.D) (U (b.v<=1000 ∧ -1000<=b.v/\a.v.length<=1000)),λh=>by
 obtain⟨h,c⟩:=aB h;obtain⟨h1,h2⟩:=aB h;simp only[b2,a.ok h1,b.ok h2,As];exact zl c⟩
theorem po(h:oM b=U ds):qz [b]=U (.z (.int ds.length)):=by
 cases b with
 |z d=>cases d<;>cases h;rfl
 |l d=>cases h;rfl
 |o d=>cases h;rfl
 |n d=>cases h
 |m d _=>cases h
theorem pT(h:oM b=U ds):zm b=U ds:=by
 cases b with
 |z d=>cases d<;>cases h;rfl
 |l d=>cases h;rfl
 |o d=>cases h;rfl
 |n d=>cases h
 |m d _=>cases h
def Bz(a:RL fa ρ e):R (cG qz (aq fa aH)) ρ (zE eI):=⟨(a.v.length:Int),a.D,λh=>by
 simp only[cG,aq,aH,a.ok h,As,po a.lk,zk]⟩
def KD(a:R fa ρ (zE (eT e))):R (cG qz (aq fa aH)) ρ (zE eI):=⟨(a.v.length:Int),a.D,λh=>by
 simp only[cG,aq,aH,a.ok h,As,qz,zm,zk]⟩
def n9(a:R fa ρ (zE eS)):R (cG qz (aq fa aH)) ρ (zE eI):=⟨(a.v.length:Int),a.D,λh=>by
 simp only[cG,aq,aH,a.ok h,As,qz]⟩
def Rb:Dt->Int
 |.tup ds=>ds.length
 |.lst ds=>ds.length
 |.str x=>x.length
 |_=>0
def Rc:Dt->Bool
 |.tup _=>true
 |.lst _=>true
 |.str _=>true
 |_=>false
def Xz(a:R fa ρ (zE eD)):R (cG qz (aq fa aH)) ρ (zE eI):=⟨Rb a.v,aY a.D (U (Rc a.v=true)),λh=>by
 obtain⟨h,b⟩:=aB h;have b:Rc a.v=true:=b;simp only[cG,aq,aH,a.ok h,As];cases c:a.v<;>rw[c]at b<;>first|(cases b;done)|rfl⟩
def qU(a:RL fa ρ e):R (cG lH (aq fa aH)) ρ (zE (eT e)):=⟨a.v,a.D,λh=>by
 simp only[cG,aq,aH,a.ok h,As,lH,pT a.lk]⟩
def iq(a:R fa ρ (zE eI)):R (cG Fk (aq fa aH)) ρ (zE eI):=⟨if a.v<0 then -a.v else a.v,a.D,λh=>by
 simp only[cG,aq,aH,a.ok h,As,Fk]⟩
def XC(a:R fa ρ (zE eB)):R (cG W4 (aq fa aH)) ρ (zE eI):=⟨if a.v=true then 1 else 0,a.D,λh=>by
 simp only[cG,aq,aH,a.ok h,As,W4]⟩
theorem GC:∀l:O Bool,J1 (l.map eB)=U l
 |[]=>rfl
 |a::l=>by simp only[zt,J1,GC l,As]
def N4(a:RL fa ρ eB):R (cG Cs (aq fa aH)) ρ (zE eB):=⟨a.v.all id,a.D,λh=>by
 simp only[cG,aq,aH,a.ok h,As,Cs,a.lk,GC]⟩
def PQ(a:RL fa ρ eB):R (cG C' (aq fa aH)) ρ (zE eB):=⟨a.v.any id,a.D,λh=>by
 simp only[cG,aq,aH,a.ok h,As,C',a.lk,GC]⟩
def Ph(a:R fa ρ (zE eI))(b:R fb ρ (zE eI)):R (cG MN (aq fa (aq fb aH))) ρ (zE eI):=⟨if b.v>a.v then b.v else a.v,aY a.D b.D,λh=>by
 obtain⟨h1,h2⟩:=aB h;simp only[cG,aq,aH,a.ok h1,b.ok h2,As,MN]⟩
def Mn(a:R fa ρ (zE eI))(b:R fb ρ (zE eI)):R (cG F0 (aq fa (aq fb aH))) ρ (zE eI):=⟨if b.v<a.v then b.v else a.v,aY a.D b.D,λh=>by
 obtain⟨h1,h2⟩:=aB h;simp only[cG,aq,aH,a.ok h1,b.ok h2,As,F0]⟩
def ZP(P:Dt->Bool)(a:R fa ρ (zE e)):R (Ox P fa) ρ (zE eB):=⟨P (e a.v),a.D,λh=>by
 simp only[Ox,b1,a.ok h,As,oG,toD,zo,ZY]⟩
theorem Bn:∀l:AZ,J4 (l.map eS)=U l
 |[]=>rfl
 |a::l=>by simp only[zt,J4,Bn l,As]
def aa(s:AJ)(a:RL fa ρ eS):R (b1 (T5 s) fa) ρ (zE eS):=⟨Txt.join s a.v,aY a.D (U ((a.v.map (·.length)).sum+a.v.length*s.length<=100000)),λh=>by
 obtain⟨h,b⟩:=aB h;simp only[b1,a.ok h,As,T5,a.lk,Bn];exact zl b⟩
def Rf(a:RL fa ρ eS):R (cG Ho (aq fa aH)) ρ (oE eS):=⟨oJ a.v,aY a.D (U (a.v.length<64)),λh=>by
 obtain⟨h,b⟩:=aB h;simp only[cG,aq,aH,a.ok h,As,Ho,a.lk,Bn];exact zl b⟩
def WG(a:R fa ρ (zE e))(g:α->β)(e':β->Dt)(lo hi:Y Int)(c:fl ρ=U lo)(d:fh ρ=U hi)(h:∀x,Eg (.z (e x)) lo hi=U (.z (e' (g x)))):R (Sw fa fl fh) ρ (zE e'):=⟨g a.v,a.D,λb=>by
 simp only[Sw,a.ok b,c,d,As,h]⟩
def D8:Dt->Int
 |.int i=>i
 |_=>0
def XD:Dt->AJ
 |.str x=>x
 |_=>⟨#[]⟩
def wZ(a:R f ρ (zE eD))(g:Dt->α)(e:α->Dt):R f ρ (zE e):=⟨g a.v,aY a.D (U (a.v=e (g a.v))),λb=>by
 obtain⟨h1,h2⟩:=aB b;have h2:a.v=e (g a.v):=h2;rw[a.ok h1];show U (Bx.z a.v)=U (Bx.z (e (g a.v)));rw[<-h2]⟩
class C5 {α:Type} (e:α->Dt):Prop where
 f:∀a,Dw (e a)=true
instance:C5 eI:=⟨λ_=>rfl⟩
instance:C5 eB:=⟨λ_=>rfl⟩
instance:C5 eS:=⟨λ_=>rfl⟩
theorem KH[DecidableEq α][B8 e n][C5 e](x:α)(ys:O α):Cb (e x) (ys.map e)=U (decide (x∈ys)):=by
 unfold Cb;rw[zl ⟨C5.f x,by rw[i4];exact List.all_eq_true.mpr λy _=>C5.f y⟩,jM];congr 1;rw[Jn,ja,decide_eq_true_iff];constructor
 ·rintro⟨y,a,h⟩;simp only[Function.comp,B8.eq]at h;by_cases e1:y=x
  ·rw[<-e1];exact a
  ·simp only[e1,kA]at h;cases h
 ·intro h;exact⟨x,h,by simp only[Function.comp,B8.eq,Ki]⟩
theorem gg(h:oM b=U ds):EZ (.z d) b=Cb d ds:=by
 cases b with
 |z a=>cases a<;>cases h;cases d<;>rfl
 |l a=>cases h;cases d<;>rfl
 |o a=>cases h;cases d<;>rfl
 |n a=>cases h
 |m a=>cases h
theorem ZQ:EZ (.z d) (.z (.tup ds))=Cb d ds:=by cases d<;>rfl
def MD[DecidableEq α][B8 e n][C5 e](a:R fa ρ (zE e))(b:RL fb ρ e):R (b2 CC fa fb) ρ (zE eB):=⟨decide (a.v∈b.v),aY a.D b.D,λh=>by
 obtain⟨h1,h2⟩:=aB h;simp only[b2,a.ok h1,b.ok h2,As,CC,gg b.lk,KH]⟩
def U0[DecidableEq α][B8 e n][C5 e](a:R fa ρ (zE e))(b:R fb ρ (zE (eT e))):R (b2 CC fa fb) ρ (zE eB):=⟨decide (a.v∈b.v),aY a.D b.D,λh=>by
 obtain⟨h1,h2⟩:=aB h;simp only[b2,a.ok h1,b.ok h2,As,CC,ZQ,KH]⟩
def tS[DecidableEq α][B8 e n][C5 e](a:R fa ρ (zE e))(b:R fb ρ (zE (eT e))):R (b2 IF fa fb) ρ (zE eB):=⟨!decide (a.v∈b.v),aY a.D b.D,λh=>by
 obtain⟨h1,h2⟩:=aB h;simp only[b2,a.ok h1,b.ok h2,As,IF,ZQ,KH]⟩
def de(a:R fa ρ (zE eS))(b:R fb ρ (zE eS)):R (b2 CC fa fb) ρ (zE eB):=⟨Oq a.v b.v,aY a.D b.D,λh=>by
 obtain⟨h1,h2⟩:=aB h;simp only[b2,a.ok h1,b.ok h2,As,CC,EZ]⟩
end
structure AR {γ:Type} (cA:γ->List Bx->Prop) (fs:Ev->Option (List Bx)) (ρ:Ev) where
 v:γ
 D:Option Prop
 bs:List Bx
 h:cA v bs
 ok:hold D->fs ρ=some bs
section
variable{ε σ:Type}{fd:Ev->Y Bx}{fs:Ev->Y (O Bx)}{e:α->Dt}{e':β->Dt}{e'':γ->Dt}{e3:δ->Dt}
def aN:Unit->O Bx->Prop:=λ_ bs=>bs=[]
def aZ(e:α->Dt)(t:γ->O Bx->Prop):α×γ->O Bx->Prop:=λx bs=>∃r,bs=.z (e x.1)::r/\t x.2 r
def aL(e:α->Dt)(t:γ->O Bx->Prop):O α×γ->O Bx->Prop:=λx bs=>∃b r,bs=b::r/\oM b=U (x.1.map e)/\t x.2 r
def aW:AR aN aH ρ:=⟨sn,Z,[],rfl,λ_=>S⟩
def bQ{t:γ->O Bx->Prop}(a:R fa ρ (zE e))(r:AR t fs ρ):AR (aZ e t) (aq fa fs) ρ:=⟨(a.v,r.v),aY a.D r.D,_,⟨_,rfl,r.h⟩,λh=>by
 obtain⟨h1,h2⟩:=aB h;simp only[aq,a.ok h1,r.ok h2,As]⟩
def w5{t:γ->O Bx->Prop}(a:RL fa ρ e)(r:AR t fs ρ):AR (aL e t) (aq fa fs) ρ:=⟨(a.v,r.v),aY a.D r.D,_,⟨_,_,rfl,a.lk,r.h⟩,λh=>by
 obtain⟨h1,h2⟩:=aB h;simp only[aq,a.ok h1,r.ok h2,As]⟩
def An{d:γ->O Bx->Prop}{F:O Bx->Y Bx}{c:α->Bx}{T:γ->α}{b:γ->Y Prop}(S:∀v bs,d v bs->bs.length=n/\(hold (b v)->F (bs.map lend)=U (c (T v))))(a:AR d fs ρ):R (bJ n F fs) ρ c:=⟨T a.v,aY a.D (b a.v),λh=>by
 obtain⟨h1,h2⟩:=aB h;obtain⟨e,f⟩:=S a.v a.bs a.h;simp only[bJ,a.ok h1,As,zl e,f h2]⟩
theorem l7{bs:O Bx}{c:α->Bx}(x:R g (bs.map U++ab (n-bs.length) Z) (λr=>Ap.rt (c r)))(h:hold x.D):cU n g bs=U (c x.v):=by
 unfold cU;rw[x.ok h];rfl
def SF(xs:O α)(P:α->Y Prop):Y Prop:=U (∀x∈xs,hold (P x))
theorem U3{fs:Ev->Y (O Dt)}{b:Ev}{g:α->O Dt}{π:α->Bool}:∀xs:O α,(∀x∈xs,∃a,gt (e x) b=U a/\p a=U (π x)/\(π x=true->fs a=U (g x)))->Il gt p fs b (xs.map e)=U ((xs.filter π).flatMap g)
 |[],_=>rfl
 |x::xs,h=>by
  obtain⟨a,h1,h2,f⟩:=h x (zg ..);have c:=U3 (g:=g) (π:=π) xs λy d=>h y (zh _ d);cases hp:π x with
  |true=>simp only[zt,Il,h1,As,h2,hp,qk,f hp,c,kK,ic]
  |false=>simp only[zt,Il,h1,As,h2,hp,c,kK,zo,ZY]
theorem U4{g:α->β}:∀xs:O α,xs.flatMap (λx=>[e' (g x)])=(xs.map g).map e'
 |[]=>rfl
 |x::xs=>by rw[ic,U4 xs];rfl
theorem KJ{b:Ev}{g:α->β}{π:α->Bool}(xs:O α)(h:∀x∈xs,∃a,gt (e x) b=U a/\p a=U (π x)/\(π x=true->fe a=U (.z (e' (g x))))):Hi gt p fe b (xs.map e)=U (((xs.filter π).map g).map e'):=by
 rw[<-U4];exact U3 xs λx hx=>let ⟨a,h1,h2,h3⟩:=h x hx;⟨a,h1,h2,λhp=>by rw[h3 hp];rfl⟩
theorem CB{b:Ev}{g:α->β}(xs:O α)(h:∀x∈xs,∃a,gt (e x) b=U a/\fe a=U (.z (e' (g x)))):Hi gt ur fe b (xs.map e)=U ((xs.map g).map e'):=
 (KJ (π:=λ_=>true) xs λx hx=>let ⟨a,h1,h2⟩:=h x hx;⟨a,h1,rfl,λ_=>h2⟩).trans (by rw[dl.mpr λ_ _=>S])
def Rh(it:R fi ρ (iE e))(a:α->Ev)(hg:∀x,gt (e x) (mz is ρ++ab n Z)=U (a x))(b:∀x,R fe (a x) (zE e')):R (d7 fi gt ur fe is n) ρ (oE e'):=⟨it.v.map λx=>(b x).v,aY (aY it.D (U (it.v.length<=100000))) (SF it.v λx=>(b x).D),λh=>by
 obtain⟨h,c⟩:=aB h;obtain⟨h1,h2⟩:=aB h;have c:∀x∈it.v,hold (b x).D:=c;simp only[d7,it.ok h1,As,zk,zl (show it.v.length<=100000 from h2),CB it.v λx hx=>⟨a x,hg x,(b x).ok (c x hx)⟩]⟩
def j7(it:R fi ρ (iE e))(a:α->Ev)(hg:∀x,gt (e x) (mz is ρ++ab n Z)=U (a x))(b:∀x,R fe (a x) (zE e'))(hb:∀x,(b x).D=Z):R (d7 fi gt ur fe is n) ρ (oE e'):=⟨it.v.map λx=>(b x).v,aY it.D (U (it.v.length<=100000)),λh=>by
 obtain⟨h1,h2⟩:=aB h;simp only[d7,it.ok h1,As,zk,zl (show it.v.length<=100000 from h2),CB it.v λx hx=>⟨a x,hg x,(b x).ok (by rw[hb x];trivial)⟩]⟩
def ZR(it:R fi ρ (iE e))(a:α->Ev)(hg:∀x,gt (e x) (mz is ρ++ab n Z)=U (a x))(t:∀x,R p (a x) tE)(b:∀x,R fe (a x) (zE e')):R (d7 fi gt p fe is n) ρ (oE e'):=⟨(it.v.filter λx=>(t x).v).map λx=>(b x).v,aY (aY it.D (U (it.v.length<=100000))) (SF it.v λx=>aY (t x).D (Kq ((t x).v=true) (b x).D)),λh=>by
 obtain⟨h,c⟩:=aB h;obtain⟨h1,h2⟩:=aB h;have c:∀x∈it.v,hold (aY (t x).D (Kq ((t x).v=true) (b x).D)):=c;simp only[d7,it.ok h1,As,zk,zl (show it.v.length<=100000 from h2),KJ it.v λx hx=>⟨a x,hg x,(t x).ok (aB (c x hx)).1,λd=>(b x).ok (nO (aB (c x hx)).2 d)⟩]⟩
def zJ(it:R fi ρ (iE e))(a:α->Ev)(hg:∀x,gt (e x) (mz is ρ++ab n Z)=U (a x))(t:∀x,R p (a x) tE)(b:∀x,R fe (a x) (zE e'))(c:∀x,(t x).D=Z)(hb:∀x,(b x).D=Z):R (d7 fi gt p fe is n) ρ (oE e'):=⟨(it.v.filter λx=>(t x).v).map λx=>(b x).v,aY it.D (U (it.v.length<=100000)),λh=>by
 obtain⟨h1,h2⟩:=aB h;simp only[d7,it.ok h1,As,zk,zl (show it.v.length<=100000 from h2),KJ it.v λx hx=>⟨a x,hg x,(t x).ok (by rw[c x];trivial),λ_=>(b x).ok (by rw[hb x];trivial)⟩]⟩
def Iv(a:RL fa ρ e):R (Hl fa) ρ (iE e):=⟨a.v,a.D,λh=>by
 have:GN a.b=U (a.v.map e):=by
  have:=a.lk
  revert this
  generalize a.b=b;generalize a.v.map e=ds;intro this;cases b with
  |z d=>cases d<;>cases this;rfl
  |l d=>cases this;rfl
  |o d=>cases this;rfl
  |n d=>cases this
  |m d _=>cases this
 simp only[Hl,a.ok h,As,this]⟩
def XF(a:R fa ρ (zE (eT e))):R (Hl fa) ρ (iE e):=⟨a.v,a.D,λh=>by simp only[Hl,a.ok h,As,GN]⟩
def CS(x:AJ):AZ:=x.cps.toList.map λc=>⟨#[c]⟩
theorem U1(x:AJ):BN x=(CS x).map eS:=by
 unfold BN CS;rw[QE];rfl
def E8:Dt->O Dt
 |.tup ds=>ds
 |.lst ds=>ds
 |.str x=>BN x
 |_=>[]
def a7(a:R fa ρ (zE eD)):R (Hl fa) ρ (iE eD):=⟨E8 a.v,aY a.D (U (Rc a.v=true)),λh=>by
 obtain⟨h,b⟩:=aB h;have b:Rc a.v=true:=b;simp only[Hl,a.ok h,As];cases c:a.v<;>rw[c]at b<;>first|(cases b;done)|(simp only[GN,E8,iE,eD,q7,id])⟩
def MM(a:R fa ρ (oE e)):R (DO fa) ρ (iE e):=⟨a.v,a.D,λh=>by simp only[DO,a.ok h,As,Fh]⟩
def LG(a:R fa ρ (zE (eT e))):R (DO fa) ρ (iE e):=⟨a.v,a.D,λh=>by simp only[DO,a.ok h,As,Fh]⟩
def rng(i:Int)(n:Nat):O Int:=(cd n).map λk:Nat=>i+(k:Int)
theorem ZS(i:Int)(n:Nat):Qw i n=(rng i n).map eI:=by
 unfold Qw rng;rw[QE];rfl
def Rg(j:Int):Prop:=-4611686018427387904<=j/\j<4611686018427387904
def Pj(a:R fa ρ (zE eI)):R (T4 (aq fa aH)) ρ (iE eI):=⟨rng 0 a.v.toNat,aY a.D (U (Rg a.v)),λh=>by
 obtain⟨h,b⟩:=aB h;simp only[T4,aq,aH,a.ok h,As];show(if -(2 ^ 62)<=a.v/\a.v<2 ^ 62 then U (Qw 0 a.v.toNat)else Z)=_;exact(zl b).trans (by rw[ZS])⟩
def rj(n:Int)(m:Nat)(a:n.toNat=m)(b:Rg n):R (T4 (aq (cB (.int n)) aH)) ρ (iE eI):=⟨rng 0 m,Z,λ_=>by
 simp only[T4,aq,aH,As,cB];show(if -(2 ^ 62)<=n/\n<2 ^ 62 then U (Qw 0 n.toNat)else Z)=_;exact(zl b).trans (by rw[ZS,a])⟩
end
section
variable{ε σ τ:Type}{fd:Ev->Y Bx}{fs:Ev->Y (O Bx)}{e:α->Dt}{e':β->Dt}{k:Ev->Y Ap}{cO:γ->Ap}
theorem mG{ρ':Ev}(h:g1 ρ=U (.nx ρ')):aF g1 k ρ=k ρ':=by
 unfold aF;rw[h];rfl
def bF(x:R (aF g (aF g1 k)) ρ cO):R (aF (aF g g1) k) ρ cO:=⟨x.v,x.D,λh=>by
 rw[<-x.ok h];unfold aF;cases g ρ with
 |none=>rfl
 |some o=>cases o<;>rfl⟩
def bR(x:R k ρ cO):R (aF dR k) ρ cO:=⟨x.v,x.D,λh=>x.ok h⟩
def bH(x:γ)(h:cO x=.nx (kill is ρ)):R (cZ is) ρ cO:=⟨x,Z,λ_=>by rw[h];rfl⟩
def dB{c:α->Bx}(inj:α->γ)(a:R f ρ c)(h:∀x,cO (inj x)=.rt (c x))(d:∀x,F' (c x)=U (.rt (c x))):R (aF (fK f) k) ρ cO:=⟨inj a.v,a.D,λb=>by
 have:fK f ρ=U (.rt (c a.v)):=by unfold fK;rw[a.ok b,As,d]
 unfold aF;rw[this,h];rfl⟩
def Cr{c:α->Bx}(i:Nat)(inj:α->γ)(a:α)(hi:ρ[i]?=U (U (c a)))(h:∀x,cO (inj x)=.rt (c x))(b:∀x,F' (c x)=U (.rt (c x))):R (aF (Ge i) k) ρ cO:=⟨inj a,Z,λd=>by
 have:Ge i ρ=U (.rt (c a)):=by unfold Ge;rw[hi];exact b a
 unfold aF;rw[this,h];rfl⟩
def bM{c:α->Bx}(i:Nat)(a:R f ρ c)(b:∀x,FO ρ i (c x)=U (ρ.set i (U (c x))))(K:∀x,R k (ρ.set i (U (c x))) cO):R (aF (Au i f) k) ρ cO:=⟨(K a.v).v,aY a.D (K a.v).D,λd=>by
 obtain⟨h1,h2⟩:=aB d;rw[mG (ρ':=ρ.set i (U (c a.v))) (by unfold Au;rw[a.ok h1,As,b,As])];exact(K a.v).ok h2⟩
def LY(a:R f ρ (zE e))(b:α->Ev)(hg:∀x,gt (e x) ρ=U (b x))(K:∀x,R k (b x) cO):R (aF (GG gt f) k) ρ cO:=⟨(K a.v).v,aY a.D (K a.v).D,λc=>by
 obtain⟨h1,h2⟩:=aB c;rw[mG (ρ':=b a.v) (by unfold GG;rw[a.ok h1,As];simp only[hg,As])];exact(K a.v).ok h2⟩
def MQ(i j:Nat)(a:R fa ρ (zE e))(b:R fb ρ (zE e'))(K:∀x y,R k ((ρ.set i (U (.z (e x)))).set j (U (.z (e' y)))) cO):R (aF (Fn i j (aq fa (aq fb aH))) k) ρ cO:=⟨(K a.v b.v).v,aY (aY a.D b.D) (K a.v b.v).D,λc=>by
 obtain⟨h1,d⟩:=aB c;obtain⟨h1,h2⟩:=aB h1;rw[mG (ρ':=(ρ.set i (U (.z (e a.v)))).set j (U (.z (e' b.v)))) (by unfold Fn;simp only[aq,aH,a.ok h1,b.ok h2,As,IX])];exact(K a.v b.v).ok d⟩
def Ek(i:Nat)(xs:O α)(hi:ρ[i]?=U (U (.o (xs.map e))))(a:R f ρ (zE e))(K:∀ys:O α,R k (ρ.set i (U (.o (ys.map e)))) cO):R (aF (J2 i f) k) ρ cO:=⟨(K (xs++[a.v])).v,aY (aY a.D (U (Pg xs.length))) (K (xs++[a.v])).D,λb=>by
 obtain⟨h1,c⟩:=aB b;obtain⟨h1,h2⟩:=aB h1;have h2:xs.length<=1000000:=h2;rw[mG (ρ':=ρ.set i (U (.o ((xs++[a.v]).map e)))) (by
  unfold J2;rw[a.ok h1,As];simp only[IH,hi,zk,qB,zt,JJ];rw[zl (hH h2 ())])]
 exact(K _).ok c⟩
def nP(t:R p ρ tE)(a:R (aF g1 k) ρ cO)(b:R (aF g2 k) ρ cO):R (aF (za p g1 g2) k) ρ cO:=⟨if t.v=true then a.v else b.v,aY t.D (aY (Kq (t.v=true) a.D) (Kq (t.v=false) b.D)),λf=>by
 obtain⟨h1,h2⟩:=aB f;obtain⟨h2,g⟩:=aB h2;have e1:∀c,t.v=c->aF (za p g1 g2) k ρ=aF (if c=true then g1 else g2) k ρ:=λc e=>by
  unfold aF za;rw[t.ok h1,As,e];cases c<;>rfl
 cases d:t.v with
 |true=>rw[e1 true d];simp only[qk];exact a.ok (nO h2 d)
 |false=>rw[e1 false d];simp only[zo,ZY];exact b.ok (nO g d)⟩
def Bo(E:σ->Ev)(t:R p ρ tE)(a:R g1 ρ (λs=>Ap.nx (E s)))(b:R g2 ρ (λs=>Ap.nx (E s)))(K:∀s,R k (E s) cO):R (aF (za p g1 g2) k) ρ cO:=⟨(K (if t.v=true then a.v else b.v)).v,aY (aY t.D (aY (Kq (t.v=true) a.D) (Kq (t.v=false) b.D))) (K (if t.v=true then a.v else b.v)).D,λd=>by
 obtain⟨h,e⟩:=aB d;obtain⟨h1,h2⟩:=aB h;obtain⟨h2,f⟩:=aB h2;rw[mG (ρ':=E (if t.v=true then a.v else b.v)) (by
  unfold za;rw[t.ok h1,As];cases c:t.v with
  |true=>simp only[qk];exact a.ok (nO h2 c)
  |false=>simp only[zo,ZY];exact b.ok (nO f c))]
 exact(K _).ok e⟩
def lO(step:σ->α->σ)(P:σ->α->Y Prop):O α->σ->Prop
 |[],_=>True
 |x::xs,s=>hold (P s x)/\lO step P xs (step s x)
theorem El{gb:Ev->Y Ap}(E:σ->Ev)(a:σ->α->Ev)(hg:∀s x,gt (e x) (E s)=U (a s x))(body:∀s x,R gb (a s x) (λs=>Ap.nx (E s))):∀(xs:O α) (s:σ),lO (λs x=>(body s x).v) (λs x=>(body s x).D) xs s->uq gt gb (xs.map e) (E s)=U (.nx (E (xs.foldl (λs x=>(body s x).v) s)))
 |[],s,_=>rfl
 |x::xs,s,h=>by
  simp only[zt,uq,hg,As,(body s x).ok h.1,qo];exact El E a hg body xs _ h.2
def KN(E:σ->Ev)(a:σ)(c:ρ=E a)(it:R fi ρ (iE e))(b:σ->α->Ev)(hg:∀s x,gt (e x) (E s)=U (b s x))(body:∀s x,R gb (b s x) (λs=>Ap.nx (E s)))(K:∀s,R k (E s) cO):R (aF (sZ fi gt gb) k) ρ cO:=⟨(K (it.v.foldl (λs x=>(body s x).v) a)).v,aY (aY it.D (U (lO (λs x=>(body s x).v) (λs x=>(body s x).D) it.v a))) (K (it.v.foldl (λs x=>(body s x).v) a)).D,λf=>by
 obtain⟨h,d⟩:=aB f;obtain⟨h1,h2⟩:=aB h;rw[mG (ρ':=E (it.v.foldl (λs x=>(body s x).v) a)) (by
  unfold sZ;rw[it.ok h1,As];subst c;exact El E b hg body it.v a h2)]
 exact(K _).ok d⟩
def ie(E:σ->Ev)(a:σ)(c:ρ=E a)(it:R fi ρ (iE e))(b:σ->α->Ev)(hg:∀s x,gt (e x) (E s)=U (b s x))(body:∀s x,R gb (b s x) (λs=>Ap.nx (E s)))(hb:∀s x,(body s x).D=Z)(K:∀s,R k (E s) cO):R (aF (sZ fi gt gb) k) ρ cO:=⟨(K (it.v.foldl (λs x=>(body s x).v) a)).v,aY it.D (K (it.v.foldl (λs x=>(body s x).v) a)).D,λf=>by
 obtain⟨h1,d⟩:=aB f;have h2:∀(xs:O α) (s:σ),lO (λs x=>(body s x).v) (λs x=>(body s x).D) xs s:=λxs=>by
  induction xs with
  |nil=>intro s;trivial
  |cons x xs g=>intro s;exact⟨by show hold (body s x).D;rw[hb s x];trivial,g _⟩
 rw[mG (ρ':=E (it.v.foldl (λs x=>(body s x).v) a)) (by
  unfold sZ;rw[it.ok h1,As];subst c;exact El E b hg body it.v a (h2 _ _))]
 exact(K _).ok d⟩
inductive nG (σ τ:Type) where
 |nx (s:σ)|rt (r:τ)|bk (s:σ)|ct (s:σ)
def cC(E:σ->Ev)(c:τ->Bx):nG σ τ->Ap
 |.nx s=>.nx (E s)
 |.rt r=>.rt (c r)
 |.bk s=>.bk (E s)
 |.ct s=>.ct (E s)
def qC(step:σ->α->nG σ τ):O α->σ->nG σ τ
 |[],s=>.nx s
 |x::xs,s=>match step s x with
  |.nx s'=>qC step xs s'
  |.ct s'=>qC step xs s'
  |.bk s'=>.nx s'
  |.rt r=>.rt r
def Bp(step:σ->α->nG σ τ)(P:σ->α->Y Prop):O α->σ->Prop
 |[],_=>True
 |x::xs,s=>hold (P s x)/\match step s x with
  |.nx s'=>Bp step P xs s'
  |.ct s'=>Bp step P xs s'
  |.bk _=>True
  |.rt _=>True
theorem Jw{c:τ->Bx}(E:σ->Ev)(a:σ->α->Ev)(hg:∀s x,gt (e x) (E s)=U (a s x))(body:∀s x,R gb (a s x) (cC E c)):∀(xs:O α) (s:σ),Bp (λs x=>(body s x).v) (λs x=>(body s x).D) xs s->uq gt gb (xs.map e) (E s)=U (cC E c (qC (λs x=>(body s x).v) xs s))
 |[],s,_=>rfl
 |x::xs,s,h=>by
  obtain⟨h1,h2⟩:=h;dsimp only at h2;simp only[zt,uq,hg,As,(body s x).ok h1,qC]
  revert h2
  cases(body s x).v with
  |nx s'=>intro h2;exact Jw E a hg body xs s' h2
  |ct s'=>intro h2;exact Jw E a hg body xs s' h2
  |bk s'=>intro _;rfl
  |rt r=>intro _;rfl
theorem Em(step:σ->α->nG σ τ):∀(xs:O α) (s:σ),(∃s',qC step xs s=.nx s')\/∃r,qC step xs s=.rt r
 |[],s=>.inl ⟨s,rfl⟩
 |x::xs,s=>by
  unfold qC;cases step s x with
  |nx s'=>exact Em step xs s'
  |ct s'=>exact Em step xs s'
  |bk s'=>exact .inl ⟨s',rfl⟩
  |rt r=>exact .inr ⟨r,rfl⟩
def BH(r:nG σ τ)(inj:τ->γ)(K:σ->γ):γ:=match r with
 |.rt r=>inj r
 |.nx s=>K s
 |.bk s=>K s
 |.ct s=>K s
def w6(r:nG σ τ)(K:σ->Prop):Prop:=match r with
 |.rt _=>True
 |.nx s=>K s
 |.bk s=>K s
 |.ct s=>K s
def Ri(r:nG σ τ)(K:σ->Y Prop):Y Prop:=U (w6 r λs=>hold (K s))
def XH{c:τ->Bx}(E:σ->Ev)(a:σ)(g:ρ=E a)(it:R fi ρ (iE e))(b:σ->α->Ev)(hg:∀s x,gt (e x) (E s)=U (b s x))(body:∀s x,R gb (b s x) (cC E c))(inj:τ->γ)(f:∀r,cO (inj r)=.rt (c r))(K:∀s,R k (E s) cO):R (aF (sZ fi gt gb) k) ρ cO:=⟨BH (qC (λs x=>(body s x).v) it.v a) inj λs=>(K s).v,aY (aY it.D (U (Bp (λs x=>(body s x).v) (λs x=>(body s x).D) it.v a))) (Ri (qC (λs x=>(body s x).v) it.v a) λs=>(K s).D),λi=>by
 obtain⟨h,d⟩:=aB i;obtain⟨h1,h2⟩:=aB h;have e1:sZ fi gt gb ρ=U (cC E c (qC (λs x=>(body s x).v) it.v a)):=by
  unfold sZ;rw[it.ok h1,As];subst g;exact Jw E b hg body it.v a h2
 rcases Em (λs x=>(body s x).v) it.v a with⟨s',es⟩|⟨r,es⟩
 ·rw[es]at e1 d ⊢;rw[mG e1];exact(K s').ok d
 ·rw[es]at e1 ⊢;show aF (sZ fi gt gb) k ρ=U (cO (inj r));unfold aF;rw[e1,f];rfl⟩
theorem Uf(h:ρ[i]?=U (U (.o ds))):sS i gt gb ρ=uq gt gb ds (ρ.set i (U (.l ds))):=by unfold sS;rw[h]
theorem d5(h:ρ[i]?=U (U (.l ds))):sS i gt gb ρ=uq gt gb ds ρ:=by unfold sS;rw[h]
theorem XJ(h:ρ[i]?=U (U (.z (.tup ds)))):sS i gt gb ρ=uq gt gb ds ρ:=by unfold sS;rw[h];rfl
theorem bp(h:ρ[i]?=U (U (.z (.lst ds)))):sS i gt gb ρ=uq gt gb ds ρ:=by unfold sS;rw[h];rfl
theorem XM(hp:Lp b ds)(h:ρ[i]?=U (U b)):sS i gt gb ρ=uq gt gb ds ρ:=by
 rcases hp with rfl|rfl
 ·exact bp h
 ·exact d5 h
def GD(i:Nat){ρ':Ev}(xs:O α)(g:sS i gt gb ρ=uq gt gb (xs.map e) ρ')(E:σ->Ev)(a:σ)(c:ρ'=E a)(b:σ->α->Ev)(hg:∀s x,gt (e x) (E s)=U (b s x))(body:∀s x,R gb (b s x) (λs=>Ap.nx (E s)))(K:∀s,R k (E s) cO):R (aF (sS i gt gb) k) ρ cO:=⟨(K (xs.foldl (λs x=>(body s x).v) a)).v,aY (U (lO (λs x=>(body s x).v) (λs x=>(body s x).D) xs a)) (K (xs.foldl (λs x=>(body s x).v) a)).D,λf=>by
 obtain⟨h2,d⟩:=aB f;rw[mG (ρ':=E (xs.foldl (λs x=>(body s x).v) a)) (by
  rw[g,c];exact El E b hg body xs a h2)]
 exact(K _).ok d⟩
def oj{c:τ->Bx}(i:Nat){ρ':Ev}(xs:O α)(j:sS i gt gb ρ=uq gt gb (xs.map e) ρ')(E:σ->Ev)(a:σ)(g:ρ'=E a)(b:σ->α->Ev)(hg:∀s x,gt (e x) (E s)=U (b s x))(body:∀s x,R gb (b s x) (cC E c))(inj:τ->γ)(f:∀r,cO (inj r)=.rt (c r))(K:∀s,R k (E s) cO):R (aF (sS i gt gb) k) ρ cO:=⟨BH (qC (λs x=>(body s x).v) xs a) inj λs=>(K s).v,aY (U (Bp (λs x=>(body s x).v) (λs x=>(body s x).D) xs a)) (Ri (qC (λs x=>(body s x).v) xs a) λs=>(K s).D),λh=>by
 obtain⟨h2,d⟩:=aB h;have e1:sS i gt gb ρ=U (cC E c (qC (λs x=>(body s x).v) xs a)):=by
  rw[j,g];exact Jw E b hg body xs a h2
 rcases Em (λs x=>(body s x).v) xs a with⟨s',es⟩|⟨r,es⟩
 ·rw[es]at e1 d ⊢;rw[mG e1];exact(K s').ok d
 ·rw[es]at e1 ⊢;show aF (sS i gt gb) k ρ=U (cO (inj r));unfold aF;rw[e1,f];rfl⟩
class Ky {κ:Type} (c:κ->AY):Prop where
 inj:∀a b,c a=c b->a=b
abbrev kS:AJ->AY:=Sum.inr
abbrev kI:Int->AY:=Sum.inl
instance:Ky kS:=⟨λ_ _ h=>by cases h;rfl⟩
instance:Ky kI:=⟨λ_ _ h=>by cases h;rfl⟩
abbrev mE(e:α->Dt):O (AJ×α)->Bx:=λm=>.m (m.map λq=>(kS q.1,e q.2)) Z
abbrev nE(e:α->Dt):O (AJ×α)->Bx:=λm=>.n (m.map λq=>(kS q.1,e q.2))
section
variable [DecidableEq κ] {c:κ->AY}
def look[Inhabited α](m:O (κ×α))(x:κ):α:=((m.find? λq=>decide (q.1=x)).map (·.2)).getD default
def has(m:O (κ×α))(x:κ):Bool:=m.any λq=>decide (q.1=x)
def put(m:O (κ×α))(x:κ)(a:α):O (κ×α):=if has m x=true then m.map (λq=>if q.1=x then(q.1,a)else q)else m++[(x,a)]
theorem LP[Ky c](a b:κ):decide (c a=c b)=decide (a=b):=by
 by_cases h:a=b
 ·rw[h];simp
 ·rw[ZA h,ZA λz=>h (Ky.inj (c:=c) _ _ z)]
theorem WJ[Ky c](m:O (κ×α))(x:κ):J6 (m.map λq=>(c q.1,e q.2)) (c x)=((m.find? λq=>decide (q.1=x)).map (·.2)).map e:=by
 unfold J6;rw[List.find?_map];simp only[rm,Function.comp_def,LP]
theorem iA[Ky c][Inhabited α]{m:O (κ×α)}{x:κ}(h:has m x=true):J6 (m.map λq=>(c q.1,e q.2)) (c x)=U (e (look m x)):=by
 rw[WJ];unfold look;unfold has at h;rw[ja]at h;obtain⟨q,a,hx⟩:=h;cases b:m.find? λq=>decide (q.1=x)with
 |none=>exact absurd hx (by simpa using hI.mp b q a)
 |some q=>rfl
theorem ZV[Ky c](m:O (κ×α))(x:κ)(a:α):QM (m.map λq=>(c q.1,e q.2)) (c x) (e a)=(put m x a).map λq=>(c q.1,e q.2):=by
 unfold QM put has;rw[jM];simp only[Function.comp_def,LP];by_cases h:(m.any λq=>decide (q.1=x))=true
 ·rw[zl h,zl h];rw[QE,QE];refine QQ λq _=>?_;simp only[Function.comp];by_cases b:q.1=x
  ·simp[b]
  ·have h':¬ c q.1=c x:=λz=>b (Ky.inj (c:=c) _ _ z);simp[b,h']
 ·rw[zz h,zz h];simp
end
theorem U5:∀m:O (AJ×α),F8 (m.map λq=>(kS q.1,e q.2))=U (m.map (·.1))
 |[]=>rfl
 |q::m=>by rw[zt,F8,U5 m,As];rfl
def nQ[Inhabited α](a:R fa ρ (nE e))(b:R fb ρ (zE eS)):R (b2 qj fa fb) ρ (zE e):=⟨look a.v b.v,aY (aY a.D b.D) (U (has a.v b.v=true)),λh=>by
 obtain⟨h,d⟩:=aB h;obtain⟨h1,h2⟩:=aB h;simp only[b2,a.ok h1,b.ok h2,As,qj,DL,iA (c:=kS) (show has a.v b.v=true from d)]⟩
end
section
variable{fs:Ev->Y AZ}{e:α->Dt}
theorem Jx(h:oM b=U ds):zm b=U ds:=by
 cases b with
 |z d=>cases d<;>first|exact h|(cases h;done)
 |l _=>exact h
 |o _=>exact h
 |n _=>cases h
 |m _ _=>cases h
theorem NN(n:Nat):∃m,m=n:=⟨n,rfl⟩
noncomputable def kN(n:Nat):Nat:=Classical.choose (NN n)
theorem U6(n:Nat):kN n=n:=Classical.choose_spec (NN n)
noncomputable def OX(n:Int)(m:Nat)(a:n.toNat=m)(b:Rg n):R (T4 (aq (cB (.int n)) aH)) ρ (iE eI):=⟨rng 0 (kN m),Z,λh=>by rw[U6];exact(rj n m a b).ok h⟩
end
end P1
namespace P1
open L2 S1 S6
class uG {α:Type} (e:α->Dt) where
 k:α->AY
 ok:∀a,II (e a)=some (k a)
 inj:∀a b,k a=k b->a=b
 same:∀a b,T8 (k a) (k b)=true
instance:uG eI:=⟨λi=>.inl i,λ_=>rfl,λa b h=>by cases h;rfl,λ_ _=>rfl⟩
instance:uG eS:=⟨λi=>.inr i,λ_=>rfl,λa b h=>by cases h;rfl,λ_ _=>rfl⟩
class f9 {α:Type} (e:α->Dt) where
 k:α->List AY
 ok:∀a,yE (e a)=some (k a)
 inj:∀a b,k a=k b->a=b
 shp:∀a b,Ip (k a) (k b)=true
 ne:∀a,(k a).isEmpty=false
class Go {α:Type} (e:α->Dt) [f9 e]:Prop where
 tx:∀a,Ut (f9.k e a)=true
section
variable{e:α->Dt}{e':β->Dt}{e'':γ->Dt}{e3:δ->Dt}
instance [uG e] [uG e']:f9 (Wm e e'):=⟨λq=>[uG.k e q.1,uG.k e' q.2],λq=>by simp only[yE,Ht,uG.ok,As],λa b h=>by
 simp only[kz,and_true]at h;exact gG (uG.inj _ _ h.1) (uG.inj _ _ h.2),λa b=>by simp[Ip,uG.same],λ_=>rfl⟩
instance [uG e] [uG e'] [uG e'']:f9 (EK e e' e''):=⟨λq=>[uG.k e q.1,uG.k e' q.2.1,uG.k e'' q.2.2],λq=>by simp only[yE,Ht,uG.ok,As],λa b h=>by
 simp only[kz,and_true]at h;exact gG (uG.inj _ _ h.1) (gG (uG.inj _ _ h.2.1) (uG.inj _ _ h.2.2)),λa b=>by simp[Ip,uG.same],λ_=>rfl⟩
instance [uG e] [uG e'] [uG e''] [uG e3]:f9 (D5 e e' e'' e3):=⟨λq=>[uG.k e q.1,uG.k e' q.2.1,uG.k e'' q.2.2.1,uG.k e3 q.2.2.2],λq=>by simp only[yE,Ht,uG.ok,As],λa b h=>by
 simp only[kz,and_true]at h;exact gG (uG.inj _ _ h.1) (gG (uG.inj _ _ h.2.1) (gG (uG.inj _ _ h.2.2.1) (uG.inj _ _ h.2.2.2))),λa b=>by simp[Ip,uG.same],λ_=>rfl⟩
instance [uG e]:Go (Wm e eS):=⟨λa=>by simp[f9.k,Ut,uG.k]⟩
instance [uG e] [uG e']:Go (EK e eS e'):=⟨λa=>by simp[f9.k,Ut,uG.k]⟩
instance [uG e] [uG e'] [uG e'']:Go (D5 e eS e' e''):=⟨λa=>by simp[f9.k,Ut,uG.k]⟩
variable{fs:Ev->Y (O (O AY))}
theorem Cu[f9 e]:∀xs:O α,wX (xs.map e)=U (xs.map (f9.k e))
 |[]=>rfl
 |x::xs=>by simp only[zt,wX,f9.ok,As,Cu xs]
def DE(e:α->Dt)[f9 e](a b:α):Bool:=qR (f9.k e a) (f9.k e b)
def EU(e:α->Dt)[f9 e](a b:α):Bool:=gQ (f9.k e a) (f9.k e b)
def uH(e:α->Dt)[f9 e](xs:O α):O α:=xs.mergeSort (DE e)
theorem jQ[f9 e](xs:O α):(uH e xs).Perm xs:=kF ..
theorem xg[f9 e](xs:O α):(uH e xs).Pairwise (λa b=>DE e a b=true):=ka (le:=DE e) (λa b c=>wV (f9.k e a) (f9.k e b) (f9.k e c)) (λa b=>wW (f9.k e a) (f9.k e b)) xs
theorem lL[f9 e]{a b:α}(h:DE e a b=true)(h':DE e b a=true):a=b:=f9.inj _ _ (OD h h')
theorem U7[f9 e]{xs out:O α}(hp:out.Perm xs)(hs:out.Pairwise (λa b=>DE e a b=true)):out=uH e xs:=zx (λ_ _=>lL) (hp.trans (jQ xs).symm) hs (xg xs)
theorem Pk[f9 e](xs:O α):jO (xs.map (f9.k e))=(uH e xs).map (f9.k e):=by
 refine(oO ((jQ xs).map _) (List.pairwise_map.mpr (xg xs))).symm
theorem Ps[f9 e](xs:O α):(xs.map (f9.k e)).map BE=xs.map e:=by
 rw[QE];exact QQ λa _=>(vR (f9.ok a)).symm
theorem U8[f9 e](xs:O α)(h:xs.length<64):Ir (xs.map (f9.k e))=true:=by
 simp only[Ir,ZH,ZN,qf,Q3,zk,KL,forall_exists_index,and_imp,forall_apply_eq_imp_iff₂];exact⟨h,λa _=>f9.ne a,λa _ b _=>f9.shp a b⟩
def eQ[f9 e](a:RL fa ρ e):R (cG zB (aq fa aH)) ρ (oE e):=⟨uH e a.v,aY a.D (U (a.v.length<64)),λh=>by
 obtain⟨h,b⟩:=aB h;simp only[cG,aq,aH,a.ok h,As,zB,Jx a.lk,Cu,U8 a.v b,qk,Pk,Ps]⟩
abbrev uE(e:α->Dt)[f9 e]:O α->O (O AY):=λxs=>xs.map (f9.k e)
def RE[f9 e][Go e](a:RL fa ρ e):R (Xm fa) ρ (uE e):=⟨a.v,aY a.D (U (a.v.length<=64)),λh=>by
 obtain⟨h,b⟩:=aB h;have b:a.v.length<=64:=b;have c:(a.v.map (f9.k e)).all Ut=true:=by
  rw[i4,qf];exact λx _=>Go.tx x
 simp only[Xm,a.ok h,As,SG,Jx a.lk,Cu];rw[zl ⟨by rw[zk];exact b,c⟩]⟩
def Nc[DecidableEq α][f9 e](a:R fs ρ (uE e)):R (Kf fs) ρ (oE e):=⟨uH e (Gy a.v),aY a.D (U (a.v.length<64)),λh=>by
 obtain⟨h,b⟩:=aB h;simp only[Kf,a.ok h,As,U8 a.v b,qk,Q8 f9.inj,Pk,Ps]⟩
end
end P1
namespace P1
open L2
section
variable{fd:Ev->Y Bx}{fs:Ev->Y (O Bx)}{e:α->Dt}{e':β->Dt}{k:Ev->Y Ap}{cO:γ->Ap}
abbrev mW(w:Y A1)(e:α->Dt):O (AJ×α)->Bx:=λm=>.m (m.map λq=>(kS q.1,e q.2)) w
def aM(e:α->Dt)(t:γ->O Bx->Prop):O (AJ×α)×γ->O Bx->Prop:=λx bs=>∃b r,bs=b::r/\(b=nE e x.1\/b=mE e x.1)/\t x.2 r
def MO{t:γ->O Bx->Prop}(a:R fa ρ (nE e))(r:AR t fs ρ):AR (aM e t) (aq fa fs) ρ:=⟨(a.v,r.v),aY a.D r.D,_,⟨_,_,rfl,.inl rfl,r.h⟩,λh=>by
 obtain⟨h1,h2⟩:=aB h;simp only[aq,a.ok h1,r.ok h2,As]⟩
def g7{t:γ->O Bx->Prop}(a:R fa ρ (mE e))(r:AR t fs ρ):AR (aM e t) (aq fa fs) ρ:=⟨(a.v,r.v),aY a.D r.D,_,⟨_,_,rfl,.inr rfl,r.h⟩,λh=>by
 obtain⟨h1,h2⟩:=aB h;simp only[aq,a.ok h1,r.ok h2,As]⟩
def ZW(w:Y A1)(i:Nat)(m:O (AJ×α))(hi:ρ[i]?=U (U (mW w e m)))(a:R fa ρ (zE e))(b:R fb ρ (zE eS))(K:∀g:O (AJ×α),R k (ρ.set i (U (mW w e g))) cO):R (aF (Zc i fa fb) k) ρ cO:=⟨(K (put m b.v a.v)).v,aY (aY (aY a.D b.D) (U (m.length<1000))) (K (put m b.v a.v)).D,λd=>by
 obtain⟨h,f⟩:=aB d;obtain⟨h,c⟩:=aB h;obtain⟨h1,h2⟩:=aB h;rw[mG (ρ':=ρ.set i (U (mW w e (put m b.v a.v)))) (by
  unfold Zc;rw[a.ok h1,As,b.ok h2,As];simp only[T6,DL,As,hi,mW,zk,zl (show m.length<1000 from c),ZV])]
 exact(K _).ok f⟩
def HG(a:O (AJ×β)):O (AJ×β):=a.foldl (λm q=>put m q.1 q.2) []
theorem XQ(a:O (AJ×β)):dictOf (a.map (Wm eS e'))=(HG a).map λq=>(kS q.1,e' q.2):=by
 unfold dictOf HG;have:∀(a:O (AJ×β)) (m:O (AJ×β)),(a.map (Wm eS e')).foldl MB (m.map λq=>(kS q.1,e' q.2))=(a.foldl (λm q=>put m q.1 q.2) m).map λq=>(kS q.1,e' q.2):=by
  intro a
  induction a with
  |nil=>intro m;rfl
  |cons q a b=>
   intro m;rw[zt,qo,qo];show(a.map (Wm eS e')).foldl MB (QM (m.map λq=>(kS q.1,e' q.2)) (kS q.1) (e' q.2))=_;rw[ZV (c:=kS)];exact b _
 exact this a []
def ck(a:R fk ρ (zE eS))(b:R fv ρ (zE e)):R (b2 Kg fk fv) ρ (zE (Wm eS e)):=⟨(a.v,b.v),aY a.D b.D,λh=>by
 obtain⟨h1,h2⟩:=aB h;simp only[b2,a.ok h1,b.ok h2,As,Kg]⟩
def l6(i:R fi ρ (iE e))(a:R (d7 fi gt p (b2 Kg fk fv) is n) ρ (oE (Wm eS e'))):R (Zv fi gt p fk fv is n) ρ (mE e'):=⟨HG a.v,aY (aY i.D (U (i.v.length<1000))) a.D,λh=>by
 obtain⟨h,c⟩:=aB h;obtain⟨h1,h2⟩:=aB h;have h2:i.v.length<1000:=h2;have ha:=a.ok c;unfold d7 at ha;unfold Zv;rw[i.ok h1,As]at ha ⊢;rw[zl (by rw[zk];omega)]at ha;rw[zl (by rw[zk];exact h2)];obtain⟨out,b,ha⟩:=AT ha;rw[b,As];injection ha with ha;injection ha with ha;rw[ha,XQ]⟩
def SH(a:R fd ρ (nE e)):R (Uw fd) ρ (iE eS):=⟨a.v.map (·.1),a.D,λh=>by
 simp only[Uw,a.ok h,As,Do,QE];rfl⟩
def dy(a:R fa ρ (nE e)):R (cG Kl (aq fa aH)) ρ (oE eS):=⟨a.v.map (·.1),a.D,λh=>by
 simp only[cG,aq,aH,a.ok h,As,Kl,U5]⟩
def N0(a:R fa ρ (zE eS))(b:R fb ρ (zE eS)):R (cG zG (aq fa (aq fb aH))) ρ (zE eS):=⟨if vJ b.v a.v=true then b.v else a.v,aY a.D b.D,λh=>by
 obtain⟨h1,h2⟩:=aB h;simp only[cG,aq,aH,a.ok h1,b.ok h2,As,zG];rfl⟩
def oT(a:R fa ρ (zE eS))(b:R fb ρ (zE eS)):R (cG UG (aq fa (aq fb aH))) ρ (zE eS):=⟨if vJ a.v b.v=true then b.v else a.v,aY a.D b.D,λh=>by
 obtain⟨h1,h2⟩:=aB h;simp only[cG,aq,aH,a.ok h1,b.ok h2,As,UG];rfl⟩
theorem iN{bs:O Bx}{m:O (AJ×α)}{c:O (AJ×α)->Ev}(x:R g ((mW (U a) e m::bs).map U++ab (n-(bs.length+1)) Z) (λb=>Ap.nx (c b)))(h:hold x.D)(h0:∀b,(c b)[0]?=U (U (mW (U a) e b))):UJ n g a (m.map λq=>(kS q.1,e q.2)) bs=U (x.v.map λq=>(kS q.1,e q.2)):=by
 unfold UJ;rw[x.ok h,As];simp only[h0,qk]
def XR{c:γ->O Bx->Prop}{cO:δ->Ap}{T:O (AJ×α)->γ->O (AJ×α)}{b:O (AJ×α)->γ->Y Prop}(w:Y A1)(i:Nat)(m:O (AJ×α))(hi:ρ[i]?=U (U (mW w e m)))(S:∀m v bs,c v bs->bs.length=n/\bs.all EN=true/\(hold (b m v)->∀a,G a (m.map λq=>(kS q.1,e q.2)) bs=U ((T m v).map λq=>(kS q.1,e q.2))))(a:AR c fs ρ)(K:∀g:O (AJ×α),R k (ρ.set i (U (mW w e g))) cO):R (aF (Hw i n G fs) k) ρ cO:=⟨(K (T m a.v)).v,aY (aY a.D (b m a.v)) (K (T m a.v)).D,λj=>by
 obtain⟨h,f⟩:=aB j;obtain⟨h1,h2⟩:=aB h;obtain⟨l,o,d⟩:=S m a.v a.bs a.h;rw[mG (p5 hi (a.ok h1) l o (d h2))];exact(K _).ok f⟩
end
section
variable{e:α->Dt}
def fQ[DecidableEq α](x:α)(ys:O α):Bool:=decide (x∈ys)
theorem gn[DecidableEq α]{x:α}{ys:O α}:fQ x ys=true↔x∈ys:=by unfold fQ;rw[ZN]
theorem U9[DecidableEq α][B8 e n](b:n<=60)(x:α)(ys:O α):GH (e x) (ys.map e)=U (decide (x∈ys)):=by
 unfold GH;rw[zl]
 ·congr 1;rw[jM,Jn,ja,ZN];constructor
  ·rintro⟨y,a,h⟩;simp only[Function.comp,B8.eq]at h;by_cases q:y=x
   ·exact q▸a
   ·simp[q,EG]at h
  ·intro h;exact⟨x,h,by simp[Function.comp,B8.eq,EG]⟩
 ·rw[i4,qf];intro y _;have:=B8.dp (e:=e) y;simp only[Function.comp,B8.eq,y0,ye,ZN];omega
def XS[DecidableEq α][B8 e n](c:n<=60)(a:R fa ρ (zE e))(b:RL fb ρ e):R (b2 M6 fa fb) ρ (zE eB):=⟨!fQ a.v b.v,aY a.D b.D,λh=>by
 obtain⟨h1,h2⟩:=aB h;simp only[b2,a.ok h1,b.ok h2,As,M6,Jx b.lk,U9 c,fQ]⟩
def TR[DecidableEq α][B8 e n](c:n<=60)(a:R fa ρ (zE e))(b:R fb ρ (zE (eT e))):R (b2 M6 fa fb) ρ (zE eB):=⟨!fQ a.v b.v,aY a.D b.D,λh=>by
 obtain⟨h1,h2⟩:=aB h;simp only[b2,a.ok h1,b.ok h2,As,M6,zm,eT,U9 c,fQ]⟩
end
end P1
namespace P1
open L2 S1 S6
def kT(xs:AZ):O AY:=xs.map Sum.inr
theorem Va:∀(xs:AZ),Ht (xs.map eS)=U (kT xs)
 |[]=>rfl
 |x::xs=>by simp only[zt,Ht,II,As,Va xs];rfl
theorem Pn:∀(a:O AZ),wX (a.map (eT eS))=U (a.map kT)
 |[]=>rfl
 |x::a=>by simp only[zt,wX,yE,eT,Va,As,Pn a]
def MX(a b:AZ):Bool:=qR (kT a) (kT b)
def zK(a:O AZ):O AZ:=a.mergeSort MX
theorem uI(xs:O AZ):(zK xs).Perm xs:=kF ..
theorem Vb(xs:O AZ):(zK xs).Pairwise (λa b=>MX a b=true):=ka (le:=MX) (λa b c=>wV (kT a) (kT b) (kT c)) (λa b=>wW (kT a) (kT b)) xs
theorem X3(xs:O AZ):jO (xs.map kT)=(zK xs).map kT:=(oO ((uI xs).map _) (List.pairwise_map.mpr (Vb xs))).symm
theorem mw(xs:O AZ):(xs.map kT).map BE=xs.map (eT eS):=by
 rw[QE];refine QQ λa _=>?_;show Dt.tup ((kT a).map dK)=Dt.tup (a.map eS);unfold kT;rw[QE];rfl
theorem XG(a b:AZ):Ip (kT a) (kT b)=true:=by
 unfold Ip kT;rw[qf];rintro⟨x,y⟩ h;obtain⟨h1,h2⟩:=eh h;obtain⟨p,_,rfl⟩:=List.mem_map.mp h1;obtain⟨q,_,rfl⟩:=List.mem_map.mp h2;rfl
theorem vT(xs:O AZ)(h:xs.length<64)(c:∀x∈xs,x.isEmpty=false):Ir (xs.map kT)=true:=by
 simp only[Ir,ZH,ZN,qf,Q3,zk,KL,forall_exists_index,and_imp,forall_apply_eq_imp_iff₂];refine⟨h,λa ha=>?_,λa _ b _=>XG a b⟩;have:=c a ha;cases a with
 |nil=>cases this
 |cons _ _=>rfl
def c4(a:RL fa ρ (eT eS)):R (cG zB (aq fa aH)) ρ (oE (eT eS)):=⟨zK a.v,aY a.D (U (a.v.length<64/\∀x∈a.v,x.isEmpty=false)),λh=>by
 obtain⟨h,b⟩:=aB h;obtain⟨b,c⟩:a.v.length<64/\∀x∈a.v,x.isEmpty=false:=b;simp only[cG,aq,aH,a.ok h,As,zB,Jx a.lk,Pn,vT a.v b c,qk,X3,mw]⟩
section
variable{e:α->Dt}
theorem map_some(e:α->Dt)(xs:O α):(xs.map U).map (eO e)=xs.map e:=by rw[QE];rfl
end
end P1
namespace P1
open L2
section
variable{k:Ev->Y Ap}{cO:α->Ap}
end
section
variable{e:α->Dt}
end
section
variable{σ τ:Type}{k:Ev->Y Ap}{cO:γ->Ap}
def Pq(a:σ->Bool)(step:σ->nG σ τ):Nat->σ->nG σ τ
 |0,s=>.nx s
 |n+1,s=>if a s=true then(match step s with
  |.nx s'=>Pq a step n s'
  |.ct s'=>Pq a step n s'
  |.bk s'=>.nx s'
  |.rt r=>.rt r)else .nx s
def EC(a:σ->Bool)(b:σ->Y Prop)(step:σ->nG σ τ)(P:σ->Y Prop):Nat->σ->Prop
 |0,_=>False
 |n+1,s=>hold (b s)/\(a s=true->hold (P s)/\match step s with
  |.nx s'=>EC a b step P n s'
  |.ct s'=>EC a b step P n s'
  |.bk _=>True
  |.rt _=>True)
theorem Rj(a:σ->Bool)(step:σ->nG σ τ):∀(n:Nat) (s:σ),(∃s',Pq a step n s=.nx s')\/∃r,Pq a step n s=.rt r
 |0,s=>.inl ⟨s,rfl⟩
 |n+1,s=>by
  unfold Pq;split
  ·cases step s with
   |nx s'=>exact Rj a step n s'
   |ct s'=>exact Rj a step n s'
   |bk s'=>exact .inl ⟨s',rfl⟩
   |rt r=>exact .inr ⟨r,rfl⟩
  ·exact .inl ⟨s,rfl⟩
theorem X4{c:τ->Bx}(E:σ->Ev)(a:∀s,R p (E s) tE)(body:∀s,R gb (E s) (cC E c)):∀(n:Nat) (s:σ),EC (λs=>(a s).v) (λs=>(a s).D) (λs=>(body s).v) (λs=>(body s).D) n s->D1 p gb n (E s)=U (cC E c (Pq (λs=>(a s).v) (λs=>(body s).v) n s))
 |0,s,h=>absurd h id
 |n+1,s,h=>by
  obtain⟨h1,h2⟩:=h;have d:p (E s)=U (a s).v:=(a s).ok h1;unfold D1 Pq;rw[d,As];cases e:(a s).v with
  |false=>rfl
  |true=>
   obtain⟨f,b⟩:=h2 e;rw[zl rfl,zl rfl,(body s).ok f,As];cases hb:(body s).v with
   |nx s'=>dsimp only at b;rw[hb]at b;exact X4 E a body n s' b
   |ct s'=>dsimp only at b;rw[hb]at b;exact X4 E a body n s' b
   |bk s'=>rfl
   |rt r=>rfl
def ZX{c:τ->Bx}(n:Nat)(E:σ->Ev)(b:σ)(f:ρ=E b)(a:∀s,R p (E s) tE)(body:∀s,R gb (E s) (cC E c))(inj:τ->γ)(e:∀r,cO (inj r)=.rt (c r))(K:∀s,R k (E s) cO):R (aF (D1 p gb n) k) ρ cO:=
 ⟨BH (Pq (λs=>(a s).v) (λs=>(body s).v) n b) inj λs=>(K s).v,aY (U (EC (λs=>(a s).v) (λs=>(a s).D) (λs=>(body s).v) (λs=>(body s).D) n b)) (Ri (Pq (λs=>(a s).v) (λs=>(body s).v) n b) λs=>(K s).D),λg=>by
 obtain⟨h2,d⟩:=aB g;have e1:D1 p gb n ρ=U (cC E c (Pq (λs=>(a s).v) (λs=>(body s).v) n b)):=by
  subst f;exact X4 E a body n b h2
 rcases Rj (λs=>(a s).v) (λs=>(body s).v) n b with⟨s',es⟩|⟨r,es⟩
 ·rw[es]at e1 d ⊢;rw[mG e1];exact(K s').ok d
 ·rw[es]at e1 ⊢;show aF (D1 p gb n) k ρ=U (cO (inj r));unfold aF;rw[e1,e];rfl⟩
end
section
variable{e:α->Dt}
end
section
variable{σ τ:Type}
theorem Z0{step:σ->α->σ}{P:σ->α->Y Prop}(I:Nat->σ->Prop):∀(xs:O α) (m:Nat) (a:σ),I m a->(∀k x s,xs[k]?=U x->I (m+k) s->hold (P s x)/\I (m+k+1) (step s x))->lO step P xs a/\I (m+xs.length) (xs.foldl step a)
 |[],m,a,h0,_=>⟨trivial,h0⟩
 |x::xs,m,a,h0,hs=>by
  obtain⟨h1,h2⟩:=hs 0 x a S h0;have:=Z0 I xs (m+1) (step a x) h2 λk y s e h=>by
   have:=hs (k+1) y s (by simpa using e) (by rw[show m+(k+1)=m+1+k by omega];exact h);rw[show m+(k+1)+1=m+1+k+1 by omega]at this;exact this
  refine⟨⟨h1,this.1⟩,?_⟩;rw[ZE,show m+(xs.length+1)=m+1+xs.length by omega];exact this.2
theorem XZ{i:Int}{k:Nat}{x:Int}(h:(rng i n)[k]?=U x):x=i+k/\k<n:=by
 unfold rng at h;rw[Zp]at h;cases a:(cd n)[k]? with
 |none=>rw[a]at h;cases h
 |some j=>
  rw[a]at h;have b:k<n:=by simpa using(bv.mp a).1
  have:j=k:=by
   rw[fD b]at a;cases a;rfl
  subst this;cases h;exact⟨rfl,b⟩
theorem uJ(i:Int)(n:Nat):(rng i n).length=n:=by unfold rng;simp
theorem sL{i:Int}{x:Int}(h:x∈rng i n):i<=x/\x<i+n:=by
 unfold rng at h;obtain⟨k,a,rfl⟩:=List.mem_map.mp h;have:=List.mem_range.mp a;omega
theorem zL{step:σ->Int->σ}{P:σ->Int->Y Prop}(I:Nat->σ->Prop)(n:Nat)(a:σ)(h0:I 0 a)(hs:∀(k:Nat) s,k<n->I k s->hold (P s k)/\I (k+1) (step s k)):lO step P (rng 0 n) a/\I n ((rng 0 n).foldl step a):=by
 have:=Z0 (P:=P) I (rng 0 n) 0 a h0 λk x s e h=>by
  obtain⟨rfl,b⟩:=XZ e;rw[yz]at h ⊢;rw[jU];exact hs k s b h
 rw[uJ,yz]at this;exact this
theorem zM{step:Unit->α->nG Unit Bool}{P:Unit->α->Y Prop}:∀xs:O α,(∀x∈xs,hold (P sn x)/\(step sn x=.nx sn\/step sn x=.ct sn))->qC step xs sn=.nx sn/\Bp step P xs sn
 |[],_=>⟨rfl,trivial⟩
 |x::xs,h=>by
  obtain⟨h1,h2⟩:=h x (zg ..);have a:=zM (P:=P) xs λy b=>h y (zh _ b);rcases h2 with h2|h2
  ·exact⟨by unfold qC;rw[h2];exact a.1,h1,by rw[h2];exact a.2⟩
  ·exact⟨by unfold qC;rw[h2];exact a.1,h1,by rw[h2];exact a.2⟩
theorem nR[Inhabited α]{xs:O α}{i:Int}(h:In xs.length i):at' xs i∈xs:=by
 obtain⟨x,hx⟩:=Ak h;unfold at';rw[hx];unfold Mw at hx;obtain⟨j,_,hx⟩:=AT hx;exact Q1 hx
theorem PZ[Inhabited α]{xs:O α}{k:Nat}{x:α}(h:xs[k]?=U x):at' xs (k:Int)=x:=by
 have a:k<xs.length:=(bv.mp h).1;unfold at' Mw FB;rw[zl (),zl (),As,KW,h];rfl
theorem Cv[Inhabited α](xs:O α)(k:Nat)(h:k<xs.length):at' xs (k:Int)=xs[k]:=PZ (z5 h)
theorem BD{i:Int}(h0:0<=i)(h1:i<n):In n i:=⟨by omega,h1⟩
theorem tD{k:Nat}(h:k<n):In n (k:Int):=⟨by omega,by omega⟩
theorem tH{x m:Int}(a:0<m)(h:m<=n):In n (x%m):=BD (kH _ ()) (Int.lt_of_lt_of_le (hF _ a) h)
theorem fY(x:Int){m:Int}(a:0<m):0<=x%m/\x%m<m:=⟨kH _ (),hF _ a⟩
theorem Pr{j:Int}(h0:0<=j)(h1:j<=1000000):Rg j:=⟨by omega,by omega⟩
theorem LH{a b:Int}(h0:0<=a)(h1:a<18446744073709551616):G0 a b:=.inl ⟨by omega,h1⟩
theorem Z1{xs:O α}{x:α}(h:x∈cut xs lo hi):x∈xs:=yn (ym h)
theorem cc{xs:O α}{k:Nat}(h:k<=xs.length):cut xs (U (k:Int)) Z=xs.drop k:=by
 unfold cut;rw[HT.afN,HT.acj,Nat.min_eq_left h,dw (by simp)]
theorem zN(x y:AJ):(x++y).length=x.length+y.length:=by
 show(x.cps++y.cps).size=_;rw[K0];rfl
theorem GF(x:AJ)(i:Int):(ch x i).length=1:=rfl
theorem slice_le(x:AJ)(l u:Y Int):(Txt.slice x l u).length<=x.length:=PyProof.Txt.length_slice_le x l u
theorem sA(x:AJ):(CS x).length=x.length:=by unfold CS;rw[zk,ZU];rfl
theorem We(x:AJ):(BN x).length=x.length:=by rw[U1,zk,sA]
end
section
variable [Inhabited α] {e:α->Dt}{k:Ev->Y Ap}{cO:γ->Ap}
def US(j i:Nat)(xs:O α)(hi:ρ[i]?=U (U (.o (xs.map e))))(a:R f ρ (zE eI))(K:∀(ys:O α) (y:α),R k ((ρ.set i (U (.o (ys.map e)))).set j (U (zE e y))) cO):R (aF (GT j i f) k) ρ cO:=
 ⟨(K (xs.drop 1) (at' xs 0)).v,aY (aY a.D (U (a.v=0/\0<xs.length))) (K (xs.drop 1) (at' xs 0)).D,λb=>by
 obtain⟨h1,d⟩:=aB b;obtain⟨h1,h2⟩:=aB h1;obtain⟨h0,c⟩:a.v=0/\0<xs.length:=h2;rw[mG (ρ':=(ρ.set i (U (.o ((xs.drop 1).map e)))).set j (U (zE e (at' xs 0)))) (by
  unfold GT;rw[a.ok h1,As];show(match (Bx.z (Dt.int a.v))with|.z (.int k)=>_|_=>Z)=_;dsimp only;rw[hi];dsimp only;rw[h0];cases xs with
  |nil=>simp at c
  |cons x xs=>
   have e1:at' (x::xs) 0=x:=PZ (xs:=x::xs) (k:=0) rfl;rw[e1,zl ()];have e2:seqIndex? 0 ((x::xs).map e).length=U 0:=by
    rw[PySem.seqIndex_of () (by simp)];rfl
   rw[e2];rfl)]
 exact(K (xs.drop 1) (at' xs 0)).ok d⟩
end
theorem GJ:∀xs:O Int,yG (xs.map eI)=U xs
 |[]=>rfl
 |x::xs=>by simp only[zt,eI,yG,GJ xs,As]
def Sa(a:RL fa ρ eI):R (cG GE (aq fa aH)) ρ (zE eI):=⟨a.v.sum,aY a.D (U (FX a.v=true)),λh=>by
 obtain⟨h1,h2⟩:=aB h;have h2:FX a.v=true:=h2;simp only[cG,aq,aH,a.ok h1,As,GE,a.lk,GJ,h2,qk]⟩
section
variable{e:α->Dt}{k:Ev->Y Ap}{cO:γ->Ap}
end
section
variable{e:α->Dt}{k:Ev->Y Ap}{cO:γ->Ap}
def Z2[Inhabited γ]:R (aF I0 k) ρ cO:=⟨default,U False,λh=>absurd h id⟩
def X5{c:α->Bx}(a:R f ρ c)(K:R k ρ cO):R (aF (O9 f) k) ρ cO:=⟨K.v,aY a.D K.D,λb=>by
 obtain⟨h1,h2⟩:=aB b;rw[mG (ρ':=ρ) (by unfold O9;rw[a.ok h1,As])];exact K.ok h2⟩
def bb(a:R fa ρ (zE eS))(b:R fb ρ (zE e)):R (b2 Pa fa fb) ρ (mE e):=⟨[(a.v,b.v)],aY a.D b.D,λh=>by
 obtain⟨h1,h2⟩:=aB h;simp only[b2,a.ok h1,b.ok h2,As,Pa];rfl⟩
theorem Tk[DecidableEq κ]{c:κ->AY}[Ky c](m:O (κ×α))(x:κ):IM (m.map λq=>(c q.1,e q.2)) (c x)=has m x:=by
 unfold IM has;rw[jM];simp only[Function.comp_def,LP]
def ON(a:R fa ρ (zE eS))(b:R fb ρ (nE e)):R (b2 FC fa fb) ρ (zE eB):=⟨!has b.v a.v,aY a.D b.D,λh=>by
 obtain⟨h1,h2⟩:=aB h;simp only[b2,a.ok h1,b.ok h2,As,FC,DL,nE,Tk]⟩
theorem Z4{bs:O Bx}{a:γ->Ev}(x:R g (bs.map U++ab (n-bs.length) Z) (λr=>Ap.nx (a r)))(h:hold x.D):cU n g bs=U (.z .non):=by
 unfold cU;rw[x.ok h];rfl
end
section
variable{e:α->Dt}
def Sl(a:RL fa ρ e):R (b2 FF fa (b1 TV (cB (.int 1)))) ρ (oE e):=⟨a.v.reverse,a.D,λh=>by
 simp only[b2,b1,a.ok h,As,cB,TV,FF,a.lk,qk,oE,ra]⟩
end
section
variable{e:α->Dt}{e':β->Dt}
def iO{e3:γ->Dt}(a:R fa ρ (zE e))(b:R fb ρ (zE e'))(g:α->β->γ)(h:∀x y,fZ (.z (e x)) (.z (e' y))=U (.z (e3 (g x y)))):R (b2 fZ fa fb) ρ (zE e3):=⟨g a.v b.v,aY a.D b.D,λc=>by
 obtain⟨h1,h2⟩:=aB c;simp only[b2,a.ok h1,b.ok h2,As,zE,h]⟩
end
def RP(f:Ev->Y β)(ρ:Ev)(c:α->β)(v:α)(D:Y Prop):Prop:=hold D->f ρ=U (c v)
theorem R.tp{f:Ev->Y β}{c:α->β}{b:α}{a:Y Prop}(x:R f ρ c)(d:x.v=b:=by kernel_rfl)(e:x.D=a:=by kernel_rfl):RP f ρ c b a:=λh=>by
 subst d e;exact x.ok h
def RP.r{f:Ev->Y β}{c:α->β}{v:α}{D:Y Prop}(h:RP f ρ c v D):R f ρ c:=⟨v,D,h⟩
theorem Lv{p:O α->Prop}(h:∀a,p [a]):∀us:O α,us.length=1->p us
 |[a],_=>h a
theorem Ix{p:O α->Prop}(h:∀a b,p [a,b]):∀us:O α,us.length=2->p us
 |[a,b],_=>h a b
theorem WH{p:O α->Prop}(h:∀a b c,p [a,b,c]):∀us:O α,us.length=3->p us
 |[a,b,c],_=>h a b c
theorem TM{p:O α->Prop}(h:∀a b c d,p [a,b,c,d]):∀us:O α,us.length=4->p us
 |[a,b,c,d],_=>h a b c d
theorem V'{p:O α->Prop}(h:∀a b c d e,p [a,b,c,d,e]):∀us:O α,us.length=5->p us
 |[a,b,c,d,e],_=>h a b c d e
end P1
namespace P1
open L2 S1
end P1
namespace P1
open L2
section
variable{fs:Ev->Y (O Bx)}
end
section
variable{st:AB}{AS:O AB}
end
section
variable{ks:O V}{o:AE}
end
section
variable{M0 M1 M2 er:Expr}{f0 f2:Ev->Y Bx}{d0 d2:Dt}{z0 z1 z2 z3:Pos}
end
section
variable{st:O AB}{fr:Ev->Y Bx}{i':Nat}{W:O Nat}{z:Pos}
end
section
variable{a b c:Ev->Y Ap}{k:Nat}
end
end P1
namespace P1
open L2 S6
section
variable{kx vx t1 i1 t2 i2:Expr}{f1 f2:O Expr}{xs:AZ}{g1 g2:Dt->Ev->Y Ev}{p1 p2:Ev->Y Bool}{fi1 fi2:Ev->Y (O Dt)}{fs:Ev->Y (O Dt)}{N m:Nat}
def cls2(fi:Ev->Y (O Dt))(gt:Dt->Ev->Y Ev)(p:Ev->Y Bool)(fs:Ev->Y (O Dt))(is:O Nat)(n:Nat):Ev->Y (O Dt):=λρ=>(fi ρ).bind λds=>Il gt p fs (mz is ρ++ab n Z) ds
end
end P1
namespace P1
open L2
section
variable{e:α->Dt}{e':β->Dt}{fs:Ev->Y (O Dt)}
end
def hx(h:A6)(a:A1):HO:=.ext λh'=>h'.get? a=h.get? a
section
variable{H2:Hp}{as:O A1}
end
section
variable{l:A1}{gs:O (Int×A1×O Dt)}{k:Int}{x:Dt}{u:V}
end
section
variable{e1 e2 ev:Expr}{f2:Ev->Y Bx}{w:AJ}{pw py py2 py3 px p1 p3 p4 pl a1 a2 c1 c2:Pos}
end
end P1
namespace P1
open L2 S6
section
variable{kx vx t1 i1 t2 i2:Expr}{f1 f2:O Expr}{xs:AZ}{g1 g2:Dt->Ev->Y Ev}{p1 p2:Ev->Y Bool}{fi1 fi2:Ev->Y (O Dt)}{m:Nat}
end
end P1
namespace P1
open L2
section
variable{e:α->Dt}{e0:β->Dt}{fd f2:Ev->Y Bx}{kk:Ev->Y Ap}{cO:γ->Ap}
end
section
variable{e:α->Dt}{fs:Ev->Y (O Dt)}
end
section
variable{a:Expr}
end
theorem bW{bs:O Bx}{c:α->Bx}{v:α}{D:Y Prop}(x:RP g (bs.map U++ab (n-bs.length) Z) (λr=>Ap.rt (c r)) v D)(h:hold D):cU n g bs=U (c v):=l7 x.r h
section
variable{e:α->Dt}
end
open PySem.Builtin PySem.Builtin.Str
section
variable{o:Expr}{fx:Ev->Y Bx}
end
section
variable{g:Ev->Y AJ}
end
section
variable{e1 e2 e3:Expr}{gr:Ev->Y Ap}{fx:Ev->Y Dt}{tR tQ:TS}{xr xj y1 y2:AJ}{AS no:O AB}{kk:Nat}{p0 p00 p01 p02 q1 q2 pt pj pa px pb pif pf2 px3 a1 c1 pe1 pr a2 pj2 c2 pe2:Pos}
end
section
variable{e:α->Dt}{ea:β->Dt}{eb:δ->Dt}{kk:Ev->Y Ap}{cO:γ->Ap}
end
end P1
namespace P1
open L2 S1
theorem UO{x y:AY}{p q:A0}{Q:B7}(hs:T8 x y=true)(hp:lJ x p=true)(a:lJ y q=true)(h:Q (.bool (Zf x y)) s):A7 (A8 prog w) A (AG .Lt p q) Q E s:=by
 rcases bO hp with⟨i,t,rfl,rfl⟩|⟨z,t,rfl,rfl⟩
 ·rcases bO a with⟨j,u,rfl,rfl⟩|⟨z,u,rfl,rfl⟩
  ·exact lt_int h
  ·cases hs
 ·rcases bO a with⟨j,u,rfl,rfl⟩|⟨b,u,rfl,rfl⟩
  ·cases hs
  ·exact PySem.P.lt_str h
theorem Vc{f:O AY}{b:A1}{c:O A0}{Q:B7}(ha:nJ s.heap a AQ.toArray)(hb:nJ s.heap b c.toArray)(hk:Ks ks AQ)(I:Ks f c)(hs:Wj ks f)(G:A.units<cLine)(h:Q (.bool (gQ ks f)) s):A7 (A8 prog w) A (AG .Lt (.ref a) (.ref b)) Q E s:=by
 obtain⟨x,ea,B,⟨na,P⟩,_⟩:=ha;obtain⟨z,eb,y,⟨nb,M⟩,_⟩:=hb;show A7 _ _ (richCompare .Lt (.ref a) (.ref b)) _ _ _;refine wpAny_richCompare_same_room ⟨x,ea,B⟩ ⟨z,eb,y⟩ F.slot_tuple_lt (QU F.slot_tuple_lt ⟨x,ea,B⟩ F.entry_tuple_lt ?_ (F.args_tuple_lt_2 _ _)) G;show A7 _ _ (isInstance (.ref b) (.type "tuple") >>= _) _ _ s;refine zb (ki ⟨z,eb,y⟩ isSubtype_tuple_tuple ?_);simp only[JI,zo,ZY];refine zb (wpAny_tupleItemsOf ea P ?_);refine zb (wpAny_tupleItemsOf eb M ?_);refine zb ?_;refine YN _
  (λAS r s'=>r.1=Z/\s'=s/\∃m j l i,AS=List.zip l i/\Ks m l/\Ks j i/\Wj m j/\gQ m j=gQ ks f/\(l.length<i.length↔AQ.length<c.length))
  _ ?_ ?_ _ _ ⟨rfl,rfl,ks,f,AQ,c,by simp,hk,I,hs,rfl,Iff.rfl⟩
 ·rintro⟨u,v⟩ AS r s' ⟨o,rfl,m,j,l,i,g,q,n,t,d,p⟩;cases q with
  |nil=>simp at g
  |@cons X u' D N h1 L=>
   cases n with
   |nil=>simp at g
   |@cons H v' J C h2 K=>
    simp only[KB,kz,rK.injEq]at g;obtain⟨⟨rfl,rfl⟩,rfl⟩:=g;refine zb (D9 h1 h2 ?_);simp only[gQ]at d;by_cases e:X=H
    ·rw[zl e]at d;rw[Zl e];simp only[JI,zo,ZY];exact zd ⟨rfl,rfl,D,J,N,C,rfl,L,K,t.2,d,by simpa using p⟩
    ·rw[zz e]at d;rw[ZA e];simp only[JS,qk];refine zb (km ?_);refine zb (show A7 _ _ (AG .Lt u v) _ _ _ from UO t.1 h1 h2 ?_);rw[d];exact zb (zd (zd (zd ⟨_,rfl,by simp,h⟩)))
 ·rintro⟨r1,r2⟩ s' ⟨o,rfl,m,j,l,i,g,q,n,t,d,p⟩;simp only at o;subst o;have W:decide (AQ.length<c.length)=gQ ks f:=by
   rw[<-d,<-decide_eq_decide.mpr p];cases q with
   |nil=>cases n with
    |nil=>rfl
    |cons _ _=>rfl
   |cons _ _=>cases n with
    |nil=>rfl
    |cons _ _=>simp at g
  refine zd ⟨_,rfl,?_⟩;show Value.bool (decide (AQ.toArray.size<c.toArray.size))≠_/\Q (Value.bool (decide (AQ.toArray.size<c.toArray.size))) _;rw[zC,zC,W];exact⟨by simp,h⟩
def FG:Bx->Bx->Y Bx
 |.z a,.z b=>(yE a).bind λks=>(yE b).bind λc=>if Ip ks c=true then U (.z (.bl (gQ ks c)))else Z
 |_,_=>Z
theorem UM(B:X.A.units+100<cLine):Ik X (AG .Lt) FG:=by
 intro AN s σ H x y v u Q I j n h;obtain⟨a,b,c,d,f,e,q⟩:=h;unfold FG at e;split at e
 ·rename_i t d2;obtain⟨ks,ek,e⟩:=AT e;obtain⟨w,el,e⟩:=AT e;split at e
  ·rename_i hs;cases e;rw[vR ek]at d;rw[vR el]at f;simp only[bf,BE,AW]at d f;obtain⟨p,vs,rfl,sq,rs⟩:=d;obtain⟨p',o,rfl,l,m⟩:=f;cases j;cases n;obtain⟨AQ,i,t1⟩:=LN I sq;obtain⟨z,g,t2⟩:=LN I l;rw[vU rs]at i;rw[vU m]at g;exact Vc t1 t2 (Zg X i) (Zg X g) (zA hs) () ⟨.bl _,H,I,rfl,q _ H (AV.refl H) trivial (by simp only[bf,AW])⟩
  ·cases e
 ·cases e
section
variable{k:Nat}{f:A1}{F:O Bx->Y Bx}{p:Pos}
end
end P1
namespace P1
open L2 S1 S6
theorem LS{p:O α->Prop}(h:p []):∀us:O α,us.length=0->p us
 |[],_=>h
section
variable{e:α->Dt}{g:Ev->Y Bx}{c:α->Bx}
end
def IE(d:Dt):R (cB d) ρ (zE eD):=vX d eD d rfl
def B0(i:Int):R (cB (.int i)) ρ (zE eI):=vX (.int i) eI i rfl
def MG(s:AJ):R (cB (.str s)) ρ (zE eS):=vX (.str s) eS s rfl
abbrev Nn(K:B1)(n:AJ)(f:A1):Prop:=nsIn K mainGlobals n=U (U (.ref f))
abbrev Lk(K:B1)(f:A1)(n:AJ)(st:AB)(g:A0)(b:Y A1)(sl:Array (Y A0))(kV a c:A0)(e:Y A1)(d ct:A0):Prop:=K.lookup f=U ⟨g,b,.func (fnOf n n (wK st) (j4 st) (aO st) .none kV a c e d ct),sl⟩
end P1
namespace P1
open L2
section
variable{e:α->Dt}
end
section
variable{Ex:B7}{outer:O Env}{L e T:A1}{C fl:A0}{dx:Y A1}{Q:Unit->A2->Prop}
end
section
variable{H':Hp}{h':A6}{ch:O A1}
end
section
variable{g:Array GenState}{d:Drawn}{t:Nat}{fI e:A1}{AS:O A0}{B:String}
end
section
variable{g:Array GenState}{d:Drawn}{t:Nat}{e:A1}
end
section
variable{g:Array GenState}{d:Drawn}{t:Nat}{e dx:A1}{vs:Array A0}{sl:Array (Y A0)}{m:AJ->Y A0}
end
section
variable{o value:Expr}{tv:TE}{f:AJ}{pos' p:Pos}{B:String}{t:TA}
end
section
variable{f:AJ}{p:Pos}{B:String}
end
section
variable{E:XK}
end
section
variable{Cn f:A1}{iv iy k:Nat}{n cn:AJ}{np hp p py pa:Pos}{b0:AB}{suite:O AB}{ts:A1->TS}{tf:TE}{t:TA}
end
section
variable{d:A1}{fs:O (AJ×V)}{f:AJ}{o:Expr}
end
section
variable{f:AJ}{E:XK}{gy:Ev->Y Dt}{p:Pos}{st:AB}{AS a b:O AB}{B:String}{pc:Ev->Y Bool}
end
section
variable{k:Nat}{f h:A1}{F:O Bx->Y Bx}{fs:Ev->Y (O Bx)}{p q:Pos}
end
end P1
namespace P1
open L2 S6
section
variable{xs:AZ}
end
section
variable{e2 se:Expr}{fS:Ev->Y AZ}{fx:Ev->Y Dt}{no AS:O AB}{tR tQ:TS}{p0 p02 px pb pif pk:Pos}{f:AJ}{E:XK}
end
end P1
namespace P1
open L2
section
variable{e1 e2 e3:Expr}{gr:Ev->Y Ap}{xr xj y1 y2:AJ}{AS no:O AB}{kk:Nat}{p0 p00 p01 p02 q1 q2 pt pj pa px pb pif pf2 px3 a1 c1 pe1 pr a2 pj2 c2 pe2:Pos}{fx:Ev->Y Dt}{f:AJ}{E:XK}
end
section
variable{Cn f:A1}{iv k:Nat}{n cn:AJ}{np hp p pa:Pos}{b0:AB}{suite:O AB}{ts:A1->TS}{tf:TE}{t:TA}
end
section
variable{fx:Ev->Y Bx}
end
section
variable{l:A1}{xs:Array A0}
end
def BO(c:O Int):O Int:=c.mergeSort λa b=>decide (a<=b)
theorem BF(a:O Int):(BO a).Perm a:=kF a _
theorem xu(d:O Int):(BO d).Pairwise (·<=·):=
 (ka (le:=λa b:Int=>decide (a<=b)) (λa b c h1 h2=>by simp only[ZN]at *;omega) (λa b=>by simp only[yo,ZN];omega) d).imp λh=>QP h
theorem KQ:∀{l l':O Int},l.Perm l'->l.Pairwise (·<=·)->l'.Pairwise (·<=·)->l=l'
 |[],l',h,_,_=>by rw[nq.mp h]
 |a::l,[],h,_,_=>by cases nw.mp h
 |a::l,b::l',h,p,p'=>by
  have e:a=b:=by
   have ha:a∈b::l':=h.mem_iff.mp (zg ..);have hb:b∈a::l:=h.mem_iff.mpr (zg ..);rcases List.mem_cons.mp ha with h1|h1
   ·exact h1
   ·rcases List.mem_cons.mp hb with h2|h2
    ·exact h2.symm
    ·have:=js p h2;have:=js p' h1;omega
  subst e;rw[KQ ((gH a).mp h) (cV.mp p).2 (cV.mp p').2]
theorem vO:∀{AQ:O A0} {a:O Int},IntsAre AQ a->AX (a.map V.int) AQ
 |_,_,.nil=>.nil
 |_,_,.cons y t h=>.cons ⟨t,rfl⟩ (vO h)
theorem C9{K:B1}{H:Hp}:∀{a:O Int},aK K H (a.map Dt.int) (a.map V.int)
 |[]=>aK.nil
 |n::a=>aK.cons (by simp only[AW]) C9
theorem Pu{K:B1}{H:Hp}:∀{ds:O Dt} {vs:O V} {a:O Int},aK K H ds vs->yG ds=U a->vs=a.map V.int
 |[],vs,a,r,e=>by cases e;simp only[aK]at r;exact r
 |d::ds,vs,a,r,e=>by
  cases d<;>first|(cases e;done)|skip;rename_i i;simp only[yG]at e;obtain⟨ks,e1,e⟩:=AT e;cases e;simp only[aK]at r;obtain⟨v,f,rfl,c,b⟩:=r;rw[Pu b e1];obtain rfl:v=.int i:=by simpa only[AW]using c
  rfl
section
variable{e:α->Dt}
theorem CA:∀a:O Int,yG (a.map eI)=U a
 |[]=>rfl
 |n::a=>by show(yG (a.map eI)).bind _=_;rw[CA a];rfl
end
section
variable{e:α->Dt}{ea:β->Dt}{eb:δ->Dt}{fx:Ev->Y Dt}
end
section
variable{e:α->Dt}{g:Ev->Y β}{c:γ->β}
end
section
variable{E:XK}
end
section
variable{f:AJ}{E:XK}{fs:Ev->Y (O Bx)}{gy:Ev->Y Dt}{p p1 epos:Pos}{st:AB}{AS:O AB}
end
section
variable{o:Expr}
def O3:Dt->Bool
 |.non=>true
 |.tup _=>true
 |_=>false
def NE:Dt->Bool
 |.non=>true
 |_=>false
end
section
variable{o l:Expr}{fs:Ev->Y (O Bx)}{z:AJ}
end
instance {σ τ:Type} [Inhabited σ]:Inhabited (nG σ τ):=⟨.nx default⟩
section
variable{e:α->Dt}
theorem X6(a:∀x,∃ds,e x=.tup ds)(ys:O (Y α)):(ys.map (eO e)).all O3=true/\(NE ∘ eO e)=Option.isNone:=by
 refine⟨?_,?_⟩
 ·rw[qf];intro d b;obtain⟨o,_,rfl⟩:=List.mem_map.mp b;cases o with
  |none=>rfl
  |some x=>obtain⟨ds,q⟩:=a x;show O3 (e x)=true;rw[q];rfl
 ·funext o;cases o with
  |none=>rfl
  |some x=>obtain⟨ds,q⟩:=a x;show NE (e x)=false;rw[q];rfl
end
section
variable{o e2:Expr}{fx fy:Ev->Y Bx}
end
section
variable{f:AJ}{E:XK}{gy:Ev->Y Dt}{st:AB}{sts AS:O AB}{p0 p00 p01 p02:Pos}
end
structure DQ (K:B1) (mg:Str->Option Value) (x:Str) (st:Stmt) (ps:AZ) where
 f:Addr
 fd:FuncData
 F:DJ K x x st f fd
 b:Be K fd ps []
 m:mg x=some (.ref f)
 k:keepIn K (.ref f)=true
def jA{st:AB}{f:A1}{i d:Y A1}{sl:Array (Y A0)}{m kV g b e ct:A0}(X:K.In h)(G:h.Ns mainGlobals mg)(a:Nn K x f)(l:Lk K f x st m i sl kV g b d e ct)(c:codeIn K e x=true)(k:keepIn K (.ref f)=true)(hb:∀(kV n b:A0) (d:Y A1) (j ct:A0) (us:O A0),us.length=ps.length->bindArgs (fnOf x x (wK st) (j4 st) (aO st) .none kV n b d j ct) ⟨us,[]⟩=pure (ps.zip us):=by intro _ _ _ _ _ _;first|exact P1.Lv λ_=>S|exact P1.Ix λ_ _=>S|exact P1.WH λ_ _ _=>S|exact P1.TM λ_ _ _ _=>S|exact P1.V' λ_ _ _ _ _=>S|exact P1.LS S):DQ K mg x st ps:=
 ⟨f,_,OF l c k,(OF l c k).binds hb,mg_of X G a,k⟩
theorem MU{v:Tok->A0}{tk:Tok}(X:K.In h)(G:h.Ns mainGlobals mg)(c:nsIn K mainGlobals x=U (U (v tk))):∃tk,mg x=U (v tk):=⟨tk,mg_of X G c⟩
abbrev Ok(P:A3)(w:A4)(base:A6){st:AB}(d:DQ K mg x st ps)(k n:Nat)(F:O Bx->Y Bx):Prop:=yX P w K mg base Qt k d.f d.fd ps (ET K n F)
theorem yO{st:AB}{k m:Nat}(d:DQ K mg x st ps)(S:bC N ps (aO st))(e:∀(a:A0) (A:A5) (outer:O Env) (s:A2) (H:Hp) (E:XK),qb k (A.deeper (AK x (aO st) s.heap.objs.size d.f a))->(A.deeper (AK x (aO st) s.heap.objs.size d.f a)).units+100<cLine->N.Nodup->Co (JH Qt P w K mg base N x (aO st) d.f a A outer s H E).nox (j4 st) g)(h:N.length=n:=by rfl)(c:ps.length=m:=by rfl):Ok P w base d (k+1) m (cU n g):=oo d.F S h c λa A outer s H E b=>e a A outer s H E b (Y9 b) S.nd
section
variable{k m:Nat}{st:AB}{F:O Bx->Y Bx}{fs:Ev->Y (O Bx)}{p:Pos}
theorem bU(d:DQ X.K X.mg x st ps)(G:Ok X.prog X.w X.base d k n F)(a:qb m X.A)(ha:D7 X (e::es) fs)(hg:Gl X x:=by rfl)(g:k<=m:=by decide)(c:sa x:=by decide)(he:A9 (e::es) X.env=(false,eval e X.env)::A9 es X.env:=by rfl)(f:(AD pos (A9 es X.env)).any (·.1)=false:=by rfl):QV X (.Call (.Name x p) (e::es) [] pos) (bJ n F fs):=
 fq G (a.mono g) hg d.m d.k d.b ha c he f
end
theorem GB{q:A3}{loose:AZ}{d:DefRec}{K:Params->B1}{T:B1->(AJ->Y A0)->Type}{k:Nat}{st:AB}{F_law:O Bx->Y Bx}(c:∀{K mg},T K mg->DQ K mg "law" st [x])(I:qb k callerA)(C:d.name ="law")(G:∀(w:A4) (mg:AJ->Y A0) (base:A6) (t:T (K w.params) mg),Ok l.prog w base (c t) k 1 F_law)(y:l.most=U 63)(E:d.params.defaults=[])(h1:∀b:O Int,b.length<=63->F_law [.z (.lst (b.map .int))]=U (.z (.bl true)))(h2:∀b:O Int,b.length<=63->F_law [.l (b.map .int)]=U (.z (.bl true)))(hb:∀(kV o g:A0) (j:Y A1) (i ct u:A0),bindArgs (fnOf "law" "law" (wK st) (j4 st) (aO st) .none kV o g j i ct) ⟨[u],[]⟩=pure [(x,u)])(p:∀(w:A4) (h:A6),YP w h->(K w.params).In h)(F:∀(w:A4) (mg:AJ->Y A0) (h:A6),(K w.params).In h->h.Ns mainGlobals mg->T (K w.params) mg):
  PySem.W.WalkO q loose XP YP l.row.toRowW d [] (λf vs=>PySem.call f vs):=
 L2.fz (n:=63) (k:=k) (x:=x) (CX:=Qt) (sp:=λK=>ET K 1 F_law) y () E I p (λw mg fa h X N e=>by
  have t:=F w mg h X N;have B:=(c t).m;rw[C,B]at e;cases e;refine⟨(c t).fd,λs u=>?_,λbase _ _=>G w mg base t⟩;obtain⟨L,J,kV,o,g,j,i,ct,osl,e,M,P⟩:=(c t).F.ex;rw[e];exact .of_eq (hb kV o g j i ct u)) (λK H a b A v D=>Tx h1 h2 K H a b A v D) λ_ _ _ _ z=>z
section
variable{k:Nat}{f:A1}{sp:A1->O V->Hp->VK->Prop}{p:Pos}{t:TA}
end
section
variable{p0 p1:Pos}{xs:AZ}{e:A1}{a:Expr}{ta:TA}
end
section
variable{f:AJ}{E:XK}{fs:Ev->Y (O Bx)}{p:Pos}
end
section
variable{g:Array GenState}{d:Drawn}{t:Nat}{AS:O A0}{B:String}
end
section
variable{E:XK}{p:Pos}{B:String}{k:Nat}{t:TA}
end
section
variable{p kp cp:Pos}{fs:Ev->Y (O Bx)}{j:Int}{kk:Nat}
end
section
variable{e:α->Dt}
end
section
variable{g:Ev->Y AJ}
variable{e:α->Dt}
def oq[f9 e](a:R fa ρ (zE e))(b:R fb ρ (zE e)):R (b2 FG fa fb) ρ (zE eB):=⟨EU e a.v b.v,aY a.D b.D,λh=>by
 obtain⟨h1,h2⟩:=aB h;simp only[b2,a.ok h1,b.ok h2,As];show FG (.z (e a.v)) (.z (e b.v))=_;unfold FG;simp only[f9.ok,As,f9.shp,qk];rfl⟩
end
section
variable{e:α->Dt}{σ' τ:Type}
def qE(e:α->Dt):Y (O α)->Bx
 |none=>.z .non
 |some l=>.o (l.map e)
def FR(e:α->Dt):Y (O α)->Bx
 |none=>.z .non
 |some l=>.l (l.map e)
def ap:R (cB .non) ρ (qE e):=⟨Z,Z,λ_=>S⟩
def Z5(a:R fa ρ (oE e)):R fa ρ (qE e):=⟨U a.v,a.D,λh=>a.ok h⟩
theorem uu{v:Y (O α)}(h:ρ[i]?=U (U (qE e v))):BW ρ i=U (FR e v):=by
 unfold BW;rw[h];cases v<;>rfl
def KR(i:Nat)(e:α->Dt)(v:Y (O α))(h:ρ[i]?=U (U (qE e v))):R (gv i) ρ (FR e):=⟨v,Z,λ_=>uu h⟩
class EW (c:Option (List α)->Bx) (e:outParam (α->Dt)):Prop where
 d:∀v,toD (c v)=eO (eL e) v/\oG (c v)=false
instance:EW (qE e) e:=⟨λv=>by cases v<;>exact⟨rfl,rfl⟩⟩
instance:EW (FR e) e:=⟨λv=>by cases v<;>exact⟨rfl,rfl⟩⟩
instance:EW (zE (eO (eL e))) e:=⟨λv=>⟨rfl,rfl⟩⟩
def VQ[DecidableEq α][B8 (eO (eL e)) n]{g f:Y (O α)->Bx}[EW g e][EW f e](m:n<=100)(a:R fa ρ g)(b:R fb ρ f):R (b2 Oo fa fb) ρ (zE eB):=⟨!decide (a.v=b.v),aY a.D b.D,λh=>by
 obtain⟨h1,h2⟩:=aB h;have:=B8.dp (e:=eO (eL e)) a.v;obtain⟨l,j⟩:=EW.d (c:=g) (e:=e) a.v;obtain⟨d2,i⟩:=EW.d (c:=f) (e:=e) b.v;simp only[b2,a.ok h1,b.ok h2,As,Oo,l,d2,j,i,zo,or_self,ZY,B8.eq];rw[zl ()]⟩
def uA(a:R fa ρ (FR e)):R (b2 Ff fa (cB .non)) ρ (zE eB):=⟨a.v.isNone,a.D,λh=>by
 simp only[b2,a.ok h,As,cB,Ff];cases a.v<;>rfl⟩
end
section
variable{p:Pos}{fs:Ev->Y (O Bx)}
end
section
variable{e:α->Dt}
end
section
variable{e:α->Dt}
end
section
variable{st:AB}{AS:O AB}{ga:Ev->Y Ap}
end
section
variable{k:Nat}{f:A1}{Fa Fb:O Bx->Y Bx}{p spos:Pos}{fs:Ev->Y (O Bx)}
end
section
variable{e:α->Dt}
def pz(a:R fa ρ (FR e)):R (b2 DG fa (cB .non)) ρ (zE eB):=⟨a.v.isSome,a.D,λh=>by
 simp only[b2,a.ok h,As,cB,DG];cases a.v<;>rfl⟩
end
end P1
namespace P1
open L2 S1 S6
section
variable{e:α->Dt}
def NI(a:R fa ρ (FR e)):R fa ρ (lE e):=⟨a.v.getD [],aY a.D (U (a.v.isSome=true)),λh=>by
 obtain⟨h1,h2⟩:=aB h;have h2:a.v.isSome=true:=h2;rw[a.ok h1];cases z:a.v with
 |none=>rw[z]at h2;cases h2
 |some l=>rfl⟩
end
end P1
namespace P1
open L2
section
variable{e:α->Dt}
end
section
variable{R:Result->A2->Prop}{I:A1}{wr:O A1}{P:Nat->A0->Prop}{St:Nat->A6->Prop}
end
section
variable{e:α->Dt}
end
def GK:O Int->Int
 |[]=>0
 |k::ks=>ks.foldl (λm x=>if x<m then x else m) k
theorem WE(ks:O Int)(n:Nat)(b:n<ks.length):ks.getD (argBest (λi j=>decide (ks.getD i 0<ks.getD j 0)) n) 0=GK (ks.take (n+1)):=by
 induction n with
 |zero=>
  cases ks with
  |nil=>cases b
  |cons k ks=>rfl
 |succ n a=>
  have a:=a ();cases ks with
  |nil=>cases b
  |cons k ks=>
   have c:n<ks.length:=by simpa using b
   rw[List.take_succ_cons]at a ⊢;rw[dF c];have e:GK (k::(ks.take n++[ks[n]]))=(if ks[n]<GK (k::ks.take n)then ks[n]else GK (k::ks.take n)):=by
    show(ks.take n++[ks[n]]).foldl _ k=_;rw[JU];rfl
   rw[e,<-a];have hg:(k::ks).getD (n+1) 0=ks[n]:=by simp[c]
   show(k::ks).getD (if decide ((k::ks).getD (n+1) 0<(k::ks).getD (argBest _ n) 0)=true then n+1 else argBest _ n) 0=_;rw[hg];by_cases q:ks[n]<(k::ks).getD (argBest (λi j=>decide ((k::ks).getD i 0<(k::ks).getD j 0)) n) 0
   ·rw[zl (Zl q),zl q,hg]
   ·rw[zz (by simpa using q),zz q]
def Vd:O Bx->Y Bx
 |[b]=>(oM b).bind λds=>(yG ds).bind λks=>if 0<ks.length then U (.z (.int (GK ks)))else Z
 |_=>Z
theorem bP(g:X.calm=true):oH X (.builtin "min") Vd:=by
 intro AN s σ H xs us Q I r h;obtain⟨bs,c,y,e,q⟩:=h;unfold Vd at e;split at e
 ·obtain⟨ds,o,e⟩:=AT e;obtain⟨ks,ek,e⟩:=AT e;split at e
  ·rename_i d;cases e;obtain⟨v,rfl,n⟩:=BI y;obtain⟨a,vs,rfl,sq,rs⟩:=n.Hh o;obtain⟨u,rfl,j⟩:=BB r;cases j;obtain⟨AQ,w,pl,z⟩:=I.list sq;obtain⟨l,p⟩:=Cq ek rs w;obtain⟨ps,e1,e2⟩:=Ko l p;have f:ps.length=ks.length:=by rw[<-e2,zk]
   have x:numAt ps.toArray=λi=>ks.getD i 0:=funext λi=>by
    unfold numAt;rw[<-e2,y7,Zp];simp
   have m:s.heap.IsList a (intItems ps.toArray):=by
    have:=pl.isList;rw[e1]at this;simpa[intItems]using this
   refine min_intList (I.ok.hd g) m (by simpa[f]using d) λv h' tk b kp=>?_;obtain⟨t,rfl⟩:=intItems_at b;rw[x]at b ⊢;have hb:=WE ks (ks.length-1) ();rw[Nat.sub_add_cancel d,qs]at hb;have e3:ps.toArray.size-1=ks.length-1:=by simp[f]
   refine⟨.int (GK ks),H,I.kept (t':=tk) kp,⟨t,?_⟩,q _ H (AV.refl H) trivial (by simp only[bf,AW])⟩;rw[e3,<-hb]
  ·cases e
 ·cases e
def UA(a:RL fa ρ eI):R (cG Vd (aq fa aH)) ρ (zE eI):=⟨GK a.v,aY a.D (U (0<a.v.length)),λh=>by
 obtain⟨h1,h2⟩:=aB h;have h2:0<a.v.length:=h2;simp only[cG,aq,aH,a.ok h1,As,Vd,a.lk,GJ,zl h2]⟩
def Dp{α:Type}:O α->O α
 |[]=>[]
 |x::xs=>x::Dp (xs.drop 5)
termination_by l=>l.length
decreasing_by simp;omega
theorem uK:Dp ([]:O α)=[]:=by rw[Dp]
theorem ql(x:α)(xs:O α):Dp (x::xs)=x::Dp (xs.drop 5):=by rw[Dp]
theorem Ve{α:Type}:∀(n:Nat) (xs:O α),xs.length<=n->((cd ((xs.length+5) / 6)).filterMap λm=>xs[6*m]?)=Dp xs
 |_,[],_=>by rw[uK];simp
 |0,_::_,h=>by simp at h
 |n+1,x::xs,h=>by
  rw[ql,<-Ve n (xs.drop 5) (by rw[QO];simp at h;omega),QO,ZE];have e:(xs.length+1+5) / 6=(xs.length-5+5) / 6+1:=by omega
  rw[e,lg,kb];show x::_=_;congr 1;rw[nH];congr 1;funext m;show(x::xs)[6*(m+1)]?=(xs.drop 5)[6*m]?;rw[ol,show 6*(m+1)=(5+6*m)+1 by omega,qc]
theorem Rk{α:Type}:∀(n:Nat) (xs:O α),xs.length<=n->(Dp xs).length<=xs.length
 |_,[],_=>by rw[uK];exact zi _
 |0,_::_,h=>by simp at h
 |n+1,x::xs,h=>by
  have:=Rk n (xs.drop 5) (by rw[QO];simp at h;omega);rw[ql,ZE,ZE];rw[QO]at this;omega
theorem Vf:∀(n:Nat) {vs:O V} {AQ:O A0},vs.length<=n->AX vs AQ->AX (Dp vs) (Dp AQ)
 |_,_,_,_,.nil=>by rw[uK,uK];exact .nil
 |0,_,_,h,.cons _ _=>by simp at h
 |n+1,_,_,h,.cons p t=>by
  rw[ql,ql];exact .cons p (Vf n (by rw[QO];simp at h;omega) (AX.drop 5 t))
theorem Vg{K:B1}{H:Hp}:∀(n:Nat) {ds:O Dt} {vs:O V},ds.length<=n->aK K H ds vs->aK K H (Dp ds) (Dp vs)
 |_,[],_,_,h=>by simp only[aK]at h;subst h;rw[uK,uK];simp only[aK]
 |0,_::_,_,hl,_=>by simp at hl
 |n+1,d::ds,_,hl,h=>by
  simp only[aK]at h;obtain⟨v,r,rfl,b,a⟩:=h;rw[ql,ql];exact aK.cons b (Vg n (by rw[QO];simp at hl;omega) (aK.drop 5 a))
theorem gc(n:Nat):Builtin.Slice.slicePlaces 0 (n:Int) 6=(n+5) / 6:=by
 unfold Builtin.Slice.slicePlaces;simp only[show((6:Int)>0) by decide,qk];split<;>omega
theorem vF(n:Nat):Builtin.Slice.slicePlaces 0 (n:Int) 1=n:=by
 unfold Builtin.Slice.slicePlaces;simp only[show((1:Int)>0) by decide,qk];split<;>omega
theorem KY{u:Tok}{Q:Int×Int×Nat->A2->Prop}(hs:s.heap.IsSliceOf sl .none .none (.int 6 u))(h:Q (0,6,(n+5) / 6) s):A7 (A8 prog w) A (Builtin.Slice.sliceApplied (.ref sl) (pure (n:Int))) Q E s:=by
 obtain⟨os,a,c,b⟩:=id hs;unfold Builtin.Slice.sliceApplied Builtin.Slice.sliceFields;refine zb (zb (kf a b (x:=.none) S (zb (kf a b (x:=.none) S (zb (kf a b (x:=.int 6 u) S (zd ?_)))))));refine zb (HT.fM (.int 6 u) ?_);show A7 _ _ (if((6:Int)==0)=true then _ else _) _ _ s;rw[zz ()];refine zb (HT.fM .none (zb (HT.fM .none (zb (zd ?_)))));show A7 _ _ (pure ((0:Int),(6:Int),Builtin.Slice.slicePlaces 0 (n:Int) 6)) _ _ s;rw[gc];exact zd h
theorem KZ{u:Tok}{Q:Int×Int×Nat->A2->Prop}(hs:s.heap.IsSliceOf sl .none .none (.int 1 u))(h:Q (0,1,n) s):A7 (A8 prog w) A (Builtin.Slice.sliceApplied (.ref sl) (pure (n:Int))) Q E s:=by
 obtain⟨os,a,c,b⟩:=id hs;unfold Builtin.Slice.sliceApplied Builtin.Slice.sliceFields;refine zb (zb (kf a b (x:=.none) S (zb (kf a b (x:=.none) S (zb (kf a b (x:=.int 1 u) S (zd ?_)))))));refine zb (HT.fM (.int 1 u) ?_);show A7 _ _ (if((1:Int)==0)=true then _ else _) _ _ s;rw[zz ()];refine zb (HT.fM .none (zb (HT.fM .none (zb (zd ?_)))));show A7 _ _ (pure ((0:Int),(1:Int),Builtin.Slice.slicePlaces 0 (n:Int) 1)) _ _ s;rw[vF];exact zd h
theorem uS(xs:Array A0):((cd ((xs.size+5) / 6)).filterMap λ(m:Nat)=>xs[(0+(m:Int)*6).toNat]?).toArray=(Dp xs.toList).toArray:=by
 congr 1;rw[<-Ve xs.toList.length xs.toList (zi _),ZU];congr 1;funext m;rw[show(0+(m:Int)*6).toNat=6*m by omega,qh]
theorem Iw{t:A1}{u:Tok}{Q:B7}(a:IsTup s.heap t items)(hs:s.heap.IsSliceOf sl .none .none (.int 6 u))(h:Q (.ref s.heap.objs.size) { s with heap:=s.heap.push { cls:=.type "tuple",data:=.seq (Dp items.toList).toArray } })(hsz:items.size<=AA):A7 (A8 prog w) A (getItem (.ref t) (.ref sl)) Q E s:=by
 have b:sizeOk (.seq (Dp items.toList).toArray):=by
  show(Dp items.toList).toArray.size<=AA;rw[zC];have:=Rk _ items.toList (zi _);rw[ZU]at this;exact ZI this hsz
 obtain⟨os,f,d,g⟩:=id hs;have c:s.TypeIs (.ref sl) "slice":=⟨os,f,d⟩;unfold getItem
 try with_reducible refine qS ?_
 first|refine zb (zd ?_)|skip
 refine zb (KO a.typeIs () ?_);refine zb (JY (name:=Str.ofString "__getitem__") a.typeIs PyProof.Rows.slot_tuple_getitem
  (QU PyProof.Rows.slot_tuple_getitem a.typeIs entry_tuple_getitem ?_ (args_tuple_getitem _ _)))
 show A7 _ _ (Builtin.Tuple.tupleItemsOf (.ref t) >>= _) _ _ s;refine zb (tupleItemsOf_ a ?_);refine zb (Qb c ?_);rw[zl ()];refine zb (KY hs ?_);have e:¬ (((0:Int)==0&&(6:Int)==1&&(items.size+5) / 6==items.size)=true):=by
  rw[show((6:Int)==1)=false from rfl,KM,ko];exact ZT
 show A7 _ _ (if((0:Int)==0&&(6:Int)==1&&(items.size+5) / 6==items.size)=true then _ else _) _ _ s;rw[zz e,uS]
 first
  |exact zb (m:=Builtin.Tuple.tupleExact _) (ZZ (zd ⟨_,rfl,zd h⟩) b)
  |exact zb (m:=Builtin.Tuple.tupleExact _) (ZZ (zb (zd (zd ⟨_,rfl,zd h⟩))) b)
  |exact zb (zb (m:=Builtin.Tuple.tupleExact _) (ZZ (zd (zd ⟨_,rfl,zd h⟩)) b))
  |exact zb (zb (m:=Builtin.Tuple.tupleExact _) (ZZ (zd ⟨_,rfl,zd h⟩) b))
theorem Iz{t:A1}{u:Tok}{Q:B7}(a:IsTup s.heap t items)(hs:s.heap.IsSliceOf sl .none .none (.int 1 u))(h:Q (.ref t) s):A7 (A8 prog w) A (getItem (.ref t) (.ref sl)) Q E s:=by
 obtain⟨os,d,c,e⟩:=id hs;have b:s.TypeIs (.ref sl) "slice":=⟨os,d,c⟩;unfold getItem
 try with_reducible refine qS ?_
 first|refine zb (zd ?_)|skip
 refine zb (KO a.typeIs () ?_);refine zb (JY (name:=Str.ofString "__getitem__") a.typeIs PyProof.Rows.slot_tuple_getitem
  (QU PyProof.Rows.slot_tuple_getitem a.typeIs entry_tuple_getitem ?_ (args_tuple_getitem _ _)))
 show A7 _ _ (Builtin.Tuple.tupleItemsOf (.ref t) >>= _) _ _ s;refine zb (tupleItemsOf_ a ?_);refine zb (Qb b ?_);rw[zl ()];refine zb (KZ hs ?_);show A7 _ _ (if((0:Int)==0&&(1:Int)==1&&items.size==items.size)=true then _ else _) _ _ s;rw[zl (by simp)];refine zb ?_;unfold Builtin.Tuple.tupleIsExact;refine zb (Qb a.typeIs (zd ?_));rw[zl ()];refine zb (km ?_);exact zd ⟨_,rfl,zd h⟩
section
variable{st:Expr}{fs:Ev->Y Bx}
def K1:Bx->Bx->Y Bx
 |.z (.tup ds),.z (.int i)=>if i=1 then U (.z (.tup ds))else if i=6 then U (.z (.tup (Dp ds)))else Z
 |_,_=>Z
theorem X7{a c:Bx}(h:K1 a b=U c):∃ds,a=.z (.tup ds)/\((b=.z (.int 1)/\c=.z (.tup ds))\/(b=.z (.int 6)/\c=.z (.tup (Dp ds)))):=by
 unfold K1 at h;split at h
 ·rename_i ds i;split at h
  ·rename_i hi;subst hi;cases h;exact⟨ds,rfl,.inl ⟨rfl,rfl⟩⟩
  ·split at h
   ·rename_i hi;subst hi;cases h;exact⟨ds,rfl,.inr ⟨rfl,rfl⟩⟩
   ·cases h
 ·cases h
theorem aE(he:PV X e f)(D:PV X st fs)(B:∀v i:A0,subscripted (.Slice Z Z (U st) p2) false v i=operate [v,i] (getItem v i):=by intro _ _;with_unfolding_all rfl):PV X (.Subscript e (.Slice Z Z (U st) p2) pos) (b2 K1 f fs):=by
 intro AN s σ H Q I h;obtain⟨H0,ρ,c,E,l,q⟩:=h;obtain⟨a,ea,l⟩:=AT l;obtain⟨b,eb,l⟩:=AT l;refine Subscript_ (jw (he AN s σ H (λx H1=>AV H H1/\bf X.K H1 a x) I ⟨H0,ρ,a,E,ea,λv H1 z G u=>⟨z,u⟩⟩) λv z ⟨x,H1,I1,u,sm1,BI⟩=>?_);refine wpAny_Slice ?_;rw[evalPart_none];refine zd ?_;refine zd ?_;rw[evalPart_some];refine jw (D AN z σ H1 (λy H2=>AV H1 H2/\bf X.K H2 b y) I1 ⟨H0,ρ,b,E.grow sm1,eb,λv H2 d J m=>⟨d,m⟩⟩) λvk d ⟨y,H2,I2,m,sm2,CF⟩=>?_;obtain⟨ds,rfl,F⟩:=X7 l;obtain⟨p,vs,rfl,sq,rs⟩:∃p vs,x=.ref p/\BR X.K H2 p vs/\aK X.K H2 ds vs:=by
  have:=BI.same sm2;simpa only[bf,AW]using this
 cases u;rcases F with⟨rfl,rfl⟩|⟨rfl,rfl⟩
 ·have t:y=.int 1:=by simpa only[bf,AW]using CF
  subst t;obtain⟨tk,rfl⟩:=m;have g:L2.AU X AN σ H2 { d with heap:=d.heap.push { cls:=.type "slice",data:=.fields #[.none,.none,.int 1 tk] } }:=I2.kept (t':=d.toks) λb C q=>ze _ q;obtain⟨AQ,r,j,n⟩:=g.tuple sq;show A7 (sg X) X.A (subscriptTail e (.Slice Z Z (U st) p2) (.ref p) (.ref d.heap.objs.size)) (EP X AN σ Q) X.xe { d with heap:=d.heap.push { cls:=.type "slice",data:=.fields #[.none,.none,.int 1 tk] } };refine tail_any (ops:=[.ref p,.ref d.heap.objs.size]) j.typeIs PyProof.Rows.slot_tuple_getitem.lookup (Iz j (KG ..) ?_) (B _ _);exact⟨.ref p,H2,g,rfl,q _ _ (sm1.trans sm2) trivial (by simp only[bf,AW];exact⟨_,_,rfl,sq,rs⟩)⟩
 ·have t:y=.int 6:=by simpa only[bf,AW]using CF
  subst t;obtain⟨tk,rfl⟩:=m;have g:L2.AU X AN σ H2 { d with heap:=d.heap.push { cls:=.type "slice",data:=.fields #[.none,.none,.int 6 tk] } }:=I2.kept (t':=d.toks) λb C q=>ze _ q;obtain⟨AQ,r,j,n⟩:=g.tuple sq;show A7 (sg X) X.A (subscriptTail e (.Slice Z Z (U st) p2) (.ref p) (.ref d.heap.objs.size)) (EP X AN σ Q) X.xe { d with heap:=d.heap.push { cls:=.type "slice",data:=.fields #[.none,.none,.int 6 tk] } };refine tail_any (ops:=[.ref p,.ref d.heap.objs.size]) j.typeIs PyProof.Rows.slot_tuple_getitem.lookup (Iw j (KG ..) ?_ (by rw[zC,<-r.length];exact n)) (B _ _);refine⟨.ref _,_,g.laid (t':=d.toks) (o:=.tup (Dp vs)) (λb C q=>ze _ q) (zi _) ?_,rfl,q _ _ ((sm1.trans sm2).trans (bL (g.hok.fresh (zi _)))) trivial ?_⟩
  ·exact⟨ZI (Rk _ vs (zi _)) n,_,Vf _ (zi _) r,nJ.new _ _⟩
  ·simp only[bf,AW];exact⟨_,_,rfl,.inl (.inl bK),(Vg _ (zi _) rs).kp (.of (bL (g.hok.fresh (zi _))))⟩
theorem TB(he:QV X e f)(a:QV X st fs)(b:∀v i:A0,subscripted (.Slice Z Z (U st) p2) false v i=operate [v,i] (getItem v i):=by intro _ _;with_unfolding_all rfl):QV X (.Subscript e (.Slice Z Z (U st) p2) pos) (b2 K1 f fs):=⟨aE he.run a.run b⟩
end
section
variable{e:α->Dt}
theorem Z6{β:Type}(g:α->β):∀(n:Nat) (xs:O α),xs.length<=n->Dp (xs.map g)=(Dp xs).map g
 |_,[],_=>by rw[JJ,uK,uK];rfl
 |0,_::_,h=>by simp at h
 |n+1,x::xs,h=>by rw[zt,ql,ql,zt,<-List.map_drop,Z6 g n (xs.drop 5) (by rw[QO];simp at h;omega)]
def EA(k:Int)(xs:O α):O α:=if k=1 then xs else Dp xs
def rf(a:R fa ρ (zE (eT e)))(b:R fb ρ (zE eI)):R (b2 K1 fa fb) ρ (zE (eT e)):=⟨EA b.v a.v,aY (aY a.D b.D) (U (b.v=1\/b.v=6)),λh=>by
 obtain⟨d,c⟩:=aB h;obtain⟨h1,h2⟩:=aB d;have c:b.v=1\/b.v=6:=c;simp only[b2,a.ok h1,b.ok h2,As,zE,eT,eI,K1,EA];rcases c with c|c
 ·rw[zl c,zl c]
 ·rw[zz (),zl c,zz (),Z6 e _ _ (zi _)]⟩
end
section
variable{st:AB}{AS:O AB}{W:O Nat}
end
section
variable{e:α->Dt}
end
section
variable{st:O AB}{fr:Ev->Y Bx}{W:O Nat}{z:Pos}{Φ:Hp->Hp->L2.St->Ev->Prop}
end
section
variable{st:AB}{AS:O AB}
end
end P1
namespace P1
open L2 S6
theorem Hx:∀{vs:O A0} {ys:O Int},IntsAre vs ys->∀(i:Nat) (v:A0),vs[i]?=U v->∃y t,ys[i]?=U y/\v=.int y t
 |_,_,.nil,i,v,h=>by simp at h
 |_,_,.cons y t r,0,v,h=>by simp at h;exact⟨y,t,rfl,h.symm⟩
 |_,_,.cons y t r,i+1,v,h=>by
  obtain⟨z,t',e,r'⟩:=Hx r i v (by simpa using h);exact⟨z,t',by simpa using e,r'⟩
theorem Bi{prog:A3}{w:A4}:∀{ys:O Int} {l:O (Int×A0)},AI (FH prog w) ys l->IntsAre (l.map (·.2)) ys
 |_,_,.nil=>.nil
 |_,_,.cons r t=>by obtain⟨tk,rfl⟩:=r;exact .cons _ _ (Bi t)
theorem Rm:∀{l l':O A0},l'.Perm l->∀{ys:O Int},IntsAre l ys->∃c,c.Perm ys/\IntsAre l' c:=by
 intro l l' hp
 replace hp:=hp.symm
 induction hp with
 |nil=>intro ys h;exact⟨ys,.refl _,h⟩
 |cons x _ j=>intro ys h;cases h with|cons y k t=>obtain⟨zs,z1,z2⟩:=j t;exact⟨y::zs,z1.cons _,.cons y k z2⟩
 |swap x y l=>intro ys h;cases h with|cons a k t=>cases t with|cons b i m=>exact⟨_,List.Perm.swap _ _ _,.cons b i (.cons a k m)⟩
 |trans _ _ d f=>intro ys h;obtain⟨zs,z1,z2⟩:=d h;obtain⟨us,g,e⟩:=f z2;exact⟨us,g.trans z1,e⟩
section
def Lu(X:Cx)(a:A1)(zs:O Int):HO:=.ext λh=>Ti X.prog X.w h a zs
def u8(X:Cx):O V->Hp->VK->Prop:=λxs H Q=>∃(p:A1) (ys:O Int),xs=[.ref p]/\yS X.K H p (ys.map V.int)/\ys.length<4000/\∀a zs H',AV H H'->H' a=U (Lu X a zs)->(∀z,z∈zs↔z∈ys)->zs.Nodup->Q (.ref a) H'
theorem hZ{S:A1}(hs:IntsAre AQ ys)(u:ys.length<4000):Dx X.prog X.w S [S+1] (λh zs=>Ti X.prog X.w h S zs) (λi v=>AQ.toArray[i]?=U v) (λi=>ys.getD i 0) AQ.length where
 keep:=λh h' zs t k=>t.keep λo e=>k S o (by simp only[Qr,QN,or_false];exact zI (qA _)) e
 add:=λA E s i v zs Q _ hi j f p h=>by
  obtain⟨y,t,a,rfl⟩:=Hx hs i v (by simpa using j);have x:i<ys.length:=by
   rcases Nat.lt_or_ge i ys.length with q|q
   ·exact q
   ·rw[QI q]at a;cases a
  have g:ys.getD i 0=y:=by simp[dg,a]
  unfold setAdd;refine qS (zb ((intKind X.prog X.w).pyHash (intKind_is X.prog X.w y t) ?_));have hb:scanBound=4096:=rfl;refine W' (s:={ s with toks:=s.toks+1 }) f (by rw[hb];omega) λb h' c d n m l=>?_;exact h b h' _ c d n (by rw[g];exact m) () (Kj _)
theorem Su(F:X.calm=true)(hu:X.A.units+100<cLine):gj X (.type "set") (u8 X):=by
 intro AN s σ H xs us Q I r h;obtain⟨p,ys,rfl,sq,N,q⟩:=h;obtain⟨u,rfl,M⟩:=BB r;cases M;have G:=I.ok.hd F;obtain⟨AQ,C,pl,B⟩:=I.list sq;have hs:=CD C;have m:AQ.length=ys.length:=by rw[<-C.length,zk]
 obtain⟨o,g,c,n,d⟩:=pl.isList;refine Xe () (T :="list") G g c (.inl S) (P:=λi v=>AQ.toArray[i]?=U v) (n:=AQ.length) (λK E' Q' h0 y l E=>?_) (hZ hs N) (λh' e k=>?_) λh' tk zs tx D k=>?_
 ·refine k9 (items:=AQ.toArray) ⟨o,l _ _ g,c,n,d⟩ ?_;have L:p≠h0.objs.size:=zI (zD (l _ _ g));refine E _ (λi h=>h.IsListIter h0.objs.size p i/\h.IsList p AQ.toArray) (λK y=>by have:=Walks.list (prog:=X.prog) (w:=X.w) y h0.objs.size p L AQ.toArray;rw[zC]at this;exact this) ⟨⟨_,zw _ rfl,rfl,rfl⟩,⟨o,ze _ (l _ _ g),c,n,d⟩⟩ λb ob e=>ze _ e
 ·exact⟨_,#[],0,_,e,⟨rfl,rfl,rfl⟩,rfl,.nil,JO,rfl,λq=>by simp[hC,q],λi j _ f=>absurd f (ku _)⟩
 ·have J:=I.hok.fresh (zi s.heap.objs.size);refine⟨.ref s.heap.objs.size,_,I.laid (t':=tk) (a:=s.heap.objs.size) (o:=Lu X s.heap.objs.size zs) k (zi _) ?_,rfl,q _ zs _ (bL J) bK (λz=>?_) ?_⟩
  ·obtain⟨o,es,ep,t,ho,_⟩:=id tx;exact⟨tx,⟨o,ho⟩,λh1 h2 t1 W=>Ti.keep t1 W⟩
  ·rw[D z];constructor
   ·rintro⟨j,f,rfl⟩;rw[m]at f;simp[dg,f]
   ·intro B;obtain⟨j,f,e⟩:=jv B;exact⟨j,by rw[m];exact f,by simp[dg,f,e]⟩
  ·obtain⟨o,es,ep,t,ho,_,_,x⟩:=tx;exact x.nd
def WF(X:Cx):O V->Hp->VK->Prop:=λxs H Q=>∃a zs,xs=[.ref a]/\H a=U (Lu X a zs)/\zs.length<64/\∀l H',AV H H'->H l=Z->H' l=U (.lst ((BO zs).map V.int))->Q (.ref l) H'
theorem la(y:X.calm=true):gj X (.builtin "sorted") (WF X):=by
 intro AN s σ H xs us Q I r h;obtain⟨a,zs,rfl,ha,J,q⟩:=h;obtain⟨u,rfl,A⟩:=BB r;cases A;obtain⟨o,es,ep,t,ho,v,C,x⟩:Ti X.prog X.w s.heap a zs:=(I.hok _ _ ha).1;have l:=x.size;have F:Wk X.w s.heap a es ep t:=⟨⟨o,ho,v.1,C⟩,x.fit,x.led,.inr x.rise⟩;refine Kn kind_sorted plain_sorted entry_sorted (args_sorted1 _) ?_;unfold Builtin.«sorted»;refine zb (m:=checkCount "sorted" 1 1 _) (zd (zb (Hu (by exact I.ok.hd y) F (by rw[l,sizeLine_eq];omega) λc h1 d tk hp g ext=>?_)));obtain⟨ys,j,E⟩:=Rm hp (Bi x.rel);have z:c.length<64:=by rw[hp.length_eq];simp;omega
 refine zb (yb ?_);have f:(h1.push (seqObj "list" c.toArray 0)).get? h1.objs.size=U (seqObj "list" c.toArray 0):=zw _ rfl;refine zb (qS (QU slot_list_sort ⟨_,f,rfl⟩ entry_list_sort (list_sort_tree f E z λout D a1 a2 G=>⟨_,rfl,zd ⟨_,rfl,?_⟩⟩) (args_list_sort _)));obtain⟨n,p⟩:=sortedHeap_at (out:=out) f;obtain rfl:D=BO zs:=KQ ((a2.trans j).trans (BF zs).symm) G (xu zs);have i:=I.hok.fresh (a:=h1.objs.size) g;have B:=O7 (d:=d) (I.laid (t':=tk) (a:=h1.objs.size) (o:=.lst ((BO zs).map V.int)) (h':=sortedHeap (h1.push (seqObj "list" c.toArray 0)) h1.objs.size c out) (λb o e=>by
  have e1:=ext b o e;have hb:=zD e1;rw[sortedHeap_old (zI hb) (by rw[qr];exact qV hb)];exact ze _ e1) g ⟨by rw[zk,(BF _).length_eq,sizeLine_eq];omega,out.toList,n,vO a1,by rw[p]⟩)
 exact⟨.ref h1.objs.size,_,B,rfl,q _ _ (bL i) i bK⟩
def Z7:Bx->Y Bx:=λb=>(oM b).bind λds=>(yG ds).bind λys=>if ys.length<64 then U (.o ((BO (Gy ys)).map Dt.int))else Z
variable{p p' pos':Pos}
theorem Sf(d:X.calm=true)(D:X.A.units+100<cLine)(hg:Gl X "sorted")(o:X.mg "sorted"=Z)(t:Gl X "set")(u:X.mg "set"=Z)(ha:QV X e f)(he:A9 (e::[]) X.env=(false,eval e X.env)::A9 [] X.env:=by rfl)
  (g:A9 (Expr.Call (.Name "set" p') [e] [] pos'::[]) X.env=(false,eval (.Call (.Name "set" p') [e] [] pos') X.env)::A9 [] X.env:=by rfl):QV X (.Call (.Name "sorted" p) [.Call (.Name "set" p') [e] [] pos'] [] pos) (b1 Z7 f):=⟨by
 refine Ij (sJ (id :="sorted") (la d) hg o S (iw (FW (T :="set") (Su d D) t u S (iw ha.run sI he) (he:=he)) sI g) (he:=g)) λσ H Q h=>?_;obtain⟨H0,ρ,b,E,c,q⟩:=h;obtain⟨b0,eb,c⟩:=AT c;obtain⟨ds,y,c⟩:=AT c;obtain⟨ys,n,c⟩:=AT c;split at c
 ·rename_i G;cases c;refine⟨H0,ρ,b0,E,eb,λv H1 i F x=>?_⟩;obtain⟨p,vs,rfl,sq,rs⟩:=x.Hh y;obtain rfl:=Pu rs n;refine⟨p,ys,rfl,sq,by omega,λa zs H2 j e2 m nd=>⟨a,zs,rfl,e2,?_,λl C w B e3=>?_⟩⟩
  ·have:=(Aj nd (Gz ys) λz=>by rw[m z,pU]).length_eq;have:=Ju ys;omega
  ·have s:=Aj nd (Gz ys) λz=>by rw[m z,pU]
   have es:BO zs=BO (Gy ys):=KQ ((BF zs).trans (s.trans (BF _).symm)) (xu zs) (xu _);rw[es]at e3;exact q _ C ((i.trans j).trans w) (λa ea=>by cases ea;exact(i.trans j).free B) ⟨l,_,rfl,e3,C9⟩
 ·cases c⟩
end
def cE(a:RL fa ρ eI):R (b1 Z7 fa) ρ (oE eI):=⟨BO (Gy a.v),aY a.D (U (a.v.length<64)),λh=>by
 obtain⟨h,b⟩:=aB h;simp only[b1,Z7,a.ok h,As,a.lk,CA];exact zl b⟩
end P1
namespace P1
open L2 S1
theorem K3:∀{p p' r r':O AY},p.length=p'.length->gQ (p++r) (p'++r')=if p=p' then gQ r r' else gQ p p'
 |[],[],r,r',_=>by simp
 |x::p,y::p',r,r',h=>by
  have a:=K3 (p:=p) (p':=p') (r:=r) (r':=r') (by simpa using h);simp only[rc,gQ];by_cases e:x=y
  ·subst e;rw[zl rfl,zl rfl,a];by_cases e':p=p'
   ·rw[zl e',zl (by rw[e'])]
   ·rw[zz e',zz (λz=>e' (List.cons.inj z).2)]
  ·rw[zz e,zz e,zz (λz=>e (List.cons.inj z).1)]
def GP(h:A6)(ks:O AY)(u:A1):Prop:=∃AQ:O A0,nJ h u AQ.toArray/\Ks ks AQ
def zO(h:A6)(k:O AY)(v:A0):Prop:=∃(a:A1) (o:AE) (b c:A1) (n:Nat),v=.ref a/\h.get? a=U o/\o.cls=.type "tuple" ∧ o.data=.seq #[.ref b,.ref c] n/\GP h (k.take 4) b/\GP h (k.drop 4) c/\4<=k.length
theorem GP.keep{h':A6}{u:A1}(q:GP h ks u)(k:∀c o,h.get? c=U o->h'.get? c=U o):GP h' ks u:=
 let ⟨AQ,⟨o,e,r⟩,x⟩:=q;⟨AQ,⟨o,k _ _ e,r⟩,x⟩
theorem zO.keep{h h':A6}{ks:O AY}{v:A0}(q:zO h ks v)(k:∀c o,h.get? c=U o->h'.get? c=U o):zO h' ks v:=
 let ⟨a,o,u1,u2,n,e,g,c,d,x,y,z⟩:=q;⟨a,o,u1,u2,n,e,k _ _ g,c,d,x.keep k,y.keep k,z⟩
theorem GP.inj{h:A6}{ks b:O AY}{u:A1}(q:GP h ks u)(c:GP h b u):ks=b:=by
 obtain⟨AQ,⟨o,e,_,⟨n,d⟩,_⟩,x⟩:=q;obtain⟨f,⟨o',e',_,⟨i,a⟩,_⟩,g⟩:=c;rw[e]at e';cases e';rw[d]at a;have:AQ=f:=by injection a with h1 _;exact List.toArray_inj h1
 subst this;exact x.inj g
theorem zO.inj{h:A6}{ks b:O AY}{v:A0}(q:zO h ks v)(j:zO h b v):ks=b:=by
 obtain⟨a,o,A,w,n,e,g,c,d,x,y,z⟩:=q;obtain⟨s,o',C,B,t,e',f,p,i,l,m,u⟩:=j;rw[e]at e';cases e';rw[g]at f;cases f;rw[d]at i;cases i;rw[<-kq 4 ks,<-kq 4 b,x.inj l,y.inj m]
theorem Pm:∀{ks:O AY} {AQ:O A0},Ks ks AQ->ItemsAre (bG prog w) ks AQ
 |_,_,.nil=>.nil
 |_,_,.cons h t=>.cons h (Pm t)
theorem GP.key{u:A1}(q:GP h ks u):IsTupleKey (bG prog w) h ks u:=
 let ⟨AQ,⟨o,e,c,⟨n,d⟩,_⟩,x⟩:=q;⟨o,_,n,e,c,d,Pm x⟩
theorem cS{k l:O AY}{j:A0}(b:A.units<cLine)(h1:zO s.heap k v)(h2:zO s.heap l j)(D:Wj (k.take 4) (l.take 4))(J:Wj (k.drop 4) (l.drop 4))(h:Q (gQ k l) s):A7 (A8 prog w) A (keyLt' (tuples' false) v j) Q E s:=by
 obtain⟨a,o,I,m,n,rfl,g,c,d,x,y,z⟩:=h1;obtain⟨a',o',F,t,X,rfl,L,P,M,C,B,z'⟩:=h2;have e:gQ k l=if k.take 4=l.take 4 then gQ (k.drop 4) (l.drop 4)else gQ (k.take 4) (l.take 4):=by
  have:=K3 (p:=k.take 4) (p':=l.take 4) (r:=k.drop 4) (r':=l.drop 4) (by rw[JP,JP];omega);rwa [kq,kq]at this
 rw[e]at h;have lt:∀{p q:A1} {ks f:O AY} (i:Bool) {u:Bool->A2->Prop},GP s.heap ks p->GP s.heap f q->Wj ks f->u (gQ ks f) s->A7 (A8 prog w) A (oneLt' (false&&i) (.ref p) (.ref q)) u E s:=λi _ t1 t2 H G=>by
  obtain⟨AQ,i1,N⟩:=t1;obtain⟨W,i2,K⟩:=t2;rw[oneLt'_eq];simp only[ko,zo,ZY];refine zb (show A7 _ _ (AG .Lt _ _) _ _ _ from Vc i1 i2 N K H b ?_);exact jI G
 rw[Oz];refine zb (listItems_at g d (zb (listItems_at L M ?_)));refine zb ?_;show A7 _ _ (forIn [((Value.ref I,Value.ref F),0),((Value.ref m,Value.ref t),1)] ((Z,sn):Y Bool×Unit) (turn false)) _ _ _;rw[kl];refine zb ?_;show A7 _ _ (eqBool _ _ >>= _) _ _ _;refine zb (wpAny_eqBool_tuple b x.key C.key ?_);by_cases e1:k.take 4=l.take 4
 ·rw[zl e1]at h;simp only[e1,Ki,JI,zo,ZY];refine zd ?_;show A7 _ _ (forIn [((Value.ref m,Value.ref t),1)] ((Z,sn):Y Bool×Unit) (turn false)) _ _ _;rw[kl];refine zb ?_;show A7 _ _ (eqBool _ _ >>= _) _ _ _;refine zb (wpAny_eqBool_tuple b y.key B.key ?_);by_cases e2:k.drop 4=l.drop 4
  ·simp only[e2,Ki,JI,zo,ZY];refine zd (zd (zd ?_));rw[e2,zq]at h;exact h
  ·simp only[e2,kA,JS,qk];exact zb (lt _ y B J (zd (zd (zd h))))
 ·rw[zz e1]at h;simp only[e1,kA,JS,qk];exact zb (lt _ x C D (zd (zd (zd h))))
theorem X8{vs:O A0}{Q:SortKind->A2->Prop}(i:AI (zO s.heap) bV vs)(h1:1<=vs.length)(h:Q (tuples' false) s):A7 (A8 prog w) A (keyKind' vs.toArray) Q E s:=by
 have step:∀(bV:O (O AY)) (vs:O A0),AI (zO s.heap) bV vs->∃us:O A0,AI (λv u=>∀(e:B7) (b:Y A0->A2->Prop),b u s->A7 (A8 prog w) A (firstOfTuple' v) b e s) vs (us.map U)/\AI (λu t=>∀(e:B7) (b:B7),b t s->A7 (A8 prog w) A (typeOf u) b e s) us (us.map λ_=>Value.type "tuple"):=by
  intro bV vs i
  induction i with
  |nil=>exact⟨[],.nil,.nil⟩
  |cons q t C=>
   obtain⟨us,p1,p2⟩:=C;obtain⟨a,o,B,F,n,rfl,g,c,d,⟨AQ,⟨p,g1,c1,D⟩,x⟩,y,z⟩:=q;refine⟨.ref B::us,.cons (λe b f=>?_) p1,.cons (λe b f=>Qb (T :="tuple") ⟨p,g1,c1⟩ f) p2⟩;rw[T9];refine zb (Qb (T :="tuple") ⟨o,g,c⟩ ?_);rw[zz ()];exact zb (listItems_at g d (zd f))
 obtain⟨us,p1,p2⟩:=step bV vs i;have m:us.length=vs.length:=by have:=Paired.length p1;rw[zk]at this;exact this.symm
 rw[keyKind'_eq,Ya,map_eq_pure_bind];refine zb (zb (Jr vs (us.map U) _ p1 (zd ?_)));have j:(us.map U).toArray.all (·.isSome)=true:=by simp
 rw[zl j];refine zb (km ?_);have l:(us.map U).toArray.filterMap id=us.toArray:=by simp
 rw[l,oneTypeOnly'_eq,Ya,map_eq_pure_bind];refine zb (zb (zb (Jr us _ _ p2 (zd ?_))));cases us with
 |nil=>simp at m;omega
 |cons u us=>
  have e0:((u::us).map λ_=>Value.type "tuple").toArray[0]?=U (Value.type "tuple"):=by simp
  have e1:(((u::us).map λ_=>Value.type "tuple").toArray.all λx=>x==Value.type "tuple")=true:=by simp
  rw[e0];simp only[e1,qk];exact zd (zd h)
theorem Yb{rk:A0->Nat}{x:A0}{vs:O A0}{Q:B7}(g:∀(d:B7) (f:O A0->A2->Prop),(∀h' tk,s.heap.objs.size<=h'.objs.size->(∀c o,s.heap.get? c=U o->h'.get? c=U o)->f vs { s with heap:=h',toks:=tk })->A7 (A8 prog w) A.in1 (collect x) f d s)(u:2<=vs.length->∀(d:B7) (a:A5) (s':A2),(∀c o,s.heap.get? c=U o->s'.heap.get? c=U o)->∀Q:SortKind->A2->Prop,Q kd s'->A7 (A8 prog w) a (keyKind' vs.toArray) Q d s')(p:∀(a:A5) (s':A2),a.units<=A.units+9->(∀c o,s.heap.get? c=U o->s'.heap.get? c=U o)->Cf prog w a s' kd rk (pairsOf vs))(j:vs.length<64)(h:∀(l:A1) (h':A6) (tk n:Nat) (st:SortSt),(AM st).Perm (pairsOf vs)->Up rk (AM st) (pairsOf vs).size->s.heap.objs.size<=l->(∀c o,s.heap.get? c=U o->h'.get? c=U o)->h'.get? l=U (seqObj "list" ((AM st).map (·.2)) n)->Q (.ref l) { s with heap:=h',toks:=tk }):
  A7 (A8 prog w) A (call (.builtin "sorted") [x]) Q E s:=by
 refine Kn kind_sorted plain_sorted entry_sorted (args_sorted1 _) ?_;unfold Builtin.«sorted»;refine zb (m:=checkCount "sorted" 1 1 _) (zd (zb (g _ _ λh1 tk t ext=>zb (yb ?_))));have b:(h1.push (seqObj "list" vs.toArray 0)).get? h1.objs.size=U (seqObj "list" vs.toArray 0):=zw _ rfl;have old:∀s':A2,FA h1.objs.size { s with heap:=h1.push (seqObj "list" vs.toArray 0),toks:=tk } s'->∀c o,s.heap.get? c=U o->s'.heap.get? c=U o:=λs' q c o e=>
  q c o (zI (zD (ext c o e))) (ze _ (ext c o e))
 refine zb (qS (QU slot_list_sort ⟨_,b,rfl⟩ entry_list_sort (LF b (λq s' o=>u q _ _ s' (old s' o)) (λs' o=>p _ s' (by show A.units+1+1<=_;omega) (old s' o)) j λst q1 q2=>⟨_,rfl,zd ⟨_,rfl,?_⟩⟩) (args_list_sort _)));obtain⟨n,i⟩:=sortedHeap_at (out:=(AM st).map (·.2)) b;refine h h1.objs.size _ tk n st q1 q2 t (λc o e=>?_) i;have hb:=zD (ext c o e);rw[sortedHeap_old (zI hb) (by rw[qr];exact qV hb)];exact ze _ (ext c o e)
theorem IR(k l:O AY)(v:A0)(a:zO h k v)(b:zO h l v):k=l:=a.inj b
section
variable{T:O AY->A0->Prop}(inj:∀ k l v,T k v->T l v->k=l)
include inj
theorem oU:∀{bV:O (O AY)} {vs:O A0},AI T bV vs->∀v∈vs,BA bV vs v∈bV/\T (BA bV vs v) v
 |_,_,.nil,v,hv=>by cases hv
 |k::bV,u::vs,.cons q t,v,hv=>by
  unfold BA;rw[KB,ky];by_cases e:u=v
  ·subst e;simp only[beq_self_eq_true];exact⟨zg ..,q⟩
  ·have e':(u==v)=false:=by simpa using e
   simp only[e'];have a:=oU t v ((List.mem_cons.mp hv).resolve_left λh=>e h.symm);exact⟨zh _ a.1,a.2⟩
theorem Eo:∀{bV:O (O AY)} {vs:O A0},AI T bV vs->∀(K:A0->O AY),(∀v∈vs,T (K v) v)->vs.map K=bV
 |_,_,.nil,_,_=>rfl
 |k::bV,v::vs,.cons q t,K,hK=>by
  rw[zt,inj _ _ _ (hK v (zg ..)) q,Eo t K λu a=>hK u (zh _ a)]
theorem fF{vs:O A0}(a:AI T bV vs){xs:Array Keyed}(hp:xs.Perm (pairsOf vs))(m:Up (λv=>C7 bV (BA bV vs v)) xs (pairsOf vs).size):(xs.map (·.2)).toList.map (BA bV vs)=jO bV/\∀v∈(xs.map (·.2)).toList,v∈vs:=by
 have d:xs.toList.Perm (vs.zip vs):=by rw[<-pairsOf_toList];exact db.mp hp
 have b:∀p∈xs.toList,p.1=p.2/\p.1∈vs:=λp q=>mem_zip_self (d.mem_iff.mp q);have e:(xs.map (·.2)).toList=xs.toList.map (·.1):=by
  rw[YU];exact QQ λp q=>(b p q).1.symm
 have pv:(xs.toList.map (·.1)).Perm vs:=by
  have:=d.map pF;rwa [pK (zi _)]at this
 rw[e];refine⟨oO ?_ ?_,λv a=>pv.mem_iff.mp a⟩
 ·have:=pv.map (BA bV vs);rwa [Eo inj a _ λv q=>(oU inj a v q).2]at this
 ·rw[dc];intro i j hi f l;have g:i<xs.size:=by simpa using hi
  have c:j<xs.size:=by simpa using f
  have u:=m i j (jS l) (by rw[<-hp.size_eq];exact c);unfold at_ at u;rw[getElem?_pos xs i g,getElem?_pos xs j c]at u;have h:=(oU inj a xs[j].1 (b xs[j] (by simp)).2).1;simp only[ya,mv];unfold qR;rw[<-Jq h,ZA (iT.mpr u)];rfl
end
def Z8:Dt->Y (O AY)
 |.tup [a,b]=>(yE a).bind λp=>(yE b).bind λr=>if p.length=4 then U (p++r)else Z
 |_=>Z
def K4:O Dt->Y (O (O AY))
 |[]=>U []
 |d::ds=>(Z8 d).bind λk=>(K4 ds).bind λks=>U (k::ks)
def M8(k:O AY):Dt:=.tup [BE (k.take 4),BE (k.drop 4)]
theorem K5{k:O AY}(h:Z8 d=U k):d=M8 k/\4<=k.length:=by
 unfold Z8 at h;split at h
 ·obtain⟨p,e1,h⟩:=AT h;obtain⟨r,e2,h⟩:=AT h;split at h
  ·rename_i a;cases h;refine⟨?_,by rw[z4];omega⟩;unfold M8;rw[<-a,List.take_left',List.drop_left',vR e1,vR e2]
   ·rfl
   ·rfl
  ·cases h
 ·cases h
theorem Px:∀{ds:O Dt} {bV:O (O AY)},K4 ds=U bV->ds=bV.map M8/\∀k∈bV,4<=k.length
 |[],_,h=>by cases h;exact⟨rfl,λk h=>by cases h⟩
 |d::ds,_,h=>by
  obtain⟨k,e1,h⟩:=AT h;obtain⟨ks,e2,h⟩:=AT h;cases h;obtain⟨h1,h2⟩:=Px e2;refine⟨by rw[zt,(K5 e1).1,h1],λz a=>?_⟩;rcases List.mem_cons.mp a with rfl|a
  ·exact(K5 e1).2
  ·exact h2 z a
theorem Z9(I:AU X AN σ H s){k:O AY}{v:V}(h:AW X.K H (BE k) v):∃a,v=.ref a/\GP s.heap k a:=by
 simp only[BE,AW]at h;obtain⟨a,c,rfl,sq,rs⟩:=h;obtain⟨AQ,b,t⟩:=LN I sq;rw[vU rs]at b;exact⟨a,rfl,AQ,t,Zg X b⟩
theorem Pd(I:AU X AN σ H s){k:O AY}(e:4<=k.length){v:V}(h:AW X.K H (M8 k) v)(r:At v u):zO s.heap k u:=by
 simp only[M8,AW]at h;obtain⟨a,m,rfl,sq,rs⟩:=h;obtain⟨AQ,b,⟨o,g,c,n,d⟩,_⟩:=I.tuple sq;simp only[aK]at rs;obtain⟨f,l,rfl,h1,j,i,rfl,h2,rfl⟩:=rs;obtain⟨b1,rfl,t1⟩:=Z9 I h1;obtain⟨b2,rfl,t2⟩:=Z9 I h2;cases r;cases b with
 |cons q1 b=>
  cases b with
  |cons q2 b=>
   cases b;cases q1;cases q2;exact⟨a,o,b1,b2,n,rfl,g,c,d,t1,t2,e⟩
theorem Vh{AN:O (A1×AE)}{σ:L2.St}{H:Hp}{s:A2}(I:AU X AN σ H s):∀{bV:O (O AY)} {vs:O V} {AQ:O A0},(∀k∈bV,4<=k.length)->aK X.K H (bV.map M8) vs->AX vs AQ->AI (zO s.heap) bV AQ/\∀u∈AQ,∃v k,k∈bV/\At v u/\AW X.K H (M8 k) v
 |[],_,_,_,h,r=>by
  simp only[JJ,aK]at h;subst h;cases r;exact⟨.nil,λu h=>by cases h⟩
 |k::bV,_,_,hk,h,r=>by
  simp only[zt,aK]at h;obtain⟨v,vs,rfl,h1,h2⟩:=h;cases r with
  |cons b f=>
   obtain⟨i1,i2⟩:=Vh I (λz e=>hk z (zh _ e)) h2 f;refine⟨.cons (Pd I (hk k (zg ..)) h1 b) i1,λu a=>?_⟩;rcases List.mem_cons.mp a with rfl|a
   ·exact⟨v,k,zg ..,b,h1⟩
   ·obtain⟨d,c,m,x,y⟩:=i2 u a;exact⟨d,c,zh _ m,x,y⟩
def Hc(bV:O (O AY)):Bool:=decide (bV.length<64)&&bV.all λk=>bV.all λl=>Ip (k.take 4) (l.take 4)&&Ip (k.drop 4) (l.drop 4)
def K6:O Bx->Y Bx
 |[b]=>(oM b).bind λds=>(K4 ds).bind λbV=>if Hc bV=true then U (.o ((jO bV).map M8))else Z
 |_=>Z
theorem i7(hu:X.A.units+100<cLine):oH X (.builtin "sorted") K6:=by
 intro AN s σ H xs us Q I rx h;obtain⟨bs,c,rb,e,q⟩:=h;unfold K6 at e;split at e
 ·rename_i b;obtain⟨ds,W,e⟩:=AT e;obtain⟨bV,ek,e⟩:=AT e;split at e
  ·rename_i hs;cases e;simp only[Hc,ZH,ZN,qf]at hs;obtain⟨a0,J⟩:=hs;obtain⟨v,rfl,r1⟩:=BI rb;obtain⟨p,vs,rfl,sq,rs⟩:=r1.Hh W;obtain⟨u,rfl,ru⟩:=BB rx;cases ru;obtain⟨rfl,G⟩:=Px ek;obtain⟨AQ,t,pl,hz⟩:=I.list sq;obtain⟨o,g,P,n,hd⟩:=pl.isList;have a2:AQ.length=bV.length:=by rw[<-t.length,rs.length,zk]
   obtain⟨tv,bk⟩:=Vh I G rs t;have kp:∀{h':A6},(∀c o,s.heap.get? c=U o->h'.get? c=U o)->AI (zO h') bV AQ:=λk=>Paired.imp' (λ_ _ z=>zO.keep z k) tv;have F:∀k∈bV,∀l∈bV,Wj (k.take 4) (l.take 4)/\Wj (k.drop 4) (l.drop 4):=λk L l f=>⟨zA (J k L l f).1,zA (J k L l f).2⟩;refine Yb (kd:=tuples' false) (rk:=λv=>C7 bV (BA bV AQ v)) (vs:=AQ) (λE' Q' d=>J7 g P (.inl S) hd (by rw[<-t.length];exact hz) d)
    (λh2 E' A' s' k Q' d=>X8 (kp k) () d)
    (λA' s' a3 k=>?_) () λl h' tk m st hp N f ext hL=>?_
   ·intro E p q Q hp d h;rw[pairsOf_toList]at hp d;obtain⟨i,t1⟩:=oU IR (kp k) p.1 (mem_zip_self hp).2;obtain⟨C,t2⟩:=oU IR (kp k) q.1 (mem_zip_self d).2;rw[Jq i]at h;exact cS () t1 t2 (F _ i _ C).1 (F _ i _ C).2 h
   ·obtain⟨o1,M⟩:=fF IR tv hp N;have back:∀out:O A0,(∀u∈out,u∈AQ)->∃zs,AX zs out/\aK X.K H ((out.map (BA bV AQ)).map M8) zs:=by
     intro out
     induction out with
     |nil=>intro _;exact⟨[],.nil,aK.nil⟩
     |cons u out ih=>
      intro w;obtain⟨zs,z1,z2⟩:=ih λx hx=>w x (zh _ hx);have D:=w u (zg ..);obtain⟨v,k,mk,B,y⟩:=bk u D;have ek:BA bV AQ u=k:=zO.inj (oU IR tv u D).2 (Pd I (G k mk) y B);exact⟨v::zs,.cons B z1,by rw[zt,zt,ek];exact aK.cons y z2⟩
    obtain⟨zs,z1,z2⟩:=back _ M;rw[o1]at z2;have a1:zs.length=bV.length:=by rw[z2.length,zk,(mY bV).length_eq]
    have j:H l=Z:=I.hok.fresh f;refine⟨.ref l,_,I.laid (t':=tk) (a:=l) (o:=.lst zs) ext f ⟨by rw[a1];exact jS (Z3 a0 ()),_,m,z1,?_⟩,rfl,q _ _ (bL j) (λa ea=>by cases ea;exact j) ⟨l,zs,rfl,bK,z2.kp (.of (bL j))⟩⟩;rw[hL]
  ·cases e
 ·cases e
end P1
namespace P1
open L2 S1 S6
section
variable{e:α->Dt}{e':β->Dt}
def kP(e:α->Dt)(e':β->Dt)[f9 e][f9 e'](q:α×β):O AY:=f9.k e q.1++f9.k e' q.2
def Bq(e:α->Dt)(e':β->Dt)[f9 e][f9 e'](xs:O (α×β)):O (α×β):=xs.mergeSort λa b=>qR (kP e e' a) (kP e e' b)
theorem tK[f9 e][f9 e'](xs:O (α×β)):(Bq e e' xs).Perm xs:=kF ..
theorem K7[f9 e][f9 e'](xs:O (α×β)):(Bq e e' xs).Pairwise (λa b=>qR (kP e e' a) (kP e e' b)=true):=ka (le:=λa b=>qR (kP e e' a) (kP e e' b)) (λa b c=>wV (kP e e' a) (kP e e' b) (kP e e' c)) (λa b=>wW (kP e e' a) (kP e e' b)) xs
theorem Vi[f9 e][f9 e'](b:∀a,(f9.k e a).length=4)(q:α×β):Z8 (Wm e e' q)=U (kP e e' q):=by
 show(yE (e q.1)).bind _=_;rw[f9.ok,As,f9.ok,As,zl (b _)];rfl
theorem K8[f9 e][f9 e'](b:∀a,(f9.k e a).length=4):∀xs:O (α×β),K4 (xs.map (Wm e e'))=U (xs.map (kP e e'))
 |[]=>rfl
 |x::xs=>by
  rw[zt,zt,K4,Vi b,As,K8 b xs,As]
theorem a9[f9 e][f9 e'](b:∀a,(f9.k e a).length=4)(xs:O (α×β)):(xs.map (kP e e')).map M8=xs.map (Wm e e'):=by
 rw[QE];exact QQ λa _=>(K5 (Vi b a)).1.symm
theorem iX[f9 e][f9 e'](c:∀a,(f9.k e a).length=4)(xs:O (α×β))(h:xs.length<64):Hc (xs.map (kP e e'))=true:=by
 have t:∀q:α×β,(kP e e' q).take 4=f9.k e q.1/\(kP e e' q).drop 4=f9.k e' q.2:=λq=>by
  unfold kP;exact⟨List.take_left' (c _),List.drop_left' (c _)⟩
 simp only[Hc,ZH,ZN,qf,zk,KL,forall_exists_index,and_imp,forall_apply_eq_imp_iff₂];refine⟨h,λa _ b _=>?_⟩;rw[(t a).1,(t a).2,(t b).1,(t b).2];exact⟨f9.shp ..,f9.shp ..⟩
def ZB[f9 e][f9 e'](b:∀a,(f9.k e a).length=4)(a:RL fa ρ (Wm e e')):R (cG K6 (aq fa aH)) ρ (oE (Wm e e')):=⟨Bq e e' a.v,aY a.D (U (a.v.length<64)),λh=>by
 obtain⟨h,c⟩:=aB h;have m:jO (a.v.map (kP e e'))=(Bq e e' a.v).map (kP e e'):=(oO ((tK a.v).map _) (List.pairwise_map.mpr (K7 a.v))).symm;simp only[cG,aq,aH,a.ok h,As,K6,a.lk,K8 b,iX b a.v c,qk,m,a9 b]⟩
end
end P1
namespace P1
open L2
theorem Py(h:sW d=true):∃x,d=.str x:=by
 cases d with
 |str x=>exact⟨x,rfl⟩
 |_=>cases h
theorem Hy(h:B5 d=true):∃ds,d=.tup ds:=by
 cases d with
 |tup x=>exact⟨x,rfl⟩
 |_=>cases h
theorem Tl(h:B5 d=true):Rc d=true:=by
 obtain⟨ds,rfl⟩:=Hy h;rfl
theorem eK(h:d∈E8 (.str x)):d=eS (XD d):=by
 unfold E8 BN at h;obtain⟨c,_,rfl⟩:=List.mem_map.mp h;rfl
theorem aT(x:AJ):(E8 (.str x)).length=x.length:=We x
theorem BT(a b:AJ):vJ a b=true↔Ag a b/\a≠b:=by
 unfold vJ Ag;rw[ltCps_eq];simp only[ZN,JA];constructor
 ·intro h;exact⟨List.lt_asymm h,λe=>by subst e;exact List.lt_irrefl _ h⟩
 ·intro⟨h,hn⟩;by_cases q:a.cps.toList<b.cps.toList
  ·exact q
  ·exact absurd (DR (a:=a) (b:=b) (by unfold Ag;rw[ltCps_eq];simpa using h) (by unfold Ag;rw[ltCps_eq];simpa using q)) hn
theorem Rn{i:Int}(h:i∈rng 0 n):∃k:Nat,k<n/\i=(k:Int):=by
 unfold rng at h;obtain⟨k,a,rfl⟩:=List.mem_map.mp h;exact⟨k,List.mem_range.mp a,by omega⟩
end P1
namespace P1
open L2 S1 S6
def same(w:O AZ)(x y:AJ):Prop:=∃s∈w,x∈s/\y∈s
end P1
section
set_option maxHeartbeats 1000000
namespace P1
open L2
open PySem.Builtin PySem.Builtin.Str
abbrev cs(s:AJ):O Nat:=s.cps.toList
theorem Ro(a b:AJ):cs (a++b)=cs a++cs b:=fU
theorem K9(a:AJ):a.length=(cs a).length:=by simp[Str.length]
theorem ba(y p q:AJ)(ps:AZ):Str.join y (p::q::ps)=p++y++Str.join y (q::ps):=rfl
theorem hX{c:Nat}{s:AJ}(h:c∈cs s):Oq ⟨#[c]⟩ s=true:=by
 unfold Oq;obtain⟨i,hi⟩:=(mem_iff_at s c).mp h;rcases StrLaws.occ_head s ⟨#[c]⟩ 1 (zi 1)with⟨h0,a⟩|⟨i,r,h0,_,_⟩
 ·exact absurd hi (a i)
 ·rw[h0];rfl
theorem UN(h:n<=x.length):cs (Txt.slice x (U (n:Int)) Z)=(cs x).drop n:=by
 rw[slice_from_eq (b:=x.length) () () rfl];show((cs x).drop ((n:Int).toNat)).take _=_;rw[KW,dw (by rw[QO,<-K9];omega)]
theorem o3(h:n<=x.length):cs (Txt.slice x Z (U (n:Int)))=(cs x).take n:=by
 have:=slice_closes_to (x:=x) (j:=(n:Int)) ⟨by omega,by rw[show x.cps.toList.length=x.length by simp[Str.length]];omega⟩;rw[eq_of_beq this];show((cs x).drop 0).take _=_;simp
theorem tT:∀(y p:AJ) (ps:AZ),cs (Txt.join y (p::ps))=cs p++ps.flatMap λq=>cs y++cs q:=by
 intro y p ps;rw[show Txt.join y (p::ps)=Str.join y (p::ps) from StrLaws.glued_eq_join y _]
 induction ps generalizing p with
 |nil=>simp[Str.join]
 |cons q ps a=>rw[ba,Ro,Ro,a,ic,qv,qv]
end P1
end
section
set_option maxHeartbeats 1000000
namespace P1
open L2 S1 S6
section
variable [Inhabited α]
end
section
variable{e:α->Dt} [f9 e]
end
mutual
def IK:Dt->Bool
 |.str s=>decide (s.length<=20)
 |.int i=>decide (i<=1000000)
 |.tup ds=>decide (ds.length<=20)&&Nd ds
 |.non=>false
 |.bl _=>false
 |.lst _=>false
 |.emp=>false
def Nd:O Dt->Bool
 |[]=>true
 |d::ds=>IK d&&Nd ds
end
end P1
end
namespace P1
open L2
open PySem.Builtin PySem.Builtin.Str
end P1
section
set_option maxHeartbeats 1000000
namespace P1
open L2
open PySem.Builtin PySem.Builtin.Str
end P1
end
section
set_option synthInstance.maxSize 100000
namespace G16
open L2 P1
noncomputable section
abbrev wE:=O P1.Dt
abbrev aD:Type:=Int×AJ×AJ×Int
abbrev aG:aD->Dt:=D5 eI eS eS eI
abbrev lQ:Type:=AJ×AJ×Int
abbrev Ax:lQ->Dt:=EK eS eS eI
abbrev eU:Type:=AZ×(O aD)×(O lQ)
abbrev bI:eU->Dt:=EK (eT eS) (eT aG) (eT Ax)
abbrev R1:Type:=Dt×Dt×Dt
abbrev OS:R1->Dt:=EK eD eD eD
abbrev Vj:Type:=aD×aD
abbrev fT:Vj->Dt:=Wm aG aG
def Ha(d:Dt):R1:=(DD d 0,DD d 1,DD d 2)
def top(i:Nat):AB:=PySem.Challenge.pw_onefolk_k16_whole_heaviest_holding.main.body.getD i (.Pass ⟨0,0,0,0⟩)
abbrev La:AB:=top 37
abbrev Br:AB:=top 38
abbrev Hz:AB:=top 42
abbrev HB:AB:=top 39
abbrev Ep:AB:=top 40
abbrev HD:AB:=top 43
abbrev Er:AB:=top 24
abbrev Es:AB:=top 25
abbrev Et:AB:=top 29
abbrev Lb:AB:=top 6
abbrev Ld:AB:=top 5
abbrev HF:AB:=top 14
abbrev Eu:AB:=top 11
abbrev Pz:AB:=top 10
abbrev Vk:AB:=top 17
abbrev HJ:AB:=top 16
abbrev tL:AB:=top 35
abbrev Le:AB:=top 23
abbrev Bt:AB:=top 27
abbrev PJ:AB:=top 22
abbrev Lf:AB:=top 34
abbrev HN:AB:=top 41
abbrev Lg:AB:=top 44
abbrev Ew:AB:=top 45
abbrev vY:AB:=top 20
abbrev HS:AB:=top 33
abbrev Lh:AB:=top 32
abbrev Vl:AB:=top 31
abbrev PK:AB:=top 30
abbrev HW:AB:=top 46
abbrev qm:AB:=top 48
abbrev tM:AB:=top 47
abbrev vZ:AB:=top 49
abbrev Ey:AB:=top 26
abbrev Li:AB:=top 21
abbrev Lj:AB:=top 19
abbrev wg:AB:=top 50
abbrev s_law:AB:=top 51
def fuel:Nat:=32
def Bu:Ev->Y Ap:=(aF (aF (Au 2 (b2 iD (b2 fZ (b2 zj (gv 2) (cB (.int 69621))) (gv 3)) (cB (.int 2147483647)))) dR) (cZ [3]))
def xG:Ev->Y Ap:=(aF (za (wH DM (gv 1) (cG qz (aq (gv 0) aH))) (aF (fK (b2 eY (gv 0) (gv 1))) dR) dR) (aF (Au 2 (b2 iD (b2 zj (cB (.int 48271)) (b2 fZ (b2 fZ (b2 zj (gv 1) (gv 1)) (b2 zj (cB (.int 7)) (gv 1))) (cB (.int 11)))) (cB (.int 2147483647)))) (aF (sZ (DO (Sw (gv 0) wR (Bm (cB (.int 3))))) (jZ 3) Bu) (aF (fK (gv 2)) dR))))
def gR:O Bx->Y Bx:=cU 4 xG
def oV:Ev->Y Ap:=(aF (aF (Au 3 (b2 iD (b2 fZ (b2 fZ (b2 zj (gv 3) (b2 fZ (b2 iD (gv 3) (cB (.int 65521))) (cB (.int 40487)))) (b2 zj (cB (.int 7)) (gv 5))) (cB (.int 5))) (cB (.int 1999999973)))) (aF (J2 2 (b2 eY (cG oF (aq (gv 3) (aq (b2 iD (gv 4) (cB (.int 1000000))) aH))) (cG W4 (aq (b2 F3 (gv 4) (cB (.int 0))) aH)))) (aF (Au 4 (b2 JX (gv 4) (cB (.int 1000000)))) dR))) (cZ [5]))
def pW:Ev->Y Ap:=(aF (Au 2 (cG oF aH)) (aF (Au 3 (b2 iD (b2 zj (b2 fZ (b2 iD (gv 0) (cB (.int 1999999973))) (cB (.int 31))) (cB (.int 765432101))) (cB (.int 1999999973)))) (aF (Au 4 (cB (.int 0))) (aF (za (DC (wH DM (gv 0) (cB (.int 0))) (wH GM (gv 0) (b2 LB (cB (.int 10)) (cB (.int 18))))) (aF (aF (Au 4 (cG Fk (aq (gv 0) aH))) dR) (cZ [])) (aF dR (cZ []))) (aF (sZ (T4 (aq (gv 1) aH)) (jZ 5) oV) (aF (Ge 2) dR))))))
def dN:O Bx->Y Bx:=cU 6 pW
def zQ:Ev->Y Ap:=(aF (aF (Fn 8 9 (aq (b2 eY (gv 5) (gv 7)) (aq (b2 eY (gv 5) (b2 iD (b2 fZ (gv 7) (cB (.int 1))) (cB (.int 30)))) aH))) (aF (Au 10 (b2 eY (cG oF (aq (cB (.int 5)) (aq (b2 BU (cB (.int 1000)) (gv 7)) (aq (b1 CW (b2 fZ (cB (.int 1)) (gv 7))) (aq (b1 CW (b2 fZ (cB (.int 1)) (b2 iD (b2 zj (gv 7) (gv 7)) (cB (.int 9))))) aH))))) (b2 iD (gv 2) (cB (.int 4))))) (aF (J2 6 (cG mj (aq (b2 BU (cB (.int 0)) (gv 10)) (aq (b1 CW (cG zG (aq (gv 8) (aq (gv 9) aH)))) (aq (b1 CW (cG UG (aq (gv 8) (aq (gv 9) aH)))) (aq (b2 iD (gv 7) (cB (.int 3))) aH)))))) dR))) (cZ [7,8,9,10]))
def uL:Ev->Y Ap:=(aF (Au 3 (cB (.str "abcd"))) (aF (Au 4 (d7 (T4 (aq (cB (.int 30)) aH)) (jZ 1) ur (b2 zj (b2 eY (gv 0) (b2 JX (gv 1) (cB (.int 8)))) (b2 fZ (cB (.int 1)) (b2 iD (gv 1) (cB (.int 8))))) [3] 1)) (aF (Au 5 (d7 (T4 (aq (cB (.int 30)) aH)) (jZ 2) ur (b2 eY (gv 0) (b2 iD (b2 fZ (b2 zj (cB (.int 7)) (gv 2)) (gv 1)) (cB (.int 30)))) [4,1] 1)) (aF (Au 6 (cG oF aH)) (aF (sZ (T4 (aq (b2 fZ (cB (.int 29)) (b2 iD (gv 0) (cB (.int 2)))) aH)) (jZ 7) zQ) (aF (fK (cG mj (aq (cG lH (aq (cG Ho (aq (gv 4) aH)) aH)) (aq (cG lH (aq (d7 (Hl (cG zB (aq (gv 6) aH))) (yD 4 (c7 (jZ 0) (c7 (jZ 1) (c7 (jZ 2) (c7 (jZ 3) Bh))))) ur (cG mj (aq (b2 BU (cB (.int 0)) (gv 0)) (aq (gv 1) (aq (gv 2) (aq (gv 3) aH))))) [] 4) aH)) (aq (cG mj aH) aH))))) dR))))))
def uM:O Bx->Y Bx:=cU 11 uL
def tO:Ev->Y Ap:=(aF (aF (Au 7 (b2 eY (gv 2) (b2 iD (b2 fZ (gv 6) (b2 eY (gv 0) (cB (.int 2)))) (cB (.int 15))))) (aF (Au 8 (b2 fZ (b2 fZ (Sw (gv 3) wR (Bm (gv 4))) (gv 7)) (Sw (gv 3) (Bm (gv 4)) wR))) (aF (za (wH C6 (b2 iD (b2 eY (gv 0) (cB (.int 3))) (cB (.int 3))) (cB (.int 1))) (aF (aF (Au 8 (b2 zj (b2 eY (gv 2) (b2 JX (gv 6) (cB (.int 8)))) (b2 fZ (cB (.int 1)) (b2 iD (gv 6) (cB (.int 8)))))) dR) (cZ [])) (aF dR (cZ []))) (aF (J2 5 (gv 8)) dR)))) (cZ [6,7,8]))
def uN:Ev->Y Ap:=(aF (Au 2 (cB (.str "abcdefghijklmnopqrstuvwxyz"))) (aF (Au 3 (b1 (T5 "") (d7 (T4 (aq (b2 iD (b2 eY (gv 0) (cB (.int 0))) (cB (.int 6))) aH)) (jZ 2) ur (b2 eY (gv 0) (b2 iD (b2 JX (b2 eY (gv 1) (gv 2)) (cB (.int 40))) (cB (.int 26)))) [2,0] 1))) (aF (Au 4 (b2 iD (b2 eY (gv 0) (cB (.int 1))) (b2 fZ (cG qz (aq (gv 3) aH)) (cB (.int 1))))) (aF (Au 5 (cG oF aH)) (aF (sZ (T4 (aq (gv 1) aH)) (jZ 6) tO) (aF (Ge 5) dR))))))
def qp:O Bx->Y Bx:=cU 9 uN
def qD:Ev->Y Ap:=(aF (aF (Au 9 (bJ 2 dN (aq (b1 CW (bJ 2 gR (aq (gv 0) (aq (b1 CW (b2 fZ (b2 fZ (gv 1) (cB (.int 1))) (gv 8))) aH)))) (aq (cB (.int 4)) aH)))) (aF (Fn 10 11 (aq (b2 iD (b2 eY (gv 9) (cB (.int 0))) (cG MN (aq (cB (.int 1)) (aq (gv 2) aH)))) (aq (b2 iD (b2 eY (gv 9) (cB (.int 1))) (cG MN (aq (cB (.int 1)) (aq (gv 2) aH)))) aH))) (aF (Au 12 (b2 eY (cG oF (aq (b1 CW (b2 fZ (cB (.int 1)) (b2 iD (b2 eY (gv 9) (cB (.int 2))) (cB (.int 3))))) (aq (b1 CW (b2 fZ (cB (.int 1)) (b2 iD (b2 eY (gv 9) (cB (.int 2))) (cB (.int 9))))) (aq (b1 CW (b2 fZ (cB (.int 1)) (b2 iD (b2 eY (gv 9) (cB (.int 2))) (cB (.int 1000))))) aH)))) (b2 iD (b2 eY (gv 5) (cB (.int 4))) (cB (.int 3))))) (aF (za (wH Oo (gv 10) (gv 11)) (aF (aF (J2 7 (cG mj (aq (b2 BU (cB (.int 0)) (gv 12)) (aq (b2 eY (gv 6) (cG F0 (aq (gv 10) (aq (gv 11) aH)))) (aq (b2 eY (gv 6) (cG MN (aq (gv 10) (aq (gv 11) aH)))) (aq (b2 eY (cG oF (aq (cB (.int 0)) (aq (cB (.int 2)) (aq (cB (.int 10)) aH)))) (b2 iD (b2 eY (gv 9) (cB (.int 3))) (cB (.int 3)))) aH)))))) dR) (cZ [])) (aF dR (cZ []))) dR)))) (cZ [8,9,10,11,12]))
def qF:Ev->Y Ap:=(aF (aF (Au 9 (bJ 2 dN (aq (b1 CW (bJ 2 gR (aq (gv 0) (aq (b1 CW (b2 fZ (b2 fZ (gv 1) (cB (.int 1))) (gv 8))) aH)))) (aq (cB (.int 8)) aH)))) (aF (Fn 10 11 (aq (b2 iD (b2 eY (gv 9) (cB (.int 5))) (cG MN (aq (cB (.int 1)) (aq (gv 2) aH)))) (aq (b2 iD (b2 eY (gv 9) (cB (.int 6))) (cG MN (aq (cB (.int 1)) (aq (gv 2) aH)))) aH))) (aF (za (wH Oo (gv 10) (gv 11)) (aF (aF (J2 14 (cG mj (aq (b2 eY (gv 6) (cG F0 (aq (gv 10) (aq (gv 11) aH)))) (aq (b2 eY (gv 6) (cG MN (aq (gv 10) (aq (gv 11) aH)))) (aq (b2 eY (cG oF (aq (cB (.int 2)) (aq (cB (.int 10)) aH))) (b2 iD (b2 eY (gv 9) (cB (.int 7))) (cB (.int 2)))) aH))))) dR) (cZ [])) (aF dR (cZ []))) dR))) (cZ [8,9,10,11]))
def qW:Ev->Y Ap:=(aF (Au 5 (bJ 2 dN (aq (b1 CW (bJ 2 gR (aq (gv 0) (aq (gv 1) aH)))) (aq (cB (.int 6)) aH)))) (aF (Au 6 (cG Ho (aq (bJ 2 qp (aq (gv 5) (aq (gv 2) aH))) aH))) (aF (Au 7 (cG oF aH)) (aF (sZ (T4 (aq (gv 3) aH)) (jZ 8) qD) (aF (Au 13 (d7 (Hl (Kf (Xm (gv 7)))) (yD 4 (c7 (jZ 0) (c7 (jZ 1) (c7 (jZ 2) (c7 (jZ 3) Bh))))) ur (cG mj (aq (b2 BU (cB (.int 0)) (gv 0)) (aq (gv 1) (aq (gv 2) (aq (gv 3) aH))))) [] 4)) (aF (Au 14 (cG oF aH)) (aF (sZ (T4 (aq (gv 4) aH)) (jZ 8) qF) (aF (fK (cG mj (aq (cG lH (aq (gv 6) aH)) (aq (cG lH (aq (gv 13) aH)) (aq (cG lH (aq (Kf (Xm (gv 14))) aH)) aH))))) dR))))))))
def qX:O Bx->Y Bx:=cU 15 qW
def uO:Ev->Y Ap:=(aF (Au 1 (bJ 2 dN (aq (b1 CW (bJ 2 gR (aq (gv 0) (aq (cB (.int 0)) aH)))) (aq (cB (.int 12)) aH)))) (aF (za (wH C6 (b2 iD (b2 eY (gv 1) (cB (.int 9))) (cB (.int 16))) (cB (.int 5))) (aF (fK (bJ 3 uM (aq (b2 JX (b2 eY (gv 1) (cB (.int 9))) (cB (.int 16))) (aq (b2 eY (gv 1) (cB (.int 10))) (aq (b2 eY (gv 1) (cB (.int 11))) aH))))) dR) dR) (aF (Au 2 (b2 iD (b2 eY (gv 1) (cB (.int 6))) (cB (.int 15)))) (aF (fK (bJ 5 qX (aq (gv 0) (aq (cB (.int 0)) (aq (gv 2) (aq (b2 iD (b2 eY (gv 1) (cB (.int 7))) (cB (.int 22))) (aq (b2 iD (b2 eY (gv 1) (cB (.int 8))) (cB (.int 4))) aH))))))) dR))))
def uP:O Bx->Y Bx:=cU 3 uO
def qY:Ev->Y Ap:=(aF (fK (Zv (Hl (gv 0)) (jZ 0) ur (gv 0) (gv 0) [] 1)) dR)
def j8:O Bx->Y Bx:=cU 1 qY
def yH:Ev->Y Ap:=(aF (aF (za (DC (wH C6 (b2 qj (gv 0) (gv 4)) (gv 1)) (wH C6 (b2 qj (gv 0) (gv 4)) (gv 2))) (aF (aF (Zc 0 (gv 3) (gv 4)) dR) (cZ [])) (aF dR (cZ []))) dR) (cZ [4]))
def qZ:Ev->Y Ap:=(aF (aF (Au 3 (cG zG (aq (gv 1) (aq (gv 2) aH)))) (aF (sZ (DO (cG Kl (aq (gv 0) aH))) (jZ 4) yH) dR)) (cZ [3,4]))
def iZ:A1->O (AY×Dt)->O Bx->Y (O (AY×Dt)):=UJ 5 qZ
def yI:Ev->Y Ap:=(aF (aF (Au 7 (b2 qj (gv 4) (b2 eY (gv 6) (cB (.int 1))))) (aF (Au 8 (b2 qj (gv 4) (b2 eY (gv 6) (cB (.int 2))))) (aF (za (wH Oo (gv 7) (gv 8)) (aF (aF (Hw 4 2 iZ (aq (gv 7) (aq (gv 8) aH))) (aF (J2 5 (gv 6)) dR)) (cZ [])) (aF dR (cZ []))) dR))) (cZ [6,7,8]))
def q8:Ev->Y Ap:=(aF (GG (yD 3 (c7 (jZ 1) (c7 (jZ 2) (c7 (jZ 3) Bh)))) (gv 0)) (aF (Au 4 (bJ 1 j8 (aq (gv 1) aH))) (aF (Au 5 (cG oF aH)) (aF (sS 2 (jZ 6) yI) (aF (Ge 5) dR)))))
def gq:O Bx->Y Bx:=cU 9 q8
def xH:Ev->Y Ap:=(aF (fK (yN (Ox B5 (gv 0)) (b2 C6 (cG qz (aq (gv 0) aH)) (gv 1)))) dR)
def oW:O Bx->Y Bx:=cU 2 xH
def xJ:Ev->Y Ap:=(aF (fK (yN (Ox Gj (gv 0)) (HM (Ox BQ (gv 0))))) dR)
def oX:O Bx->Y Bx:=cU 1 xJ
def uQ:Ev->Y Ap:=(aF (fK (yN (bJ 1 oX (aq (gv 0) aH)) (F7 FK FK (cB (.int 1)) (gv 0) (cB (.int 1000))))) dR)
def uR:O Bx->Y Bx:=cU 1 uQ
def rz:Ev->Y Ap:=(aF (fK (yN (Ox sW (gv 0)) (yN (F7 FK FK (cB (.int 1)) (cG qz (aq (gv 0) aH)) (gv 2)) (cG Cs (aq (d7 (Hl (gv 0)) (jZ 1) ur (b2 CC (gv 1) (gv 0)) [1] 1) aH))))) dR)
def rA:O Bx->Y Bx:=cU 3 rz
def Al:Ev->Y Ap:=(aF (fK (bJ 3 rA (aq (gv 0) (aq (cB (.str "abcdefghijklmnopqrstuvwxyz")) (aq (cB (.int 8)) aH))))) dR)
def oY:O Bx->Y Bx:=cU 1 Al
def Ez:Ev->Y Ap:=(aF (za (MF (tV (bJ 2 oW (aq (gv 0) (aq (cB (.int 3)) aH))))) (aF (fK (cB (.bl false))) dR) dR) (aF (GG (yD 3 (c7 (jZ 1) (c7 (jZ 2) (c7 (jZ 3) Bh)))) (gv 0)) (aF (fK (yN (bJ 1 oY (aq (gv 1) aH)) (yN (bJ 1 oY (aq (gv 2) aH)) (yN (b2 DM (gv 1) (gv 2)) (yN (bJ 1 oX (aq (gv 3) aH)) (b2 GM (gv 3) (cB (.int 0)))))))) dR)))
def EY:O Bx->Y Bx:=cU 4 Ez
def uT:Ev->Y Ap:=(aF (fK (yN (bJ 2 oW (aq (gv 0) (aq (cB (.int 4)) aH))) (yN (bJ 1 uR (aq (b2 eY (gv 0) (cB (.int 0))) aH)) (bJ 1 EY (aq (b1 CW (Sw (gv 0) (Bm (cB (.int 1))) wR)) aH))))) dR)
def uU:O Bx->Y Bx:=cU 1 uT
def jc:Ev->Y Ap:=(aF (aF (za (DC (MF (tV (bJ 1 uU (aq (gv 1) aH)))) (wH M6 (gv 1) (b2 eY (gv 0) (cB (.int 1))))) (aF I0 dR) dR) dR) (cZ []))
def jd:O Bx->Y Bx:=cU 2 jc
def vK:Ev->Y Ap:=(aF (aF (Hw 2 2 iZ (aq (b2 qj (gv 2) (gv 4)) (aq (b2 qj (gv 2) (gv 5)) aH))) dR) (cZ [3,4,5,6]))
def oZ:Ev->Y Ap:=(aF (Au 2 (bJ 1 j8 (aq (gv 0) aH))) (aF (sS 1 (yD 4 (c7 (jZ 3) (c7 (jZ 4) (c7 (jZ 5) (c7 (jZ 6) Bh))))) vK) (aF (Ge 2) dR)))
def mH:O Bx->Y Bx:=cU 7 oZ
def pX:Ev->Y Ap:=(aF (fK (cG lH (aq (d7 (Uw (gv 0)) (jZ 2) (wH C6 (b2 qj (gv 1) (gv 2)) (gv 0)) (gv 2) [1,0] 1) aH))) dR)
def jF:O Bx->Y Bx:=cU 2 pX
def Am:Ev->Y Ap:=(aF (Au 3 (bJ 2 mH (aq (gv 0) (aq (gv 1) aH)))) (aF (fK (bJ 2 jF (aq (gv 3) (aq (b2 qj (gv 3) (gv 2)) aH)))) dR))
def wj:O Bx->Y Bx:=cU 4 Am
def xK:Ev->Y Ap:=(aF (O9 (bJ 2 jd (aq (gv 0) (aq (gv 1) aH)))) (aF (GG (yD 3 (c7 (jZ 2) (c7 (jZ 3) (c7 (jZ 4) Bh)))) (gv 0)) (aF (Au 5 (d7 (Hl (gv 3)) (jZ 1) (wH Oo (gv 1) (gv 0)) (gv 1) [1] 1)) (aF (Au 6 (bJ 3 wj (aq (gv 2) (aq (gv 5) (aq (b2 eY (gv 1) (cB (.int 1))) aH))))) (aF (za (wH CC (b2 eY (gv 1) (cB (.int 2))) (gv 6)) (aF (fK (cG mj (aq (cB (.str "stays")) aH))) dR) dR) (aF (fK (cG mj (aq (cB (.str "parts")) (aq (gv 6) (aq (b1 CW (bJ 3 wj (aq (gv 2) (aq (gv 5) (aq (b2 eY (gv 1) (cB (.int 2))) aH))))) aH))))) dR))))))
def o7:O Bx->Y Bx:=cU 7 xK
def zR:Ev->Y Ap:=(aF (aF (Au 7 (b2 eY (d7 (Hl (gv 2)) (jZ 1) (wH CC (gv 0) (gv 1)) (gv 1) [4] 1) (cB (.int 0)))) (aF (Au 8 (b2 eY (d7 (Hl (gv 2)) (jZ 1) (wH CC (gv 0) (gv 1)) (gv 1) [5] 1) (cB (.int 0)))) (aF (za (wH Oo (gv 7) (gv 8)) (aF (aF (Au 2 (b2 fZ (d7 (Hl (gv 2)) (jZ 2) (wH M6 (gv 2) (cG oF (aq (gv 0) (aq (gv 1) aH)))) (gv 2) [7,8] 1) (cG oF (aq (b1 CW (cG Ho (aq (b2 fZ (gv 7) (gv 8)) aH))) aH)))) dR) (cZ [])) (aF dR (cZ []))) dR))) (cZ [3,4,5,6,7,8]))
def uV:Ev->Y Ap:=(aF (Au 2 (d7 (Hl (gv 0)) (jZ 0) ur (b1 CW (cG oF (aq (gv 0) aH))) [] 1)) (aF (sS 1 (yD 4 (c7 (jZ 3) (c7 (jZ 4) (c7 (jZ 5) (c7 (jZ 6) Bh))))) zR) (aF (fK (cG zB (aq (d7 (Hl (gv 2)) (jZ 0) ur (cG lH (aq (gv 0) aH)) [] 1) aH))) dR)))
def m5:O Bx->Y Bx:=cU 9 uV
def Bv:Ev->Y Ap:=(aF (aF (Au 4 (bJ 2 m5 (aq (gv 0) (aq (gv 2) aH)))) (aF (za (MF (tV (cG C' (aq (d7 (Hl (gv 4)) (jZ 1) ur (yN (b2 CC (b2 eY (gv 0) (cB (.int 1))) (gv 1)) (b2 CC (b2 eY (gv 0) (cB (.int 2))) (gv 1))) [3] 1) aH)))) (aF (aF (J2 2 (gv 3)) dR) (cZ [])) (aF dR (cZ []))) dR)) (cZ [3,4]))
def xM:Ev->Y Ap:=(aF (Au 2 (cG oF aH)) (aF (sS 1 (jZ 3) Bv) (aF (Ge 2) dR)))
def xO:O Bx->Y Bx:=cU 5 xM
def rB:Ev->Y Ap:=(aF (fK (cG GE (aq (d7 (Hl (gv 0)) (jZ 0) ur (b2 eY (gv 0) (cB (.int 0))) [] 1) aH))) dR)
def nT:O Bx->Y Bx:=cU 1 rB
def j9:Ev->Y Ap:=(aF (aF (za (DC (MF (tV (bJ 1 oY (aq (gv 1) aH)))) (wH IF (gv 1) (b2 eY (gv 0) (cB (.int 0))))) (aF I0 dR) dR) dR) (cZ []))
def iG:O Bx->Y Bx:=cU 2 j9
def uW:Ev->Y Ap:=(aF (za (wH C6 (b2 eY (gv 0) (cB (.int 1))) (gv 1)) (aF (fK (b2 eY (gv 0) (cB (.int 2)))) dR) dR) (aF (za (wH C6 (b2 eY (gv 0) (cB (.int 2))) (gv 1)) (aF (fK (b2 eY (gv 0) (cB (.int 1)))) dR) dR) (aF (fK (cB .non)) dR)))
def m7:O Bx->Y Bx:=cU 2 uW
def Bw:Ev->Y Ap:=(aF (aF (J2 2 (b2 qj (gv 0) (gv 3))) (aF (Au 3 (bJ 2 m7 (aq (b2 qj (gv 0) (gv 3)) (aq (gv 3) aH)))) dR)) (cZ []))
def xP:Ev->Y Ap:=(aF (Au 2 (cG oF aH)) (aF (Au 3 (gv 1)) (aF (D1 (wH DG (b2 qj (gv 0) (gv 3)) (cB .non)) Bw 70) (aF (Ge 2) dR))))
def xQ:O Bx->Y Bx:=cU 4 xP
def HX:Ev->Y Ap:=(aF (aF (Au 7 (bJ 2 m7 (aq (gv 6) (aq (gv 5) aH)))) (aF (za (F6 (wH DG (gv 7) (cB .non)) (wH FC (gv 7) (gv 3))) (aF (aF (Zc 3 (gv 6) (gv 7)) (aF (J2 4 (gv 7)) dR)) (cZ [])) (aF dR (cZ []))) dR)) (cZ [6,7]))
def HY:Ev->Y Ap:=(aF (aF (GT 5 4 (cB (.int 0))) (aF (sS 0 (jZ 6) HX) dR)) (cZ [5,6,7]))
def Fd:Ev->Y Ap:=(aF (Au 3 (b2 Pa (gv 1) (cB .non))) (aF (Au 4 (cG oF (aq (gv 1) aH))) (aF (D1 (tV (gv 4)) HY 70) (aF (za (wH FC (gv 2) (gv 3)) (aF (fK (cB .non)) dR) dR) (aF (fK (b2 FF (bJ 2 xQ (aq (gv 3) (aq (gv 2) aH))) (b1 TV (cB (.int 1))))) dR)))))
def Fe:O Bx->Y Bx:=cU 8 Fd
def Ao:Ev->Y Ap:=(aF (O9 (bJ 2 iG (aq (gv 0) (aq (gv 1) aH)))) (aF (O9 (bJ 2 iG (aq (gv 0) (aq (gv 2) aH)))) (aF (fK (bJ 3 Fe (aq (b1 CW (bJ 1 gq (aq (gv 0) aH))) (aq (gv 1) (aq (gv 2) aH))))) dR)))
def rR:O Bx->Y Bx:=cU 3 Ao
def uX:Ev->Y Ap:=(aF (fK (b2 fZ (cG mj (aq (b2 BU (cB (.int 0)) (b2 eY (gv 0) (cB (.int 0)))) aH)) (Sw (gv 0) (Bm (cB (.int 1))) wR))) dR)
def jR:O Bx->Y Bx:=cU 1 uX
def ni:Ev->Y Ap:=(aF (aF (za (wH M6 (gv 2) (gv 1)) (aF (Au 3 (bJ 3 rR (aq (gv 0) (aq (b2 eY (gv 2) (cB (.int 1))) (aq (b2 eY (gv 2) (cB (.int 2))) aH))))) (aF (za (DC (wH Ff (gv 3) (cB .non)) (MF (tV (cG Cs (aq (d7 (Hl (gv 3)) (jZ 1) ur (b2 FG (bJ 1 jR (aq (gv 1) aH)) (bJ 1 jR (aq (gv 0) aH))) [2] 1) aH))))) (aF (fK (cB (.bl false))) dR) dR) (aF (za (wH Oo (bJ 2 o7 (aq (gv 0) (aq (gv 2) aH))) (cG mj (aq (cB (.str "stays")) aH))) (aF (fK (cB (.bl false))) dR) dR) dR))) dR) dR) (cZ [2,3]))
def gA:Ev->Y Ap:=(aF (sZ (DO (b2 eY (gv 0) (cB (.int 1)))) (jZ 2) ni) (aF (fK (cB (.bl true))) dR))
def gB:O Bx->Y Bx:=cU 4 gA
def oK:Ev->Y Ap:=(aF (aF (Au 5 (bJ 2 m5 (aq (b2 eY (gv 0) (cB (.int 0))) (aq (b1 CW (d7 (Hl (b2 eY (gv 0) (cB (.int 1)))) (jZ 1) (wH GM (b2 eY (gv 1) (cB (.int 0))) (gv 0)) (gv 1) [4] 1)) aH)))) (aF (za (tV (cG C' (aq (d7 (Hl (gv 5)) (jZ 2) ur (yN (b2 CC (gv 0) (gv 2)) (b2 CC (gv 1) (gv 2))) [1,2] 1) aH))) (aF (aF (Au 3 (gv 4)) dR) (cZ [])) (aF dR (cZ []))) dR)) (cZ [4,5]))
def je:Ev->Y Ap:=(aF (Au 3 (cB (.int 0))) (aF (sZ (DO (b1 Z7 (d7 (Hl (b2 eY (gv 0) (cB (.int 1)))) (jZ 0) ur (b2 eY (gv 0) (cB (.int 0))) [] 1))) (jZ 4) oK) (aF (fK (gv 3)) dR)))
def jf:O Bx->Y Bx:=cU 6 je
def qP:Ev->Y Ap:=(aF (aF (Au 3 (bJ 3 rR (aq (gv 0) (aq (gv 1) (aq (gv 2) aH))))) (aF (za (F6 (wH DG (gv 3) (cB .non)) (wH Oo (gv 3) (cG oF aH))) (aF (za (wH Oo (cG Vd (aq (d7 (Hl (gv 3)) (jZ 0) ur (b2 eY (gv 0) (cB (.int 0))) [] 1) aH)) (bJ 3 jf (aq (gv 0) (aq (gv 1) (aq (gv 2) aH))))) (aF (fK (cB (.bl false))) dR) dR) dR) dR) dR)) (cZ [2,3]))
def qQ:Ev->Y Ap:=(aF (aF (sZ (DO (b2 K1 (b2 eY (gv 0) (cB (.int 0))) (b2 eY (cG oF (aq (cB (.int 1)) (aq (cB (.int 6)) aH))) (cG W4 (aq (b2 F3 (cG qz (aq (b2 eY (gv 0) (cB (.int 0))) aH)) (cB (.int 14))) aH))))) (jZ 2) qP) dR) (cZ [1,2,3]))
def kh:Ev->Y Ap:=(aF (sZ (DO (Sw (b2 eY (gv 0) (cB (.int 0))) wR (Bm (b2 eY (cG oF (aq (cB (.int 4)) (aq (cB (.int 1)) aH))) (cG W4 (aq (b2 F3 (cG qz (aq (b2 eY (gv 0) (cB (.int 0))) aH)) (cB (.int 14))) aH)))))) (jZ 1) qQ) (aF (fK (cB (.bl true))) dR))
def kj:O Bx->Y Bx:=cU 4 kh
def rC:Ev->Y Ap:=(aF (fK (d7 (Uw (gv 0)) (jZ 1) (wH C6 (b2 qj (gv 0) (gv 1)) (gv 1)) (b1 CW (bJ 2 jF (aq (gv 0) (aq (gv 1) aH)))) [0] 1)) dR)
def rD:O Bx->Y Bx:=cU 1 rC
def xR:Ev->Y Ap:=(aF (fK (bJ 1 rD (aq (bJ 2 mH (aq (gv 0) (aq (gv 1) aH))) aH))) dR)
def xT:O Bx->Y Bx:=cU 2 xR
def xU:Ev->Y Ap:=(aF (fK (bJ 2 xT (aq (b2 eY (gv 0) (cB (.int 0))) (aq (b2 eY (gv 0) (cB (.int 1))) aH)))) dR)
def mJ:O Bx->Y Bx:=cU 1 xU
def kE:Ev->Y Ap:=(aF (Au 3 (b2 eY (gv 0) (cB (.int 0)))) (aF (za (wH DM (cG qz (aq (gv 3) aH)) (cB (.int 2))) (aF (fK (cB (.bl true))) dR) dR) (aF (Au 4 (b2 iD (b2 eY (gv 2) (cB (.int 0))) (b2 BU (cG qz (aq (gv 3) aH)) (cB (.int 1))))) (aF (Au 5 (b2 fZ (b2 fZ (gv 4) (cB (.int 1))) (b2 iD (b2 eY (gv 2) (cB (.int 1))) (b2 BU (b2 BU (cG qz (aq (gv 3) aH)) (cB (.int 1))) (gv 4))))) (aF (Au 6 (cG mj (aq (b1 CW (b2 fZ (cB (.int 1)) (b2 iD (b2 eY (gv 2) (cB (.int 2))) (cB (.int 9))))) (aq (b2 eY (gv 3) (gv 4)) (aq (b2 eY (gv 3) (gv 5)) (aq (cB (.int 9)) aH)))))) (aF (Au 7 (d7 (Hl (cG K6 (aq (d7 (Hl (b2 fZ (b2 eY (gv 0) (cB (.int 1))) (cG mj (aq (gv 6) aH)))) (jZ 0) ur (cG mj (aq (b1 CW (bJ 1 jR (aq (gv 0) aH))) (aq (gv 0) aH))) [] 1) aH))) (jZ 0) ur (b2 eY (gv 0) (cB (.int 1))) [] 1)) (aF (Au 8 (cG mj (aq (gv 3) (aq (cG lH (aq (gv 7) aH)) (aq (b2 eY (gv 0) (cB (.int 2))) aH))))) (aF (Au 9 (bJ 1 gq (aq (gv 8) aH))) (aF (za (wH M6 (gv 6) (gv 9)) (aF (fK (yN (b2 C6 (gv 9) (gv 1)) (b2 C6 (bJ 1 mJ (aq (gv 8) aH)) (bJ 1 mJ (aq (gv 0) aH))))) dR) dR) (aF (Au 10 (b2 BU (cG qz (aq (bJ 1 mJ (aq (gv 0) aH)) aH)) (cG qz (aq (bJ 1 mJ (aq (gv 8) aH)) aH)))) (aF (fK (yN (b2 C6 (gv 10) (b2 BU (cG qz (aq (gv 9) aH)) (cG qz (aq (gv 1) aH)))) (b2 CC (gv 10) (cG oF (aq (cB (.int 0)) (aq (cB (.int 1)) aH)))))) dR)))))))))))
def kJ:O Bx->Y Bx:=cU 11 kE
def Vm:Ev->Y Ap:=(aF (aF (za (wH Oo (b2 eY (bJ 2 o7 (aq (gv 3) (aq (gv 4) aH))) (cB (.int 0))) (cB (.str "parts"))) (aF (fK (cB (.bl false))) dR) dR) dR) (cZ [4]))
def IN:Ev->Y Ap:=(aF (Au 1 (bJ 1 uP (aq (gv 0) aH))) (aF (Au 2 (bJ 1 gq (aq (gv 1) aH))) (aF (Au 3 (cG mj (aq (b2 eY (gv 1) (cB (.int 0))) (aq (cG lH (aq (gv 2) aH)) (aq (cG mj aH) aH))))) (aF (sS 2 (jZ 4) Vm) (aF (Au 5 (bJ 2 xO (aq (b2 eY (gv 1) (cB (.int 0))) (aq (b1 CW (b2 F5 (b2 eY (gv 1) (cB (.int 1))) (b1 TV (cB (.int 1))))) aH)))) (aF (za (DC (wH Oo (cG qz (aq (gv 5) aH)) (cG qz (aq (gv 2) aH))) (wH F3 (bJ 1 nT (aq (gv 5) aH)) (bJ 1 nT (aq (gv 2) aH)))) (aF (fK (cB (.bl false))) dR) dR) (aF (za (DC (MF (tV (bJ 2 gB (aq (gv 1) (aq (gv 2) aH))))) (MF (tV (bJ 1 kj (aq (gv 1) aH))))) (aF (fK (cB (.bl false))) dR) dR) (aF (fK (bJ 3 kJ (aq (gv 1) (aq (gv 2) (aq (b1 CW (Sw (bJ 2 dN (aq (b1 CW (bJ 2 gR (aq (gv 0) (aq (cB (.int 1)) aH)))) (aq (cB (.int 7)) aH))) (Bm (cB (.int 4))) wR)) aH))))) dR))))))))
def F_law:O Bx->Y Bx:=cU 6 IN
end
end G16
end
section
set_option synthInstance.maxSize 100000
namespace G16
open L2 P1
set_option genInjectivity false
set_option genSizeOf false
structure T (K:B1) (mg:Str->Option Value) where
 gU:DQ K mg "_law_cell" La ["_law_script","_law_k"]
 dO:DQ K mg "_law_numbers" Br ["_law_cell_here","_law_many"]
 uY:DQ K mg "_law_chain" Hz ["_law_x","_law_turn","_law_weigh"]
 uZ:DQ K mg "_law_names" HB ["_law_xs","_law_many"]
 rE:DQ K mg "_law_ground" Ep ["_law_script","_law_at","_law_many","_law_reasons","_law_bars"]
 u0:DQ K mg "_law_drawn" HD ["_law_script"]
 kO:DQ K mg "lone_heads" Er ["names"]
 cW:DQ K mg "join_heads" Es ["heads","one","other"]
 gC:DQ K mg "holding_of" Et ["ground"]
 o8:DQ K mg "is_tuple" Lb ["thing","many"]
 o9:DQ K mg "is_whole" Ld ["thing"]
 u5:DQ K mg "is_weight" HF ["thing"]
 rG:DQ K mg "is_text_of" Eu ["thing","signs","longest"]
 pq:DQ K mg "is_name" Pz ["thing"]
 Fg:DQ K mg "is_bar" Vk ["thing"]
 u6:DQ K mg "is_reason" HJ ["thing"]
 jg:DQ K mg "refuse_no_reason" tL ["ground","reason"]
 pA:DQ K mg "heads_by" Le ["names","reasons"]
 jG:DQ K mg "names_under" Bt ["heads","head"]
 wz:DQ K mg "part_by" PJ ["names","reasons","name"]
 pB:DQ K mg "hangs_on" Lf ["ground","reason"]
 nj:DQ K mg "_law_parts" HN ["_law_names_here","_law_reasons"]
 xV:DQ K mg "_law_held" Lg ["_law_names_here","_law_reasons"]
 nU:DQ K mg "_law_weight" Ew ["_law_reasons"]
 iH:DQ K mg "refuse_no_name" vY ["ground","name"]
 nu:DQ K mg "other_end" HS ["reason","name"]
 xW:DQ K mg "way_back" Lh ["came_by","end"]
 Fi:DQ K mg "way_by" Vl ["reasons","start","end"]
 rT:DQ K mg "why_one" PK ["ground","one","other"]
 jT:DQ K mg "_law_place" HW ["_law_reason"]
 gJ:DQ K mg "_law_left_out_right" qm ["_law_ground_here","_law_held_here"]
 jh:DQ K mg "_law_heaviest_way" tM ["_law_ground_here","_law_one","_law_other"]
 kW:DQ K mg "_law_ways_right" vZ ["_law_ground_here"]
 rH:DQ K mg "sets_under" Ey ["heads"]
 xX:DQ K mg "parts_by" Li ["names","reasons"]
 mK:DQ K mg "parts_of" Lj ["ground"]
 kY:DQ K mg "_law_more_right" wg ["_law_ground_here","_law_held_here","_law_xs"]
 x_law:DQ K mg "law" s_law ["_law_script"]
 amK:mg "abs"=none
 ail:mg "all"=none
 ain:mg "any"=none
 akv:mg "bool"=none
 aae:mg "int"=none
 rJ:mg "isinstance"=none
 tW:mg "len"=none
 akx:mg "list"=none
 Ln:mg "max"=none
 Vn:mg "min"=none
 u9:mg "range"=none
 aeD:mg "set"=none
 nW:mg "sorted"=none
 amL:mg "str"=none
 amM:mg "sum"=none
 pY:mg "tuple"=none
 abA:∃tk,mg "LETTERS"=some (.str "abcdefghijklmnopqrstuvwxyz" tk)
 Lq:∃tk,mg "LONGEST_NAME"=some (.int 8 tk)
 M9:∃tk,mg "MOST_WEIGHT"=some (.int 1000 tk)
section
variable(t:T K mg)
theorem Vo:bC ["_law_script","_law_k","_law_state","_law_cell_here"] ["_law_script","_law_k"] (aO La):=jy
theorem Vp:Ok P w base t.gU 1 2 gR:=yO (g:=xG) t.gU Vo λ_ _ _ _ _ _ a b nd=>(au (gk (cJ QJ (ak 1) (bD mD S t.tW mC (aj (ak 0) aA)) (cI _)) (au (bZ (bh (ak 0) (ak 1))) aJ) aJ) (au (bx 2 nd (aR cN (aR sV aC (aR dD (aR dD (aR sV (ak 1) (ak 1)) (aR sV aC (ak 1))) aC)) aC)) (au (sO PassesOwn.never S (Ad (J0 (ak 0) sX (sY aC))) (aQ 3 nd) (bw [3] (au (bx 2 nd (aR cN (aR dD (aR sV (ak 2) aC) (ak 3)) aC)) aJ))) (au (bZ (ak 2)) aJ))))
theorem Lr:bC ["_law_cell_here","_law_many","_law_found","_law_state","_law_digits","_law_k"] ["_law_cell_here","_law_many"] (aO Br):=jy
theorem Ls:Ok P w base t.dO 1 2 dN:=yO (g:=pW) t.dO Lr λ_ _ _ _ _ _ a b nd=>(au (bx 2 nd (gP aA)) (au (bx 3 nd (aR cN (aR sV (aR dD (aR cN (ak 0) aC) aC) aC) aC)) (au (bx 4 nd aC) (au (gk (Qu (BZ (cJ QJ (ak 0) aC (cI _)) (wM (cJ MS (ak 0) (aR UP aC aC) (cI _))))) (bw [] (au (bx 4 nd (bD rL S t.amK sj (aj (ak 0) aA))) aJ)) (bw [] aJ)) (au (sO PassesOwn.never S (qe S t.u9 (aj (ak 1) aA)) (aQ 5 nd) (bw [5] (au (bx 3 nd (aR cN (aR dD (aR dD (aR sV (ak 3) (aR dD (aR cN (ak 3) aC) aC)) (aR sV aC (ak 5))) aC) aC)) (au (wO 2 (bh (gP (aj (ak 3) (aj (aR cN (ak 4) aC) aA))) (fJ W5 S t.aae QG (aj (lG Y7 (ak 4) aC (cI _)) aA)))) (au (bx 4 nd (aR Dv (ak 4) aC)) aJ))))) (au (Ab 2) aJ))))))
theorem Rp:bC ["_law_x","_law_turn","_law_weigh","_law_letters","_law_names_here","_law_order","_law_some","_law_k","_law_a","_law_b","_law_weight_here"] ["_law_x","_law_turn","_law_weigh"] (aO Hz):=jy
theorem Rq:Ok P w base t.uY 1 3 uM:=yO (g:=uL) t.uY Rp λ_ _ _ _ _ _ a b nd=>(au (bx 3 nd Gs) (au (bx 4 nd (iB ["_law_k"] (qT ["_law_letters"] [3]) S (WW (qe S t.u9 (aj aC aA))) (λ_ _ _ _=>(sh 1)) (λ_ _ _ _=>cR) (λ_ _ _ _=>(aR sV (bh (ak 0) (aR Dv (ak 1) aC)) (aR dD aC (aR cN (ak 1) aC)))) (cM))) (au (Dr 5 ["_law_k"] (qT ["_law_names_here","_law_turn"] [4,1]) S nd (WW (qe S t.u9 (aj aC aA))) (λ_ _ _ _=>(sh 2)) (λ_ _ _ _=>cR) (λ_ _ _ _=>(bh (ak 0) (aR cN (aR dD (aR sV aC (ak 2)) (ak 1)) aC))) (cM)) (au (bx 6 nd (gP aA)) (au (sO PassesOwn.never S (qe S t.u9 (aj (aR dD aC (aR cN (ak 0) aC)) aA)) (aQ 7 nd) (bw [7,8,9,10] (au (WQ 8 9 S nd (aj (bh (ak 5) (ak 7)) (aj (bh (ak 5) (aR cN (aR dD (ak 7) aC) aC)) aA))) (au (bx 10 nd (bh (gP (aj aC (aj (aR sU aC (ak 7)) (aj (jx (aR dD aC (ak 7))) (aj (jx (aR dD aC (aR cN (aR sV (ak 7) (ak 7)) aC))) aA))))) (aR cN (ak 2) aC))) (au (wO 6 (jJ (aj (aR sU aC (ak 10)) (aj (jx (bD (Zx S) S t.Vn JZ (aj (ak 8) (aj (ak 9) aA)))) (aj (jx (bD (e8 S) S t.Ln Ci (aj (ak 8) (aj (ak 9) aA)))) (aj (aR cN (ak 7) aC) aA)))))) aJ))))) (au (bZ (jJ (aj (fJ nM S t.pY lK (aj (bD Gp S t.nW rQ (aj (ak 4) aA)) aA)) (aj (fJ nM S t.pY lK (aj (iB ["_law_weight_here","_law_a","_law_b","_law_k"] (qT [] []) S (fB (bD Ud S t.nW rQ (aj (ak 6) aA))) (λ_ _ _ _=>(Cd S (cL (sh 0) (cL (sh 1) (cL (sh 2) (cL (sh 3) wN)))))) (λ_ _ _ _=>cR) (λ_ _ _ _=>(jJ (aj (aR sU aC (ak 0)) (aj (ak 1) (aj (ak 2) (aj (ak 3) aA)))))) (OH (qg (cM) (qg (cM) (qg (cM) (qg (cM) Y0)))))) aA)) (aj (jJ aA) aA))))) aJ))))))
theorem Rr:bC ["_law_xs","_law_many","_law_letters","_law_stem","_law_at","_law_found","_law_k","_law_mark","_law_name"] ["_law_xs","_law_many"] (aO HB):=jy
theorem Rt:Ok P w base t.uZ 1 2 qp:=yO (g:=uN) t.uZ Rr λ_ _ _ _ _ _ b a nd=>(au (bx 2 nd Gs) (au (bx 3 nd (mi (iB ["_law_k"] (qT ["_law_letters","_law_xs"] [2,0]) S (WW (qe S t.u9 (aj (aR cN (bh (ak 0) aC) aC) aA))) (λ_ _ _ _=>(sh 2)) (λ_ _ _ _=>cR) (λ_ _ _ _=>(bh (ak 0) (aR cN (aR Dv (bh (ak 1) (ak 2)) aC) aC))) (cM)))) (au (bx 4 nd (aR cN (bh (ak 0) aC) (aR dD (bD mD S t.tW mC (aj (ak 3) aA)) aC))) (au (bx 5 nd (gP aA)) (au (sO PassesOwn.never S (qe S t.u9 (aj (ak 1) aA)) (aQ 6 nd) (bw [6,7,8] (au (bx 7 nd (bh (ak 2) (aR cN (aR dD (ak 6) (bh (ak 0) aC)) aC))) (au (bx 8 nd (aR dD (aR dD (J0 (ak 3) sX (sY (ak 4))) (ak 7)) (J0 (ak 3) (sY (ak 4)) sX))) (au (gk (cJ (of_eq a) (aR cN (bh (ak 0) aC) aC) aC (cI _)) (bw [] (au (bx 8 nd (aR sV (bh (ak 2) (aR Dv (ak 6) aC)) (aR dD aC (aR cN (ak 6) aC)))) aJ)) (bw [] aJ)) (au (wO 5 (ak 8)) aJ)))))) (au (Ab 5) aJ))))))
theorem Nb:bC ["_law_script","_law_at","_law_many","_law_reasons","_law_bars","_law_head","_law_names_here","_law_told","_law_k","_law_xs","_law_a","_law_b","_law_weight_here","_law_found","_law_shut"] ["_law_script","_law_at","_law_many","_law_reasons","_law_bars"] (aO Ep):=jy
theorem Nf(d:Ok P w base t.gU 1 2 gR)(e:Ok P w base t.uZ 1 2 qp)(c:Ok P w base t.dO 1 2 dN):Ok P w base t.rE 2 5 qX:=yO (g:=qW) t.rE Nb λ_ _ _ _ _ _ a b nd=>(au (bx 5 nd (bU t.dO c a (aj (jx (bU t.gU d a (aj (ak 0) (aj (ak 1) aA)))) (aj aC aA)))) (au (bx 6 nd (bD Gp S t.nW rQ (aj (bU t.uZ e a (aj (ak 5) (aj (ak 2) aA))) aA))) (au (bx 7 nd (gP aA)) (au (sO PassesOwn.never S (qe S t.u9 (aj (ak 3) aA)) (aQ 8 nd) (bw [8,9,10,11,12] (au (bx 9 nd (bU t.dO c a (aj (jx (bU t.gU d a (aj (ak 0) (aj (jx (aR dD (aR dD (ak 1) aC) (ak 8))) aA)))) (aj aC aA)))) (au (WQ 10 11 S nd (aj (aR cN (bh (ak 9) aC) (bD (Gq S) S t.Ln Ci (aj aC (aj (ak 2) aA)))) (aj (aR cN (bh (ak 9) aC) (bD (Gq S) S t.Ln Ci (aj aC (aj (ak 2) aA)))) aA))) (au (bx 12 nd (bh (gP (aj (jx (aR dD aC (aR cN (bh (ak 9) aC) aC))) (aj (jx (aR dD aC (aR cN (bh (ak 9) aC) aC))) (aj (jx (aR dD aC (aR cN (bh (ak 9) aC) aC))) aA)))) (aR cN (bh (ak 5) aC) aC))) (au (gk (cJ (Bj b) (ak 10) (ak 11) (cI _)) (bw [] (au (wO 7 (jJ (aj (aR sU aC (ak 12)) (aj (bh (ak 6) (bD (Na S) S t.Vn JZ (aj (ak 10) (aj (ak 11) aA)))) (aj (bh (ak 6) (bD (Gq S) S t.Ln Ci (aj (ak 10) (aj (ak 11) aA)))) (aj (bh (gP (aj aC (aj aC (aj aC aA)))) (aR cN (bh (ak 9) aC) aC)) aA)))))) aJ)) (bw [] aJ)) aJ)))))) (au (Dr 13 ["_law_weight_here","_law_a","_law_b","_law_k"] (qT [] []) S nd (fB (Zu S S t.nW (Zt S b S t.aeD (ak 7)))) (λ_ _ _ _=>(Cd S (cL (sh 0) (cL (sh 1) (cL (sh 2) (cL (sh 3) wN)))))) (λ_ _ _ _=>cR) (λ_ _ _ _=>(jJ (aj (aR sU aC (ak 0)) (aj (ak 1) (aj (ak 2) (aj (ak 3) aA)))))) (OH (qg (cM) (qg (cM) (qg (cM) (qg (cM) Y0)))))) (au (bx 14 nd (gP aA)) (au (sO PassesOwn.never S (qe S t.u9 (aj (ak 4) aA)) (aQ 8 nd) (bw [8,9,10,11] (au (bx 9 nd (bU t.dO c a (aj (jx (bU t.gU d a (aj (ak 0) (aj (jx (aR dD (aR dD (ak 1) aC) (ak 8))) aA)))) (aj aC aA)))) (au (WQ 10 11 S nd (aj (aR cN (bh (ak 9) aC) (bD (Gq S) S t.Ln Ci (aj aC (aj (ak 2) aA)))) (aj (aR cN (bh (ak 9) aC) (bD (Gq S) S t.Ln Ci (aj aC (aj (ak 2) aA)))) aA))) (au (gk (cJ (Bj b) (ak 10) (ak 11) (cI _)) (bw [] (au (wO 14 (jJ (aj (bh (ak 6) (bD (Na S) S t.Vn JZ (aj (ak 10) (aj (ak 11) aA)))) (aj (bh (ak 6) (bD (Gq S) S t.Ln Ci (aj (ak 10) (aj (ak 11) aA)))) (aj (bh (gP (aj aC (aj aC aA))) (aR cN (bh (ak 9) aC) aC)) aA))))) aJ)) (bw [] aJ)) aJ))))) (au (bZ (jJ (aj (fJ nM S t.pY lK (aj (ak 6) aA)) (aj (fJ nM S t.pY lK (aj (ak 13) aA)) (aj (fJ nM S t.pY lK (aj (Zu S S t.nW (Zt S b S t.aeD (ak 14))) aA)) aA))))) aJ))))))))
theorem Ru:bC ["_law_script","_law_head","_law_many"] ["_law_script"] (aO HD):=jy
theorem Rv(e:Ok P w base t.gU 1 2 gR)(b:Ok P w base t.uY 1 3 uM)(c:Ok P w base t.rE 2 5 qX)(d:Ok P w base t.dO 1 2 dN):Ok P w base t.u0 3 1 uP:=yO (g:=uO) t.u0 Ru λ_ _ _ _ _ _ a f nd=>(au (bx 1 nd (bU t.dO d a (aj (jx (bU t.gU e a (aj (ak 0) (aj aC aA)))) (aj aC aA)))) (au (gk (cJ (of_eq f) (aR cN (bh (ak 1) aC) aC) aC (cI _)) (au (bZ (bU t.uY b a (aj (aR Dv (bh (ak 1) aC) aC) (aj (bh (ak 1) aC) (aj (bh (ak 1) aC) aA))))) aJ) aJ) (au (bx 2 nd (aR cN (bh (ak 1) aC) aC)) (au (bZ (bU t.rE c a (aj (ak 0) (aj aC (aj (ak 2) (aj (aR cN (bh (ak 1) aC) aC) (aj (aR cN (bh (ak 1) aC) aC) aA))))))) aJ))))
theorem Ng:bC ["names"] ["names"] (aO Er):=jy
theorem Nh:Ok P w base t.kO 1 1 j8:=yO (g:=qY) t.kO Ng λ_ _ _ _ _ _ b a nd=>(au (bZ (XL a ["name"] (qT [] []) S (fB (ak 0)) (λ_ _ _ _=>(sh 0)) (λ_ _ _ _=>cR) (λ_ _ _ _=>(ak 0)) (λ_ _ _ _=>(ak 0)) (cM))) aJ)
theorem BJ:bC ["heads","one","other","head","name"] ["heads","one","other"] (aO Es):=jy
theorem Ni:yX P w K mg base Qt 1 t.cW.f t.cW.fd ["heads","one","other"] (GA K 2 iZ):=by
 unfold iZ;refine aS (k:=0) (g:=qZ) t.cW.F BJ S S λc A outer s H E b=>?_;have a:=Y9 b;have nd:=BJ.nd;exact(bw [3,4] (au (bx 3 nd (bD (Zx S) S t.Vn JZ (aj (ak 1) (aj (ak 2) aA)))) (au (sO PassesOwn.never S (Ad (fJ (XY S) S t.akx mT (aj (ak 0) aA))) (aQ 4 nd) (bw [4] (au (gk (Qu (BZ (cJ (of_eq a) (lX a (ak 0) (ak 4)) (ak 1) (cI _)) (wM (cJ (of_eq a) (lX a (ak 0) (ak 4)) (ak 2) (cI _))))) (bw [] (au (Zd 0 a (ak 3) (ak 4)) aJ)) (bw [] aJ)) aJ))) aJ)))
theorem Nj:bC ["ground","names","reasons","bars","heads","holding","reason","one","other"] ["ground"] (aO Et):=jy
theorem Nk(e:yX P w K mg base Qt 1 t.cW.f t.cW.fd ["heads","one","other"] (GA K 2 iZ))(d:Ok P w base t.kO 1 1 j8):Ok P w base t.gC 2 1 gq:=yO (g:=q8) t.gC Nj λ_ _ _ _ _ _ c a nd=>(au (WM (ak 0) (Cd S (cL (aQ 1 nd) (cL (aQ 2 nd) (cL (aQ 3 nd) wN))))) (au (bx 4 nd (bU t.kO d c (aj (ak 1) aA))) (au (bx 5 nd (gP aA)) (au (Ae 2 PassesOwn.never S (aQ 6 nd) (bw [6,7,8] (au (bx 7 nd (lX a (ak 4) (bh (ak 6) aC))) (au (bx 8 nd (lX a (ak 4) (bh (ak 6) aC))) (au (gk (cJ (Bj a) (ak 7) (ak 8) (cI _)) (bw [] (au (ZC 4 e (c.mono ()) S t.cW.m t.cW.k t.cW.b (aj (ak 7) (aj (ak 8) aA))) (au (wO 5 (ak 6)) aJ))) (bw [] aJ)) aJ))))) (au (Ab 5) aJ)))))
theorem Vq:bC ["thing","many"] ["thing","many"] (aO Lb):=jy
theorem Vr:Ok P w base t.o8 1 2 oW:=yO (g:=xH) t.o8 Vq λ_ _ _ _ _ _ b a nd=>(au (bZ (lZ (QH (ak 0) S t.rJ S t.pY) (vH (lG (of_eq a) (bD mD S t.tW mC (aj (ak 0) aA)) (ak 1) (cI _))))) aJ)
theorem Vs:bC ["thing"] ["thing"] (aO Ld):=jy
theorem Vt:Ok P w base t.o9 1 1 oX:=yO (g:=xJ) t.o9 Vs λ_ _ _ _ _ _ a b nd=>(au (bZ (lZ (W2 (ak 0) S t.rJ S t.aae) (vH (lb (TY (ak 0) S t.rJ S t.akv))))) aJ)
theorem Rw:bC ["thing"] ["thing"] (aO HF):=jy
theorem Rx(c:Ok P w base t.o9 1 1 oX):Ok P w base t.u5 2 1 uR:=yO (g:=uQ) t.u5 Rw λ_ _ _ _ _ _ a e nd=>by
 obtain⟨d,b⟩:=t.M9;exact(au (bZ (lZ (bU t.o9 c a (aj (ak 0) aA)) (vH (Tc CO CO aC (ak 0) (Te S b))))) aJ)
theorem Nq:bC ["thing","signs","longest"] ["thing","signs","longest"] (aO Eu):=jy
theorem Nr:Ok P w base t.rG 1 3 rA:=yO (g:=rz) t.rG Nq λ_ _ _ _ _ _ a b nd=>(au (bZ (lZ (W3 (ak 0) S t.rJ S t.amL) (lZ (Tc CO CO aC (bD mD S t.tW mC (aj (ak 0) aA)) (ak 2)) (vH (bD (Re S) S t.ail Of (aj (iB ["sign"] (qT ["signs"] [1]) S (fB (ak 0)) (λ_ _ _ _=>(sh 1)) (λ_ _ _ _=>cR) (λ_ _ _ _=>(lG Dz (ak 1) (ak 0) (by with_unfolding_all rfl))) (cM)) aA)))))) aJ)
theorem Yc:bC ["thing"] ["thing"] (aO Pz):=jy
theorem Yd(a:Ok P w base t.rG 1 3 rA):Ok P w base t.pq 2 1 oY:=yO (g:=Al) t.pq Yc λ_ _ _ _ _ _ c h nd=>by
 obtain⟨e,d⟩:=t.abA;obtain⟨f,b⟩:=t.Lq;exact(au (bZ (bU t.rG a c (aj (ak 0) (aj (Y3 S d) (aj (Te S b) aA))))) aJ)
theorem c5:bC ["thing","one","other","number"] ["thing"] (aO Vk):=jy
theorem VM(b:Ok P w base t.pq 2 1 oY)(c:Ok P w base t.o8 1 2 oW)(d:Ok P w base t.o9 1 1 oX):Ok P w base t.Fg 3 1 EY:=yO (g:=Ez) t.Fg c5 λ_ _ _ _ _ _ a e nd=>(au (gk (Ca (wL (bU t.o8 c a (aj (ak 0) (aj aC aA))))) (au (bZ Bg) aJ) aJ) (au (WM (ak 0) (Cd S (cL (aQ 1 nd) (cL (aQ 2 nd) (cL (aQ 3 nd) wN))))) (au (bZ (lZ (bU t.pq b a (aj (ak 1) aA)) (lZ (bU t.pq b a (aj (ak 2) aA)) (lZ (lG QJ (ak 1) (ak 2) (cI _)) (lZ (bU t.o9 d a (aj (ak 3) aA)) (vH (lG MS (ak 3) aC (cI _)))))))) aJ)))
theorem Ry:bC ["thing"] ["thing"] (aO HJ):=jy
theorem Rz(b:Ok P w base t.Fg 3 1 EY)(c:Ok P w base t.o8 1 2 oW)(d:Ok P w base t.u5 2 1 uR):Ok P w base t.u6 4 1 uU:=yO (g:=uT) t.u6 Ry λ_ _ _ _ _ _ a e nd=>(au (bZ (lZ (bU t.o8 c a (aj (ak 0) (aj aC aA))) (lZ (bU t.u5 d a (aj (bh (ak 0) aC) aA)) (vH (bU t.Fg b a (aj (jx (J0 (ak 0) (sY aC) sX)) aA)))))) aJ)
theorem Ay:bC ["ground","reason"] ["ground","reason"] (aO tL):=jy
theorem Az(b:Ok P w base t.u6 4 1 uU):Ok P w base t.jg 5 2 jd:=yO (g:=jc) t.jg Ay λ_ _ _ _ _ _ a c nd=>(bw [] (au (gk (Qu (BZ (Ca (wL (bU t.u6 b a (aj (ak 1) aA)))) (wM (cJ (Jv c) (ak 1) (bh (ak 0) aC) (by with_unfolding_all rfl))))) (au ZD aJ) aJ) aJ))
theorem Vu:bC ["names","reasons","heads","weight","one","other","number"] ["names","reasons"] (aO Le):=jy
theorem Vv(e:yX P w K mg base Qt 1 t.cW.f t.cW.fd ["heads","one","other"] (GA K 2 iZ))(d:Ok P w base t.kO 1 1 j8):Ok P w base t.pA 2 2 mH:=yO (g:=oZ) t.pA Vu λ_ _ _ _ _ _ a c nd=>(au (bx 2 nd (bU t.kO d a (aj (ak 0) aA))) (au (Ae 1 PassesOwn.never S (Cd S (cL (aQ 3 nd) (cL (aQ 4 nd) (cL (aQ 5 nd) (cL (aQ 6 nd) wN))))) (bw [3,4,5,6] (au (ZC 2 e (a.mono ()) S t.cW.m t.cW.k t.cW.b (aj (lX c (ak 2) (ak 4)) (aj (lX c (ak 2) (ak 5)) aA))) aJ))) (au (Ab 2) aJ)))
theorem Lz:bC ["heads","head"] ["heads","head"] (aO Bt):=jy
theorem LK:Ok P w base t.jG 1 2 jF:=yO (g:=pX) t.jG Lz λ_ _ _ _ _ _ b a nd=>(au (bZ (fJ nM S t.pY lK (aj (Ux ["name"] (qT ["head","heads"] [1,0]) S (ak 0) (λ_ _ _ _=>(sh 2)) (λ_ _ _ _=>(mF (cJ (of_eq a) (lX a (ak 1) (ak 2)) (ak 0) (cI _)))) (λ_ _ _ _=>(ak 2)) (cM)) aA))) aJ)
theorem Ye:bC ["names","reasons","name","heads"] ["names","reasons","name"] (aO PJ):=jy
theorem Yg(c:Ok P w base t.pA 2 2 mH)(b:Ok P w base t.jG 1 2 jF):Ok P w base t.wz 3 3 wj:=yO (g:=Am) t.wz Ye λ_ _ _ _ _ _ a d nd=>(au (bx 3 nd (bU t.pA c a (aj (ak 0) (aj (ak 1) aA)))) (au (bZ (bU t.jG b a (aj (ak 3) (aj (lX d (ak 3) (ak 2)) aA)))) aJ))
theorem Vw:bC ["ground","reason","names","reasons","bars","others","one_part"] ["ground","reason"] (aO Lf):=jy
theorem Vx(b:Ok P w base t.wz 3 3 wj)(c:Ok P w base t.jg 5 2 jd):Ok P w base t.pB 6 2 o7:=yO (g:=xK) t.pB Vw λ_ _ _ _ _ _ a d nd=>(au (Q9 (bU t.jg c a (aj (ak 0) (aj (ak 1) aA)))) (au (WM (ak 0) (Cd S (cL (aQ 2 nd) (cL (aQ 3 nd) (cL (aQ 4 nd) wN))))) (au (Dr 5 ["other"] (qT ["reason"] [1]) S nd (fB (ak 3)) (λ_ _ _ _=>(sh 1)) (λ_ _ _ _=>(mF (cJ (Bj d) (ak 1) (ak 0) (cI _)))) (λ_ _ _ _=>(ak 1)) (cM)) (au (bx 6 nd (bU t.wz b a (aj (ak 2) (aj (ak 5) (aj (bh (ak 1) aC) aA))))) (au (gk (cJ Dz (bh (ak 1) aC) (ak 6) (by with_unfolding_all rfl)) (au (bZ (jJ (aj Gs aA))) aJ) aJ) (au (bZ (jJ (aj Gs (aj (ak 6) (aj (jx (bU t.wz b a (aj (ak 2) (aj (ak 5) (aj (bh (ak 1) aC) aA))))) aA))))) aJ))))))
theorem RB:bC ["_law_names_here","_law_reasons","_law_found","_law_weight_here","_law_a","_law_b","_law_k","_law_one","_law_other"] ["_law_names_here","_law_reasons"] (aO HN):=jy
theorem RD:Ok P w base t.nj 1 2 m5:=yO (g:=uV) t.nj RB λ_ _ _ _ _ _ b a nd=>(au (Dr 2 ["_law_name"] (qT [] []) S nd (fB (ak 0)) (λ_ _ _ _=>(sh 0)) (λ_ _ _ _=>cR) (λ_ _ _ _=>(jx (gP (aj (ak 0) aA)))) (cM)) (au (Ae 1 PassesOwn.never S (Cd S (cL (aQ 3 nd) (cL (aQ 4 nd) (cL (aQ 5 nd) (cL (aQ 6 nd) wN))))) (bw [3,4,5,6,7,8] (au (bx 7 nd (bh (iB ["_law_part"] (qT ["_law_a"] [4]) S (fB (ak 2)) (λ_ _ _ _=>(sh 1)) (λ_ _ _ _=>(mF (cJ Dz (ak 0) (ak 1) (by with_unfolding_all rfl)))) (λ_ _ _ _=>(ak 1)) (cM)) aC)) (au (bx 8 nd (bh (iB ["_law_part"] (qT ["_law_b"] [5]) S (fB (ak 2)) (λ_ _ _ _=>(sh 1)) (λ_ _ _ _=>(mF (cJ Dz (ak 0) (ak 1) (by with_unfolding_all rfl)))) (λ_ _ _ _=>(ak 1)) (cM)) aC)) (au (gk (cJ (Bj a) (ak 7) (ak 8) (cI _)) (bw [] (au (bx 2 nd (aR dD (iB ["_law_part"] (qT ["_law_one","_law_other"] [7,8]) S (fB (ak 2)) (λ_ _ _ _=>(sh 2)) (λ_ _ _ _=>(mF (cJ (Jv a) (ak 2) (gP (aj (ak 0) (aj (ak 1) aA))) (by with_unfolding_all rfl)))) (λ_ _ _ _=>(ak 2)) (cM)) (gP (aj (jx (bD Gp S t.nW rQ (aj (aR dD (ak 7) (ak 8)) aA))) aA)))) aJ)) (bw [] aJ)) aJ))))) (au (bZ (bD Ud S t.nW rQ (aj (iB ["_law_part"] (qT [] []) S (fB (ak 2)) (λ_ _ _ _=>(sh 0)) (λ_ _ _ _=>cR) (λ_ _ _ _=>(fJ nM S t.pY lK (aj (ak 0) aA))) (cM)) aA))) aJ)))
theorem Vy:bC ["_law_names_here","_law_reasons","_law_found","_law_reason","_law_parts_here"] ["_law_names_here","_law_reasons"] (aO Lg):=jy
theorem Vz(b:Ok P w base t.nj 1 2 m5):Ok P w base t.xV 2 2 xO:=yO (g:=xM) t.xV Vy λ_ _ _ _ _ _ a c nd=>(au (bx 2 nd (gP aA)) (au (Ae 1 PassesOwn.never S (aQ 3 nd) (bw [3,4] (au (bx 4 nd (bU t.nj b a (aj (ak 0) (aj (ak 2) aA)))) (au (gk (Ca (wL (bD (NU S) S t.ain My (aj (iB ["_law_part"] (qT ["_law_reason"] [3]) S (fB (ak 4)) (λ_ _ _ _=>(sh 1)) (λ_ _ _ _=>cR) (λ_ _ _ _=>(lZ (lG Dz (bh (ak 0) aC) (ak 1) (by with_unfolding_all rfl)) (vH (lG Dz (bh (ak 0) aC) (ak 1) (by with_unfolding_all rfl))))) (cM)) aA)))) (bw [] (au (wO 2 (ak 3)) aJ)) (bw [] aJ)) aJ)))) (au (Ab 2) aJ)))
theorem Nt:bC ["_law_reasons"] ["_law_reasons"] (aO Ew):=jy
theorem Nu:Ok P w base t.nU 1 1 nT:=yO (g:=rB) t.nU Nt λ_ _ _ _ _ _ a b nd=>(au (bZ (bD (ri S) S t.amM o4 (aj (iB ["_law_reason"] (qT [] []) S (fB (ak 0)) (λ_ _ _ _=>(sh 0)) (λ_ _ _ _=>cR) (λ_ _ _ _=>(bh (ak 0) aC)) (cM)) aA))) aJ)
theorem Fj:bC ["ground","name"] ["ground","name"] (aO vY):=jy
theorem Fl(b:Ok P w base t.pq 2 1 oY):Ok P w base t.iH 3 2 iG:=yO (g:=j9) t.iH Fj λ_ _ _ _ _ _ a c nd=>(bw [] (au (gk (Qu (BZ (Ca (wL (bU t.pq b a (aj (ak 1) aA)))) (wM (cJ VA (ak 1) (bh (ak 0) aC) (by with_unfolding_all rfl))))) (au ZD aJ) aJ) aJ))
theorem RG:bC ["reason","name"] ["reason","name"] (aO HS):=jy
theorem RJ:Ok P w base t.nu 1 2 m7:=yO (g:=uW) t.nu RG λ_ _ _ _ _ _ b a nd=>(au (gk (cJ (of_eq a) (bh (ak 0) aC) (ak 1) (cI _)) (au (bZ (bh (ak 0) aC)) aJ) aJ) (au (gk (cJ (of_eq a) (bh (ak 0) aC) (ak 1) (cI _)) (au (bZ (bh (ak 0) aC)) aJ) aJ) (au (bZ BX) aJ)))
theorem VB:bC ["came_by","end","way","here"] ["came_by","end"] (aO Lh):=jy
theorem VD(c:Ok P w base t.nu 1 2 m7):Ok P w base t.xW 2 2 xQ:=yO (g:=xP) t.xW VB λ_ _ _ _ _ _ b a nd=>(au (bx 2 nd (gP aA)) (au (bx 3 nd (ak 1)) (au (UL 70 PassesOwn.never (cJ QF (lX a (ak 0) (ak 3)) BX (cI _)) (bw [] (au (wO 2 (lX a (ak 0) (ak 3))) (au (bx 3 nd (bU t.nu c b (aj (lX a (ak 0) (ak 3)) (aj (ak 3) aA)))) aJ)))) (au (Ab 2) aJ))))
theorem uB:bC ["reasons","start","end","came_by","reached","here","reason","there"] ["reasons","start","end"] (aO Vl):=jy
theorem on(d:Ok P w base t.nu 1 2 m7)(c:Ok P w base t.xW 2 2 xQ):Ok P w base t.Fi 3 3 Fe:=yO (g:=Fd) t.Fi uB λ_ _ _ _ _ _ b a nd=>(au (bx 3 nd (W1 (ak 1) BX)) (au (bx 4 nd (gP (aj (ak 1) aA))) (au (UL 70 PassesOwn.never (wL (ak 4)) (bw [5,6,7] (au (av 5 4 nd aC) (au (Ae 0 PassesOwn.never S (aQ 6 nd) (bw [6,7] (au (bx 7 nd (bU t.nu d b (aj (ak 6) (aj (ak 5) aA)))) (au (gk (Qu (YW (cJ QF (ak 7) BX (cI _)) (Tf (cJ (ZF a) (ak 7) (ak 3) (by with_unfolding_all rfl))))) (bw [] (au (Zd 3 a (ak 6) (ak 7)) (au (wO 4 (ak 7)) aJ))) (bw [] aJ)) aJ)))) aJ)))) (au (gk (cJ (ZF a) (ak 2) (ak 3) (by with_unfolding_all rfl)) (au (bZ BX) aJ) aJ) (au (bZ (agX (bU t.xW c b (aj (ak 3) (aj (ak 2) aA))) (SR M' aC))) aJ)))))
theorem Yh:bC ["ground","one","other"] ["ground","one","other"] (aO PK):=jy
theorem Yi(d:Ok P w base t.gC 2 1 gq)(b:Ok P w base t.iH 3 2 iG)(c:Ok P w base t.Fi 3 3 Fe):Ok P w base t.rT 4 3 rR:=yO (g:=Ao) t.rT Yh λ_ _ _ _ _ _ a e nd=>(au (Q9 (bU t.iH b a (aj (ak 0) (aj (ak 1) aA)))) (au (Q9 (bU t.iH b a (aj (ak 0) (aj (ak 2) aA)))) (au (bZ (bU t.Fi c a (aj (jx (bU t.gC d a (aj (ak 0) aA))) (aj (ak 1) (aj (ak 2) aA))))) aJ)))
theorem RK:bC ["_law_reason"] ["_law_reason"] (aO HW):=jy
theorem RM:Ok P w base t.jT 1 1 jR:=yO (g:=uX) t.jT RK λ_ _ _ _ _ _ a b nd=>(au (bZ (aR dD (jJ (aj (aR sU aC (bh (ak 0) aC)) aA)) (J0 (ak 0) (sY aC) sX))) aJ)
theorem yP:bC ["_law_ground_here","_law_held_here","_law_reason","_law_way"] ["_law_ground_here","_law_held_here"] (aO qm):=jy
theorem yQ(c:Ok P w base t.jT 1 1 jR)(d:Ok P w base t.pB 6 2 o7)(e:Ok P w base t.rT 4 3 rR):Ok P w base t.gJ 7 2 gB:=yO (g:=gA) t.gJ yP λ_ _ _ _ _ _ a b nd=>(au (sO PassesOwn.never S (Ad (bh (ak 0) aC)) (aQ 2 nd) (bw [2,3] (au (gk (cJ (Jv b) (ak 2) (ak 1) (by with_unfolding_all rfl)) (au (bx 3 nd (bU t.rT e a (aj (ak 0) (aj (bh (ak 2) aC) (aj (bh (ak 2) aC) aA))))) (au (gk (Qu (BZ (cJ GS (ak 3) BX (cI _)) (wM (Ca (wL (bD (Re S) S t.ail Of (aj (iB ["_law_other"] (qT ["_law_reason"] [2]) S (fB (ak 3)) (λ_ _ _ _=>(sh 1)) (λ_ _ _ _=>cR) (λ_ _ _ _=>(lG (UM b) (bU t.jT c a (aj (ak 1) aA)) (bU t.jT c a (aj (ak 0) aA)) (cI _))) (cM)) aA))))))) (au (bZ Bg) aJ) aJ) (au (gk (cJ (Bj b) (bU t.pB d a (aj (ak 0) (aj (ak 2) aA))) (jJ (aj Gs aA)) (cI _)) (au (bZ Bg) aJ) aJ) aJ))) aJ) aJ))) (au (bZ Bg) aJ))
theorem Ba:bC ["_law_ground_here","_law_one","_law_other","_law_best","_law_weight_here","_law_parts_here"] ["_law_ground_here","_law_one","_law_other"] (aO tM):=jy
theorem Bb(b:Ok P w base t.nj 1 2 m5):Ok P w base t.jh 2 3 jf:=yO (g:=je) t.jh Ba λ_ _ _ _ _ _ a c nd=>(au (bx 3 nd aC) (au (sO PassesOwn.never S (Ad (Sf S c S t.nW S t.aeD (iB ["_law_reason"] (qT [] []) S (fB (bh (ak 0) aC)) (λ_ _ _ _=>(sh 0)) (λ_ _ _ _=>cR) (λ_ _ _ _=>(bh (ak 0) aC)) (cM)))) (aQ 4 nd) (bw [4,5] (au (bx 5 nd (bU t.nj b a (aj (bh (ak 0) aC) (aj (jx (iB ["_law_reason"] (qT ["_law_weight_here"] [4]) S (fB (bh (ak 0) aC)) (λ_ _ _ _=>(sh 1)) (λ_ _ _ _=>(mF (cJ MS (bh (ak 1) aC) (ak 0) (cI _)))) (λ_ _ _ _=>(ak 1)) (cM))) aA)))) (au (gk (wL (bD (NU S) S t.ain My (aj (iB ["_law_part"] (qT ["_law_one","_law_other"] [1,2]) S (fB (ak 5)) (λ_ _ _ _=>(sh 2)) (λ_ _ _ _=>cR) (λ_ _ _ _=>(lZ (lG Dz (ak 0) (ak 2) (by with_unfolding_all rfl)) (vH (lG Dz (ak 1) (ak 2) (by with_unfolding_all rfl))))) (cM)) aA))) (bw [] (au (bx 3 nd (ak 4)) aJ)) (bw [] aJ)) aJ)))) (au (bZ (ak 3)) aJ)))
theorem Fp:bC ["_law_ground_here","_law_one","_law_other","_law_way"] ["_law_ground_here"] (aO vZ):=jy
theorem Fq(c:Ok P w base t.jh 2 3 jf)(d:Ok P w base t.rT 4 3 rR):Ok P w base t.kW 5 1 kj:=yO (g:=kh) t.kW Fp λ_ _ _ _ _ _ a b nd=>(au (sO PassesOwn.never S (Ad (J0 (bh (ak 0) aC) sX (sY (bh (gP (aj aC (aj aC aA))) (fJ W5 S t.aae QG (aj (lG Y7 (bD mD S t.tW mC (aj (bh (ak 0) aC) aA)) aC (cI _)) aA)))))) (aQ 1 nd) (bw [1,2,3] (au (sO PassesOwn.never S (Ad (TB (bh (ak 0) aC) (bh (gP (aj aC (aj aC aA))) (fJ W5 S t.aae QG (aj (lG Y7 (bD mD S t.tW mC (aj (bh (ak 0) aC) aA)) aC (cI _)) aA))))) (aQ 2 nd) (bw [2,3] (au (bx 3 nd (bU t.rT d a (aj (ak 0) (aj (ak 1) (aj (ak 2) aA))))) (au (gk (Qu (YW (cJ QF (ak 3) BX (cI _)) (Tf (cJ (Bj b) (ak 3) (gP aA) (cI _))))) (au (gk (cJ (Bj b) (bD (bP S) S t.Vn JZ (aj (iB ["_law_reason"] (qT [] []) S (fB (ak 3)) (λ_ _ _ _=>(sh 0)) (λ_ _ _ _=>cR) (λ_ _ _ _=>(bh (ak 0) aC)) (cM)) aA)) (bU t.jh c a (aj (ak 0) (aj (ak 1) (aj (ak 2) aA)))) (cI _)) (au (bZ Bg) aJ) aJ) aJ) aJ) aJ)))) aJ))) (au (bZ Bg) aJ))
theorem Nv:bC ["heads"] ["heads"] (aO Ey):=jy
theorem Nx(c:Ok P w base t.jG 1 2 jF):Ok P w base t.rH 2 1 rD:=yO (g:=rC) t.rH Nv λ_ _ _ _ _ _ b a nd=>(au (bZ (Ux ["name"] (qT ["heads"] [0]) S (ak 0) (λ_ _ _ _=>(sh 1)) (λ_ _ _ _=>(mF (cJ (of_eq a) (lX a (ak 0) (ak 1)) (ak 1) (cI _)))) (λ_ _ _ _=>(jx (bU t.jG c b (aj (ak 0) (aj (ak 1) aA))))) (cM))) aJ)
theorem VF:bC ["names","reasons"] ["names","reasons"] (aO Li):=jy
theorem VG(b:Ok P w base t.pA 2 2 mH)(c:Ok P w base t.rH 2 1 rD):Ok P w base t.xX 3 2 xT:=yO (g:=xR) t.xX VF λ_ _ _ _ _ _ a d nd=>(au (bZ (bU t.rH c a (aj (bU t.pA b a (aj (ak 0) (aj (ak 1) aA))) aA))) aJ)
theorem VH:bC ["ground"] ["ground"] (aO Lj):=jy
theorem VJ(b:Ok P w base t.xX 3 2 xT):Ok P w base t.mK 4 1 mJ:=yO (g:=xU) t.mK VH λ_ _ _ _ _ _ a c nd=>(au (bZ (bU t.xX b a (aj (bh (ak 0) aC) (aj (bh (ak 0) aC) aA)))) aJ)
theorem Ft:bC ["_law_ground_here","_law_held_here","_law_xs","_law_names_here","_law_a","_law_b","_law_more","_law_reasons","_law_greater","_law_now","_law_fewer"] ["_law_ground_here","_law_held_here","_law_xs"] (aO wg):=jy
theorem Fv(d:Ok P w base t.jT 1 1 jR)(e:Ok P w base t.gC 2 1 gq)(c:Ok P w base t.mK 4 1 mJ):Ok P w base t.kY 5 3 kJ:=yO (g:=kE) t.kY Ft λ_ _ _ _ _ _ a b nd=>(au (bx 3 nd (bh (ak 0) aC)) (au (gk (cJ QJ (bD mD S t.tW mC (aj (ak 3) aA)) aC (cI _)) (au (bZ Bg) aJ) aJ) (au (bx 4 nd (aR cN (bh (ak 2) aC) (aR sU (bD mD S t.tW mC (aj (ak 3) aA)) aC))) (au (bx 5 nd (aR dD (aR dD (ak 4) aC) (aR cN (bh (ak 2) aC) (aR sU (aR sU (bD mD S t.tW mC (aj (ak 3) aA)) aC) (ak 4))))) (au (bx 6 nd (jJ (aj (jx (aR dD aC (aR cN (bh (ak 2) aC) aC))) (aj (bh (ak 3) (ak 4)) (aj (bh (ak 3) (ak 5)) (aj aC aA)))))) (au (Dr 7 ["_law_pair"] (qT [] []) S nd (fB (bD (i7 b) S t.nW rQ (aj (iB ["_law_reason"] (qT [] []) S (fB (aR dD (bh (ak 0) aC) (jJ (aj (ak 6) aA)))) (λ_ _ _ _=>(sh 0)) (λ_ _ _ _=>cR) (λ_ _ _ _=>(jJ (aj (jx (bU t.jT d a (aj (ak 0) aA))) (aj (ak 0) aA)))) (cM)) aA))) (λ_ _ _ _=>(sh 0)) (λ_ _ _ _=>cR) (λ_ _ _ _=>(bh (ak 0) aC)) (cM)) (au (bx 8 nd (jJ (aj (ak 3) (aj (fJ nM S t.pY lK (aj (ak 7) aA)) (aj (bh (ak 0) aC) aA))))) (au (bx 9 nd (bU t.gC e a (aj (ak 8) aA))) (au (gk (cJ (Jv b) (ak 6) (ak 9) (by with_unfolding_all rfl)) (au (bZ (lZ (lG (of_eq b) (ak 9) (ak 1) (cI _)) (vH (lG (of_eq b) (bU t.mK c a (aj (ak 8) aA)) (bU t.mK c a (aj (ak 0) aA)) (cI _))))) aJ) aJ) (au (bx 10 nd (aR sU (bD mD S t.tW mC (aj (bU t.mK c a (aj (ak 0) aA)) aA)) (bD mD S t.tW mC (aj (bU t.mK c a (aj (ak 8) aA)) aA)))) (au (bZ (lZ (lG (of_eq b) (ak 10) (aR sU (bD mD S t.tW mC (aj (ak 9) aA)) (bD mD S t.tW mC (aj (ak 1) aA))) (cI _)) (vH (lG Dz (ak 10) (gP (aj aC (aj aC aA))) (by with_unfolding_all rfl))))) aJ)))))))))))
theorem XV:bC ["_law_script","_law_ground_here","_law_held_here","_law_alone","_law_reason","_law_turned"] ["_law_script"] (aO s_law):=jy
theorem sD(l:Ok P w base t.gU 1 2 gR)(m:Ok P w base t.u0 3 1 uP)(h:Ok P w base t.xV 2 2 xO)(d:Ok P w base t.gJ 7 2 gB)(j:Ok P w base t.kY 5 3 kJ)(f:Ok P w base t.dO 1 2 dN)(n:Ok P w base t.kW 5 1 kj)(b:Ok P w base t.nU 1 1 nT)(i:Ok P w base t.pB 6 2 o7)(e:Ok P w base t.gC 2 1 gq):Ok P w base t.x_law 8 1 F_law:=yO (g:=IN) t.x_law XV λ_ _ _ _ _ _ a c nd=>(au (bx 1 nd (bU t.u0 m a (aj (ak 0) aA))) (au (bx 2 nd (bU t.gC e a (aj (ak 1) aA))) (au (bx 3 nd (jJ (aj (bh (ak 1) aC) (aj (fJ nM S t.pY lK (aj (ak 2) aA)) (aj (jJ aA) aA))))) (au (Ae 2 PassesOwn.never S (aQ 4 nd) (bw [4] (au (gk (cJ (Bj c) (bh (bU t.pB i a (aj (ak 3) (aj (ak 4) aA))) aC) Gs (cI _)) (au (bZ Bg) aJ) aJ) aJ))) (au (bx 5 nd (bU t.xV h a (aj (bh (ak 1) aC) (aj (jx (be (bh (ak 1) aC) (SR M' aC))) aA)))) (au (gk (Qu (BZ (cJ (Bj c) (bD mD S t.tW mC (aj (ak 5) aA)) (bD mD S t.tW mC (aj (ak 2) aA)) (cI _)) (wM (cJ Y7 (bU t.nU b a (aj (ak 5) aA)) (bU t.nU b a (aj (ak 2) aA)) (cI _))))) (au (bZ Bg) aJ) aJ) (au (gk (Qu (BZ (Ca (wL (bU t.gJ d a (aj (ak 1) (aj (ak 2) aA))))) (wM (Ca (wL (bU t.kW n a (aj (ak 1) aA))))))) (au (bZ Bg) aJ) aJ) (au (bZ (bU t.kY j a (aj (ak 1) (aj (ak 2) (aj (jx (J0 (bU t.dO f a (aj (jx (bU t.gU l a (aj (ak 0) (aj aC aA)))) (aj aC aA))) (sY aC) sX)) aA))))) aJ))))))))
theorem EV:Ok P w base t.x_law 8 1 F_law:=by
 have b:=Vp (P:=P) (w:=w) (base:=base) t;have a:=Ls (P:=P) (w:=w) (base:=base) t;have B:=Rq (P:=P) (w:=w) (base:=base) t;have q:=Rt (P:=P) (w:=w) (base:=base) t;have s:=Nf (P:=P) (w:=w) (base:=base) t b q a;have y:=Rv (P:=P) (w:=w) (base:=base) t b B s a;have j:=Nh (P:=P) (w:=w) (base:=base) t;have m:=Ni (P:=P) (w:=w) (base:=base) t;have c:=Nk (P:=P) (w:=w) (base:=base) t m j;have n:=Vr (P:=P) (w:=w) (base:=base) t;have h:=Vt (P:=P) (w:=w) (base:=base) t;have L:=Rx (P:=P) (w:=w) (base:=base) t h;have z:=Nr (P:=P) (w:=w) (base:=base) t;have e:=Yd (P:=P) (w:=w) (base:=base) t z;have A:=VM (P:=P) (w:=w) (base:=base) t e n h;have W:=Rz (P:=P) (w:=w) (base:=base) t A n L;have x:=Az (P:=P) (w:=w) (base:=base) t W;have f:=Vv (P:=P) (w:=w) (base:=base) t m j;have i:=LK (P:=P) (w:=w) (base:=base) t;have F:=Yg (P:=P) (w:=w) (base:=base) t f i;have d:=Vx (P:=P) (w:=w) (base:=base) t F x;have g:=RD (P:=P) (w:=w) (base:=base) t;have D:=Vz (P:=P) (w:=w) (base:=base) t g;have C:=Nu (P:=P) (w:=w) (base:=base) t;have J:=Fl (P:=P) (w:=w) (base:=base) t e;have p:=RJ (P:=P) (w:=w) (base:=base) t;have u:=VD (P:=P) (w:=w) (base:=base) t p;have K:=on (P:=P) (w:=w) (base:=base) t p u;have l:=Yi (P:=P) (w:=w) (base:=base) t c J K;have o:=RM (P:=P) (w:=w) (base:=base) t;have G:=yQ (P:=P) (w:=w) (base:=base) t o d l;have N:=Bb (P:=P) (w:=w) (base:=base) t g;have Q:=Fq (P:=P) (w:=w) (base:=base) t N l;have v:=Nx (P:=P) (w:=w) (base:=base) t i;have H:=VG (P:=P) (w:=w) (base:=base) t f v;have E:=VJ (P:=P) (w:=w) (base:=base) t H;have M:=Fv (P:=P) (w:=w) (base:=base) t o c E;have I:=sD (P:=P) (w:=w) (base:=base) t b y D G M a Q C d c;exact I
end
end G16
end
section
set_option synthInstance.maxSize 100000
namespace G16
open L2 P1
noncomputable section
def BK(a:Int)(b:Int):Int:=(let a:=(((a*69621)+b)%2147483647);a)
theorem Ny(d:B9)(e:Lp gW (d.map eI))(c:Int)(a:Int)(b:Int):RP Bu [U gW,U (zE eI c),U (zE eI a),U (zE eI b)] (λs=>Ap.nx ((λa:Int=>[U gW,U (zE eI c),U (zE eI a),Z]) s)) (BK  a b) (Z):=R.tp (bF (bM 2 (dM (iV (ZJ (ao 2 (zE eI) a S) 69621 ()) (ao 3 (zE eI) b S)) 2147483647 ()) (λ_=>S) λa=>(bR (bH a S))))
def aX(c:B9)(b:Int):Int:=(if(decide (b<(c.length:Int)))=true then(at' c b)else(let a:=((48271*(((b*b)+(7*b))+11))%2147483647);(let a:Int:=((cut c Z (U 3)).foldl (λ(a:Int) (d:Int)=>(BK  a d)) a);a)))
def ji(b:B9)(a:Int):Prop:=(((decide (a<(b.length:Int)))=true->In b.length a)/\((decide (a<(b.length:Int)))=false->G0 a a))
theorem Yj(c:B9)(d:Lp gW (c.map eI))(a:Int):RP xG [U gW,U (zE eI a),Z,Z] (λr=>Ap.rt (zE eI r)) (aX c a) (U (ji c a)):=R.tp (nP (dU (LV (ao 1 (zE eI) a S) (Bz (jP 0 eI c d S)))) (bF (dB (λr=>r) (iu (jP 0 eI c d S) (ao 1 (zE eI) a S)) (λ_=>S) λ_=>S)) (bR (bM 2 (dM (Ra 48271 () (iV (iV (Ic (ao 1 (zE eI) a S) (ao 1 (zE eI) a S)) (Ra 7 () (ao 1 (zE eI) a S))) (B0 11))) 2147483647 ()) (λ_=>S) λb=>(ie (λb:Int=>[U gW,U (zE eI a),U (zE eI b),Z]) b S (MM (PY (jP 0 eI c d S) FL (FS (B0 3)))) _ (λ_ _=>S) (λ(b:Int) (e:Int)=>(Ny c d a b e).r) (λ_ _=>S) λb=>(dB (λr=>r) (ao 2 (zE eI) b S) (λ_=>S) λ_=>S)))))
theorem tX:∀v bs,(aL eI (aZ eI aN)) v bs->bs.length=2/\(hold (U (ji v.1 v.2.1))->gR (bs.map lend)=U ((zE eI) (aX v.1 v.2.1))):=by
 rintro⟨c,a,_⟩ _ ⟨gW,_,rfl,b,⟨_,rfl,rfl⟩⟩;exact⟨rfl,λh=>bW (g:=xG) (n:=4) (bs:=[lend gW,.z (eI a)]) (Yj c (vW b) a) h⟩
def cX(a:Int×B9×Int)(e:Int):Int×B9×Int:=(let b:=((((a.1*((a.1%65521)+40487))+(7*e))+5)%1999999973);(let c:=a.2.1++[(at' [b,(a.2.2%1000000)] (if(decide ((0:Int)<a.2.2))=true then(1:Int)else 0))];(let d:=(a.2.2 / (1000000:Int));(b,c,d))))
def lu(a:Int×B9×Int)(c:Int):Prop:=(G0 a.1 ((a.1%65521)+40487)/\(let b:=((((a.1*((a.1%65521)+40487))+(7*c))+5)%1999999973);(In [b,(a.2.2%1000000)].length (if(decide ((0:Int)<a.2.2))=true then(1:Int)else 0)/\Pg a.2.1.length)))
theorem GQ(e:Int)(d:Int)(a:Int×B9×Int)(b:Int):RP oV [U (zE eI e),U (zE eI d),U ((oE eI) a.2.1),U ((zE eI) a.1),U ((zE eI) a.2.2),U (zE eI b)] (λs=>Ap.nx ((λa:Int×B9×Int=>[U (zE eI e),U (zE eI d),U ((oE eI) a.2.1),U ((zE eI) a.1),U ((zE eI) a.2.2),Z]) s)) (cX  a b) (U (lu  a b)):=R.tp (bF (bM 3 (dM (iV (iV (Ic (ao 3 (zE eI) a.1 S) (iV (dM (ao 3 (zE eI) a.1 S) 65521 ()) (B0 40487))) (Ra 7 () (ao 5 (zE eI) b S))) (B0 5)) 1999999973 ()) (λ_=>S) λc=>(bF (Ek 2 a.2.1 S (iu (jz (lN (cH (ao 3 (zE eI) c S) (cH (dM (ao 4 (zE eI) a.2.2 S) 1000000 ()) (eZ eI))) (zS S))) (XC (IA (ao 4 (zE eI) a.2.2 S) (B0 0)))) λf=>(bF (bM 4 (Ei (ao 4 (zE eI) a.2.2 S) 1000000 ()) (λ_=>S) λg=>(bR (bH (c,f,g) S))))))))
def lA(g:Int)(c:Int)(d:B9)(b:Int)(e:Int):B9:=(let a:Int×B9×Int:=((rng 0 c.toNat).foldl (λ(a:Int×B9×Int) (f:Int)=>(cX  a f)) (b,d,e));a.2.1)
def pN(g:Int)(c:Int)(e:B9)(d:Int)(f:Int):Prop:=(Rg c/\lO (λ(a:Int×B9×Int) (b:Int)=>(cX  a b)) (λ(a:Int×B9×Int) (b:Int)=>U (lu  a b)) (rng 0 c.toNat) (d,e,f))
def GR:Ev->Y Ap:=(aF (sZ (T4 (aq (gv 1) aH)) (jZ 5) oV) (aF (Ge 2) dR))
theorem GX(c:Int)(b:Int)(d:B9)(e:Int)(f:Int):RP GR [U (zE eI c),U (zE eI b),U (oE eI d),U (zE eI e),U (zE eI f),Z] (λr=>Ap.rt (oE eI r)) (lA c b d e f) (U (pN c b d e f)):=R.tp (KN (λa:Int×B9×Int=>[U (zE eI c),U (zE eI b),U ((oE eI) a.2.1),U ((zE eI) a.1),U ((zE eI) a.2.2),Z]) (e,d,f) S (Pj (ao 1 (zE eI) b S)) _ (λ_ _=>S) (λ(a:Int×B9×Int) (g:Int)=>(GQ c b a g).r) λa=>(Cr 2 (λr=>r) a.2.1 S (λ_=>S) λ_=>S))
def aU(a:Int)(d:Int):B9:=(let e:=([]:O Int);(let c:=((((a%1999999973)+31)*765432101)%1999999973);(let b:=(0:Int);(let b:Int:=(if((decide (a<0))||(decide (((10:Int) ^ 18)<=a)))=true then(let b:=(if a<0 then -a else a);b)else b);(lA a d e c b)))))
def fG(a:Int)(d:Int):Prop:=(let e:=([]:O Int);(let c:=((((a%1999999973)+31)*765432101)%1999999973);(let b:=(0:Int);(let b:Int:=(if((decide (a<0))||(decide (((10:Int) ^ 18)<=a)))=true then(let b:=(if a<0 then -a else a);b)else b);(pN a d e c b)))))
theorem Nz(a:Int)(c:Int):RP pW [U (zE eI a),U (zE eI c),Z,Z,Z,Z] (λr=>Ap.rt (oE eI r)) (aU a c) (U (fG a c)):=R.tp (bM 2 (lN (eZ eI) (zS S)) (λ_=>S) λe=>(bM 3 (dM (ZJ (iV (dM (ao 0 (zE eI) a S) 1999999973 ()) (B0 31)) 765432101 ()) 1999999973 ()) (λ_=>S) λd=>(bM 4 (B0 0) (λ_=>S) λb=>(Bo (λb:Int=>[U (zE eI a),U (zE eI c),U (oE eI e),U (zE eI d),U (zE eI b),Z]) (Xx (dU (LV (ao 0 (zE eI) a S) (B0 0))) (dU (EX (ao 0 (zE eI) a S) (lP 10 18 18 () S)))) (bF (bM 4 (iq (ao 0 (zE eI) a S)) (λ_=>S) λb=>(bR (bH b S)))) (bR (bH b S)) λb=>(GX a c e d b).r))))
theorem lR:∀v bs,(aZ eI (aZ eI aN)) v bs->bs.length=2/\(hold (U (fG v.1 v.2.1))->dN (bs.map lend)=U ((oE eI) (aU v.1 v.2.1))):=by
 rintro⟨b,a,_⟩ _ ⟨_,rfl,⟨_,rfl,rfl⟩⟩;exact⟨rfl,λh=>bW (g:=pW) (n:=6) (bs:=[.z (eI b),.z (eI a)]) (Nz b a) h⟩
def dG(f:Int)(e:AZ)(d:O aD)(a:Int):(O aD):=(let y1:=(at' e a);let y2:=(at' e ((a+1)%30));let c:=y1;let b:=y2;(let g:=(at' [(5:Int),((1000:Int)-a),(1+a),(1+((a*a)%9))] (f%4));(let d:=d++[(((0:Int)-g),(if vJ b c=true then b else c),(if vJ c b=true then b else c),(a%3))];d)))
def nY(c:Int)(b:AZ)(d:O aD)(a:Int):Prop:=((In b.length a/\In b.length ((a+1)%30))/\(let y1:=(at' b a);let y2:=(at' b ((a+1)%30));let g:=y1;let e:=y2;((G0 a a/\In [(5:Int),((1000:Int)-a),(1+a),(1+((a*a)%9))].length (c%4))/\(let f:=(at' [(5:Int),((1000:Int)-a),(1+a),(1+((a*a)%9))] (c%4));Pg d.length))))
theorem LR(e:Int)(g:Int)(d:Int)(f:AJ)(j:AZ)(c:AZ)(b:O aD)(a:Int):RP zQ [U (zE eI e),U (zE eI g),U (zE eI d),U (zE eS f),U (oE eS j),U (oE eS c),U (oE aG b),U (zE eI a),Z,Z,Z] (λs=>Ap.nx ((λb:(O aD)=>[U (zE eI e),U (zE eI g),U (zE eI d),U (zE eS f),U (oE eS j),U (oE eS c),U (oE aG b),Z,Z,Z,Z]) s)) (dG d c b a) (U (nY d c b a)):=R.tp (bF (MQ 8 9 (iu (eG (ao 5 (lE eS) c S)) (ao 7 (zE eI) a S)) (iu (eG (ao 5 (lE eS) c S)) (dM (iV (ao 7 (zE eI) a S) (B0 1)) 30 ())) λi h=>(bF (bM 10 (iu (jz (lN (cH (B0 5) (cH (zH (B0 1000) (ao 7 (zE eI) a S)) (cH (mZ (iV (B0 1) (ao 7 (zE eI) a S))) (cH (mZ (iV (B0 1) (dM (Ic (ao 7 (zE eI) a S) (ao 7 (zE eI) a S)) 9 ()))) (eZ eI))))) (zS S))) (dM (ao 2 (zE eI) d S) 4 ())) (λ_=>S) λl=>(bF (Ek 6 b S (KC (zH (B0 0) (ao 10 (zE eI) l S)) (mZ (N0 (ao 8 (zE eS) i S) (ao 9 (zE eS) h S))) (mZ (oT (ao 8 (zE eS) i S) (ao 9 (zE eS) h S))) (dM (ao 7 (zE eI) a S) 3 ())) λb=>(bR (bH b S))))))))
def qt(e:Int)(h:Int)(g:Int):eU:=(let f:=("abcd":AJ);(let d:=((rng 0 (kN 30)).map λa:Int=>(Txt.mul (ch f (a / (8:Int))) (1+(a%8))));(let i:=((rng 0 (kN 30)).map λa:Int=>(at' d (((7*a)+h)%30)));(let b:=([]:O aD);(let b:(O aD):=((rng 0 (29+(e%2)).toNat).foldl (λ(b:O aD) (a:Int)=>(dG g i b a)) b);((oJ d),((uH aG b).map λc:aD=>(((0:Int)-c.1),c.2.1,c.2.2.1,c.2.2.2)),([]:O lQ)))))))
def qu(c:Int)(h:Int)(e:Int):Prop:=(let d:=("abcd":AJ);(((rng 0 (kN 30)).length<=100000/\(∀a∈(rng 0 (kN 30)),(In d.length (a / (8:Int))/\((1+(a%8))<=1000 ∧ -1000<=(1+(a%8))/\(ch d (a / (8:Int))).length<=1000))))/\(let f:=((rng 0 (kN 30)).map λa:Int=>(Txt.mul (ch d (a / (8:Int))) (1+(a%8))));(((rng 0 (kN 30)).length<=100000/\(∀a∈(rng 0 (kN 30)),In f.length (((7*a)+h)%30)))/\(let g:=((rng 0 (kN 30)).map λa:Int=>(at' f (((7*a)+h)%30)));(let b:=([]:O aD);((Rg (29+(c%2))/\lO (λ(b:O aD) (a:Int)=>(dG e g b a)) (λ(b:O aD) (a:Int)=>U (nY e g b a)) (rng 0 (29+(c%2)).toNat) b)/\(let b:(O aD):=((rng 0 (29+(c%2)).toNat).foldl (λ(b:O aD) (a:Int)=>(dG e g b a)) b);(f.length<64/\(b.length<64/\(uH aG b).length<=100000))))))))))
theorem VL(b:Int)(c:Int)(e:Int):RP uL [U (zE eI b),U (zE eI c),U (zE eI e),Z,Z,Z,Z,Z,Z,Z,Z] (λr=>Ap.rt (zE bI r)) (qt b c e) (U (qu b c e)):=R.tp (bM 3 (MG "abcd") (λ_=>S) λh=>(bM 4 (Rh (OX 30 30 S (by unfold Rg;decide)) _ (λ_=>S) (λd:Int=>(OM (ZL (ao 0 (zE eS) h S) (Ei (ao 1 (zE eI) d S) 8 ())) (iV (B0 1) (dM (ao 1 (zE eI) d S) 8 ()))))) (λ_=>S) λg=>(bM 5 (Rh (OX 30 30 S (by unfold Rg;decide)) _ (λ_=>S) (λd:Int=>(iu (eG (ao 0 (lE eS) g S)) (dM (iV (Ra 7 () (ao 2 (zE eI) d S)) (ao 1 (zE eI) c S)) 30 ())))) (λ_=>S) λi=>(bM 6 (lN (eZ aG) (zS S)) (λ_=>S) λa=>(KN (λa:(O aD)=>[U (zE eI b),U (zE eI c),U (zE eI e),U (zE eS h),U (oE eS g),U (oE eS i),U (oE aG a),Z,Z,Z,Z]) a S (Pj (iV (B0 29) (dM (ao 0 (zE eI) b S) 2 ()))) _ (λ_ _=>S) (λ(a:O aD) (d:Int)=>(LR b c e h g i a d).r) λa=>(dB (λr=>r) (Kz (qU (jz (Rf (eG (ao 4 (lE eS) g S))))) (qU (jz (j7 (Iv (jz (eQ (eG (ao 6 (lE aG) a S))))) _ (λ_=>S) (λf:aD=>(KC (zH (B0 0) (ao 0 (zE eI) f.1 S)) (ao 1 (zE eS) f.2.1 S) (ao 2 (zE eS) f.2.2.1 S) (ao 3 (zE eI) f.2.2.2 S))) λ_=>S))) (OY Ax)) (λ_=>S) λ_=>S))))))
theorem VN:∀v bs,(aZ eI (aZ eI (aZ eI aN))) v bs->bs.length=3/\(hold (U (qu v.1 v.2.1 v.2.2.1))->uM (bs.map lend)=U ((zE bI) (qt v.1 v.2.1 v.2.2.1))):=by
 rintro⟨a,c,b,_⟩ _ ⟨_,rfl,⟨_,rfl,⟨_,rfl,rfl⟩⟩⟩;exact⟨rfl,λh=>bW (g:=uL) (n:=11) (bs:=[.z (eI a),.z (eI c),.z (eI b)]) (VL a c b) h⟩
def fV(g:B9)(e:AJ)(f:AJ)(d:Int)(b:AZ)(c:Int):AZ:=(let h:=(ch e ((c+(at' g 2))%15));(let a:=(((Txt.slice f Z (U d))++h)++(Txt.slice f (U d) Z));(let a:AJ:=(if(decide (((at' g 3)%3)=1))=true then(let a:=(Txt.mul (ch e (c / (8:Int))) (1+(c%8)));a)else a);(let b:=b++[a];b))))
def nZ(b:B9)(d:AJ)(e:AJ)(c:Int)(h:AZ)(a:Int):Prop:=((In b.length 2/\In d.length ((a+(at' b 2))%15))/\(let g:=(ch d ((a+(at' b 2))%15));((Pg ((Txt.slice e Z (U c)).length+g.length)/\Pg (((Txt.slice e Z (U c))++g).length+(Txt.slice e (U c) Z).length))/\(let f:=(((Txt.slice e Z (U c))++g)++(Txt.slice e (U c) Z));((In b.length 3/\((decide (((at' b 3)%3)=1))=true->(In d.length (a / (8:Int))/\((1+(a%8))<=1000 ∧ -1000<=(1+(a%8))/\(ch d (a / (8:Int))).length<=1000))))/\(let f:AJ:=(if(decide (((at' b 3)%3)=1))=true then(let f:=(Txt.mul (ch d (a / (8:Int))) (1+(a%8)));f)else f);Pg h.length))))))
theorem Ma(g:B9)(i:Lp gW (g.map eI))(h:Int)(c:AJ)(e:AJ)(b:Int)(a:AZ)(f:Int):RP tO [U gW,U (zE eI h),U (zE eS c),U (zE eS e),U (zE eI b),U (oE eS a),U (zE eI f),Z,Z] (λs=>Ap.nx ((λa:AZ=>[U gW,U (zE eI h),U (zE eS c),U (zE eS e),U (zE eI b),U (oE eS a),Z,Z,Z]) s)) (fV g c e b a f) (U (nZ g c e b a f)):=R.tp (bF (bM 7 (ZL (ao 2 (zE eS) c S) (dM (iV (ao 6 (zE eI) f S) (iu (jP 0 eI g i S) (B0 2))) 15 ())) (λ_=>S) λj=>(bF (bM 8 (Pc (Pc (NM (ao 3 (zE eS) e S) FL (FS (ao 4 (zE eI) b S))) (ao 7 (zE eS) j S)) (NM (ao 3 (zE eS) e S) (FS (ao 4 (zE eI) b S)) FL)) (λ_=>S) λd=>(bF (Bo (λd:AJ=>[U gW,U (zE eI h),U (zE eS c),U (zE eS e),U (zE eI b),U (oE eS a),U (zE eI f),U (zE eS j),U (zE eS d)]) (dU (C2 () (dM (iu (jP 0 eI g i S) (B0 3)) 3 ()) (B0 1))) (bF (bM 8 (OM (ZL (ao 2 (zE eS) c S) (Ei (ao 6 (zE eI) f S) 8 ())) (iV (B0 1) (dM (ao 6 (zE eI) f S) 8 ()))) (λ_=>S) λd=>(bR (bH d S)))) (bR (bH d S)) λd=>(bF (Ek 5 a S (ao 8 (zE eS) d S) λa=>(bR (bH a S))))))))))
def n6(c:B9)(f:Int)(e:AJ)(b:AJ):AZ:=(let d:=((at' c 1)%((b.length:Int)+1));(let a:=([]:AZ);(let a:AZ:=((rng 0 f.toNat).foldl (λ(a:AZ) (g:Int)=>(fV c e b d a g)) a);a)))
def tY(c:B9)(g:Int)(f:AJ)(b:AJ):Prop:=((In c.length 1/\0<((b.length:Int)+1))/\(let e:=((at' c 1)%((b.length:Int)+1));(let a:=([]:AZ);(Rg g/\lO (λ(a:AZ) (d:Int)=>(fV c f b e a d)) (λ(a:AZ) (d:Int)=>U (nZ c f b e a d)) (rng 0 g.toNat) a))))
def Mf:Ev->Y Ap:=(aF (Au 4 (b2 iD (b2 eY (gv 0) (cB (.int 1))) (b2 fZ (cG qz (aq (gv 3) aH)) (cB (.int 1))))) (aF (Au 5 (cG oF aH)) (aF (sZ (T4 (aq (gv 1) aH)) (jZ 6) tO) (aF (Ge 5) dR))))
theorem Mg(e:B9)(f:Lp gW (e.map eI))(c:Int)(d:AJ)(b:AJ):RP Mf [U gW,U (zE eI c),U (zE eS d),U (zE eS b),Z,Z,Z,Z,Z] (λr=>Ap.rt (oE eS r)) (n6 e c d b) (U (tY e c d b)):=R.tp (bM 4 (Kr (iu (jP 0 eI e f S) (B0 1)) (iV (n9 (ao 3 (zE eS) b S)) (B0 1))) (λ_=>S) λg=>(bM 5 (lN (eZ eS) (zS S)) (λ_=>S) λa=>(KN (λa:AZ=>[U gW,U (zE eI c),U (zE eS d),U (zE eS b),U (zE eI g),U (oE eS a),Z,Z,Z]) a S (Pj (ao 1 (zE eI) c S)) _ (λ_ _=>S) (λ(a:AZ) (h:Int)=>(Ma e f c d b g a h).r) λa=>(Cr 5 (λr=>r) a S (λ_=>S) λ_=>S))))
def cT(a:B9)(d:Int):AZ:=(let b:=("abcdefghijklmnopqrstuvwxyz":AJ);(let c:=(Txt.join "" ((rng 0 ((at' a 0)%6).toNat).map λe:Int=>(ch b (((at' a e) / (40:Int))%26))));(n6 a d b c)))
def vA(a:B9)(e:Int):Prop:=(let c:=("abcdefghijklmnopqrstuvwxyz":AJ);(((((In a.length 0/\Rg ((at' a 0)%6))/\(rng 0 ((at' a 0)%6).toNat).length<=100000)/\(∀b∈(rng 0 ((at' a 0)%6).toNat),(In a.length b/\In c.length (((at' a b) / (40:Int))%26))))/\(((rng 0 ((at' a 0)%6).toNat).map λb:Int=>(ch c (((at' a b) / (40:Int))%26))).map (·.length)).sum+((rng 0 ((at' a 0)%6).toNat).map λb:Int=>(ch c (((at' a b) / (40:Int))%26))).length*("":AJ).length<=100000)/\(let d:=(Txt.join "" ((rng 0 ((at' a 0)%6).toNat).map λb:Int=>(ch c (((at' a b) / (40:Int))%26))));(tY a e c d))))
theorem VP(a:B9)(b:Lp gW (a.map eI))(c:Int):RP uN [U gW,U (zE eI c),Z,Z,Z,Z,Z,Z,Z] (λr=>Ap.rt (oE eS r)) (cT a c) (U (vA a c)):=R.tp (bM 2 (MG "abcdefghijklmnopqrstuvwxyz") (λ_=>S) λd=>(bM 3 (aa "" (jz (Rh (Pj (dM (iu (jP 0 eI a b S) (B0 0)) 6 ())) _ (λ_=>S) (λf:Int=>(ZL (ao 0 (zE eS) d S) (dM (Ei (iu (jP 1 eI a b (congrArg U (b.get S))) (ao 2 (zE eI) f S)) 40 ()) 26 ())))))) (λ_=>S) λe=>(Mg a b c d e).r))
theorem VR:∀v bs,(aL eI (aZ eI aN)) v bs->bs.length=2/\(hold (U (vA v.1 v.2.1))->qp (bs.map lend)=U ((oE eS) (cT v.1 v.2.1))):=by
 rintro⟨c,a,_⟩ _ ⟨gW,_,rfl,b,⟨_,rfl,rfl⟩⟩;exact⟨rfl,λh=>bW (g:=uN) (n:=9) (bs:=[lend gW,.z (eI a)]) (VP c (vW b) a) h⟩
def dH(j:B9)(g:Int)(e:Int)(h:B9)(f:AZ)(a:O aD)(l:Int):(O aD):=(let b:=(aU (aX j ((g+1)+l)) 4);(let y1:=((at' b 0)%(if e>1 then e else 1));let y2:=((at' b 1)%(if e>1 then e else 1));let d:=y1;let c:=y2;(let i:=(at' [(1+((at' b 2)%3)),(1+((at' b 2)%9)),(1+((at' b 2)%1000))] ((at' h 4)%3));(let a:(O aD):=(if(!decide (d=c))=true then(let a:=a++[(((0:Int)-i),(at' f (if c<d then c else d)),(at' f (if c>d then c else d)),(at' [(0:Int),(2:Int),(10:Int)] ((at' b 3)%3)))];a)else a);a))))
def jB(g:B9)(e:Int)(b:Int)(f:B9)(i:AZ)(j:O aD)(h:Int):Prop:=(((ji g ((e+1)+h))/\(fG (aX g ((e+1)+h)) 4))/\(let a:=(aU (aX g ((e+1)+h)) 4);(((In a.length 0/\0<(if b>1 then b else 1))/\(In a.length 1/\0<(if b>1 then b else 1)))/\(let y1:=((at' a 0)%(if b>1 then b else 1));let y2:=((at' a 1)%(if b>1 then b else 1));let d:=y1;let c:=y2;((((In a.length 2/\(In a.length 2/\In a.length 2))/\In f.length 4)/\In [(1+((at' a 2)%3)),(1+((at' a 2)%9)),(1+((at' a 2)%1000))].length ((at' f 4)%3))/\(let l:=(at' [(1+((at' a 2)%3)),(1+((at' a 2)%9)),(1+((at' a 2)%1000))] ((at' f 4)%3));((!decide (d=c))=true->((In i.length (if c<d then c else d)/\(In i.length (if c>d then c else d)/\(In a.length 3/\In [(0:Int),(2:Int),(10:Int)].length ((at' a 3)%3))))/\Pg j.length))))))))
theorem IV(i:B9)(o:Lp gW (i.map eI))(e:Int)(c:Int)(m:Int)(l:Int)(f:B9)(d:AZ)(a:O aD)(g:Int):RP qD [U gW,U (zE eI e),U (zE eI c),U (zE eI m),U (zE eI l),U (oE eI f),U (oE eS d),U (oE aG a),U (zE eI g),Z,Z,Z,Z,Z,Z] (λs=>Ap.nx ((λa:(O aD)=>[U gW,U (zE eI e),U (zE eI c),U (zE eI m),U (zE eI l),U (oE eI f),U (oE eS d),U (oE aG a),Z,Z,Z,Z,Z,Z,Z]) s)) (dH i e c f d a g) (U (jB i e c f d a g)):=R.tp (bF (bM 9 (An lR (bQ (mZ (An tX (w5 (jP 0 eI i o S) (bQ (mZ (iV (iV (ao 1 (zE eI) e S) (B0 1)) (ao 8 (zE eI) g S))) aW)))) (bQ (B0 4) aW))) (λ_=>S) λb=>(bF (MQ 10 11 (Kr (iu (eG (ao 9 (lE eI) b S)) (B0 0)) (Ph (B0 1) (ao 2 (zE eI) c S))) (Kr (iu (eG (ao 9 (lE eI) b S)) (B0 1)) (Ph (B0 1) (ao 2 (zE eI) c S))) λj h=>(bF (bM 12 (iu (jz (lN (cH (mZ (iV (B0 1) (dM (iu (eG (ao 9 (lE eI) b S)) (B0 2)) 3 ()))) (cH (mZ (iV (B0 1) (dM (iu (eG (ao 9 (lE eI) b S)) (B0 2)) 9 ()))) (cH (mZ (iV (B0 1) (dM (iu (eG (ao 9 (lE eI) b S)) (B0 2)) 1000 ()))) (eZ eI)))) (zS S))) (dM (iu (eG (ao 5 (lE eI) f S)) (B0 4)) 3 ())) (λ_=>S) λn=>(bF (Bo (λa:(O aD)=>[U gW,U (zE eI e),U (zE eI c),U (zE eI m),U (zE eI l),U (oE eI f),U (oE eS d),U (oE aG a),U (zE eI g),U (oE eI b),U (zE eI j),U (zE eI h),U (zE eI n),Z,Z]) (dU (F2 () (ao 10 (zE eI) j S) (ao 11 (zE eI) h S))) (bF (Ek 7 a S (KC (zH (B0 0) (ao 12 (zE eI) n S)) (iu (eG (ao 6 (lE eS) d S)) (Mn (ao 10 (zE eI) j S) (ao 11 (zE eI) h S))) (iu (eG (ao 6 (lE eS) d S)) (Ph (ao 10 (zE eI) j S) (ao 11 (zE eI) h S))) (iu (jz (lN (cH (B0 0) (cH (B0 2) (cH (B0 10) (eZ eI)))) (zS S))) (dM (iu (eG (ao 9 (lE eI) b S)) (B0 3)) 3 ()))) λa=>(bR (bH a S)))) (bR (bH a S)) λa=>(bR (bH a S))))))))))
def dW(j:B9)(h:Int)(d:Int)(f:AZ)(a:O lQ)(l:Int):(O lQ):=(let e:=(aU (aX j ((h+1)+l)) 8);(let g:=((at' e 5)%(if d>1 then d else 1));let i:=((at' e 6)%(if d>1 then d else 1));let c:=g;let b:=i;(let a:(O lQ):=(if(!decide (c=b))=true then(let a:=a++[((at' f (if b<c then b else c)),(at' f (if b>c then b else c)),(at' [(2:Int),(10:Int)] ((at' e 7)%2)))];a)else a);a)))
def jC(f:B9)(e:Int)(a:Int)(h:AZ)(j:O lQ)(g:Int):Prop:=(((ji f ((e+1)+g))/\(fG (aX f ((e+1)+g)) 8))/\(let b:=(aU (aX f ((e+1)+g)) 8);(((In b.length 5/\0<(if a>1 then a else 1))/\(In b.length 6/\0<(if a>1 then a else 1)))/\(let i:=((at' b 5)%(if a>1 then a else 1));let l:=((at' b 6)%(if a>1 then a else 1));let d:=i;let c:=l;((!decide (d=c))=true->((In h.length (if c<d then c else d)/\(In h.length (if c>d then c else d)/\(In b.length 7/\In [(2:Int),(10:Int)].length ((at' b 7)%2))))/\Pg j.length))))))
theorem IW(h:B9)(p:Lp gW (h.map eI))(d:Int)(b:Int)(n:Int)(l:Int)(m:B9)(c:AZ)(j:O aD)(o:O aD)(a:O lQ)(e:Int):RP qF [U gW,U (zE eI d),U (zE eI b),U (zE eI n),U (zE eI l),U (oE eI m),U (oE eS c),U (oE aG j),U (zE eI e),Z,Z,Z,Z,U (oE aG o),U (oE Ax a)] (λs=>Ap.nx ((λa:(O lQ)=>[U gW,U (zE eI d),U (zE eI b),U (zE eI n),U (zE eI l),U (oE eI m),U (oE eS c),U (oE aG j),Z,Z,Z,Z,Z,U (oE aG o),U (oE Ax a)]) s)) (dW h d b c a e) (U (jC h d b c a e)):=R.tp (bF (bM 9 (An lR (bQ (mZ (An tX (w5 (jP 0 eI h p S) (bQ (mZ (iV (iV (ao 1 (zE eI) d S) (B0 1)) (ao 8 (zE eI) e S))) aW)))) (bQ (B0 8) aW))) (λ_=>S) λf=>(bF (MQ 10 11 (Kr (iu (eG (ao 9 (lE eI) f S)) (B0 5)) (Ph (B0 1) (ao 2 (zE eI) b S))) (Kr (iu (eG (ao 9 (lE eI) f S)) (B0 6)) (Ph (B0 1) (ao 2 (zE eI) b S))) λi g=>(bF (Bo (λa:(O lQ)=>[U gW,U (zE eI d),U (zE eI b),U (zE eI n),U (zE eI l),U (oE eI m),U (oE eS c),U (oE aG j),U (zE eI e),U (oE eI f),U (zE eI i),U (zE eI g),Z,U (oE aG o),U (oE Ax a)]) (dU (F2 () (ao 10 (zE eI) i S) (ao 11 (zE eI) g S))) (bF (Ek 14 a S (Kz (iu (eG (ao 6 (lE eS) c S)) (Mn (ao 10 (zE eI) i S) (ao 11 (zE eI) g S))) (iu (eG (ao 6 (lE eS) c S)) (Ph (ao 10 (zE eI) i S) (ao 11 (zE eI) g S))) (iu (jz (lN (cH (B0 2) (cH (B0 10) (eZ eI))) (zS S))) (dM (iu (eG (ao 9 (lE eI) f S)) (B0 7)) 2 ()))) λa=>(bR (bH a S)))) (bR (bH a S)) λa=>(bR (bH a S))))))))
def qG(i:B9)(d:Int)(g:Int)(m:Int)(f:Int)(l:B9)(c:AZ)(e:O aD):eU:=(let h:=((uH aG (Gy e)).map λb:aD=>(((0:Int)-b.1),b.2.1,b.2.2.1,b.2.2.2));(let a:=([]:O lQ);(let a:(O lQ):=((rng 0 f.toNat).foldl (λ(a:O lQ) (j:Int)=>(dW i d g c a j)) a);(c,h,(uH Ax (Gy a))))))
def qH(h:B9)(e:Int)(g:Int)(l:Int)(f:Int)(j:B9)(i:AZ)(c:O aD):Prop:=(((c.length<=64/\c.length<64)/\(uH aG (Gy c)).length<=100000)/\(let m:=((uH aG (Gy c)).map λd:aD=>(((0:Int)-d.1),d.2.1,d.2.2.1,d.2.2.2));(let a:=([]:O lQ);((Rg f/\lO (λ(a:O lQ) (b:Int)=>(dW h e g i a b)) (λ(a:O lQ) (b:Int)=>U (jC h e g i a b)) (rng 0 f.toNat) a)/\(let a:(O lQ):=((rng 0 f.toNat).foldl (λ(a:O lQ) (b:Int)=>(dW h e g i a b)) a);(a.length<=64/\a.length<64))))))
def yJ:Ev->Y Ap:=(aF (Au 13 (d7 (Hl (Kf (Xm (gv 7)))) (yD 4 (c7 (jZ 0) (c7 (jZ 1) (c7 (jZ 2) (c7 (jZ 3) Bh))))) ur (cG mj (aq (b2 BU (cB (.int 0)) (gv 0)) (aq (gv 1) (aq (gv 2) (aq (gv 3) aH))))) [] 4)) (aF (Au 14 (cG oF aH)) (aF (sZ (T4 (aq (gv 4) aH)) (jZ 8) qF) (aF (fK (cG mj (aq (cG lH (aq (gv 6) aH)) (aq (cG lH (aq (gv 13) aH)) (aq (cG lH (aq (Kf (Xm (gv 14))) aH)) aH))))) dR))))
theorem Ja(j:B9)(m:Lp gW (j.map eI))(e:Int)(h:Int)(g:Int)(c:Int)(f:B9)(d:AZ)(b:O aD):RP yJ [U gW,U (zE eI e),U (zE eI h),U (zE eI g),U (zE eI c),U (oE eI f),U (oE eS d),U (oE aG b),Z,Z,Z,Z,Z,Z,Z] (λr=>Ap.rt (zE bI r)) (qG j e h g c f d b) (U (qH j e h g c f d b)):=R.tp (bM 13 (j7 (Iv (jz (Nc (RE (eG (ao 7 (lE aG) b S)))))) _ (λ_=>S) (λi:aD=>(KC (zH (B0 0) (ao 0 (zE eI) i.1 S)) (ao 1 (zE eS) i.2.1 S) (ao 2 (zE eS) i.2.2.1 S) (ao 3 (zE eI) i.2.2.2 S))) λ_=>S) (λ_=>S) λl=>(bM 14 (lN (eZ Ax) (zS S)) (λ_=>S) λa=>(KN (λa:(O lQ)=>[U gW,U (zE eI e),U (zE eI h),U (zE eI g),U (zE eI c),U (oE eI f),U (oE eS d),U (oE aG b),Z,Z,Z,Z,Z,U (oE aG l),U (oE Ax a)]) a S (Pj (ao 4 (zE eI) c S)) _ (λ_ _=>S) (λ(a:O lQ) (n:Int)=>(IW j m e h g c f d b l a n).r) λa=>(dB (λr=>r) (Kz (qU (eG (ao 6 (lE eS) d S))) (qU (eG (ao 13 (lE aG) l S))) (qU (jz (Nc (RE (eG (ao 14 (lE Ax) a S))))))) (λ_=>S) λ_=>S))))
def qI(f:B9)(b:Int)(e:Int)(c:Int)(h:Int)(d:B9)(g:AZ):eU:=(let a:=([]:O aD);(let a:(O aD):=((rng 0 c.toNat).foldl (λ(a:O aD) (i:Int)=>(dH f b e d g a i)) a);(qG f b e c h d g a)))
def qJ(g:B9)(c:Int)(f:Int)(d:Int)(i:Int)(e:B9)(h:AZ):Prop:=(let a:=([]:O aD);((Rg d/\lO (λ(a:O aD) (b:Int)=>(dH g c f e h a b)) (λ(a:O aD) (b:Int)=>U (jB g c f e h a b)) (rng 0 d.toNat) a)/\(let a:(O aD):=((rng 0 d.toNat).foldl (λ(a:O aD) (b:Int)=>(dH g c f e h a b)) a);(qH g c f d i e h a))))
def yK:Ev->Y Ap:=(aF (Au 7 (cG oF aH)) (aF (sZ (T4 (aq (gv 3) aH)) (jZ 8) qD) yJ))
theorem Jb(h:B9)(i:Lp gW (h.map eI))(c:Int)(f:Int)(b:Int)(d:Int)(e:B9)(g:AZ):RP yK [U gW,U (zE eI c),U (zE eI f),U (zE eI b),U (zE eI d),U (oE eI e),U (oE eS g),Z,Z,Z,Z,Z,Z,Z,Z] (λr=>Ap.rt (zE bI r)) (qI h c f b d e g) (U (qJ h c f b d e g)):=R.tp (bM 7 (lN (eZ aG) (zS S)) (λ_=>S) λa=>(KN (λa:(O aD)=>[U gW,U (zE eI c),U (zE eI f),U (zE eI b),U (zE eI d),U (oE eI e),U (oE eS g),U (oE aG a),Z,Z,Z,Z,Z,Z,Z]) a S (Pj (ao 3 (zE eI) b S)) _ (λ_ _=>S) (λ(a:O aD) (j:Int)=>(IV h i c f b d e g a j).r) λa=>(Ja h i c f b d e g a).r))
def qK(f:B9)(c:Int)(b:Int)(e:Int)(d:Int)(a:B9):eU:=(let g:=(oJ (cT a b));(qI f c b e d a g))
def qL(f:B9)(c:Int)(b:Int)(e:Int)(d:Int)(a:B9):Prop:=(((vA a b)/\(cT a b).length<64)/\(let g:=(oJ (cT a b));(qJ f c b e d a g)))
def Jc:Ev->Y Ap:=(aF (Au 6 (cG Ho (aq (bJ 2 qp (aq (gv 5) (aq (gv 2) aH))) aH))) yK)
theorem Jd(f:B9)(g:Lp gW (f.map eI))(c:Int)(b:Int)(e:Int)(d:Int)(a:B9):RP Jc [U gW,U (zE eI c),U (zE eI b),U (zE eI e),U (zE eI d),U (oE eI a),Z,Z,Z,Z,Z,Z,Z,Z,Z] (λr=>Ap.rt (zE bI r)) (qK f c b e d a) (U (qL f c b e d a)):=R.tp (bM 6 (Rf (jz (An VR (w5 (eG (ao 5 (lE eI) a S)) (bQ (ao 2 (zE eI) b S) aW))))) (λ_=>S) λh=>(Jb f g c b e d a h).r)
def rM(b:B9)(a:Int)(f:Int)(d:Int)(c:Int):eU:=(let e:=(aU (aX b a) 6);(qK b a f d c e))
def rN(b:B9)(a:Int)(f:Int)(d:Int)(c:Int):Prop:=(((ji b a)/\(fG (aX b a) 6))/\(let e:=(aU (aX b a) 6);(qL b a f d c e)))
theorem RN(b:B9)(f:Lp gW (b.map eI))(a:Int)(e:Int)(d:Int)(c:Int):RP qW [U gW,U (zE eI a),U (zE eI e),U (zE eI d),U (zE eI c),Z,Z,Z,Z,Z,Z,Z,Z,Z,Z] (λr=>Ap.rt (zE bI r)) (rM b a e d c) (U (rN b a e d c)):=R.tp (bM 5 (An lR (bQ (mZ (An tX (w5 (jP 0 eI b f S) (bQ (ao 1 (zE eI) a S) aW)))) (bQ (B0 6) aW))) (λ_=>S) λg=>(Jd b f a e d c g).r)
theorem RQ:∀v bs,(aL eI (aZ eI (aZ eI (aZ eI (aZ eI aN))))) v bs->bs.length=5/\(hold (U (rN v.1 v.2.1 v.2.2.1 v.2.2.2.1 v.2.2.2.2.1))->qX (bs.map lend)=U ((zE bI) (rM v.1 v.2.1 v.2.2.1 v.2.2.2.1 v.2.2.2.2.1))):=by
 rintro⟨f,a,d,c,b,_⟩ _ ⟨gW,_,rfl,e,⟨_,rfl,⟨_,rfl,⟨_,rfl,⟨_,rfl,rfl⟩⟩⟩⟩⟩;exact⟨rfl,λh=>bW (g:=qW) (n:=15) (bs:=[lend gW,.z (eI a),.z (eI d),.z (eI c),.z (eI b)]) (RN f (vW e) a d c b) h⟩
def jW(b:B9):eU:=(let a:=(aU (aX b 0) 12);(if(decide (((at' a 9)%16)=5))=true then(qt ((at' a 9) / (16:Int)) (at' a 10) (at' a 11))else(let c:=((at' a 6)%15);(rM b 0 c ((at' a 7)%22) ((at' a 8)%4)))))
def qw(b:B9):Prop:=(((ji b 0)/\(fG (aX b 0) 12))/\(let a:=(aU (aX b 0) 12);(In a.length 9/\(((decide (((at' a 9)%16)=5))=true->((In a.length 9/\(In a.length 10/\In a.length 11))/\(qu ((at' a 9) / (16:Int)) (at' a 10) (at' a 11))))/\((decide (((at' a 9)%16)=5))=false->(In a.length 6/\(let c:=((at' a 6)%15);((In a.length 7/\In a.length 8)/\(rN b 0 c ((at' a 7)%22) ((at' a 8)%4))))))))))
theorem V0(b:B9)(c:Lp gW (b.map eI)):RP uO [U gW,Z,Z] (λr=>Ap.rt (zE bI r)) (jW b) (U (qw b)):=R.tp (bM 1 (An lR (bQ (mZ (An tX (w5 (jP 0 eI b c S) (bQ (B0 0) aW)))) (bQ (B0 12) aW))) (λ_=>S) λa=>(nP (dU (C2 () (dM (iu (eG (ao 1 (lE eI) a S)) (B0 9)) 16 ()) (B0 5))) (bF (dB (λr=>r) (An VN (bQ (Ei (iu (eG (ao 1 (lE eI) a S)) (B0 9)) 16 ()) (bQ (iu (eG (ao 1 (lE eI) a S)) (B0 10)) (bQ (iu (eG (ao 1 (lE eI) a S)) (B0 11)) aW)))) (λ_=>S) λ_=>S)) (bR (bM 2 (dM (iu (eG (ao 1 (lE eI) a S)) (B0 6)) 15 ()) (λ_=>S) λd=>(dB (λr=>r) (An RQ (w5 (jP 0 eI b c S) (bQ (B0 0) (bQ (ao 2 (zE eI) d S) (bQ (dM (iu (eG (ao 1 (lE eI) a S)) (B0 7)) 22 ()) (bQ (dM (iu (eG (ao 1 (lE eI) a S)) (B0 8)) 4 ()) aW)))))) (λ_=>S) λ_=>S)))))
theorem V1:∀v bs,(aL eI aN) v bs->bs.length=1/\(hold (U (qw v.1))->uP (bs.map lend)=U ((zE bI) (jW v.1))):=by
 rintro⟨b,_⟩ _ ⟨gW,_,rfl,a,rfl⟩;exact⟨rfl,λh=>bW (g:=uO) (n:=3) (bs:=[lend gW]) (V0 b (vW a)) h⟩
def aP(b:AZ):(O (AJ×AJ)):=(HG (b.map λa:AJ=>(a,a)))
def lB(a:AZ):Prop:=(a.length<1000/\a.length<=100000)
theorem RV(a:AZ):RP qY [U ((zE (eT eS)) a)] (λr=>Ap.rt (mE eS r)) (aP a) (U (lB a)):=R.tp (dB (λr=>r) (l6 (XF (ao 0 (zE (eT eS)) a S)) (j7 (XF (ao 0 (zE (eT eS)) a S)) _ (λ_=>S) (λb:AJ=>(ck (ao 0 (zE eS) b S) (ao 0 (zE eS) b S))) λ_=>S)) (λ_=>S) λ_=>S)
theorem yd:∀v bs,(aZ (eT eS) aN) v bs->bs.length=1/\(hold (U (lB v.1))->j8 (bs.map lend)=U ((mE eS) (aP v.1))):=by
 rintro⟨a,_⟩ _ ⟨_,rfl,rfl⟩;exact⟨rfl,λh=>bW (g:=qY) (n:=1) (bs:=[.z (eT eS a)]) (RV a) h⟩
def dX(c:AJ)(d:AJ)(e:AJ)(a:(O (AJ×AJ)))(b:AJ):(O (AJ×AJ)):=(let a:(O (AJ×AJ)):=(if((decide ((look a b)=c))||(decide ((look a b)=d)))=true then(let a:=put a b e;a)else a);a)
def qM(c:AJ)(d:AJ)(e:AJ)(a:(O (AJ×AJ)))(b:AJ):Prop:=((has a b=true/\((decide ((look a b)=c))=false->has a b=true))/\(((decide ((look a b)=c))||(decide ((look a b)=d)))=true->a.length<1000))
theorem Je(c:AJ)(d:AJ)(e:AJ)(a:(O (AJ×AJ)))(b:AJ):RP yH [U ((mW (U a_) eS) a),U (zE eS c),U (zE eS d),U (zE eS e),U (zE eS b)] (λs=>Ap.nx ((λa:(O (AJ×AJ))=>[U ((mW (U a_) eS) a),U (zE eS c),U (zE eS d),U (zE eS e),Z]) s)) (dX c d e a b) (U (qM c d e a b)):=R.tp (bF (Bo (λa:(O (AJ×AJ))=>[U ((mW (U a_) eS) a),U (zE eS c),U (zE eS d),U (zE eS e),U (zE eS b)]) (Xx (dU (C2 () (nQ (ao 0 (nE eS) a S) (ao 4 (zE eS) b S)) (ao 1 (zE eS) c S))) (dU (C2 () (nQ (ao 0 (nE eS) a S) (ao 4 (zE eS) b S)) (ao 2 (zE eS) d S)))) (bF (ZW (U a_) 0 a S (ao 3 (zE eS) e S) (ao 4 (zE eS) b S) λa=>(bR (bH a S)))) (bR (bH a S)) λa=>(bR (bH a S))))
def jk(a:(O (AJ×AJ)))(b:AJ)(c:AJ):(O (AJ×AJ)):=(let e:=(if vJ c b=true then c else b);(let a:(O (AJ×AJ)):=((a.map (·.1)).foldl (λ(a:(O (AJ×AJ))) (d:AJ)=>(dX b c e a d)) a);a))
def lC(a:(O (AJ×AJ)))(b:AJ)(c:AJ):Prop:=(let e:=(if vJ c b=true then c else b);lO (λ(a:(O (AJ×AJ))) (d:AJ)=>(dX b c e a d)) (λ(a:(O (AJ×AJ))) (d:AJ)=>U (qM b c e a d)) (a.map (·.1)) a)
def yg(a:(O (AJ×AJ)))(b:AJ)(c:AJ):R qZ [U ((mW (U a_) eS) a),U (zE eS b),U (zE eS c),Z,Z] (λf=>Ap.nx [U ((mW (U a_) eS) f),U (zE eS b),U (zE eS c),Z,Z]):=(bF (bM 3 (N0 (ao 1 (zE eS) b S) (ao 2 (zE eS) c S)) (λ_=>S) λd=>(bF (KN (λa:(O (AJ×AJ))=>[U ((mW (U a_) eS) a),U (zE eS b),U (zE eS c),U (zE eS d),Z]) a S (MM (dy (ao 0 (nE eS) a S))) _ (λ_ _=>S) (λ(a:(O (AJ×AJ))) (e:AJ)=>(Je b c d a e).r) λa=>(bR (bH a S))))))
theorem NK(a:(O (AJ×AJ)))(b:AJ)(c:AJ):(yg (a_:=a_) a b c).v=jk a b c:=by kernel_rfl
theorem NP(a:(O (AJ×AJ)))(b:AJ)(c:AJ):(yg (a_:=a_) a b c).D=U (lC a b c):=by kernel_rfl
theorem yh:∀(b:(O (AJ×AJ))) v bs,(aZ eS (aZ eS aN)) v bs->bs.length=2/\bs.all EN=true/\(hold (U (lC b v.1 v.2.1))->∀a,iZ a (b.map λq=>(kS q.1,eS q.2)) bs=U ((jk b v.1 v.2.1).map λq=>(kS q.1,eS q.2))):=by
 rintro b ⟨c,d,_⟩ _ ⟨_,rfl,⟨_,rfl,rfl⟩⟩;exact⟨rfl,rfl,λh a=>(iN (g:=qZ) (n:=5) (bs:=[.z (eS c),.z (eS d)]) (yg (a_:=a) b c d) ((congrArg hold (NP (a_:=a) b c d)).mpr h) (λ_=>S)).trans (congrArg (λr:(O (AJ×AJ))=>U (r.map λq=>(kS q.1,eS q.2))) (NK (a_:=a) b c d))⟩
def dY(a:(O (AJ×AJ))×(O aD))(b:aD):(O (AJ×AJ))×(O aD):=(let c:=(look a.1 b.2.1);(let e:=(look a.1 b.2.2.1);(let d:(O (AJ×AJ))×(O aD):=(if(!decide (c=e))=true then(let f:=(jk a.1 c e);(let vx:=a.2++[b];(f,vx)))else(a.1,a.2));(d.1,d.2))))
def lY(a:(O (AJ×AJ))×(O aD))(b:aD):Prop:=(has a.1 b.2.1=true/\(let c:=(look a.1 b.2.1);(has a.1 b.2.2.1=true/\(let d:=(look a.1 b.2.2.1);((!decide (c=d))=true->((lC a.1 c d)/\(let e:=(jk a.1 c d);Pg a.2.length)))))))
theorem Jf(g:eU)(i:AZ)(f:O aD)(e:O lQ)(a:(O (AJ×AJ))×(O aD))(b:aD):RP yI [U (zE bI g),U ((zE (eT eS)) i),U ((zE (eT aG)) f),U ((zE (eT Ax)) e),U ((mE eS) a.1),U ((oE aG) a.2),U (zE aG b),Z,Z] (λs=>Ap.nx ((λa:(O (AJ×AJ))×(O aD)=>[U (zE bI g),U ((zE (eT eS)) i),U ((zE (eT aG)) f),U ((zE (eT Ax)) e),U ((mE eS) a.1),U ((oE aG) a.2),Z,Z,Z]) s)) (dY  a b) (U (lY  a b)):=R.tp (bF (bM 7 (nQ (ao 4 (nE eS) a.1 S) (d8 (ao 6 (zE aG) b S) (λq=>q.2.1) eS 1 λ_=>S)) (λ_=>S) λd=>(bF (bM 8 (nQ (ao 4 (nE eS) a.1 S) (d8 (ao 6 (zE aG) b S) (λq=>q.2.2.1) eS 2 λ_=>S)) (λ_=>S) λh=>(bF (Bo (λc:(O (AJ×AJ))×(O aD)=>[U (zE bI g),U ((zE (eT eS)) i),U ((zE (eT aG)) f),U ((zE (eT Ax)) e),U ((mE eS) c.1),U ((oE aG) c.2),U (zE aG b),U (zE eS d),U (zE eS h)]) (dU (F2 () (ao 7 (zE eS) d S) (ao 8 (zE eS) h S))) (bF (XR Z 4 a.1 S yh (bQ (ao 7 (zE eS) d S) (bQ (ao 8 (zE eS) h S) aW)) λj=>(bF (Ek 5 a.2 S (ao 6 (zE aG) b S) λvx=>(bR (bH (j,vx) S)))))) (bR (bH (a.1,a.2) S)) λc=>(bR (bH (c.1,c.2) S))))))))
def eV(d:eU):(O aD):=(let q1:=d;(let b:=(aP q1.1);(let vx:=([]:O aD);(let a:(O (AJ×AJ))×(O aD):=(q1.2.1.foldl (λ(a:(O (AJ×AJ))×(O aD)) (c:aD)=>(dY  a c)) (b,vx));a.2))))
def jl(d:eU):Prop:=(let q1:=d;((lB q1.1)/\(let c:=(aP q1.1);(let vx:=([]:O aD);lO (λ(a:(O (AJ×AJ))×(O aD)) (b:aD)=>(dY  a b)) (λ(a:(O (AJ×AJ))×(O aD)) (b:aD)=>U (lY  a b)) q1.2.1 (c,vx)))))
theorem RW(b:eU):RP q8 [U (zE bI b),Z,Z,Z,Z,Z,Z,Z,Z] (λr=>Ap.rt (oE aG r)) (eV b) (U (jl b)):=R.tp (LY (ao 0 (zE bI) b S) _ (λ_=>S) λq1=>(bM 4 (An yd (bQ (ao 1 (zE (eT eS)) q1.1 S) aW)) (λ_=>S) λc=>(bM 5 (lN (eZ aG) (zS S)) (λ_=>S) λvx=>(GD 2 q1.2.1 (XJ S) (λa:(O (AJ×AJ))×(O aD)=>[U (zE bI b),U ((zE (eT eS)) q1.1),U ((zE (eT aG)) q1.2.1),U ((zE (eT Ax)) q1.2.2),U ((mE eS) a.1),U ((oE aG) a.2),Z,Z,Z]) (c,vx) S _ (λ_ _=>S) (λ(a:(O (AJ×AJ))×(O aD)) (d:aD)=>(Jf b q1.1 q1.2.1 q1.2.2 a d).r) λa=>(Cr 5 (λr=>r) a.2 S (λ_=>S) λ_=>S)))))
theorem yj:∀v bs,(aZ bI aN) v bs->bs.length=1/\(hold (U (jl v.1))->gq (bs.map lend)=U ((oE aG) (eV v.1))):=by
 rintro⟨a,_⟩ _ ⟨_,rfl,rfl⟩;exact⟨rfl,λh=>bW (g:=q8) (n:=9) (bs:=[.z (bI a)]) (RW a) h⟩
def gY(a:Dt)(b:Int):Bool:=((B5 a)&&(decide ((Rb a)=b)))
def tZ(a:Dt)(b:Int):Prop:=((B5 a)=true->Rc a=true)
theorem Yk(a:Dt)(b:Int):RP xH [U (zE eD a),U (zE eI b)] (λr=>Ap.rt (zE eB r)) (gY a b) (U (tZ a b)):=R.tp (dB (λr=>r) (tB (ZP B5 (ao 0 (zE eD) a S)) (C2 () (Xz (ao 0 (zE eD) a S)) (ao 1 (zE eI) b S))) (λ_=>S) λ_=>S)
theorem Mh:∀v bs,(aZ eD (aZ eI aN)) v bs->bs.length=2/\(hold (U (tZ v.1 v.2.1))->oW (bs.map lend)=U ((zE eB) (gY v.1 v.2.1))):=by
 rintro⟨a,b,_⟩ _ ⟨_,rfl,⟨_,rfl,rfl⟩⟩;exact⟨rfl,λh=>bW (g:=xH) (n:=2) (bs:=[.z (eD a),.z (eI b)]) (Yk a b) h⟩
def jX(a:Dt):Bool:=((Gj a)&&(!(BQ a)))
theorem Yl(a:Dt):RP xJ [U (zE eD a)] (λr=>Ap.rt (zE eB r)) (jX a) Z:=R.tp (dB (λr=>r) (tB (ZP Gj (ao 0 (zE eD) a S)) (VI (ZP BQ (ao 0 (zE eD) a S)))) (λ_=>S) λ_=>S)
theorem Mi:∀v bs,(aZ eD aN) v bs->bs.length=1/\(hold (Z)->oX (bs.map lend)=U ((zE eB) (jX v.1))):=by
 rintro⟨a,_⟩ _ ⟨_,rfl,rfl⟩;exact⟨rfl,λh=>bW (g:=xJ) (n:=1) (bs:=[.z (eD a)]) (Yl a) h⟩
def qx(a:Dt):Bool:=((jX a)&&((decide ((1:Int)<=(D8 a)))&&(decide ((D8 a)<=1000))))
def vB(a:Dt):Prop:=((jX a)=true->(a=eI (D8 a)/\((decide ((1:Int)<=(D8 a)))=true->a=eI (D8 a))))
theorem V2(a:Dt):RP uQ [U (zE eD a)] (λr=>Ap.rt (zE eB r)) (qx a) (U (vB a)):=R.tp (dB (λr=>r) (tB (An Mi (bQ (ao 0 (zE eD) a S) aW)) (Mc (IT (B0 1) (wZ (ao 0 (zE eD) a S) D8 eI)) (IT (wZ (ao 0 (zE eD) a S) D8 eI) (B0 1000)))) (λ_=>S) λ_=>S)
theorem V3:∀v bs,(aZ eD aN) v bs->bs.length=1/\(hold (U (vB v.1))->uR (bs.map lend)=U ((zE eB) (qx v.1))):=by
 rintro⟨a,_⟩ _ ⟨_,rfl,rfl⟩;exact⟨rfl,λh=>bW (g:=uQ) (n:=1) (bs:=[.z (eD a)]) (V2 a) h⟩
def lD(a:Dt)(d:AJ)(b:Int):Bool:=((sW a)&&(((decide ((1:Int)<=(Rb a)))&&(decide ((Rb a)<=b)))&&(((E8 a).map λc:Dt=>(Oq (XD c) d)).all id)))
def n8(a:Dt)(d:AJ)(c:Int):Prop:=((sW a)=true->((Rc a=true/\((decide ((1:Int)<=(Rb a)))=true->Rc a=true))/\(((decide ((1:Int)<=(Rb a)))&&(decide ((Rb a)<=c)))=true->((Rc a=true/\(E8 a).length<=100000)/\(∀b∈(E8 a),b=eS (XD b))))))
theorem RX(a:Dt)(c:AJ)(b:Int):RP rz [U (zE eD a),U (zE eS c),U (zE eI b)] (λr=>Ap.rt (zE eB r)) (lD a c b) (U (n8 a c b)):=R.tp (dB (λr=>r) (tB (ZP sW (ao 0 (zE eD) a S)) (tB (Mc (IT (B0 1) (Xz (ao 0 (zE eD) a S))) (IT (Xz (ao 0 (zE eD) a S)) (ao 2 (zE eI) b S))) (N4 (jz (Rh (a7 (ao 0 (zE eD) a S)) _ (λ_=>S) (λd:Dt=>(de (wZ (ao 1 (zE eD) d S) XD eS) (ao 0 (zE eS) c S)))))))) (λ_=>S) λ_=>S)
theorem RZ:∀v bs,(aZ eD (aZ eS (aZ eI aN))) v bs->bs.length=3/\(hold (U (n8 v.1 v.2.1 v.2.2.1))->rA (bs.map lend)=U ((zE eB) (lD v.1 v.2.1 v.2.2.1))):=by
 rintro⟨a,c,b,_⟩ _ ⟨_,rfl,⟨_,rfl,⟨_,rfl,rfl⟩⟩⟩;exact⟨rfl,λh=>bW (g:=rz) (n:=3) (bs:=[.z (eD a),.z (eS c),.z (eI b)]) (RX a c b) h⟩
def eF(a:Dt):Bool:=(lD a ("abcdefghijklmnopqrstuvwxyz":AJ) 8)
def rY(a:Dt):Prop:=(n8 a ("abcdefghijklmnopqrstuvwxyz":AJ) 8)
theorem rg(a:Dt):RP Al [U (zE eD a)] (λr=>Ap.rt (zE eB r)) (eF a) (U (rY a)):=R.tp (dB (λr=>r) (An RZ (bQ (ao 0 (zE eD) a S) (bQ (MG "abcdefghijklmnopqrstuvwxyz") (bQ (B0 8) aW)))) (λ_=>S) λ_=>S)
theorem GZ:∀v bs,(aZ eD aN) v bs->bs.length=1/\(hold (U (rY v.1))->oY (bs.map lend)=U ((zE eB) (eF v.1))):=by
 rintro⟨a,_⟩ _ ⟨_,rfl,rfl⟩;exact⟨rfl,λh=>bW (g:=Al) (n:=1) (bs:=[.z (eD a)]) (rg a) h⟩
def Mj(a:Dt):Bool:=(if(!(gY a 3))=true then false else(let q1:=(Ha a);((eF q1.1)&&((eF q1.2.1)&&((vJ (XD q1.1) (XD q1.2.1))&&((jX q1.2.2)&&(decide ((0:Int)<=(D8 q1.2.2)))))))))
def Fw(a:Dt):Prop:=((tZ a 3)/\((!(gY a 3))=false->(a=OS (Ha a)/\(let q1:=(Ha a);((rY q1.1)/\((eF q1.1)=true->((rY q1.2.1)/\((eF q1.2.1)=true->((q1.1=eS (XD q1.1)/\q1.2.1=eS (XD q1.2.1))/\((vJ (XD q1.1) (XD q1.2.1))=true->((jX q1.2.2)=true->q1.2.2=eI (D8 q1.2.2))))))))))))
theorem uk(a:Dt):RP Ez [U (zE eD a),Z,Z,Z] (λr=>Ap.rt (zE eB r)) (Mj a) (U (Fw a)):=R.tp (nP (Kw (UW (An Mh (bQ (ao 0 (zE eD) a S) (bQ (B0 3) aW))))) (bF (dB (λr=>r) (vX (.bl false) eB false S) (λ_=>S) λ_=>S)) (bR (LY (wZ (ao 0 (zE eD) a S) Ha OS) _ (λ_=>S) λq1=>(dB (λr=>r) (tB (An GZ (bQ (ao 1 (zE eD) q1.1 S) aW)) (tB (An GZ (bQ (ao 2 (zE eD) q1.2.1 S) aW)) (tB (cm (wZ (ao 1 (zE eD) q1.1 S) XD eS) (wZ (ao 2 (zE eD) q1.2.1 S) XD eS)) (tB (An Mi (bQ (ao 3 (zE eD) q1.2.2 S) aW)) (EX (wZ (ao 3 (zE eD) q1.2.2 S) D8 eI) (B0 0)))))) (λ_=>S) λ_=>S))))
theorem t9:∀v bs,(aZ eD aN) v bs->bs.length=1/\(hold (U (Fw v.1))->EY (bs.map lend)=U ((zE eB) (Mj v.1))):=by
 rintro⟨a,_⟩ _ ⟨_,rfl,rfl⟩;exact⟨rfl,λh=>bW (g:=Ez) (n:=4) (bs:=[.z (eD a)]) (uk a) h⟩
def qy(a:Dt):Bool:=((gY a 4)&&((qx (DD a 0))&&(Mj (Dt.tup (cut (LI a) (U 1) Z)))))
def vC(a:Dt):Prop:=((tZ a 4)/\((gY a 4)=true->((IL a (0:Int)/\(vB (DD a 0)))/\((qx (DD a 0))=true->(B5 a=true/\(Fw (Dt.tup (cut (LI a) (U 1) Z))))))))
theorem V4(a:Dt):RP uT [U (zE eD a)] (λr=>Ap.rt (zE eB r)) (qy a) (U (vC a)):=R.tp (dB (λr=>r) (tB (An Mh (bQ (ao 0 (zE eD) a S) (bQ (B0 4) aW))) (tB (An V3 (bQ (OA (ao 0 (zE eD) a S) (B0 0)) aW)) (An t9 (bQ (mZ (lc (ao 0 (zE eD) a S) (FS (B0 1)) FL)) aW)))) (λ_=>S) λ_=>S)
theorem V5:∀v bs,(aZ eD aN) v bs->bs.length=1/\(hold (U (vC v.1))->uU (bs.map lend)=U ((zE eB) (qy v.1))):=by
 rintro⟨a,_⟩ _ ⟨_,rfl,rfl⟩;exact⟨rfl,λh=>bW (g:=uT) (n:=1) (bs:=[.z (eD a)]) (V4 a) h⟩
def uc(b:eU)(a:aD):Unit:=(if((!(qy (aG a)))||(!fQ a b.2.1))=true then default else sn)
def mQ(b:eU)(a:aD):Prop:=((vC (aG a))/\(((!(qy (aG a)))||(!fQ a b.2.1))=true->False))
theorem CG(b:eU)(a:aD):RP jc [U (zE bI b),U (zE aG a)] (λ_:Unit=>Ap.nx [U (zE bI b),U (zE aG a)]) (uc b a) (U (mQ b a)):=R.tp (bF (nP (Xx (Kw (UW (An V5 (bQ (ZG (ao 1 (zE aG) a S)) aW)))) (dU (TR () (ao 1 (zE aG) a S) (d8 (ao 0 (zE bI) b S) (λq=>q.2.1) (eT aG) 1 λ_=>S)))) (bF Z2) (bR (bR (bH sn S)))))
theorem CJ:∀v bs,(aZ bI (aZ aG aN)) v bs->bs.length=2/\(hold (U (mQ v.1 v.2.1))->jd (bs.map lend)=U ((zE eN) (uc v.1 v.2.1))):=by
 rintro⟨a,b,_⟩ _ ⟨_,rfl,⟨_,rfl,rfl⟩⟩;exact⟨rfl,λh=>Z4 (g:=jc) (n:=2) (bs:=[.z (bI a),.z (aG b)]) (CG a b).r h⟩
def gZ(a:(O (AJ×AJ)))(q1:aD):(O (AJ×AJ)):=(let a:=(jk a (look a q1.2.1) (look a q1.2.2.1));a)
def vL(a:(O (AJ×AJ)))(q1:aD):Prop:=((has a q1.2.1=true/\has a q1.2.2.1=true)/\(lC a (look a q1.2.1) (look a q1.2.2.1)))
theorem NQ(b:AZ)(c:O aD)(d:Lp b_1 (c.map aG))(a:(O (AJ×AJ)))(q1:aD):RP vK [U ((zE (eT eS)) b),U b_1,U (mE eS a),U ((zE eI) q1.1),U ((zE eS) q1.2.1),U ((zE eS) q1.2.2.1),U ((zE eI) q1.2.2.2)] (λs=>Ap.nx ((λa:(O (AJ×AJ))=>[U ((zE (eT eS)) b),U b_1,U (mE eS a),Z,Z,Z,Z]) s)) (gZ  a q1) (U (vL  a q1)):=R.tp (bF (XR Z 2 a S yh (bQ (nQ (ao 2 (nE eS) a S) (ao 4 (zE eS) q1.2.1 S)) (bQ (nQ (ao 2 (nE eS) a S) (ao 5 (zE eS) q1.2.2.1 S)) aW)) λa=>(bR (bH a S))))
def jo(b:AZ)(c:O aD):(O (AJ×AJ)):=(let a:=(aP b);(let a:(O (AJ×AJ)):=(c.foldl (λ(a:(O (AJ×AJ))) (q1:aD)=>(gZ  a q1)) a);a))
def yq(b:AZ)(c:O aD):Prop:=((lB b)/\(let a:=(aP b);lO (λ(a:(O (AJ×AJ))) (q1:aD)=>(gZ  a q1)) (λ(a:(O (AJ×AJ))) (q1:aD)=>U (vL  a q1)) c a))
theorem Ym(b:AZ)(c:O aD)(d:Lp b_1 (c.map aG)):RP oZ [U ((zE (eT eS)) b),U b_1,Z,Z,Z,Z,Z] (λr=>Ap.rt (mE eS r)) (jo b c) (U (yq b c)):=R.tp (bM 2 (An yd (bQ (ao 0 (zE (eT eS)) b S) aW)) (λ_=>S) λa=>(GD 1 c (XM d S) (λa:(O (AJ×AJ))=>[U ((zE (eT eS)) b),U b_1,U (mE eS a),Z,Z,Z,Z]) a S _ (λ_ _=>S) (λ(a:(O (AJ×AJ))) (q1:aD)=>(NQ b c d a q1).r) λa=>(Cr 2 (λr=>r) a S (λ_=>S) λ_=>S)))
theorem Yn:∀v bs,(aZ (eT eS) (aL aG aN)) v bs->bs.length=2/\(hold (U (yq v.1 v.2.1))->mH (bs.map lend)=U ((mE eS) (jo v.1 v.2.1))):=by
 rintro⟨a,b,_⟩ _ ⟨_,rfl,⟨b_1,_,rfl,c,rfl⟩⟩;exact⟨rfl,λh=>bW (g:=oZ) (n:=7) (bs:=[.z (eT eS a),lend b_1]) (Ym a b (vW c)) h⟩
def g8(b:(O (AJ×AJ)))(c:AJ):AZ:=(((b.map (·.1)).filter λa:AJ=>(decide ((look b a)=c))).map λa:AJ=>a)
def lU(a:(O (AJ×AJ)))(c:AJ):Prop:=((a.map (·.1)).length<=100000/\(∀b∈(a.map (·.1)),has a b=true))
theorem NT(a:(O (AJ×AJ)))(b:AJ):RP pX [U (nE eS a),U (zE eS b)] (λr=>Ap.rt ((zE (eT eS)) r)) (g8 a b) (U (lU a b)):=R.tp (dB (λr=>r) (qU (jz (ZR (SH (ao 0 (nE eS) a S)) _ (λ_=>S) (λc:AJ=>(dU (C2 () (nQ (ao 1 (nE eS) a S) (ao 2 (zE eS) c S)) (ao 0 (zE eS) b S)))) (λc:AJ=>(ao 2 (zE eS) c S))))) (λ_=>S) λ_=>S)
theorem BL:∀v bs,(aM eS (aZ eS aN)) v bs->bs.length=2/\(hold (U (lU v.1 v.2.1))->jF (bs.map lend)=U ((zE (eT eS)) (g8 v.1 v.2.1))):=by
 rintro⟨a,b,_⟩ _ ⟨_,_,rfl,(rfl|rfl),⟨_,rfl,rfl⟩⟩
 all_goals exact⟨rfl,λh=>bW (g:=pX) (n:=2) (bs:=[nE eS a,.z (eS b)]) (NT a b) h⟩
def rZ(c:AZ)(d:O aD)(b:AJ):AZ:=(let a:=(jo c d);(g8 a (look a b)))
def wA(c:AZ)(d:O aD)(b:AJ):Prop:=((yq c d)/\(let a:=(jo c d);(has a b=true/\(lU a (look a b)))))
theorem eW(c:AZ)(b:O aD)(e:Lp b_1 (b.map aG))(a:AJ):RP Am [U ((zE (eT eS)) c),U b_1,U (zE eS a),Z] (λr=>Ap.rt ((zE (eT eS)) r)) (rZ c b a) (U (wA c b a)):=R.tp (bM 3 (An Yn (bQ (ao 0 (zE (eT eS)) c S) (w5 (jP 1 aG b e S) aW))) (λ_=>S) λd=>(dB (λr=>r) (An BL (MO (ao 3 (nE eS) d S) (bQ (nQ (ao 3 (nE eS) d S) (ao 2 (zE eS) a S)) aW))) (λ_=>S) λ_=>S))
theorem PL:∀v bs,(aZ (eT eS) (aL aG (aZ eS aN))) v bs->bs.length=3/\(hold (U (wA v.1 v.2.1 v.2.2.1))->wj (bs.map lend)=U ((zE (eT eS)) (rZ v.1 v.2.1 v.2.2.1))):=by
 rintro⟨b,c,a,_⟩ _ ⟨_,rfl,⟨b_1,_,rfl,d,⟨_,rfl,rfl⟩⟩⟩;exact⟨rfl,λh=>bW (g:=Am) (n:=4) (bs:=[.z (eT eS b),lend b_1,.z (eS a)]) (eW b c (vW d) a) h⟩
def jq(e:eU)(a:aD):Dt:=(let q1:=e;(let c:=((q1.2.1.filter λb:aD=>(!decide (b=a))).map λb:aD=>b);(let d:=(rZ q1.1 c a.2.1);(if(decide (a.2.2.1∈d))=true then(Dt.tup [(Dt.str "stays")])else(Dt.tup [(Dt.str "parts"),(eT eS d),((eT eS) (rZ q1.1 c a.2.2.1))])))))
def pP(d:eU)(a:aD):Prop:=((mQ d a)/\(let q1:=d;(q1.2.1.length<=100000/\(let b:=((q1.2.1.filter λc:aD=>(!decide (c=a))).map λc:aD=>c);((wA q1.1 b a.2.1)/\(let e:=(rZ q1.1 b a.2.1);((decide (a.2.2.1∈e))=false->(wA q1.1 b a.2.2.1))))))))
theorem Yo(b:eU)(a:aD):RP xK [U (zE bI b),U (zE aG a),Z,Z,Z,Z,Z] (λr=>Ap.rt (zE eD r)) (jq b a) (U (pP b a)):=R.tp (X5 (An CJ (bQ (ao 0 (zE bI) b S) (bQ (ao 1 (zE aG) a S) aW))) (LY (ao 0 (zE bI) b S) _ (λ_=>S) λq1=>(bM 5 (zJ (XF (ao 3 (zE (eT aG)) q1.2.1 S)) _ (λ_=>S) (λc:aD=>(dU (F2 () (ao 1 (zE aG) c S) (ao 0 (zE aG) a S)))) (λc:aD=>(ao 1 (zE aG) c S)) (λ_=>S) λ_=>S) (λ_=>S) λd=>(bM 6 (An PL (bQ (ao 2 (zE (eT eS)) q1.1 S) (w5 (eG (ao 5 (lE aG) d S)) (bQ (d8 (ao 1 (zE aG) a S) (λq=>q.2.1) eS 1 λ_=>S) aW)))) (λ_=>S) λe=>(nP (dU (U0 (d8 (ao 1 (zE aG) a S) (λq=>q.2.2.1) eS 2 λ_=>S) (ao 6 (zE (eT eS)) e S))) (bF (dB (λr=>r) (Xy (cH (IE (.str "stays")) (eZ eD)) (zS S)) (λ_=>S) λ_=>S)) (bR (dB (λr=>r) (Xy (cH (IE (.str "parts")) (cH (ZG (ao 6 (zE (eT eS)) e S)) (cH (ZG (mZ (An PL (bQ (ao 2 (zE (eT eS)) q1.1 S) (w5 (eG (ao 5 (lE aG) d S)) (bQ (d8 (ao 1 (zE aG) a S) (λq=>q.2.2.1) eS 2 λ_=>S) aW)))))) (eZ eD)))) (zS S)) (λ_=>S) λ_=>S)))))))
theorem Ml:∀v bs,(aZ bI (aZ aG aN)) v bs->bs.length=2/\(hold (U (pP v.1 v.2.1))->o7 (bs.map lend)=U ((zE eD) (jq v.1 v.2.1))):=by
 rintro⟨a,b,_⟩ _ ⟨_,rfl,⟨_,rfl,rfl⟩⟩;exact⟨rfl,λh=>bW (g:=xK) (n:=7) (bs:=[.z (bI a),.z (aG b)]) (Yo a b) h⟩
def cY(b:O AZ)(q1:aD):(O AZ):=(let c:=(at' ((b.filter λa:AZ=>(decide (q1.2.1∈a))).map λa:AZ=>a) 0);(let d:=(at' ((b.filter λa:AZ=>(decide (q1.2.2.1∈a))).map λa:AZ=>a) 0);(let b:(O AZ):=(if(!decide (c=d))=true then(let b:=(((b.filter λa:AZ=>(!fQ a [c,d])).map λa:AZ=>a)++[(oJ (c++d))]);b)else b);b)))
def iI(b:O AZ)(q1:aD):Prop:=((b.length<=100000/\In ((b.filter λa:AZ=>(decide (q1.2.1∈a))).map λa:AZ=>a).length 0)/\(let c:=(at' ((b.filter λa:AZ=>(decide (q1.2.1∈a))).map λa:AZ=>a) 0);((b.length<=100000/\In ((b.filter λa:AZ=>(decide (q1.2.2.1∈a))).map λa:AZ=>a).length 0)/\(let d:=(at' ((b.filter λa:AZ=>(decide (q1.2.2.1∈a))).map λa:AZ=>a) 0);((!decide (c=d))=true->((b.length<=100000/\(Pg (c.length+d.length)/\(c++d).length<64))/\Pg (((b.filter λa:AZ=>(!fQ a [c,d])).map λa:AZ=>a).length+[(oJ (c++d))].length)))))))
theorem G3(e:AZ)(f:O aD)(g:Lp b_1 (f.map aG))(a:O AZ)(q1:aD):RP zR [U ((zE (eT eS)) e),U b_1,U ((oE (eL eS)) a),U ((zE eI) q1.1),U ((zE eS) q1.2.1),U ((zE eS) q1.2.2.1),U ((zE eI) q1.2.2.2),Z,Z] (λs=>Ap.nx ((λa:(O AZ)=>[U ((zE (eT eS)) e),U b_1,U ((oE (eL eS)) a),Z,Z,Z,Z,Z,Z]) s)) (cY  a q1) (U (iI  a q1)):=R.tp (bF (bM 7 (iu (jz (zJ (Iv (eG (ao 2 (lE (eL eS)) a S))) _ (λ_=>S) (λb:AZ=>(dU (MD (ao 0 (zE eS) q1.2.1 S) (M7 (ao 1 (zE (eL eS)) b S))))) (λb:AZ=>(ao 1 (zE (eL eS)) b S)) (λ_=>S) λ_=>S)) (B0 0)) (λ_=>S) λc=>(bF (bM 8 (iu (jz (zJ (Iv (eG (ao 2 (lE (eL eS)) a S))) _ (λ_=>S) (λb:AZ=>(dU (MD (ao 0 (zE eS) q1.2.2.1 S) (M7 (ao 1 (zE (eL eS)) b S))))) (λb:AZ=>(ao 1 (zE (eL eS)) b S)) (λ_=>S) λ_=>S)) (B0 0)) (λ_=>S) λd=>(bF (Bo (λa:(O AZ)=>[U ((zE (eT eS)) e),U b_1,U ((oE (eL eS)) a),U ((zE eI) q1.1),U ((zE eS) q1.2.1),U ((zE eS) q1.2.2.1),U ((zE eI) q1.2.2.2),U ((zE (eL eS)) c),U ((zE (eL eS)) d)]) (dU (XB () (M7 (ao 7 (zE (eL eS)) c S)) (M7 (ao 8 (zE (eL eS)) d S)))) (bF (bM 2 (NB (jz (zJ (Iv (eG (ao 2 (lE (eL eS)) a S))) _ (λ_=>S) (λb:AZ=>(dU (XS () (ao 2 (zE (eL eS)) b S) (jz (lN (cH (ao 0 (zE (eL eS)) c S) (cH (ao 1 (zE (eL eS)) d S) (eZ (eL eS)))) (zS S)))))) (λb:AZ=>(ao 2 (zE (eL eS)) b S)) (λ_=>S) λ_=>S)) (jz (lN (cH (Gc (Rf (jz (NB (M7 (ao 7 (zE (eL eS)) c S)) (M7 (ao 8 (zE (eL eS)) d S)))))) (eZ (eL eS))) (zS S)))) (λ_=>S) λa=>(bR (bH a S)))) (bR (bH a S)) λa=>(bR (bH a S))))))))
def eX(e:AZ)(d:O aD):(O AZ):=(let a:=(e.map λc:AJ=>[c]);(let a:(O AZ):=(d.foldl (λ(a:O AZ) (q1:aD)=>(cY  a q1)) a);(zK (a.map λb:AZ=>b))))
def lV(d:AZ)(c:O aD):Prop:=(d.length<=100000/\(let a:=(d.map λe:AJ=>[e]);(lO (λ(a:O AZ) (q1:aD)=>(cY  a q1)) (λ(a:O AZ) (q1:aD)=>U (iI  a q1)) c a/\(let a:(O AZ):=(c.foldl (λ(a:O AZ) (q1:aD)=>(cY  a q1)) a);(a.length<=100000/\((a.map λb:AZ=>b).length<64/\∀x∈(a.map λb:AZ=>b),x.isEmpty=false))))))
theorem NZ(b:AZ)(c:O aD)(d:Lp b_1 (c.map aG)):RP uV [U ((zE (eT eS)) b),U b_1,Z,Z,Z,Z,Z,Z,Z] (λr=>Ap.rt ((oE (eT eS)) r)) (eX b c) (U (lV b c)):=R.tp (bM 2 (j7 (XF (ao 0 (zE (eT eS)) b S)) _ (λ_=>S) (λf:AJ=>(Gc (lN (cH (ao 0 (zE eS) f S) (eZ eS)) (zS S)))) λ_=>S) (λ_=>S) λa=>(GD 1 c (XM d S) (λa:(O AZ)=>[U ((zE (eT eS)) b),U b_1,U ((oE (eL eS)) a),Z,Z,Z,Z,Z,Z]) a S _ (λ_ _=>S) (λ(a:O AZ) (q1:aD)=>(G3 b c d a q1).r) λa=>(dB (λr=>r) (c4 (jz (j7 (Iv (eG (ao 2 (lE (eL eS)) a S))) _ (λ_=>S) (λe:AZ=>(qU (M7 (ao 0 (zE (eL eS)) e S)))) λ_=>S))) (λ_=>S) λ_=>S)))
theorem BP:∀v bs,(aZ (eT eS) (aL aG aN)) v bs->bs.length=2/\(hold (U (lV v.1 v.2.1))->m5 (bs.map lend)=U ((oE (eT eS)) (eX v.1 v.2.1))):=by
 rintro⟨a,b,_⟩ _ ⟨_,rfl,⟨b_1,_,rfl,c,rfl⟩⟩;exact⟨rfl,λh=>bW (g:=uV) (n:=9) (bs:=[.z (eT eS a),lend b_1]) (NZ a b (vW c)) h⟩
def ig(e:AZ)(a:O aD)(b:aD):(O aD):=(let d:=(eX e a);(let a:(O aD):=(if(!((d.map λc:AZ=>((decide (b.2.1∈c))&&(decide (b.2.2.1∈c)))).any id))=true then(let a:=a++[b];a)else a);a))
def pZ(e:AZ)(a:O aD)(c:aD):Prop:=((lV e a)/\(let d:=(eX e a);(d.length<=100000/\((!((d.map λb:AZ=>((decide (c.2.1∈b))&&(decide (c.2.2.1∈b)))).any id))=true->Pg a.length))))
theorem N5(c:AZ)(d:O aD)(a:O aD)(b:aD):RP Bv [U ((zE (eT eS)) c),U ((zE (eT aG)) d),U (oE aG a),U (zE aG b),Z] (λs=>Ap.nx ((λa:(O aD)=>[U ((zE (eT eS)) c),U ((zE (eT aG)) d),U (oE aG a),Z,Z]) s)) (ig c a b) (U (pZ c a b)):=R.tp (bF (bM 4 (An BP (bQ (ao 0 (zE (eT eS)) c S) (w5 (eG (ao 2 (lE aG) a S)) aW))) (λ_=>S) λf=>(bF (Bo (λa:(O aD)=>[U ((zE (eT eS)) c),U ((zE (eT aG)) d),U (oE aG a),U (zE aG b),U ((oE (eT eS)) f)]) (Kw (UW (PQ (jz (j7 (Iv (eG (ao 4 (lE (eT eS)) f S))) _ (λ_=>S) (λe:AZ=>(tB (U0 (d8 (ao 0 (zE aG) b S) (λq=>q.2.1) eS 1 λ_=>S) (ao 1 (zE (eT eS)) e S)) (U0 (d8 (ao 0 (zE aG) b S) (λq=>q.2.2.1) eS 2 λ_=>S) (ao 1 (zE (eT eS)) e S)))) λ_=>S))))) (bF (Ek 2 a S (ao 3 (zE aG) b S) λa=>(bR (bH a S)))) (bR (bH a S)) λa=>(bR (bH a S))))))
def ud(b:AZ)(d:O aD):(O aD):=(let a:=([]:O aD);(let a:(O aD):=(d.foldl (λ(a:O aD) (c:aD)=>(ig b a c)) a);a))
def uf(c:AZ)(d:O aD):Prop:=(let a:=([]:O aD);lO (λ(a:O aD) (b:aD)=>(ig c a b)) (λ(a:O aD) (b:aD)=>U (pZ c a b)) d a)
theorem Yp(c:AZ)(b:O aD):RP xM [U ((zE (eT eS)) c),U ((zE (eT aG)) b),Z,Z,Z] (λr=>Ap.rt (oE aG r)) (ud c b) (U (uf c b)):=R.tp (bM 2 (lN (eZ aG) (zS S)) (λ_=>S) λa=>(GD 1 b (XJ S) (λa:(O aD)=>[U ((zE (eT eS)) c),U ((zE (eT aG)) b),U (oE aG a),Z,Z]) a S _ (λ_ _=>S) (λ(a:O aD) (d:aD)=>(N5 c b a d).r) λa=>(Cr 2 (λr=>r) a S (λ_=>S) λ_=>S)))
theorem Yq:∀v bs,(aZ (eT eS) (aZ (eT aG) aN)) v bs->bs.length=2/\(hold (U (uf v.1 v.2.1))->xO (bs.map lend)=U ((oE aG) (ud v.1 v.2.1))):=by
 rintro⟨a,b,_⟩ _ ⟨_,rfl,⟨_,rfl,rfl⟩⟩;exact⟨rfl,λh=>bW (g:=xM) (n:=5) (bs:=[.z (eT eS a),.z (eT aG b)]) (Yp a b) h⟩
def gK(b:O aD):Int:=(b.map λa:aD=>a.1).sum
def ou(a:O aD):Prop:=(a.length<=100000/\FX (a.map λb:aD=>b.1)=true)
theorem R0(a:O aD)(b:Lp gW (a.map aG)):RP rB [U gW] (λr=>Ap.rt (zE eI r)) (gK a) (U (ou a)):=R.tp (dB (λr=>r) (Sa (jz (j7 (Iv (jP 0 aG a b S)) _ (λ_=>S) (λc:aD=>(d8 (ao 0 (zE aG) c S) (λq=>q.1) eI 0 λ_=>S)) λ_=>S))) (λ_=>S) λ_=>S)
theorem Fy:∀v bs,(aL aG aN) v bs->bs.length=1/\(hold (U (ou v.1))->nT (bs.map lend)=U ((zE eI) (gK v.1))):=by
 rintro⟨b,_⟩ _ ⟨gW,_,rfl,a,rfl⟩;exact⟨rfl,λh=>bW (g:=rB) (n:=1) (bs:=[lend gW]) (R0 b (vW a)) h⟩
def wB(b:eU)(a:AJ):Unit:=(if((!(eF (eS a)))||(!decide (a∈b.1)))=true then default else sn)
def iJ(b:eU)(a:AJ):Prop:=((rY (eS a))/\(((!(eF (eS a)))||(!decide (a∈b.1)))=true->False))
theorem G4(b:eU)(a:AJ):RP j9 [U (zE bI b),U (zE eS a)] (λ_:Unit=>Ap.nx [U (zE bI b),U (zE eS a)]) (wB b a) (U (iJ b a)):=R.tp (bF (nP (Xx (Kw (UW (An GZ (bQ (ZG (ao 1 (zE eS) a S)) aW)))) (dU (tS (ao 1 (zE eS) a S) (d8 (ao 0 (zE bI) b S) (λq=>q.1) (eT eS) 0 λ_=>S)))) (bF Z2) (bR (bR (bH sn S)))))
theorem wC:∀v bs,(aZ bI (aZ eS aN)) v bs->bs.length=2/\(hold (U (iJ v.1 v.2.1))->iG (bs.map lend)=U ((zE eN) (wB v.1 v.2.1))):=by
 rintro⟨b,a,_⟩ _ ⟨_,rfl,⟨_,rfl,rfl⟩⟩;exact⟨rfl,λh=>Z4 (g:=j9) (n:=2) (bs:=[.z (bI b),.z (eS a)]) (G4 b a).r h⟩
def bA(a:aD)(b:AJ):(Y AJ):=(if(decide (a.2.1=b))=true then(U a.2.2.1)else(if(decide (a.2.2.1=b))=true then(U a.2.1)else Z))
theorem V6(a:aD)(b:AJ):RP uW [U (zE aG a),U (zE eS b)] (λr=>Ap.rt ((zE (eO eS)) r)) (bA a b) Z:=R.tp (nP (dU (C2 () (d8 (ao 0 (zE aG) a S) (λq=>q.2.1) eS 1 λ_=>S) (ao 1 (zE eS) b S))) (bF (dB (λr=>r) (Xw (d8 (ao 0 (zE aG) a S) (λq=>q.2.2.1) eS 2 λ_=>S)) (λ_=>S) λ_=>S)) (bR (nP (dU (C2 () (d8 (ao 0 (zE aG) a S) (λq=>q.2.2.1) eS 2 λ_=>S) (ao 1 (zE eS) b S))) (bF (dB (λr=>r) (Xw (d8 (ao 0 (zE aG) a S) (λq=>q.2.1) eS 1 λ_=>S)) (λ_=>S) λ_=>S)) (bR (dB (λr=>r) P6 (λ_=>S) λ_=>S)))))
theorem Ia:∀v bs,(aZ aG (aZ eS aN)) v bs->bs.length=2/\(hold (Z)->m7 (bs.map lend)=U ((zE (eO eS)) (bA v.1 v.2.1))):=by
 rintro⟨b,a,_⟩ _ ⟨_,rfl,⟨_,rfl,rfl⟩⟩;exact⟨rfl,λh=>bW (g:=uW) (n:=2) (bs:=[.z (aG b),.z (eS a)]) (V6 b a) h⟩
def fH(val:(O (AJ×(Y aD))))(a:(O aD)×AJ):nG ((O aD)×AJ) (O aD):=(let c:=a.1++[((look val a.2).getD default)];(let b:=((bA ((look val a.2).getD default) a.2).getD default);(nG.nx (c,b))))
def lW(val:(O (AJ×(Y aD))))(a:(O aD)×AJ):Prop:=(((has val a.2=true/\(look val a.2).isSome=true)/\Pg a.1.length)/\(let b:=a.1++[((look val a.2).getD default)];((has val a.2=true/\(look val a.2).isSome=true)/\(bA ((look val a.2).getD default) a.2).isSome=true)))
theorem N6(val:(O (AJ×(Y aD))))(b:AJ)(a:(O aD)×AJ):RP Bw [U ((nE (eO aG)) val),U (zE eS b),U ((oE aG) a.1),U ((zE eS) a.2)] (cC (λa:(O aD)×AJ=>[U ((nE (eO aG)) val),U (zE eS b),U ((oE aG) a.1),U ((zE eS) a.2)]) (oE aG)) (fH val a ) (U (lW val a )):=R.tp (bF (Ek 2 a.1 S (Pb (nQ (ao 0 (nE (eO aG)) val S) (ao 3 (zE eS) a.2 S))) λd=>(bF (bM 3 (Pb (An Ia (bQ (Pb (nQ (ao 0 (nE (eO aG)) val S) (ao 3 (zE eS) a.2 S))) (bQ (ao 3 (zE eS) a.2 S) aW)))) (λ_=>S) λc=>(bR (bH (.nx (d,c)) S))))))
def jY(val:(O (AJ×(Y aD))))(c:AJ):(O aD):=(let d:=([]:O aD);(let b:=c;(BH (Pq (λa:(O aD)×AJ=>(look val a.2).isSome) (λa:(O aD)×AJ=>((fH val a):nG ((O aD)×AJ) (O aD))) 70 (d,b)) (λr=>r) λa:(O aD)×AJ=>a.1)))
def ug(val:(O (AJ×(Y aD))))(d:AJ):Prop:=(let c:=([]:O aD);(let b:=d;(EC (λa:(O aD)×AJ=>(look val a.2).isSome) (λa:(O aD)×AJ=>U (has val a.2=true)) (λa:(O aD)×AJ=>((fH val a):nG ((O aD)×AJ) (O aD))) (λa:(O aD)×AJ=>U (lW val a)) 70 (c,b)/\(w6 (Pq (λa:(O aD)×AJ=>(look val a.2).isSome) (λa:(O aD)×AJ=>((fH val a):nG ((O aD)×AJ) (O aD))) 70 (c,b)) λa:(O aD)×AJ=>True))))
theorem Yr(val:(O (AJ×(Y aD))))(b:AJ):RP xP [U ((nE (eO aG)) val),U (zE eS b),Z,Z] (λr=>Ap.rt (oE aG r)) (jY val b) (U (ug val b)):=R.tp (bM 2 (lN (eZ aG) (zS S)) (λ_=>S) λd=>(bM 3 (ao 1 (zE eS) b S) (λ_=>S) λc=>(ZX 70 (λa:(O aD)×AJ=>[U ((nE (eO aG)) val),U (zE eS b),U ((oE aG) a.1),U ((zE eS) a.2)]) (d,c) S (λa:(O aD)×AJ=>(dU (ZK (nQ (ao 0 (nE (eO aG)) val S) (ao 3 (zE eS) a.2 S)) λ_=>S))) (λa:(O aD)×AJ=>((N6 val b a).r:R _ _ (cC (λa:(O aD)×AJ=>[U ((nE (eO aG)) val),U (zE eS b),U ((oE aG) a.1),U ((zE eS) a.2)]) (oE aG)))) (λr=>r) (λ_=>S) λa=>(Cr 2 (λr=>r) a.1 S (λ_=>S) λ_=>S))))
theorem Ys:∀v bs,(aM (eO aG) (aZ eS aN)) v bs->bs.length=2/\(hold (U (ug v.1 v.2.1))->xQ (bs.map lend)=U ((oE aG) (jY v.1 v.2.1))):=by
 rintro⟨val,a,_⟩ _ ⟨_,_,rfl,(rfl|rfl),⟨_,rfl,rfl⟩⟩
 all_goals exact⟨rfl,λh=>bW (g:=xP) (n:=4) (bs:=[nE (eO aG) val,.z (eS a)]) (Yr val a) h⟩
def dZ(e:AJ)(a:(O (AJ×(Y aD)))×AZ)(c:aD):(O (AJ×(Y aD)))×AZ:=(let b:=(bA c e);(let d:(O (AJ×(Y aD)))×AZ:=(if(b.isSome&&(!has a.1 (b.getD default)))=true then(let val:=put a.1 (b.getD default) (U c);(let f:=a.2++[(b.getD default)];(val,f)))else(a.1,a.2));(d.1,d.2)))
def iW(d:AJ)(b:(O (AJ×(Y aD)))×AZ)(c:aD):Prop:=(let a:=(bA c d);((a.isSome=true->a.isSome=true)/\((a.isSome&&(!has b.1 (a.getD default)))=true->((a.isSome=true/\b.1.length<1000)/\(let val:=put b.1 (a.getD default) (U c);(a.isSome=true/\Pg b.2.length))))))
theorem V7(h:O aD)(j:Lp gW (h.map aG))(f:AJ)(g:AJ)(c:AJ)(a:(O (AJ×(Y aD)))×AZ)(b:aD):RP HX [U gW,U (zE eS f),U (zE eS g),U ((mE (eO aG)) a.1),U ((oE eS) a.2),U (zE eS c),U (zE aG b),Z] (λs=>Ap.nx ((λa:(O (AJ×(Y aD)))×AZ=>[U gW,U (zE eS f),U (zE eS g),U ((mE (eO aG)) a.1),U ((oE eS) a.2),U (zE eS c),Z,Z]) s)) (dZ c a b) (U (iW c a b)):=R.tp (bF (bM 7 (An Ia (bQ (ao 6 (zE aG) b S) (bQ (ao 5 (zE eS) c S) aW))) (λ_=>S) λe=>(bF (Bo (λd:(O (AJ×(Y aD)))×AZ=>[U gW,U (zE eS f),U (zE eS g),U ((mE (eO aG)) d.1),U ((oE eS) d.2),U (zE eS c),U (zE aG b),U ((zE (eO eS)) e)]) (OQ (dU (ZK (ao 7 (zE (eO eS)) e S) λ_=>S)) (dU (ON (Pb (ao 7 (zE (eO eS)) e S)) (ao 3 (nE (eO aG)) a.1 S)))) (bF (ZW Z 3 a.1 S (Xw (ao 6 (zE aG) b S)) (Pb (ao 7 (zE (eO eS)) e S)) λval=>(bF (Ek 4 a.2 S (Pb (ao 7 (zE (eO eS)) e S)) λi=>(bR (bH (val,i) S)))))) (bR (bH (a.1,a.2) S)) λd=>(bR (bH (d.1,d.2) S))))))
def iY(e:O aD)(c:AZ×(O (AJ×(Y aD)))):nG (AZ×(O (AJ×(Y aD)))) (Y (O aD)):=(let b:=c.1;let g:=b.drop 1;let f:=at' b 0;(let a:(O (AJ×(Y aD)))×AZ:=(e.foldl (λ(a:(O (AJ×(Y aD)))×AZ) (d:aD)=>(dZ f a d)) (c.2,g));(nG.nx (a.2,a.1))))
def vG(f:O aD)(b:AZ×(O (AJ×(Y aD)))):Prop:=(((0:Int)=0/\0<b.1.length)/\(let d:=b.1;let g:=d.drop 1;let e:=at' d 0;lO (λ(c:(O (AJ×(Y aD)))×AZ) (a:aD)=>(dZ e c a)) (λ(c:(O (AJ×(Y aD)))×AZ) (a:aD)=>U (iW e c a)) f (b.2,g)))
theorem V8(c:O aD)(f:Lp gW (c.map aG))(d:AJ)(e:AJ)(a:AZ×(O (AJ×(Y aD)))):RP HY [U gW,U (zE eS d),U (zE eS e),U ((mE (eO aG)) a.2),U ((oE eS) a.1),Z,Z,Z] (cC (λa:AZ×(O (AJ×(Y aD)))=>[U gW,U (zE eS d),U (zE eS e),U ((mE (eO aG)) a.2),U ((oE eS) a.1),Z,Z,Z]) (qE aG)) (iY c a ) (U (vG c a )):=R.tp (bF (US 5 4 a.1 S (B0 0) λi g=>(bF (GD 0 c (XM f S) (λb:(O (AJ×(Y aD)))×AZ=>[U gW,U (zE eS d),U (zE eS e),U ((mE (eO aG)) b.1),U ((oE eS) b.2),U (zE eS g),Z,Z]) (a.2,i) S _ (λ_ _=>S) (λ(b:(O (AJ×(Y aD)))×AZ) (h:aD)=>(V7 c f d e g b h).r) λb=>(bR (bH (.nx (b.2,b.1)) S))))))
def jD(d:O aD)(b:AJ)(c:AJ):(Y (O aD)):=(let val:=([(b,Z)]:(O (AJ×(Y aD))));(let e:=[b];(BH (Pq (λa:AZ×(O (AJ×(Y aD)))=>(!a.1.isEmpty)) (λa:AZ×(O (AJ×(Y aD)))=>((iY d a):nG (AZ×(O (AJ×(Y aD)))) (Y (O aD)))) 70 (e,val)) (λr=>r) λa:AZ×(O (AJ×(Y aD)))=>(if(!has a.2 c)=true then Z else(U (jY a.2 c).reverse)))))
def zY(b:O aD)(c:AJ)(d:AJ):Prop:=(let val:=([(c,Z)]:(O (AJ×(Y aD))));(let e:=[c];(EC (λa:AZ×(O (AJ×(Y aD)))=>(!a.1.isEmpty)) (λa:AZ×(O (AJ×(Y aD)))=>Z) (λa:AZ×(O (AJ×(Y aD)))=>((iY b a):nG (AZ×(O (AJ×(Y aD)))) (Y (O aD)))) (λa:AZ×(O (AJ×(Y aD)))=>U (vG b a)) 70 (e,val)/\(w6 (Pq (λa:AZ×(O (AJ×(Y aD)))=>(!a.1.isEmpty)) (λa:AZ×(O (AJ×(Y aD)))=>((iY b a):nG (AZ×(O (AJ×(Y aD)))) (Y (O aD)))) 70 (e,val)) λa:AZ×(O (AJ×(Y aD)))=>((!has a.2 d)=false->(ug a.2 d))))))
theorem ue(d:O aD)(f:Lp gW (d.map aG))(b:AJ)(c:AJ):RP Fd [U gW,U (zE eS b),U (zE eS c),Z,Z,Z,Z,Z] (λr=>Ap.rt (qE aG r)) (jD d b c) (U (zY d b c)):=R.tp (bM 3 (bb (ao 1 (zE eS) b S) P6) (λ_=>S) λval=>(bM 4 (lN (cH (ao 1 (zE eS) b S) (eZ eS)) (zS S)) (λ_=>S) λg=>(ZX 70 (λa:AZ×(O (AJ×(Y aD)))=>[U gW,U (zE eS b),U (zE eS c),U ((mE (eO aG)) a.2),U ((oE eS) a.1),Z,Z,Z]) (g,val) S (λa:AZ×(O (AJ×(Y aD)))=>(lm (eG (ao 4 (lE eS) a.1 S)))) (λa:AZ×(O (AJ×(Y aD)))=>((V8 d f b c a).r:R _ _ (cC (λa:AZ×(O (AJ×(Y aD)))=>[U gW,U (zE eS b),U (zE eS c),U ((mE (eO aG)) a.2),U ((oE eS) a.1),Z,Z,Z]) (qE aG)))) (λr=>r) (λ_=>S) λa=>(nP (dU (ON (ao 2 (zE eS) c S) (ao 3 (nE (eO aG)) a.2 S))) (bF (dB (λr=>r) (ap (e:=aG)) (λ_=>S) (λv=>by cases v<;>rfl))) (bR (dB (λr=>r) (Z5 (Sl (jz (An Ys (MO (ao 3 (nE (eO aG)) a.2 S) (bQ (ao 2 (zE eS) c S) aW)))))) (λ_=>S) (λv=>by cases v<;>rfl)))))))
theorem bj:∀v bs,(aL aG (aZ eS (aZ eS aN))) v bs->bs.length=3/\(hold (U (zY v.1 v.2.1 v.2.2.1))->Fe (bs.map lend)=U ((qE aG) (jD v.1 v.2.1 v.2.2.1))):=by
 rintro⟨d,b,a,_⟩ _ ⟨gW,_,rfl,c,⟨_,rfl,⟨_,rfl,rfl⟩⟩⟩;exact⟨rfl,λh=>bW (g:=Fd) (n:=8) (bs:=[lend gW,.z (eS b),.z (eS a)]) (ue d (vW c) b a) h⟩
def nF(c:eU)(b:AJ)(a:AJ):(Y (O aD)):=(jD (eV c) b a)
def wD(a:eU)(c:AJ)(b:AJ):Prop:=((iJ a c)/\((iJ a b)/\((jl a)/\(zY (eV a) c b))))
theorem oB(a:eU)(c:AJ)(b:AJ):RP Ao [U (zE bI a),U (zE eS c),U (zE eS b)] (λr=>Ap.rt (qE aG r)) (nF a c b) (U (wD a c b)):=R.tp (X5 (An wC (bQ (ao 0 (zE bI) a S) (bQ (ao 1 (zE eS) c S) aW))) (X5 (An wC (bQ (ao 0 (zE bI) a S) (bQ (ao 2 (zE eS) b S) aW))) (dB (λr=>r) (An bj (w5 (M7 (Gc (An yj (bQ (ao 0 (zE bI) a S) aW)))) (bQ (ao 1 (zE eS) c S) (bQ (ao 2 (zE eS) b S) aW)))) (λ_=>S) (λv=>by cases v<;>rfl))))
theorem PN:∀v bs,(aZ bI (aZ eS (aZ eS aN))) v bs->bs.length=3/\(hold (U (wD v.1 v.2.1 v.2.2.1))->rR (bs.map lend)=U ((qE aG) (nF v.1 v.2.1 v.2.2.1))):=by
 rintro⟨c,b,a,_⟩ _ ⟨_,rfl,⟨_,rfl,⟨_,rfl,rfl⟩⟩⟩;exact⟨rfl,λh=>bW (g:=Ao) (n:=3) (bs:=[.z (bI c),.z (eS b),.z (eS a)]) (oB c b a) h⟩
def bB(a:aD):aD:=(((0:Int)-a.1),(a.2.1,a.2.2.1,a.2.2.2).1,(a.2.1,a.2.2.1,a.2.2.2).2.1,(a.2.1,a.2.2.1,a.2.2.2).2.2)
theorem V9(a:aD):RP uX [U (zE aG a)] (λr=>Ap.rt (zE aG r)) (bB a) Z:=R.tp (dB (λr=>r) (iO (e3:=aG) (vE (zH (B0 0) (d8 (ao 0 (zE aG) a S) (λq=>q.1) eI 0 λ_=>S))) (WG (ao 0 (zE aG) a S) (λq=>(q.2.1,q.2.2.1,q.2.2.2)) Ax (U 1) Z S S λ_=>S) (λx y=>(x,y.1,y.2.1,y.2.2)) λ_ _=>S) (λ_=>S) λ_=>S)
theorem zZ:∀v bs,(aZ aG aN) v bs->bs.length=1/\(hold (Z)->jR (bs.map lend)=U ((zE aG) (bB v.1))):=by
 rintro⟨a,_⟩ _ ⟨_,rfl,rfl⟩;exact⟨rfl,λh=>bW (g:=uX) (n:=1) (bs:=[.z (aG a)]) (V9 a) h⟩
def bN(c:eU)(vs:O aD)(e:Unit)(a:aD):nG (Unit) Bool:=(if(!fQ a vs)=true then(let b:=(nF c a.2.1 a.2.2.1);(if(b.isNone||(!(((b.getD []).map λd:aD=>(EU aG (bB d) (bB a))).all id)))=true then(nG.rt false)else(if(!mS (jq c a) (Dt.tup [(Dt.str "stays")]))=true then(nG.rt false)else(nG.nx sn))))else(nG.nx sn))
def iK(c:eU)(vs:O aD)(e:Unit)(a:aD):Prop:=((!fQ a vs)=true->((wD c a.2.1 a.2.2.1)/\(let b:=(nF c a.2.1 a.2.2.1);((b.isNone=false->(b.isSome=true/\(b.getD []).length<=100000))/\((b.isNone||(!(((b.getD []).map λd:aD=>(EU aG (bB d) (bB a))).all id)))=false->((pP c a)/\ID (jq c a) (Dt.tup [(Dt.str "stays")])))))))
theorem wF(b:eU)(vs:O aD)(e:Lp b_1 (vs.map aG))(c:Unit)(a:aD):RP ni [U (zE bI b),U b_1,U (zE aG a),Z] (cC (λc:Unit=>[U (zE bI b),U b_1,Z,Z]) (zE eB)) (bN b vs c a) (U (iK b vs c a)):=R.tp (bF (nP (dU (XS () (ao 2 (zE aG) a S) (jP 1 aG vs e S))) (bF (bM 3 (An PN (bQ (ao 0 (zE bI) b S) (bQ (d8 (ao 2 (zE aG) a S) (λq=>q.2.1) eS 1 λ_=>S) (bQ (d8 (ao 2 (zE aG) a S) (λq=>q.2.2.1) eS 2 λ_=>S) aW)))) (λv=>by cases v<;>rfl) λd=>(bF (nP (Xx (dU (uA (KR 3 aG d S))) (Kw (UW (N4 (jz (j7 (Iv (eG (NI (KR 3 aG d S)))) _ (λ_=>S) (λf:aD=>(oq (An zZ (bQ (ao 1 (zE aG) f S) aW)) (An zZ (bQ (ao 0 (zE aG) a S) aW)))) λ_=>S)))))) (bF (dB .rt (vX (.bl false) eB false S) (λ_=>S) λ_=>S)) (bR (bF (nP (dU (SE (An Ml (bQ (ao 0 (zE bI) b S) (bQ (ao 2 (zE aG) a S) aW))) (Xy (cH (IE (.str "stays")) (eZ eD)) (zS S)))) (bF (dB .rt (vX (.bl false) eB false S) (λ_=>S) λ_=>S)) (bR (bR (bR (bH (.nx sn) S))))))))))) (bR (bR (bH (.nx sn) S)))))
def dI(a:eU)(vs:O aD):Bool:=(BH (qC (λ(b:Unit) (c:aD)=>((bN a vs b c):nG (Unit) Bool)) a.2.1 sn) (λr=>r) λb:Unit=>true)
def gM(b:eU)(vs:O aD):Prop:=(Bp (λ(a:Unit) (c:aD)=>((bN b vs a c):nG (Unit) Bool)) (λ(a:Unit) (c:aD)=>U (iK b vs a c)) b.2.1 sn/\(w6 (qC (λ(a:Unit) (c:aD)=>((bN b vs a c):nG (Unit) Bool)) b.2.1 sn) λa:Unit=>True))
theorem z6(a:eU)(vs:O aD)(d:Lp b_1 (vs.map aG)):RP gA [U (zE bI a),U b_1,Z,Z] (λr=>Ap.rt (zE eB r)) (dI a vs) (U (gM a vs)):=R.tp (XH (λb:Unit=>[U (zE bI a),U b_1,Z,Z]) sn S (LG (d8 (ao 0 (zE bI) a S) (λq=>q.2.1) (eT aG) 1 λ_=>S)) _ (λ_ _=>S) (λ(b:Unit) (c:aD)=>((wF a vs d b c).r:R _ _ (cC (λb:Unit=>[U (zE bI a),U b_1,Z,Z]) (zE eB)))) (λr=>r) (λ_=>S) λb=>(dB (λr=>r) (vX (.bl true) eB true S) (λ_=>S) λ_=>S))
theorem z7:∀v bs,(aZ bI (aL aG aN)) v bs->bs.length=2/\(hold (U (gM v.1 v.2.1))->gB (bs.map lend)=U ((zE eB) (dI v.1 v.2.1))):=by
 rintro⟨a,vs,_⟩ _ ⟨_,rfl,⟨b_1,_,rfl,b,rfl⟩⟩;exact⟨rfl,λh=>bW (g:=gA) (n:=4) (bs:=[.z (bI a),lend b_1]) (z6 a vs (vW b)) h⟩
def cj(d:eU)(f:AJ)(h:AJ)(a:Int)(e:Int):Int:=(let g:=(eX d.1 ((d.2.1.filter λb:aD=>(decide (e<=b.1))).map λb:aD=>b));(let a:Int:=(if((g.map λc:AZ=>((decide (f∈c))&&(decide (h∈c)))).any id)=true then(let a:=e;a)else a);a))
def d9(b:eU)(e:AJ)(g:AJ)(f:Int)(c:Int):Prop:=((b.2.1.length<=100000/\(lV b.1 ((b.2.1.filter λa:aD=>(decide (c<=a.1))).map λa:aD=>a)))/\(let d:=(eX b.1 ((b.2.1.filter λa:aD=>(decide (c<=a.1))).map λa:aD=>a));d.length<=100000))
theorem yR(b:eU)(c:AJ)(e:AJ)(a:Int)(d:Int):RP oK [U (zE bI b),U (zE eS c),U (zE eS e),U (zE eI a),U (zE eI d),Z] (λs=>Ap.nx ((λa:Int=>[U (zE bI b),U (zE eS c),U (zE eS e),U (zE eI a),Z,Z]) s)) (cj b c e a d) (U (d9 b c e a d)):=R.tp (bF (bM 5 (An BP (bQ (d8 (ao 0 (zE bI) b S) (λq=>q.1) (eT eS) 0 λ_=>S) (w5 (M7 (Gc (zJ (XF (d8 (ao 0 (zE bI) b S) (λq=>q.2.1) (eT aG) 1 λ_=>S)) _ (λ_=>S) (λf:aD=>(dU (EX (d8 (ao 1 (zE aG) f S) (λq=>q.1) eI 0 λ_=>S) (ao 0 (zE eI) d S)))) (λf:aD=>(ao 1 (zE aG) f S)) (λ_=>S) λ_=>S))) aW))) (λ_=>S) λh=>(bF (Bo (λa:Int=>[U (zE bI b),U (zE eS c),U (zE eS e),U (zE eI a),U (zE eI d),U ((oE (eT eS)) h)]) (UW (PQ (jz (j7 (Iv (eG (ao 5 (lE (eT eS)) h S))) _ (λ_=>S) (λg:AZ=>(tB (U0 (ao 0 (zE eS) c S) (ao 2 (zE (eT eS)) g S)) (U0 (ao 1 (zE eS) e S) (ao 2 (zE (eT eS)) g S)))) λ_=>S)))) (bF (bM 3 (ao 4 (zE eI) d S) (λ_=>S) λa=>(bR (bH a S)))) (bR (bH a S)) λa=>(bR (bH a S))))))
def fW(b:eU)(c:AJ)(f:AJ):Int:=(let a:=(0:Int);(let a:Int:=((BO (Gy (b.2.1.map λe:aD=>e.1))).foldl (λ(a:Int) (d:Int)=>(cj b c f a d)) a);a))
def jt(a:eU)(e:AJ)(f:AJ):Prop:=(let b:=(0:Int);((a.2.1.length<=100000/\(a.2.1.map λd:aD=>d.1).length<64)/\lO (λ(b:Int) (c:Int)=>(cj a e f b c)) (λ(b:Int) (c:Int)=>U (d9 a e f b c)) (BO (Gy (a.2.1.map λd:aD=>d.1))) b))
theorem CK(b:eU)(c:AJ)(d:AJ):RP je [U (zE bI b),U (zE eS c),U (zE eS d),Z,Z,Z] (λr=>Ap.rt (zE eI r)) (fW b c d) (U (jt b c d)):=R.tp (bM 3 (B0 0) (λ_=>S) λa=>(KN (λa:Int=>[U (zE bI b),U (zE eS c),U (zE eS d),U (zE eI a),Z,Z]) a S (MM (cE (jz (j7 (XF (d8 (ao 0 (zE bI) b S) (λq=>q.2.1) (eT aG) 1 λ_=>S)) _ (λ_=>S) (λf:aD=>(d8 (ao 0 (zE aG) f S) (λq=>q.1) eI 0 λ_=>S)) λ_=>S)))) _ (λ_ _=>S) (λ(a:Int) (e:Int)=>(yR b c d a e).r) λa=>(dB (λr=>r) (ao 3 (zE eI) a S) (λ_=>S) λ_=>S)))
theorem CN:∀v bs,(aZ bI (aZ eS (aZ eS aN))) v bs->bs.length=3/\(hold (U (jt v.1 v.2.1 v.2.2.1))->jf (bs.map lend)=U ((zE eI) (fW v.1 v.2.1 v.2.2.1))):=by
 rintro⟨b,a,c,_⟩ _ ⟨_,rfl,⟨_,rfl,⟨_,rfl,rfl⟩⟩⟩;exact⟨rfl,λh=>bW (g:=je) (n:=6) (bs:=[.z (bI b),.z (eS a),.z (eS c)]) (CK b a c) h⟩
def dh(c:eU)(b:AJ)(f:Unit)(d:AJ):nG (Unit) Bool:=(let a:=(nF c b d);(if(a.isSome&&(!decide (a=(U []))))=true then(if(!decide ((GK ((a.getD []).map λe:aD=>e.1))=(fW c b d)))=true then(nG.rt false)else(nG.nx sn))else(nG.nx sn)))
def fj(c:eU)(b:AJ)(f:Unit)(d:AJ):Prop:=((wD c b d)/\(let a:=(nF c b d);((a.isSome&&(!decide (a=(U []))))=true->(((a.isSome=true/\(a.getD []).length<=100000)/\0<((a.getD []).map λe:aD=>e.1).length)/\(jt c b d)))))
theorem Bc(b:eU)(a:AJ)(f:Unit)(c:AJ):RP qP [U (zE bI b),U (zE eS a),U (zE eS c),Z] (cC (λf:Unit=>[U (zE bI b),U (zE eS a),Z,Z]) (zE eB)) (dh b a f c) (U (fj b a f c)):=R.tp (bF (bM 3 (An PN (bQ (ao 0 (zE bI) b S) (bQ (ao 1 (zE eS) a S) (bQ (ao 2 (zE eS) c S) aW)))) (λv=>by cases v<;>rfl) λd=>(bF (nP (OQ (dU (pz (KR 3 aG d S))) (dU (VQ (e:=aG) () (KR 3 aG d S) (Z5 (lN (eZ aG) (zS S)))))) (bF (nP (dU (F2 () (UA (jz (j7 (Iv (eG (NI (KR 3 aG d S)))) _ (λ_=>S) (λg:aD=>(d8 (ao 0 (zE aG) g S) (λq=>q.1) eI 0 λ_=>S)) λ_=>S))) (An CN (bQ (ao 0 (zE bI) b S) (bQ (ao 1 (zE eS) a S) (bQ (ao 2 (zE eS) c S) aW)))))) (bF (dB .rt (vX (.bl false) eB false S) (λ_=>S) λ_=>S)) (bR (bR (bR (bH (.nx sn) S)))))) (bR (bR (bH (.nx sn) S)))))))
def dj(a:eU)(e:Unit)(c:AJ):nG (Unit) Bool:=(BH (qC (λ(b:Unit) (d:AJ)=>((dh a c b d):nG (Unit) Bool)) (EA (at' [(1:Int),(6:Int)] (if(decide ((14:Int)<(a.1.length:Int)))=true then(1:Int)else 0)) a.1) sn) (λr=>nG.rt r) λb:Unit=>(nG.nx sn))
def fu(a:eU)(e:Unit)(d:AJ):Prop:=(((In [(1:Int),(6:Int)].length (if(decide ((14:Int)<(a.1.length:Int)))=true then(1:Int)else 0)/\((at' [(1:Int),(6:Int)] (if(decide ((14:Int)<(a.1.length:Int)))=true then(1:Int)else 0))=1\/(at' [(1:Int),(6:Int)] (if(decide ((14:Int)<(a.1.length:Int)))=true then(1:Int)else 0))=6))/\Bp (λ(b:Unit) (c:AJ)=>((dh a d b c):nG (Unit) Bool)) (λ(b:Unit) (c:AJ)=>U (fj a d b c)) (EA (at' [(1:Int),(6:Int)] (if(decide ((14:Int)<(a.1.length:Int)))=true then(1:Int)else 0)) a.1) sn)/\(w6 (qC (λ(b:Unit) (c:AJ)=>((dh a d b c):nG (Unit) Bool)) (EA (at' [(1:Int),(6:Int)] (if(decide ((14:Int)<(a.1.length:Int)))=true then(1:Int)else 0)) a.1) sn) λb:Unit=>True))
theorem Bd(a:eU)(d:Unit)(b:AJ):RP qQ [U (zE bI a),U (zE eS b),Z,Z] (cC (λd:Unit=>[U (zE bI a),Z,Z,Z]) (zE eB)) (dj a d b) (U (fu a d b)):=R.tp (bF (XH (λc:Unit=>[U (zE bI a),U (zE eS b),Z,Z]) sn S (LG (rf (d8 (ao 0 (zE bI) a S) (λq=>q.1) (eT eS) 0 λ_=>S) (iu (jz (lN (cH (B0 1) (cH (B0 6) (eZ eI))) (zS S))) (XC (IA (KD (d8 (ao 0 (zE bI) a S) (λq=>q.1) (eT eS) 0 λ_=>S)) (B0 14)))))) _ (λ_ _=>S) (λ(c:Unit) (e:AJ)=>((Bc a b c e).r:R _ _ (cC (λc:Unit=>[U (zE bI a),U (zE eS b),Z,Z]) (zE eB)))) .rt (λ_=>S) λc=>(bR (bH (.nx sn) S))))
def fL(a:eU):Bool:=(BH (qC (λ(b:Unit) (c:AJ)=>((dj a b c):nG (Unit) Bool)) (cut a.1 Z (U (at' [(4:Int),(1:Int)] (if(decide ((14:Int)<(a.1.length:Int)))=true then(1:Int)else 0)))) sn) (λr=>r) λb:Unit=>true)
def iM(a:eU):Prop:=((In [(4:Int),(1:Int)].length (if(decide ((14:Int)<(a.1.length:Int)))=true then(1:Int)else 0)/\Bp (λ(b:Unit) (c:AJ)=>((dj a b c):nG (Unit) Bool)) (λ(b:Unit) (c:AJ)=>U (fu a b c)) (cut a.1 Z (U (at' [(4:Int),(1:Int)] (if(decide ((14:Int)<(a.1.length:Int)))=true then(1:Int)else 0)))) sn)/\(w6 (qC (λ(b:Unit) (c:AJ)=>((dj a b c):nG (Unit) Bool)) (cut a.1 Z (U (at' [(4:Int),(1:Int)] (if(decide ((14:Int)<(a.1.length:Int)))=true then(1:Int)else 0)))) sn) λb:Unit=>True))
theorem G5(a:eU):RP kh [U (zE bI a),Z,Z,Z] (λr=>Ap.rt (zE eB r)) (fL a) (U (iM a)):=R.tp (XH (λb:Unit=>[U (zE bI a),Z,Z,Z]) sn S (LG (fE (d8 (ao 0 (zE bI) a S) (λq=>q.1) (eT eS) 0 λ_=>S) FL (FS (iu (jz (lN (cH (B0 4) (cH (B0 1) (eZ eI))) (zS S))) (XC (IA (KD (d8 (ao 0 (zE bI) a S) (λq=>q.1) (eT eS) 0 λ_=>S)) (B0 14))))))) _ (λ_ _=>S) (λ(b:Unit) (c:AJ)=>((Bd a b c).r:R _ _ (cC (λb:Unit=>[U (zE bI a),Z,Z,Z]) (zE eB)))) (λr=>r) (λ_=>S) λb=>(dB (λr=>r) (vX (.bl true) eB true S) (λ_=>S) λ_=>S))
theorem G6:∀v bs,(aZ bI aN) v bs->bs.length=1/\(hold (U (iM v.1))->kj (bs.map lend)=U ((zE eB) (fL v.1))):=by
 rintro⟨a,_⟩ _ ⟨_,rfl,rfl⟩;exact⟨rfl,λh=>bW (g:=kh) (n:=4) (bs:=[.z (bI a)]) (G5 a) h⟩
def qN(a:(O (AJ×AJ)))(q1:aD):(O (AJ×AJ)):=(let a:=(jk a (look a q1.2.1) (look a q1.2.2.1));a)
def yL(a:(O (AJ×AJ)))(q1:aD):Prop:=((has a q1.2.1=true/\has a q1.2.2.1=true)/\(lC a (look a q1.2.1) (look a q1.2.2.1)))
theorem Jh(b:AZ)(c:O aD)(a:(O (AJ×AJ)))(q1:aD):RP vK [U ((zE (eT eS)) b),U ((zE (eT aG)) c),U (mE eS a),U ((zE eI) q1.1),U ((zE eS) q1.2.1),U ((zE eS) q1.2.2.1),U ((zE eI) q1.2.2.2)] (λs=>Ap.nx ((λa:(O (AJ×AJ))=>[U ((zE (eT eS)) b),U ((zE (eT aG)) c),U (mE eS a),Z,Z,Z,Z]) s)) (qN  a q1) (U (yL  a q1)):=R.tp (bF (XR Z 2 a S yh (bQ (nQ (ao 2 (nE eS) a S) (ao 4 (zE eS) q1.2.1 S)) (bQ (nQ (ao 2 (nE eS) a S) (ao 5 (zE eS) q1.2.2.1 S)) aW)) λa=>(bR (bH a S))))
def rO(b:AZ)(c:O aD):(O (AJ×AJ)):=(let a:=(aP b);(let a:(O (AJ×AJ)):=(c.foldl (λ(a:(O (AJ×AJ))) (q1:aD)=>(qN  a q1)) a);a))
def yr(b:AZ)(c:O aD):Prop:=((lB b)/\(let a:=(aP b);lO (λ(a:(O (AJ×AJ))) (q1:aD)=>(qN  a q1)) (λ(a:(O (AJ×AJ))) (q1:aD)=>U (yL  a q1)) c a))
theorem R3(b:AZ)(c:O aD):RP oZ [U ((zE (eT eS)) b),U ((zE (eT aG)) c),Z,Z,Z,Z,Z] (λr=>Ap.rt (mE eS r)) (rO b c) (U (yr b c)):=R.tp (bM 2 (An yd (bQ (ao 0 (zE (eT eS)) b S) aW)) (λ_=>S) λa=>(GD 1 c (XJ S) (λa:(O (AJ×AJ))=>[U ((zE (eT eS)) b),U ((zE (eT aG)) c),U (mE eS a),Z,Z,Z,Z]) a S _ (λ_ _=>S) (λ(a:(O (AJ×AJ))) (q1:aD)=>(Jh b c a q1).r) λa=>(Cr 2 (λr=>r) a S (λ_=>S) λ_=>S)))
theorem R5:∀v bs,(aZ (eT eS) (aZ (eT aG) aN)) v bs->bs.length=2/\(hold (U (yr v.1 v.2.1))->mH (bs.map lend)=U ((mE eS) (rO v.1 v.2.1))):=by
 rintro⟨a,b,_⟩ _ ⟨_,rfl,⟨_,rfl,rfl⟩⟩;exact⟨rfl,λh=>bW (g:=oZ) (n:=7) (bs:=[.z (eT eS a),.z (eT aG b)]) (R3 a b) h⟩
def lF(b:(O (AJ×AJ))):(O AZ):=(((b.map (·.1)).filter λa:AJ=>(decide ((look b a)=a))).map λa:AJ=>(g8 b a))
def oA(a:(O (AJ×AJ))):Prop:=((a.map (·.1)).length<=100000/\(∀b∈(a.map (·.1)),(has a b=true/\((decide ((look a b)=b))=true->(lU a b)))))
theorem R6(a:(O (AJ×AJ))):RP rC [U (nE eS a)] (λr=>Ap.rt ((oE (eT eS)) r)) (lF a) (U (oA a)):=R.tp (dB (λr=>r) (ZR (SH (ao 0 (nE eS) a S)) _ (λ_=>S) (λb:AJ=>(dU (C2 () (nQ (ao 0 (nE eS) a S) (ao 1 (zE eS) b S)) (ao 1 (zE eS) b S)))) (λb:AJ=>(mZ (An BL (MO (ao 0 (nE eS) a S) (bQ (ao 1 (zE eS) b S) aW)))))) (λ_=>S) λ_=>S)
theorem R7:∀v bs,(aM eS aN) v bs->bs.length=1/\(hold (U (oA v.1))->rD (bs.map lend)=U ((oE (eT eS)) (lF v.1))):=by
 rintro⟨a,_⟩ _ ⟨_,_,rfl,(rfl|rfl),rfl⟩
 all_goals exact⟨rfl,λh=>bW (g:=rC) (n:=1) (bs:=[nE eS a]) (R6 a) h⟩
def CP(a:AZ)(b:O aD):(O AZ):=(lF (rO a b))
def CQ(a:AZ)(b:O aD):Prop:=((yr a b)/\(oA (rO a b)))
theorem Yt(a:AZ)(b:O aD):RP xR [U ((zE (eT eS)) a),U ((zE (eT aG)) b)] (λr=>Ap.rt ((oE (eT eS)) r)) (CP a b) (U (CQ a b)):=R.tp (dB (λr=>r) (An R7 (g7 (An R5 (bQ (ao 0 (zE (eT eS)) a S) (bQ (ao 1 (zE (eT aG)) b S) aW))) aW)) (λ_=>S) λ_=>S)
theorem Yu:∀v bs,(aZ (eT eS) (aZ (eT aG) aN)) v bs->bs.length=2/\(hold (U (CQ v.1 v.2.1))->xT (bs.map lend)=U ((oE (eT eS)) (CP v.1 v.2.1))):=by
 rintro⟨a,b,_⟩ _ ⟨_,rfl,⟨_,rfl,rfl⟩⟩;exact⟨rfl,λh=>bW (g:=xR) (n:=2) (bs:=[.z (eT eS a),.z (eT aG b)]) (Yt a b) h⟩
def mR(a:eU):(O AZ):=(CP a.1 a.2.1)
def mU(a:eU):Prop:=(CQ a.1 a.2.1)
theorem Yv(a:eU):RP xU [U (zE bI a)] (λr=>Ap.rt ((oE (eT eS)) r)) (mR a) (U (mU a)):=R.tp (dB (λr=>r) (An Yu (bQ (d8 (ao 0 (zE bI) a S) (λq=>q.1) (eT eS) 0 λ_=>S) (bQ (d8 (ao 0 (zE bI) a S) (λq=>q.2.1) (eT aG) 1 λ_=>S) aW))) (λ_=>S) λ_=>S)
theorem yt:∀v bs,(aZ bI aN) v bs->bs.length=1/\(hold (U (mU v.1))->mJ (bs.map lend)=U ((oE (eT eS)) (mR v.1))):=by
 rintro⟨a,_⟩ _ ⟨_,rfl,rfl⟩;exact⟨rfl,λh=>bW (g:=xU) (n:=1) (bs:=[.z (bI a)]) (Yv a) h⟩
def iQ(b:eU)(vs:O aD)(e:B9):Bool:=(let a:=b.1;(if(decide ((a.length:Int)<2))=true then true else(let f:=((at' e 0)%((a.length:Int)-1));(let m:=((f+1)+((at' e 1)%(((a.length:Int)-1)-f)));(let i:=((1+((at' e 2)%9)),(at' a f),(at' a m),(9:Int));(let l:=((Bq aG aG ((b.2.1++[i]).map λh:aD=>((bB h),h))).map λj:Vj=>j.2);(let d:=(a,l,b.2.2);(let c:=(eV d);(if(!fQ i c)=true then((decide (c=vs))&&(decide ((mR d)=(mR b))))else(let g:=(((mR b).length:Int)-((mR d).length:Int));((decide (g=((c.length:Int)-(vs.length:Int))))&&(decide (g∈[(0:Int),(1:Int)])))))))))))))
def iR(b:eU)(vs:O aD)(e:B9):Prop:=(let a:=b.1;((decide ((a.length:Int)<2))=false->((In e.length 0/\0<((a.length:Int)-1))/\(let f:=((at' e 0)%((a.length:Int)-1));((In e.length 1/\0<(((a.length:Int)-1)-f))/\(let i:=((f+1)+((at' e 1)%(((a.length:Int)-1)-f)));((In e.length 2/\(In a.length f/\In a.length i))/\(let d:=((1+((at' e 2)%9)),(at' a f),(at' a i),(9:Int));((((Pg (b.2.1.length+[d].length)/\(b.2.1++[d]).length<=100000)/\((b.2.1++[d]).map λc:aD=>((bB c),c)).length<64)/\(Bq aG aG ((b.2.1++[d]).map λc:aD=>((bB c),c))).length<=100000)/\(let l:=((Bq aG aG ((b.2.1++[d]).map λc:aD=>((bB c),c))).map λj:Vj=>j.2);(let g:=(a,l,b.2.2);((jl g)/\(let h:=(eV g);(((!fQ d h)=true->((decide (h=vs))=true->((mU g)/\(mU b))))/\((!fQ d h)=false->((mU b)/\(mU g)))))))))))))))))
theorem G7(a:eU)(vs:O aD)(i:Lp b_1 (vs.map aG))(b:B9){j:Bx}(d:Lp j (b.map eI)):RP kE [U (zE bI a),U b_1,U j,Z,Z,Z,Z,Z,Z,Z,Z] (λr=>Ap.rt (zE eB r)) (iQ a vs b) (U (iR a vs b)):=R.tp (bM 3 (d8 (ao 0 (zE bI) a S) (λq=>q.1) (eT eS) 0 λ_=>S) (λ_=>S) λc=>(nP (dU (LV (KD (ao 3 (zE (eT eS)) c S)) (B0 2))) (bF (dB (λr=>r) (vX (.bl true) eB true S) (λ_=>S) λ_=>S)) (bR (bM 4 (Kr (iu (jP 2 eI b d S) (B0 0)) (zH (KD (ao 3 (zE (eT eS)) c S)) (B0 1))) (λ_=>S) λg=>(bM 5 (iV (iV (ao 4 (zE eI) g S) (B0 1)) (Kr (iu (jP 2 eI b d S) (B0 1)) (zH (zH (KD (ao 3 (zE (eT eS)) c S)) (B0 1)) (ao 4 (zE eI) g S)))) (λ_=>S) λp=>(bM 6 (KC (mZ (iV (B0 1) (dM (iu (jP 2 eI b d S) (B0 2)) 9 ()))) (OV (ao 3 (zE (eT eS)) c S) (ao 4 (zE eI) g S)) (OV (ao 3 (zE (eT eS)) c S) (ao 5 (zE eI) p S)) (B0 9)) (λ_=>S) λm=>(bM 7 (j7 (Iv (jz (ZB (λ_=>S) (jz (j7 (XF (am (d8 (ao 0 (zE bI) a S) (λq=>q.2.1) (eT aG) 1 λ_=>S) (iP (cH (ao 6 (zE aG) m S) (eZ aG)) (zS S)))) _ (λ_=>S) (λl:aD=>(S' (mZ (An zZ (bQ (ao 0 (zE aG) l S) aW))) (ao 0 (zE aG) l S))) λ_=>S))))) _ (λ_=>S) (λn:Vj=>(d8 (ao 0 (zE fT) n S) (λq=>q.2) aG 1 λ_=>S)) λ_=>S) (λ_=>S) λo=>(bM 8 (Kz (ao 3 (zE (eT eS)) c S) (qU (eG (ao 7 (lE aG) o S))) (d8 (ao 0 (zE bI) a S) (λq=>q.2.2) (eT Ax) 2 λ_=>S)) (λ_=>S) λf=>(bM 9 (An yj (bQ (ao 8 (zE bI) f S) aW)) (λ_=>S) λe=>(nP (dU (XS () (ao 6 (zE aG) m S) (eG (ao 9 (lE aG) e S)))) (bF (dB (λr=>r) (tB (NA () (eG (ao 9 (lE aG) e S)) (jP 1 aG vs i S)) (NA () (jz (An yt (bQ (ao 8 (zE bI) f S) aW))) (jz (An yt (bQ (ao 0 (zE bI) a S) aW))))) (λ_=>S) λ_=>S)) (bR (bM 10 (zH (Bz (jz (An yt (bQ (ao 0 (zE bI) a S) aW)))) (Bz (jz (An yt (bQ (ao 8 (zE bI) f S) aW))))) (λ_=>S) λh=>(dB (λr=>r) (tB (C2 () (ao 10 (zE eI) h S) (zH (Bz (eG (ao 9 (lE aG) e S))) (Bz (jP 1 aG vs i S)))) (MD (ao 10 (zE eI) h S) (jz (lN (cH (B0 0) (cH (B0 1) (eZ eI))) (zS S))))) (λ_=>S) λ_=>S)))))))))))))
theorem G8:∀v bs,(aZ bI (aL aG (aL eI aN))) v bs->bs.length=3/\(hold (U (iR v.1 v.2.1 v.2.2.1))->kJ (bs.map lend)=U ((zE eB) (iQ v.1 v.2.1 v.2.2.1))):=by
 rintro⟨a,vs,d,_⟩ _ ⟨_,rfl,⟨b_1,_,rfl,c,⟨e,_,rfl,b,rfl⟩⟩⟩;exact⟨rfl,λh=>bW (g:=kE) (n:=11) (bs:=[.z (bI a),lend b_1,lend e]) (G7 a vs (vW c) d (vW b)) h⟩
def um(a:eU)(c:Unit)(b:aD):nG (Unit) Bool:=(if(!mS (DD (jq a b) 0) (Dt.str "parts"))=true then(nG.rt false)else(nG.nx sn))
def z8(a:eU)(c:Unit)(b:aD):Prop:=(((pP a b)/\IL (jq a b) 0)/\ID (DD (jq a b) 0) (Dt.str "parts"))
theorem nz(e:B9)(f:Lp gW (e.map eI))(d:eU)(vs:O aD)(a:eU)(c:Unit)(b:aD):RP Vm [U gW,U (zE bI d),U (lE aG vs),U (zE bI a),U (zE aG b),Z] (cC (λc:Unit=>[U gW,U (zE bI d),U (lE aG vs),U (zE bI a),Z,Z]) (zE eB)) (um a c b) (U (z8 a c b)):=R.tp (bF (nP (dU (SE (OA (An Ml (bQ (ao 3 (zE bI) a S) (bQ (ao 4 (zE aG) b S) aW))) (B0 0)) (IE (.str "parts")))) (bF (dB .rt (vX (.bl false) eB false S) (λ_=>S) λ_=>S)) (bR (bR (bH (.nx sn) S)))))
def Wa(d:B9):Bool:=(let a:=(jW d);(let vs:=(eV a);(let f:=(a.1,vs,([]:O lQ));(BH (qC (λ(b:Unit) (e:aD)=>((um f b e):nG (Unit) Bool)) vs sn) (λr=>r) λb:Unit=>(let c:=(ud a.1 a.2.1.reverse);(if((!decide ((c.length:Int)=(vs.length:Int)))||(decide ((gK vs)<(gK c))))=true then false else(if((!(dI a vs))||(!(fL a)))=true then false else(iQ a vs (cut (aU (aX d 1) 7) (U 4) Z)))))))))
def Wb(d:B9):Prop:=((qw d)/\(let a:=(jW d);((jl a)/\(let vs:=(eV a);(let f:=(a.1,vs,([]:O lQ));(Bp (λ(b:Unit) (c:aD)=>((um f b c):nG (Unit) Bool)) (λ(b:Unit) (c:aD)=>U (z8 f b c)) vs sn/\(w6 (qC (λ(b:Unit) (c:aD)=>((um f b c):nG (Unit) Bool)) vs sn) λb:Unit=>((uf a.1 a.2.1.reverse)/\(let e:=(ud a.1 a.2.1.reverse);(((!decide ((e.length:Int)=(vs.length:Int)))=false->((ou e)/\(ou vs)))/\(((!decide ((e.length:Int)=(vs.length:Int)))||(decide ((gK vs)<(gK e))))=false->(((gM a vs)/\((!(dI a vs))=false->(iM a)))/\(((!(dI a vs))||(!(fL a)))=false->(((ji d 1)/\(fG (aX d 1) 7))/\(iR a vs (cut (aU (aX d 1) 7) (U 4) Z))))))))))))))))
theorem TN(b:B9)(d:Lp gW (b.map eI)):RP IN [U gW,Z,Z,Z,Z,Z] (λr=>Ap.rt (zE eB r)) (Wa b) (U (Wb b)):=R.tp (bM 1 (An V1 (w5 (jP 0 eI b d S) aW)) (λ_=>S) λa=>(bM 2 (An yj (bQ (ao 1 (zE bI) a S) aW)) (λ_=>S) λvs=>(bM 3 (Kz (d8 (ao 1 (zE bI) a S) (λq=>q.1) (eT eS) 0 λ_=>S) (qU (eG (ao 2 (lE aG) vs S))) (OY Ax)) (λ_=>S) λe=>(oj 2 vs (Uf S) (λc:Unit=>[U gW,U (zE bI a),U (lE aG vs),U (zE bI e),Z,Z]) sn S _ (λ_ _=>S) (λ(c:Unit) (g:aD)=>((nz b d a vs e c g).r:R _ _ (cC (λc:Unit=>[U gW,U (zE bI a),U (lE aG vs),U (zE bI e),Z,Z]) (zE eB)))) (λr=>r) (λ_=>S) λc=>(bM 5 (An Yq (bQ (d8 (ao 1 (zE bI) a S) (λq=>q.1) (eT eS) 0 λ_=>S) (bQ (mZ (eM (d8 (ao 1 (zE bI) a S) (λq=>q.2.1) (eT aG) 1 λ_=>S))) aW))) (λ_=>S) λf=>(nP (Xx (dU (F2 () (Bz (eG (ao 5 (lE aG) f S))) (Bz (eG (ao 2 (lE aG) vs S))))) (dU (IA (An Fy (w5 (eG (ao 5 (lE aG) f S)) aW)) (An Fy (w5 (eG (ao 2 (lE aG) vs S)) aW))))) (bF (dB (λr=>r) (vX (.bl false) eB false S) (λ_=>S) λ_=>S)) (bR (nP (Xx (Kw (UW (An z7 (bQ (ao 1 (zE bI) a S) (w5 (eG (ao 2 (lE aG) vs S)) aW))))) (Kw (UW (An G6 (bQ (ao 1 (zE bI) a S) aW))))) (bF (dB (λr=>r) (vX (.bl false) eB false S) (λ_=>S) λ_=>S)) (bR (dB (λr=>r) (An G8 (bQ (ao 1 (zE bI) a S) (w5 (eG (ao 2 (lE aG) vs S)) (w5 (M7 (Gc (PY (jz (An lR (bQ (mZ (An tX (w5 (jP 0 eI b d S) (bQ (B0 1) aW)))) (bQ (B0 7) aW)))) (FS (B0 4)) FL))) aW)))) (λ_=>S) λ_=>S))))))))))
theorem N1:∀v bs,(aL eI aN) v bs->bs.length=1/\(hold (U (Wb v.1))->F_law (bs.map lend)=U ((zE eB) (Wa v.1))):=by
 rintro⟨b,_⟩ _ ⟨gW,_,rfl,a,rfl⟩;exact⟨rfl,λh=>bW (g:=IN) (n:=6) (bs:=[lend gW]) (TN b (vW a)) h⟩
theorem Pe(h:∀a:O Int,a.length<=63->Wb a/\Wa a=true):(∀a:O Int,a.length<=63->F_law [.z (.lst (a.map .int))]=U (.z (.bl true)))/\∀a:O Int,a.length<=63->F_law [.l (a.map .int)]=U (.z (.bl true)):=
 ⟨λa b=>((N1 (a,sn) [.z (.lst (a.map .int))] ⟨_,_,rfl,rfl,rfl⟩).2 (h a b).1).trans (by rw[(h a b).2]),λa b=>((N1 (a,sn) [.l (a.map .int)] ⟨_,_,rfl,rfl,rfl⟩).2 (h a b).1).trans (by rw[(h a b).2])⟩
end
theorem Mp(a:O Int)(k:Int)(h0:0<=k)(h1:k<=1000):ji a k:=by
 unfold ji;exact⟨λh=>BD h0 (by simpa using h),λ_=>LH h0 ()⟩
theorem pe(k:Nat)(s:Int×O Int×Int)(d:k<1000)(h:(0<=s.1/\s.1<1999999973)/\s.2.1.length=k/\(∀x∈s.2.1,0<=x)/\0<=s.2.2):lu s k/\(0<=(cX s k).1/\(cX s k).1<1999999973)/\(cX s k).2.1.length=k+1/\(∀x∈(cX s k).2.1,0<=x)/\0<=(cX s k).2.2:=by
 obtain⟨h1,h2,c,b⟩:=h;have a:In 2 (if(decide ((0:Int)<s.2.2))=true then(1:Int)else 0):=by split<;>exact BD () ()
 refine⟨⟨LH h1.1 (),a,?_⟩,fY _ (),?_,?_,Int.ediv_nonneg b ()⟩
 ·show s.2.1.length<=1000000;omega
 ·show(s.2.1++[_]).length=k+1;rw[z4,h2];rfl
 ·intro x hx;rcases List.mem_append.mp hx with hx|hx
  ·exact c x hx
  ·cases List.mem_singleton.mp hx;have:=nR (xs:=[((((s.1*((s.1%65521)+40487))+(7*k))+5)%1999999973),(s.2.2%1000000)]) a;simp only[Qr,QN,or_false]at this;rcases this with e|e<;>rw[e]
   ·exact(fY _ ()).1
   ·exact(fY _ ()).1
theorem Mq(c m:Int)(h0:0<=m)(h1:m<=1000):fG c m/\(aU c m).length=m.toNat/\∀x∈aU c m,0<=x:=by
 have key:∀st a:Int,(0<=st/\st<1999999973)->0<=a->pN c m [] st a/\(lA c m [] st a).length=m.toNat/\∀x∈lA c m [] st a,0<=x:=λst a hs b=>by
  have:=zL (P:=λs k=>U (lu s k)) (λk s=>(0<=s.1/\s.1<1999999973)/\s.2.1.length=k/\(∀x∈s.2.1,0<=x)/\0<=s.2.2) (step:=λs k=>cX s k) m.toNat (st,[],a) ⟨hs,rfl,λx h=>(by cases h),b⟩ λk s d h=>pe k s () h;exact⟨⟨Pr h0 (),this.1⟩,this.2.2.1,this.2.2.2.1⟩
 refine key _ _ (fY _ ()) ?_;dsimp only;split<;>(try split)<;>omega
theorem p7{m:O (AJ×α)}:has m x=true↔x∈m.map (·.1):=by
 unfold has;rw[ja,KL];constructor
 ·rintro⟨q,a,h⟩;exact⟨q,a,QP h⟩
 ·rintro⟨q,a,h⟩;exact⟨q,a,Zl h⟩
theorem Fz[Inhabited α]{pre AS:O (AJ×α)}{n:AJ}{h:α}(a:n∉pre.map (·.1)):look (pre++(n,h)::AS) n=h:=by
 unfold look;have:pre.find? (λq=>decide (q.1=n))=Z:=hI.mpr λq b e=>a (List.mem_map.mpr ⟨q,b,QP e⟩);rw[List.find?_append,this];simp
theorem bg{pre AS:O (AJ×α)}{n:AJ}{h v:α}(f:n∉pre.map (·.1))(c:n∉AS.map (·.1)):put (pre++(n,h)::AS) n v=pre++(n,v)::AS:=by
 unfold put;rw[zl (p7.mpr (by simp))];have a:∀l:O (AJ×α),n∉l.map (·.1)->l.map (λq=>if q.1=n then(q.1,v)else q)=l:=λl d=>by
  conv=>rhs;rw[<-yi l]
  refine QQ λq b=>?_;rw[zz λe=>d (List.mem_map.mpr ⟨q,b,e⟩)];rfl
 rw[qB,zt,a pre f,a AS c];simp
theorem PX[Inhabited α]{m:O (AJ×α)}(h:x∈m.map (·.1)):(x,look m x)∈m:=by
 unfold look;cases a:m.find? λq=>decide (q.1=x)with
 |none=>
  obtain⟨q,b,rfl⟩:=List.mem_map.mp h;have:=hI.mp a q b;simp at this
 |some q=>
  have h1:=List.mem_of_find?_eq_some a;have h2:q.1=x:=by simpa using List.find?_some a
  show(x,q.2)∈m;rw[<-h2];exact h1
theorem Jy[Inhabited α]{m:O (AJ×α)}(nd:(m.map (·.1)).Nodup){q:AJ×α}(h:q∈m):look m q.1=q.2:=by
 obtain⟨a,AS,rfl⟩:=KF h;have:q.1∉a.map (·.1):=λe=>by
  rw[qB,zt,KS]at nd;exact nd.2.2 _ e _ (zg ..) rfl
 exact Fz this
def mn(one a:AJ):AJ:=if vJ a one=true then a else one
def jn(one a h:AJ):AJ:=if h=one\/h=a then mn one a else h
theorem Ie(a b:AJ):mn a b=a\/mn a b=b:=by unfold mn;split;exact .inr rfl;exact .inl rfl
def jm(m:O (AJ×AJ))(one a:AJ):O (AJ×AJ):=m.map λq=>(q.1,jn one a q.2)
theorem Me(m:O (AJ×AJ))(one a:AJ):(jm m one a).map (·.1)=m.map (·.1):=by unfold jm;rw[QE];rfl
theorem nV{one a:AJ}(nd:(m.map (·.1)).Nodup)(h:x∈m.map (·.1)):look (jm m one a) x=jn one a (look m x):=by
 have h1:=PX h;have:(x,jn one a (look m x))∈jm m one a:=List.mem_map.mpr ⟨_,h1,rfl⟩;exact Jy (by rw[Me];exact nd) this
theorem C3(one a:AJ):∀(b pre:O (AJ×AJ)),((pre++b).map (·.1)).Nodup->(pre++b).length<1000 →
  lO (λ(c:(O (AJ×AJ))) (name:AJ)=>(dX one a (mn one a) c name)) (λ(c:(O (AJ×AJ))) (name:AJ)=>U (qM one a (mn one a) c name)) (b.map (·.1)) (pre++b) ∧
  (b.map (·.1)).foldl (λ(c:(O (AJ×AJ))) (name:AJ)=>(dX one a (mn one a) c name)) (pre++b)=pre++jm b one a
 |[],pre,_,_=>⟨trivial,rfl⟩
 |(n,h)::AS,pre,nd,hl=>by
  have g:n∉pre.map (·.1):=λe=>by
   rw[qB,zt,KS]at nd;exact nd.2.2 _ e _ (zg ..) rfl
  have i:n∉AS.map (·.1):=by
   rw[qB,zt,KS,bT]at nd;exact nd.2.1.1
  have f:has (pre++(n,h)::AS) n=true:=p7.mpr (by simp);have e:dX one a (mn one a) (pre++(n,h)::AS) n=pre++(n,jn one a h)::AS:=by
   unfold dX;dsimp only;rw[Fz g];unfold jn;by_cases q:h=one\/h=a
   ·rw[zl q,zl (by simpa using q),bg g i]
   ·rw[zz q,zz (by simpa using q)]
  have d:=C3 one a AS (pre++[(n,jn one a h)]) (by simpa using nd) (by simpa using hl);rw[qv]at d;refine⟨⟨⟨⟨f,λ_=>f⟩,λ_=>hl⟩,?_⟩,?_⟩
  ·show lO _ _ _ (dX one a (mn one a) (pre++(n,h)::AS) n);rw[e];exact d.1
  ·rw[zt,qo,e];rw[show pre++(n,jn one a h)::AS=pre++([(n,jn one a h)]++AS) by simp,d.2];unfold jm;simp
theorem Po(one a:AJ)(nd:(m.map (·.1)).Nodup)(b:m.length<1000):lC m one a/\jk m one a=jm m one a:=C3 one a m [] nd b
theorem NC:∀(a m:O (AJ×AJ)),((m++a).map (·.1)).Nodup->a.foldl (λm q=>put m q.1 q.2) m=m++a
 |[],m,_=>by simp
 |q::a,m,nd=>by
  rw[qo];have:put m q.1 q.2=m++[q]:=by
   unfold put;rw[zz];intro e;have e:=p7.mp e;rw[qB,zt,KS]at nd;exact nd.2.2 _ e _ (zg ..) rfl
  rw[this,NC a (m++[q]) (by simpa using nd)];simp
theorem yu(n_:AZ)(nd:n_.Nodup)(a:n_.length<1000):lB n_/\aP n_=n_.map λn=>(n,n):=by
 refine⟨⟨a,by omega⟩,?_⟩;unfold aP HG;rw[NC _ [] (by rw[et,QE];show(n_.map id).Nodup;rw[yi];exact nd)];rfl
structure Hd (n_:AZ) (m:List (Str×Str)):Prop where
 keys:m.map (·.1)=n_
 nd:n_.Nodup
 len:n_.length<1000
 mem:∀x∈n_,look m x∈n_
 idem:∀x∈n_,look m (look m x)=look m x
theorem Hd.kn(h:Hd n_ m):(m.map (·.1)).Nodup:=by rw[h.keys];exact h.nd
theorem Hd.ml(h:Hd n_ m):m.length<1000:=by rw[<-zk (f:=(·.1)),h.keys];exact h.len
theorem Hd.has(h:Hd n_ m)(hx:x∈n_):has m x=true:=p7.mpr (by rw[h.keys];exact hx)
theorem Hd.lone(nd:n_.Nodup)(b:n_.length<1000):Hd n_ (n_.map λn=>(n,n)):=by
 have k:(n_.map λn=>(n,n)).map (·.1)=n_:=by rw[QE];show n_.map id=n_;rw[yi]
 have a:∀x∈n_,look (n_.map λn=>(n,n)) x=x:=λx hx=>Jy (q:=(x,x)) (by rw[k];exact nd) (List.mem_map.mpr ⟨x,hx,rfl⟩);exact⟨k,nd,b,λx hx=>by rw[a x hx];exact hx,λx hx=>by rw[a x hx,a x hx]⟩
theorem su(nd:n_.Nodup)(hx:x∈n_):look (n_.map λn=>(n,n)) x=x:=
 Jy (q:=(x,x)) (by rw[QE];show(n_.map id).Nodup;rw[yi];exact nd) (List.mem_map.mpr ⟨x,hx,rfl⟩)
theorem Hd.uo(h:Hd n_ m){one a:AJ}(hx:x∈n_):look (jm m one a) x=jn one a (look m x):=nV h.kn (by rw[h.keys];exact hx)
theorem Hd.join(h:Hd n_ m){a b:AJ}(ha:a∈n_)(hb:b∈n_):Hd n_ (jm m (look m a) (look m b)):=by
 have f:=h.mem a ha;have d:=h.mem b hb;refine⟨(Me _ _ _).trans h.keys,h.nd,h.len,λx hx=>?_,λx hx=>?_⟩
 ·rw[h.uo hx];unfold jn;split
  ·rcases Ie (look m a) (look m b)with e|e<;>rw[e]<;>assumption
  ·exact h.mem x hx
 ·have c:jn (look m a) (look m b) (look m x)∈n_:=by
   unfold jn;split
   ·rcases Ie (look m a) (look m b)with e|e<;>rw[e]<;>assumption
   ·exact h.mem x hx
  rw[h.uo hx,h.uo c];unfold jn;by_cases q:look m x=look m a\/look m x=look m b
  ·rw[zl q];rcases Ie (look m a) (look m b)with e|e
   ·rw[e,h.idem a ha,zl (.inl S)]
   ·rw[e,h.idem b hb,zl (.inr S)]
  ·rw[zz q,h.idem x hx,zz q]
theorem SK(a:AJ):jm m a a=m:=by
 unfold jm
 conv=>rhs;rw[<-yi m]
 refine QQ λq _=>?_;unfold jn mn;have:vJ a a=false:=by simp[vJ]
 rw[this];by_cases e:q.2=a
 ·rw[zl (.inl e),zz (),<-e];rfl
 ·rw[zz (by simp[e])];rfl
def Yw(n_:AZ)(m:O (AJ×AJ)):AZ:=n_.filter λx=>decide (look m x=x)
theorem Ig{p q:AJ->Bool}{c:AJ}:∀{l:AZ},l.Nodup->c∈l->p c=true->(∀x∈l,q x=(p x&&decide (x≠c)))->(l.filter q).length+1=(l.filter p).length
 |[],_,h,_,_=>by cases h
 |x::l,nd,a,hp,hq=>by
  have hx:=hq x (zg ..);obtain⟨nx,d⟩:=bT.mp nd;rcases List.mem_cons.mp a with rfl|a
  ·have e:l.filter q=l.filter p:=il λy b=>by
    rw[hq y (zh _ b)];have:y≠c:=λe=>nx (e▸b);simp[this]
   rw[kK,kK,hx,hp];simp[e]
  ·have f:=Ig (p:=p) (q:=q) d a hp λy b=>hq y (zh _ b);have:x≠c:=λe=>nx (e▸a);rw[kK,kK,hx];cases p x<;>simp[this]<;>omega
theorem Hd.aeO(h:Hd n_ m){a b:AJ}(ha:a∈n_)(hb:b∈n_)(d:look m a≠look m b):(Yw n_ (jm m (look m a) (look m b))).length+1=(Yw n_ m).length:=by
 have l:=h.mem a ha;have i:=h.mem b hb;have i1:=h.idem a ha;have i2:=h.idem b hb;have key:∀c,c∈n_->look m c=c->(c=look m a/\mn (look m a) (look m b)=look m b\/c=look m b/\mn (look m a) (look m b)=look m a)->(Yw n_ (jm m (look m a) (look m b))).length+1=(Yw n_ m).length:=λc g j f=>by
  refine Ig h.nd g (Zl j) λx hx=>?_;rw[h.uo hx];rw[Jn];simp only[ZN,ZH];unfold jn;by_cases q:look m x=look m a\/look m x=look m b
  ·rw[zl q];rcases f with⟨rfl,e⟩|⟨rfl,e⟩
   ·rw[e];constructor
    ·rintro rfl;exact⟨i2,λz=>d z.symm⟩
    ·rintro⟨e1,e2⟩;rcases q with q|q
     ·exact absurd (e1.symm.trans q) e2
     ·exact q.symm.trans e1
   ·rw[e];constructor
    ·rintro rfl;exact⟨i1,d⟩
    ·rintro⟨e1,e2⟩;rcases q with q|q
     ·exact q.symm.trans e1
     ·exact absurd (e1.symm.trans q) e2
  ·rw[zz q];constructor
   ·intro e1;refine⟨e1,λe2=>q ?_⟩;rcases f with⟨rfl,_⟩|⟨rfl,_⟩
    ·exact .inl (e1.trans e2)
    ·exact .inr (e1.trans e2)
   ·exact λe1=>e1.1
 rcases Ie (look m a) (look m b)with e|e
 ·exact key (look m b) i i2 (.inr ⟨rfl,e⟩)
 ·exact key (look m a) l i1 (.inl ⟨rfl,e⟩)
abbrev bY:=Int×AJ×AJ×Int
def Rs(n_:AZ)(rs:O bY):Prop:=∀r∈rs,r.2.1∈n_/\r.2.2.1∈n_
def jb(m:O (AJ×AJ))(r:bY):O (AJ×AJ):=jm m (look m r.2.1) (look m r.2.2.1)
def hb(n_:AZ)(rs:O bY):O (AJ×AJ):=rs.foldl jb (aP n_)
theorem Fu(nd:n_.Nodup)(a:n_.length<1000):Hd n_ (aP n_):=by rw[(yu n_ nd a).2];exact Hd.lone nd a
theorem Ar(n_:AZ)(rs:O bY)(r:bY):hb n_ (rs++[r])=jb (hb n_ rs) r:=JU (l:=rs) (l':=[r])
theorem O':∀{xs ys:AZ},xs.Nodup->(∀x∈xs,x∈ys)->xs.length<=ys.length
 |[],_,_,_=>QY _
 |x::xs,ys,nd,h=>by
  obtain⟨b,c⟩:=bT.mp nd;have hx:=h x (zg ..);have:=O' (ys:=ys.erase x) c λz a=>(ey (λe:z=x=>b (e▸a))).mpr (h z (zh _ a));rw[YI hx]at this;have:=kR hx;rw[ZE];omega
structure PH (n_:AZ) (P:List AZ) (m:List (Str×Str)):Prop where
 sub:∀p∈P,∀y∈p,y∈n_
 cov:∀x∈n_,∃p∈P,x∈p
 cls:∀p∈P,∀x∈p,∀y∈n_,(y∈p↔look m x=look m y)
 ne:∀p∈P,p≠[]
 nd:∀p∈P,p.Nodup
 uni:∀p∈P,∀q∈P,∀x,x∈p->x∈q->p=q
 len:P.length<=n_.length
 pn:P.Nodup
 srt:∀p∈P,p.Pairwise Ag
theorem mx(nd:n_.Nodup)(d:n_.length<1000):PH n_ (n_.map λname:AJ=>[name]) (aP n_):=by
 rw[(yu n_ nd d).2];have inv:∀p,p∈(n_.map λname:AJ=>[name])->∃n∈n_,p=[n]:=λp hp=>by
  obtain⟨n,a,e⟩:=List.mem_map.mp hp;exact⟨n,a,e.symm⟩
 refine⟨λp hp y b=>?_,λx hx=>⟨[x],List.mem_map.mpr ⟨x,hx,rfl⟩,List.mem_singleton.mpr rfl⟩,λp hp x hx y b=>?_,λp hp e=>?_,λp hp=>?_,λp hp q c x h1 h2=>?_,by rw[zk];exact zi _,?_,λp hp=>?_⟩
 ·obtain⟨n,a,rfl⟩:=inv p hp;cases List.mem_singleton.mp b;exact a
 ·obtain⟨n,a,rfl⟩:=inv p hp;cases List.mem_singleton.mp hx;rw[su nd a,su nd b,kQ];exact⟨λe=>e.symm,λe=>e.symm⟩
 ·obtain⟨n,a,rfl⟩:=inv p hp;cases e
 ·obtain⟨n,a,rfl⟩:=inv p hp;exact bT.mpr ⟨λz=>(by cases z),JO⟩
 ·obtain⟨n,a,rfl⟩:=inv p hp;obtain⟨g,f,rfl⟩:=inv q c;cases List.mem_singleton.mp h1;cases List.mem_singleton.mp h2;rfl
 ·unfold List.Nodup;rw[KP];exact nd.imp λh e=>h (by injection e)
 ·obtain⟨n,a,rfl⟩:=inv p hp;exact List.pairwise_singleton _ _
theorem GI{P:O AZ}{a:AJ}(h:∃p∈P,a∈p):In ((P.filter λpart:AZ=>(decide (a∈part))).map λpart:AZ=>part).length (0:Int)/\at' ((P.filter λpart:AZ=>(decide (a∈part))).map λpart:AZ=>part) (0:Int)∈P/\a∈at' ((P.filter λpart:AZ=>(decide (a∈part))).map λpart:AZ=>part) (0:Int):=by
 obtain⟨p,hp,ha⟩:=h;have m:p∈((P.filter λpart:AZ=>(decide (a∈part))).map λpart:AZ=>part):=List.mem_map.mpr ⟨p,bt.mpr ⟨hp,Zl ha⟩,rfl⟩;have i:In ((P.filter λpart:AZ=>(decide (a∈part))).map λpart:AZ=>part).length (0:Int):=tD (k:=0) (kR m);refine⟨i,?_⟩;obtain⟨q,b,e⟩:=List.mem_map.mp (nR i);rw[<-e];exact⟨(bt.mp b).1,QP (bt.mp b).2⟩
theorem LD{P:O AZ}(h:Hd n_ m)(p:PH n_ P m){one d:AZ}{a b:AJ}(h1:one∈P)(h2:d∈P)(ha:a∈one)(hb:b∈d)(B:one≠d):
  (one++d).length<=n_.length/\PH n_ (((P.filter λpart:AZ=>(!fQ part [one,d])).map λpart:AZ=>part)++[(oJ (one++d))]) (jm m (look m a) (look m b)):=by
 have E:=p.sub _ h1 _ ha;have D:=p.sub _ h2 _ hb;have A:(one++d).Nodup:=List.nodup_append.mpr ⟨p.nd _ h1,p.nd _ h2,λx hx y g e=>B (p.uni _ h1 _ h2 x hx (e▸g))⟩;have t:∀x∈one++d,x∈n_:=λx hx=>(List.mem_append.mp hx).elim (p.sub _ h1 _) (p.sub _ h2 _);have c1:∀y∈n_,(y∈one↔look m y=look m a):=λy g=>(p.cls _ h1 _ ha y g).trans ⟨Eq.symm,Eq.symm⟩;have c2:∀y∈n_,(y∈d↔look m y=look m b):=λy g=>(p.cls _ h2 _ hb y g).trans ⟨Eq.symm,Eq.symm⟩;have old:∀q,q∈((P.filter λpart:AZ=>(!fQ part [one,d])).map λpart:AZ=>part)↔q∈P/\q≠one/\q≠d:=λq=>by
  rw[Kk,bt,Q3,<-Bool.not_eq_true,gn];simp
 have s:∀y,y∈oJ (one++d)↔y∈one\/y∈d:=λy=>(fP _).mem_iff.trans kX;have C:∀q,q∈P->q≠one->q≠d->∀x∈q,look m x≠look m a/\look m x≠look m b:=λq c i j x hx=>by
  have l:=p.sub _ c _ hx;exact⟨λe=>i (p.uni _ c _ h1 x hx ((c1 x l).mpr e)),λe=>j (p.uni _ c _ h2 x hx ((c2 x l).mpr e))⟩
 refine⟨O' A t,⟨λq c y g=>?_,λx hx=>?_,λq c x hx y g=>?_,λq c=>?_,λq c=>?_,λq c u n x hx o=>?_,?_,?_,λq c=>?_⟩⟩
 ·rcases List.mem_append.mp c with c|c
  ·exact p.sub _ ((old q).mp c).1 _ g
  ·cases List.mem_singleton.mp c;exact t y ((fP _).mem_iff.mp g)
 ·obtain⟨q,c,o⟩:=p.cov x hx;by_cases e:q=one\/q=d
  ·refine⟨_,List.mem_append.mpr (.inr (List.mem_singleton.mpr S)),(s x).mpr ?_⟩;rcases e with rfl|rfl
   ·exact .inl o
   ·exact .inr o
  ·exact⟨q,List.mem_append.mpr (.inl ((old q).mpr ⟨c,λz=>e (.inl z),λz=>e (.inr z)⟩)),o⟩
 ·rcases List.mem_append.mp c with c|c
  ·obtain⟨c,i,j⟩:=(old q).mp c;have l:=p.sub _ c _ hx;have f:=C q c i j x hx;rw[h.uo l,h.uo g,p.cls _ c _ hx y g];unfold jn;rw[zz (λz=>z.elim f.1 f.2)];by_cases e:look m y=look m a\/look m y=look m b
   ·rw[zl e];constructor
    ·intro z;rw[z]at f;exact absurd e (λw=>w.elim f.1 f.2)
    ·intro z;rcases Ie (look m a) (look m b)with w|w<;>rw[w]at z
     ·exact absurd z f.1
     ·exact absurd z f.2
   ·rw[zz e]
  ·cases List.mem_singleton.mp c;have v:=(s x).mp hx;have l:=t x (List.mem_append.mpr v);rw[s,h.uo l,h.uo g,c1 y g,c2 y g];unfold jn;rw[zl (v.elim (λz=>.inl ((c1 x l).mp z)) (λz=>.inr ((c2 x l).mp z)))];by_cases e:look m y=look m a\/look m y=look m b
   ·rw[zl e];exact⟨λ_=>S,λ_=>e⟩
   ·rw[zz e];refine⟨λz=>absurd z e,λz=>?_⟩;rcases Ie (look m a) (look m b)with w|w<;>rw[w]at z
    ·exact .inl z.symm
    ·exact .inr z.symm
 ·rcases List.mem_append.mp c with c|c
  ·exact p.ne _ ((old q).mp c).1
  ·cases List.mem_singleton.mp c;intro e;have:=(s a).mpr (.inl ha);rw[e]at this;cases this
 ·rcases List.mem_append.mp c with c|c
  ·exact p.nd _ ((old q).mp c).1
  ·cases List.mem_singleton.mp c;exact(fP _).nodup_iff.mpr A
 ·have key:∀q,q∈P->q≠one->q≠d->x∈q->x∈oJ (one++d)->False:=λq c i j e1 e2=>
   ((s x).mp e2).elim (λz=>i (p.uni _ c _ h1 x e1 z)) (λz=>j (p.uni _ c _ h2 x e1 z))
  rcases List.mem_append.mp c with c|c<;>rcases List.mem_append.mp n with n|n
  ·exact p.uni _ ((old q).mp c).1 _ ((old u).mp n).1 x hx o
  ·cases List.mem_singleton.mp n;obtain⟨z,i,j⟩:=(old q).mp c;exact(key q z i j hx o).elim
  ·cases List.mem_singleton.mp c;obtain⟨z,i,j⟩:=(old u).mp n;exact(key u z i j o hx).elim
  ·exact(List.mem_singleton.mp c).trans (List.mem_singleton.mp n).symm
 ·rw[z4,Kk];have:(P.filter λpart:AZ=>(!fQ part [one,d])).length<P.length:=by
   rw[List.length_filter_lt_length_iff_exists];refine⟨one,h1,?_⟩;rw[Q3,Bool.not_eq_false];exact gn.mpr (zg ..)
  have:=p.len;show _+1<=_;omega
 ·rw[KS];refine⟨by rw[Kk];exact p.pn.filter _,bT.mpr ⟨λz=>(by cases z),JO⟩,λx hx y g e=>?_⟩;cases List.mem_singleton.mp g;obtain⟨z,i,j⟩:=(old x).mp hx;have:a∈x:=by rw[e];exact(s a).mpr (.inl ha)
  exact i (p.uni _ z _ h1 a this ha)
 ·rcases List.mem_append.mp c with c|c
  ·exact p.srt _ ((old q).mp c).1
  ·cases List.mem_singleton.mp c;exact wU _
theorem Yx{P:O AZ}(h:Hd n_ m)(c:n_.length<64)(p:PH n_ P m){r:bY}(ha:r.2.1∈n_)(hb:r.2.2.1∈n_):
  iI P r/\PH n_ (cY P r) (jm m (look m r.2.1) (look m r.2.2.1)):=by
 obtain⟨i1,a,a1⟩:=GI (p.cov _ ha);obtain⟨i2,b,a2⟩:=GI (p.cov _ hb);have pl:=p.len;unfold iI cY;dsimp only;generalize at' ((P.filter λpart:AZ=>(decide (r.2.1∈part))).map λpart:AZ=>part) (0:Int)=one at *
 generalize at' ((P.filter λpart:AZ=>(decide (r.2.2.1∈part))).map λpart:AZ=>part) (0:Int)=other at *
 by_cases e:one=other
 ·subst e;refine⟨⟨⟨by omega,i1⟩,⟨by omega,i2⟩,λz=>by simp at z⟩,?_⟩;rw[zz (by simp),(p.cls _ a _ a1 _ hb).mp a2,SK];exact p
 ·obtain⟨c1,c2⟩:=LD h p a b a1 a2 e;rw[z4]at c1;refine⟨⟨⟨by omega,i1⟩,⟨by omega,i2⟩,λ_=>⟨⟨by omega,?_,?_⟩,?_⟩⟩,?_⟩
  ·show _<=1000000;omega
  ·rw[z4];omega
  ·have:=c2.len;rw[z4]at this;show _<=1000000;omega
  ·rw[zl (by simp[e])];exact c2
theorem Mr{n_:AZ}(c:n_.length<64):∀(rs:O bY) (P:O AZ) (m:O (AJ×AJ)),Rs n_ rs->Hd n_ m->PH n_ P m →
  lO (λ(a:O AZ) (q1:bY)=>(cY a q1)) (λ(a:O AZ) (q1:bY)=>U (iI a q1)) rs P/\PH n_ (rs.foldl (λ(a:O AZ) (q1:bY)=>(cY a q1)) P) (rs.foldl jb m)
 |[],_,_,_,_,p=>⟨trivial,p⟩
 |r::rs,P,m,hr,h,p=>by
  obtain⟨ha,hb⟩:=hr r (zg ..);obtain⟨d,q⟩:=Yx h c p ha hb;have b:=Mr c rs (cY P r) (jb m r) (λx hx=>hr x (zh _ hx)) (h.join ha hb) q;exact⟨⟨d,b.1⟩,b.2⟩
theorem FJ(nd:n_.Nodup)(a:n_.length<64){rs:O bY}(b:Rs n_ rs):lV n_ rs/\∃P,eX n_ rs=zK P/\PH n_ P (hb n_ rs):=by
 obtain⟨d,p⟩:=Mr a rs _ _ b (Fu nd ()) (mx nd ());have pl:=p.len;refine⟨⟨by omega,d,by show dm _<=100000;exact ZI pl (),by show(dJ _ _).length<64;rw[zk];exact hH pl a,λx hx=>?_⟩,_,congrArg zK (Kk _),p⟩;obtain⟨y,c,rfl⟩:=List.mem_map.mp hx;have:=p.ne _ c;cases y
 ·exact absurd S this
 ·rfl
theorem i8{P:O AZ}(p:PH n_ P m){a b:AJ}(ha:a∈n_)(hb:b∈n_):(((zK P).map λpart:AZ=>((decide (a∈part))&&(decide (b∈part)))).any id)=decide (look m a=look m b):=by
 rw[Jn,ja,ZN];constructor
 ·rintro⟨x,hx,e⟩;obtain⟨q,c,rfl⟩:=List.mem_map.mp hx;have e:(decide (a∈q)&&decide (b∈q))=true:=e;rw[ZH,ZN,ZN]at e;exact(p.cls q ((uI P).mem_iff.mp c) a e.1 b hb).mp e.2
 ·intro e;obtain⟨q,c,hx⟩:=p.cov a ha;refine⟨_,List.mem_map.mpr ⟨q,(uI P).mem_iff.mpr c,rfl⟩,?_⟩;show(_&&_)=true;rw[ZH,ZN,ZN];exact⟨hx,(p.cls q c a hx b hb).mpr e⟩
theorem Ms(a:AJ):Ag a a:=by unfold Ag;rw[ltCps_eq];simp
theorem Qa{a b c:AJ}(h:Ag a b)(h':Ag b c):Ag a c:=by
 unfold Ag at *
 rw[ltCps_eq]at *
 simp only[JA]at *
 exact nf (α:=Nat) h h'
theorem RH(a b:AJ):Ag (mn a b) a/\Ag (mn a b) b:=by
 unfold mn;by_cases h:vJ b a=true
 ·rw[zl h];exact⟨((BT b a).mp h).1,Ms b⟩
 ·rw[zz h];refine⟨Ms a,?_⟩;have h:vJ b a=false:=by simpa using h
  unfold vJ at h;unfold Ag;rw[ltCps_eq];exact h
def EO(n_:AZ)(m:O (AJ×AJ)):Prop:=∀x∈n_,Ag (look m x) x
theorem d6(nd:n_.Nodup)(a:n_.length<1000):EO n_ (aP n_):=λx hx=>by
 rw[(yu n_ nd a).2,su nd hx];exact Ms x
theorem EO.jb(l:EO n_ m)(h:Hd n_ m)(r:bY):EO n_ (jb m r):=λx hx=>by
 show Ag (look (jm m (look m r.2.1) (look m r.2.2.1)) x) x;rw[h.uo hx];unfold jn;split
 ·rename_i e;rcases e with e|e
  ·exact Qa (RH _ _).1 (e▸l x hx)
  ·exact Qa (RH _ _).2 (e▸l x hx)
 ·exact l x hx
theorem C0{α:Type}(c:Array α):∀(n:Nat) (a:Array α),((ab n c).foldl (·++·) a).size=a.size+n*c.size
 |0,a=>by simp
 |n+1,a=>by
  rw[yv,qo,C0 c n,K0,n4];omega
theorem Qz(x:AJ)(k:Int):(Txt.mul x k).length<=x.length*k.toNat:=by
 unfold Txt.mul;split
 ·exact QY _
 split
 ·rename_i h0 h;simp only[yo,beq_iff_eq]at h;rcases h with h|h
  ·subst h;simp
  ·rw[h];simp
 ·show(Array.size _)<=_;rw[C0];have:x.cps.size=x.length:=rfl;rw[this,n5];simp
def LT:AJ:=("abcdefghijklmnopqrstuvwxyz":AJ)
theorem Yy:LT.length=26:=by decide +kernel
theorem vM(h:n<=1000):Pg n:=ZI h ()
theorem Yz(xs:O Int)(g:6<=xs.length)(b:AJ)(hs:b.length<=5)(at_:Int)(k:Nat)(a:AZ)(j:k<200)(h:a.length=k/\∀n∈a,n.length<=12):nZ xs LT b at_ a k/\(fV xs LT b at_ a k).length=k+1/\∀n∈fV xs LT b at_ a k,n.length<=12:=by
 have i:=ZI (slice_le b Z (U at_)) hs;have l:=ZI (slice_le b (U at_) Z) hs;have c1:=GF LT ((↑k+at' xs 2)%15);have f:=fY (k:Int) (m:=8) ();have d:(0:Int)<=(k:Int) / 8/\(k:Int) / 8<26:=by omega
 refine⟨⟨⟨BD () (),tH () (by rw[Yy];decide)⟩,⟨vM (),vM (by rw[zN];omega)⟩,⟨BD () (),λ_=>⟨BD d.1 (by rw[Yy];exact d.2),by omega,by omega,by rw[GF];decide⟩⟩,vM ()⟩,?_⟩;have key:∀n:AJ,n.length<=12->(a++[n]).length=k+1/\∀m∈a++[n],m.length<=12:=λn e=>⟨by simp[h.1],λm c=>by
  rcases List.mem_append.mp c with c|c
  ·exact h.2 m c
  ·cases List.mem_singleton.mp c;exact e⟩
 unfold fV;dsimp only;split
 ·exact key _ (by have:=Qz (ch LT ((k:Int) / 8)) (1+(k:Int)%8);rw[GF]at this;exact ZI this ())
 ·exact key _ (by rw[zN,zN,c1];omega)
theorem RI(xs:AZ)(n:Nat)(h:∀x∈xs,x.length<=n):(Txt.join "" xs).length<=xs.length*n:=by
 have h1:=StrLaws.join_length_le ("":AJ) xs;rw[<-StrLaws.glued_eq_join]at h1;have h2:(xs.map (·.length)).sum<=xs.length*n:=by
  clear h1
  induction xs with
  |nil=>simp
  |cons a l b=>
   have:=b λx hx=>h x (zh _ hx);have:=h a (zg ..);simp only[zt,hY,ZE,n4];omega
 have c:("":AJ).length=0:=rfl;rw[c,Nat.mul_zero]at h1;exact ZI h1 ()
theorem VW(xs:AZ)(h:∀x∈xs,x.length=1):(xs.map (·.length)).sum=xs.length:=by
 induction xs with
 |nil=>rfl
 |cons a l b=>
  have:=b λx hx=>h x (zh _ hx);have:=h a (zg ..);simp only[zt,hY,ZE];omega
theorem gh(xs:O Int)(g:6<=xs.length)(a:Int)(h0:0<=a)(h1:a<=200):vA xs a/\(cT xs a).length=a.toNat/\∀n∈cT xs a,n.length<=12:=by
 have e:=fY (at' xs 0) (m:=6) ();have st:∀b:AJ,b.length<=5->tY xs a LT b/\(n6 xs a LT b).length=a.toNat/\∀n∈n6 xs a LT b,n.length<=12:=λb hs=>by
  have:=zL (P:=λf k=>U (nZ xs LT b (at' xs 1%((b.length:Int)+1)) f k)) (step:=λf k=>fV xs LT b (at' xs 1%((b.length:Int)+1)) f k) (λk s=>s.length=k/\∀n∈s,n.length<=12) a.toNat [] ⟨rfl,λn h=>(by cases h)⟩ λk s d h=>Yz xs g b hs _ k s () h;exact⟨⟨⟨BD () (),by omega⟩,Pr h0 (),this.1⟩,this.2⟩
 have c1:∀x∈((rng 0 (at' xs 0%6).toNat).map λc:Int=>ch LT (at' xs c / 40%26)),x.length=1:=λx hx=>by
  obtain⟨k,_,rfl⟩:=List.mem_map.mp hx;exact GF _ _
 have:=st (Txt.join "" ((rng 0 (at' xs 0%6).toNat).map λc:Int=>ch LT (at' xs c / 40%26))) (by
  have:=RI _ 1 λx hx=>yB (c1 x hx);rw[zk,uJ]at this;omega)
 refine⟨⟨⟨⟨⟨⟨BD () (),Pr e.1 ()⟩,by rw[uJ];omega⟩,λk d=>?_⟩,?_⟩,this.1⟩,this.2⟩
 ·obtain⟨j,l,rfl⟩:=Rn d;exact⟨BD () (),tH () (by rw[show("abcdefghijklmnopqrstuvwxyz":AJ)=LT from rfl,Yy];decide)⟩
 ·rw[show("abcdefghijklmnopqrstuvwxyz":AJ)=LT from rfl,VW _ c1,zk,uJ];have i:("":AJ).length=0:=rfl;rw[i];omega
def Tr(F:O bY):AJ->O bY->AJ->Prop
 |s,[],e=>s=e
 |s,r::p,e=>r∈F/\∃t,bA r s=U t/\Tr F t p e
def mV(F:O bY)(x y:AJ):Prop:=∃p,Tr F x p y
theorem rP{r:bY}(h:bA r x=U y):(r.2.1=x/\r.2.2.1=y)\/(r.2.2.1=x/\r.2.1=y):=by
 unfold bA at h;by_cases h1:r.2.1=x
 ·rw[Zl h1,zl rfl]at h;exact .inl ⟨h1,j3 h⟩
 ·rw[ZA h1,zz ()]at h;by_cases h2:r.2.2.1=x
  ·rw[Zl h2,zl rfl]at h;exact .inr ⟨h2,j3 h⟩
  ·rw[ZA h2,zz ()]at h;cases h
theorem P8{r:bY}(a:r.2.1≠r.2.2.1)(h:bA r x=U y):bA r y=U x:=by
 unfold bA;rcases rP h with⟨h1,h2⟩|⟨h1,h2⟩
 ·have:r.2.1≠y:=λz=>a (z.trans h2.symm);rw[ZA this,zz (),Zl h2,zl rfl,h1]
 ·rw[Zl h2,zl rfl,h1]
theorem Tr.app{F:O bY}:∀{p:O bY} {x y z:AJ} {q:O bY},Tr F x p y->Tr F y q z->Tr F x (p++q) z
 |[],_,_,_,_,h,h'=>by cases h;exact h'
 |_::_,_,_,_,_,⟨m,t,e,h⟩,h'=>⟨m,t,e,h.app h'⟩
theorem Tr.rev{F:O bY}(a:∀r∈F,r.2.1≠r.2.2.1):∀{p:O bY} {x y:AJ},Tr F x p y->Tr F y p.reverse x
 |[],_,_,h=>by cases h;rfl
 |r::p,x,y,⟨m,t,e,h⟩=>by
  rw[Kb];exact(h.rev a).app ⟨m,x,P8 (a r m) e,rfl⟩
theorem mV.symm{F:O bY}(a:∀r∈F,r.2.1≠r.2.2.1){x y:AJ}:mV F x y->mV F y x:=λ⟨p,h⟩=>⟨_,h.rev a⟩
theorem mV.trans{F:O bY}{z:AJ}:mV F x y->mV F y z->mV F x z:=λ⟨_,h⟩ ⟨_,h'⟩=>⟨_,h.app h'⟩
inductive Fo:List bY->Prop
 |nil:Fo []
 |snoc {F:List bY} {r:bY}:Fo F->¬ mV F r.2.1 r.2.2.1->Fo (F++[r])
theorem Fo.ne{F:O bY}(h:Fo F):∀r∈F,r.2.1≠r.2.2.1:=by
 induction h with
 |nil=>intro r h;cases h
 |@snoc F r _ a b=>
  intro x hx e;rcases List.mem_append.mp hx with hx|hx
  ·exact b x hx e
  ·cases List.mem_singleton.mp hx;exact a ⟨[],e⟩
theorem Tr.mono{F G:O bY}:∀{p:O bY} {x y:AJ},Tr F x p y->(∀r∈p,r∈G)->Tr G x p y
 |[],_,_,h,_=>h
 |r::p,_,_,⟨_,t,e,h⟩,hg=>⟨hg r (zg ..),t,e,h.mono λz a=>hg z (zh _ a)⟩
theorem Tr.mem{F:O bY}:∀{p:O bY} {x y:AJ},Tr F x p y->∀r∈p,r∈F
 |[],_,_,_,_,h=>by cases h
 |r::p,_,_,⟨m,_,_,h⟩,z,a=>by
  rcases List.mem_cons.mp a with rfl|a
  ·exact m
  ·exact h.mem z a
theorem Tr.cut{F:O bY}:∀{p1:O bY} {r:bY} {p2:O bY} {x y:AJ},Tr F x (p1++r::p2) y->∃a b,Tr F x p1 a/\bA r a=U b/\Tr F b p2 y
 |[],_,_,x,_,⟨_,t,e,h⟩=>⟨x,t,rfl,e,h⟩
 |q::p1,_,_,_,_,⟨m,t,e,h⟩=>by
  obtain⟨a,b,h1,h2,c⟩:=h.cut;exact⟨a,b,⟨m,t,e,h1⟩,h2,c⟩
theorem uni{F:O bY}(h:Fo F):∀{s e:AJ} {p q:O bY},Tr F s p e->Tr F s q e->p.Nodup->q.Nodup->p=q:=by
 induction h with
 |nil=>
  intro s e p q hp g _ _;cases p with
  |nil=>cases q with
   |nil=>rfl
   |cons _ _=>cases g.1
  |cons _ _=>cases hp.1
 |@snoc F r H B x=>
  have l:=H.ne;have v:∀{s e:AJ} {p:O bY},Tr (F++[r]) s p e->p.Nodup->Tr F s p e\/∃p1 p2 a b,p=p1++r::p2/\Tr F s p1 a/\bA r a=U b/\Tr F b p2 e/\p1.Nodup/\p2.Nodup:=by
   intro s e p hp nd;by_cases y:r∈p
   ·obtain⟨p1,p2,rfl⟩:=KF y;obtain⟨a,b,t1,t2,t3⟩:=hp.cut;obtain⟨m,t,D⟩:=List.nodup_append.mp nd;obtain⟨K,J⟩:=bT.mp t;refine .inr ⟨p1,p2,a,b,rfl,t1.mono λz f=>?_,t2,t3.mono λz f=>?_,m,J⟩
    ·rcases List.mem_append.mp (t1.mem z f)with h|h
     ·exact h
     ·cases List.mem_singleton.mp h;exact absurd S (D _ f _ (zg ..))
    ·rcases List.mem_append.mp (t3.mem z f)with h|h
     ·exact h
     ·cases List.mem_singleton.mp h;exact absurd f K
   ·refine .inl (hp.mono λz f=>?_);rcases List.mem_append.mp (hp.mem z f)with h|h
    ·exact h
    ·cases List.mem_singleton.mp h;exact absurd f y
  have C:∀{a b:AJ},bA r a=U b->mV F a b->False:=λ{a b} h c=>by
   rcases rP h with⟨h1,h2⟩|⟨h1,h2⟩
   ·exact B (h1▸h2▸c)
   ·exact B ((h1▸h2▸c.symm l))
  have A:∀{s e:AJ} {p1 p2:O bY} {a b:AJ},Tr F s p1 a->bA r a=U b->Tr F b p2 e->mV F s e->False:=λt1 t2 t3 c=>
   C t2 ((mV.symm l ⟨_,t1⟩).trans (c.trans (mV.symm l ⟨_,t3⟩)))
  intro s e p q hp g np o;rcases v hp np with h1|⟨p1,p2,a,b,rfl,t1,t2,t3,m,t⟩
  ·rcases v g o with h2|⟨q1,q2,c,d,rfl,j,i,w,_,_⟩
   ·exact x h1 h2 np o
   ·exact(A j i w ⟨_,h1⟩).elim
  ·rcases v g o with h2|⟨q1,q2,c,d,rfl,j,i,w,I,E⟩
   ·exact(A t1 t2 t3 ⟨_,h2⟩).elim
   ·by_cases u:a=c
    ·subst u;have:b=d:=j3 (t2.symm.trans i);subst this;rw[x t1 j m I,x t3 w t E]
    ·exfalso;have G:c=b:=by
      rcases rP t2 with⟨x1,n⟩|⟨x1,n⟩<;>rcases rP i with⟨y1,y2⟩|⟨y1,y2⟩
      ·exact absurd (x1.symm.trans y1) u
      ·exact y1.symm.trans n
      ·exact y1.symm.trans n
      ·exact absurd (x1.symm.trans y1) u
     subst G;exact C t2 ((mV.symm l ⟨_,t1⟩).trans ⟨_,j⟩)
theorem BM{P:O α->Prop}(h0:P [])(h1:∀l x,P l->P (l++[x]))(l:O α):P l:=by
 have:∀m:O α,P m.reverse:=λm=>by
  induction m with
  |nil=>exact h0
  |cons x m a=>rw[Kb];exact h1 _ x a
 have:=this l.reverse;rwa [List.reverse_reverse]at this
theorem Hd.hb(nd:n_.Nodup)(c:n_.length<1000){rs:O bY}:Rs n_ rs->Hd n_ (hb n_ rs):=by
 induction rs using BM with
 |h0=>intro _;exact Fu nd c
 |h1 rs r e=>
  intro a;obtain⟨ha,d⟩:=a r (by simp);rw[Ar];exact(e λz b=>a z (zv _ b)).join ha d
theorem nl(nd:n_.Nodup)(g:n_.length<1000){pre:O bY}:∀{a:O bY},Rs n_ (pre++a)->∀x∈n_,∀y∈n_,look (hb n_ pre) x=look (hb n_ pre) y->look (hb n_ (pre++a)) x=look (hb n_ (pre++a)) y:=λ{a}=>by
 induction a using BM with
 |h0=>intro _ x hx y b e;rw[qq];exact e
 |h1 a r h=>
  intro c x hx y b e;rw[<-qv]at c ⊢;have d:Rs n_ (pre++a):=λz f=>c z (zv _ f);have H:=Hd.hb nd g d;rw[Ar];unfold jb;rw[H.uo hx,H.uo b,h d x hx y b e]
theorem cz(nd:n_.Nodup)(f:n_.length<1000){rs:O bY}(d:Rs n_ rs){r:bY}(h:r∈rs):look (hb n_ rs) r.2.1=look (hb n_ rs) r.2.2.1:=by
 obtain⟨a,c,rfl⟩:=KF h;have i:Rs n_ ((a++[r])++c):=λz b=>d z (by simpa using b);obtain⟨ha,g⟩:=d r h;have e:a++r::c=(a++[r])++c:=by simp
 rw[e];refine nl nd f i _ ha _ g ?_;have H:=Hd.hb nd f (rs:=a) λz b=>d z (zv _ b);rw[Ar];unfold jb;rw[H.uo ha,H.uo g];unfold jn;rw[zl (.inl S),zl (.inr S)]
theorem Mt{n_:AZ}(nd:n_.Nodup)(b:n_.length<1000){F:O bY}(a:Rs n_ F):∀{p:O bY} {x y:AJ},Tr F x p y->look (hb n_ F) x=look (hb n_ F) y
 |[],_,_,h=>by cases h;rfl
 |r::p,_,_,⟨m,t,e,h⟩=>by
  rw[<-Mt nd b a h];have:=cz nd b a m;rcases rP e with⟨h1,h2⟩|⟨h1,h2⟩
  ·rw[<-h1,<-h2];exact this
  ·rw[<-h1,<-h2];exact this.symm
structure HI (n_:AZ) (m:List (Str×Str)) (hd:List bY):Prop where
 h:Hd n_ m
 e2:m=hb n_ hd
 rs:Rs n_ hd
 len:hd.length+(Yw n_ m).length=n_.length
 fo:Fo hd
theorem LA(nd:n_.Nodup)(a:n_.length<1000):HI n_ (aP n_) []:=by
 refine⟨Fu nd a,rfl,λr h=>(by cases h),?_,.nil⟩;unfold Yw;rw[(yu n_ nd a).2,dl.mpr λx hx=>Zl (su nd hx)];simp
def hs(s:(O (AJ×AJ))×(O bY))(r:bY):(O (AJ×AJ))×(O bY):=if look s.1 r.2.1=look s.1 r.2.2.1 then s else(jb s.1 r,s.2++[r])
theorem eA(nd:n_.Nodup)(f:n_.length<64){s:(O (AJ×AJ))×(O bY)}(i:HI n_ s.1 s.2){r:bY}(ha:r.2.1∈n_)(a:r.2.2.1∈n_):
  lY s r/\dY s r=hs s r/\HI n_ (hs s r).1 (hs s r).2:=by
 obtain⟨m,b⟩:=s;have i:HI n_ m b:=i;have j:=Po (look m r.2.1) (look m r.2.2.1) i.h.kn i.h.ml;have d:=i.len;have fl:b.length<=1000000:=by omega
 refine⟨⟨i.h.has ha,i.h.has a,λ_=>⟨j.1,fl⟩⟩,?_⟩;unfold dY hs;dsimp only;rw[j.2];by_cases e:look m r.2.1=look m r.2.2.1
 ·exact⟨by simp[e],by simp only[e,qk];exact i⟩
 ·refine⟨by simp[e,jb],?_⟩;rw[zz e];refine⟨i.h.join ha a,?_,?_,?_,.snoc i.fo λ⟨p,c⟩=>?_⟩
  ·rw[Ar,<-i.e2]
  ·intro x hx;rcases List.mem_append.mp hx with hx|hx
   ·exact i.rs x hx
   ·cases List.mem_singleton.mp hx;exact⟨ha,a⟩
  ·have:=i.h.aeO ha a e;show(b++[r]).length+(Yw n_ (jm m _ _)).length=_;rw[z4];show _+1+_=_;omega
  ·exact e (i.e2▸Mt nd () i.rs c)
theorem Av{n_:AZ}(nd:n_.Nodup)(d:n_.length<64):∀(a:O bY) (s:(O (AJ×AJ))×(O bY)),Rs n_ a->HI n_ s.1 s.2 →
  lO (λ(c:(O (AJ×AJ))×(O bY)) (b:bY)=>(dY c b)) (λ(c:(O (AJ×AJ))×(O bY)) (b:bY)=>U (lY c b)) a s ∧
  a.foldl (λ(c:(O (AJ×AJ))×(O bY)) (b:bY)=>(dY c b)) s=a.foldl hs s/\HI n_ (a.foldl hs s).1 (a.foldl hs s).2
 |[],s,_,i=>⟨trivial,rfl,i⟩
 |r::a,s,hr,i=>by
  obtain⟨ha,hb⟩:=hr r (zg ..);obtain⟨e,e1,i'⟩:=eA nd d i ha hb;obtain⟨f1,g1,i2⟩:=Av nd d a (hs s r) (λx hx=>hr x (zh _ hx)) i';refine⟨⟨e,?_⟩,?_,i2⟩
  ·show lO _ _ a (dY s r);rw[e1];exact f1
  ·rw[qo,e1];exact g1
def held(n_:AZ)(rs:O bY):O bY:=(rs.foldl hs (aP n_,[])).2
theorem gO(nd:n_.Nodup)(c:n_.length<64){rs:O bY}(b:Rs n_ rs)(a:O (AJ×AJ×Int)):
  jl (n_,rs,a)/\eV (n_,rs,a)=held n_ rs/\Rs n_ (held n_ rs)/\Fo (held n_ rs)/\(held n_ rs).length<=n_.length:=by
 obtain⟨f1,g1,i2⟩:=Av nd c rs (aP n_,[]) b (LA nd ());have l:=(yu n_ nd ()).1;have:=i2.len;exact⟨⟨l,f1⟩,congrArg Prod.snd g1,i2.rs,i2.fo,by show(rs.foldl hs (aP n_,[])).2.length<=_;omega⟩
theorem OL(n_:AZ):∀(rs:O bY) (m:O (AJ×AJ)),Rs n_ rs->Hd n_ m →
  lO (λ(a:(O (AJ×AJ))) (q1:aD)=>(gZ a q1)) (λ(a:(O (AJ×AJ))) (q1:aD)=>U (vL a q1)) rs m/\rs.foldl (λ(a:(O (AJ×AJ))) (q1:aD)=>(gZ a q1)) m=rs.foldl jb m/\Hd n_ (rs.foldl jb m)
 |[],m,_,h=>⟨trivial,rfl,h⟩
 |r::rs,m,hr,h=>by
  obtain⟨ha,hb⟩:=hr r (zg ..);obtain⟨d,e⟩:=Po (look m r.2.1) (look m r.2.2.1) h.kn h.ml;have e:gZ m r=jb m r:=e;obtain⟨i1,i2,b⟩:=OL n_ rs (jb m r) (λx hx=>hr x (zh _ hx)) (h.join ha hb);refine⟨⟨⟨⟨h.has ha,h.has hb⟩,d⟩,?_⟩,?_,b⟩
  ·show lO _ _ rs (gZ m r);rw[e];exact i1
  ·rw[qo,qo,e];exact i2
theorem N9(nd:n_.Nodup)(a:n_.length<1000){rs:O bY}(b:Rs n_ rs):yq n_ rs/\jo n_ rs=hb n_ rs/\Hd n_ (hb n_ rs):=by
 obtain⟨i1,i2,c⟩:=OL n_ rs _ b (Fu nd a);exact⟨⟨(yu n_ nd a).1,i1⟩,i2,c⟩
theorem NV{n_:AZ}(nd:n_.Nodup)(a:n_.length<1000):∀(rs:O bY) (m:O (AJ×AJ)),Rs n_ rs->Hd n_ m->EO n_ m->EO n_ (rs.foldl jb m)
 |[],m,_,_,l=>l
 |r::rs,m,hr,h,l=>by
  obtain⟨ha,hb⟩:=hr r (zg ..);exact NV nd a rs (jb m r) (λx hx=>hr x (zh _ hx)) (h.join ha hb) (l.jb h r)
theorem MH(h:Hd n_ m)(z:AJ):lU m z/\g8 m z=n_.filter λy=>decide (look m y=z):=by
 have l:=h.len;refine⟨⟨by rw[h.keys];omega,λy a=>h.has (by rw[<-h.keys];exact a)⟩,?_⟩;unfold g8;rw[h.keys];exact Kk _
def pt(n_:AZ)(m:O (AJ×AJ))(x:AJ):AZ:=n_.filter λy=>decide (look m y=look m x)
theorem Md(nd:n_.Nodup)(b:n_.length<1000){rs:O bY}(a:Rs n_ rs)(hx:x∈n_):wA n_ rs x/\rZ n_ rs x=pt n_ (hb n_ rs) x:=by
 obtain⟨d,e,h⟩:=N9 nd b a;have n:=MH h (look (hb n_ rs) x);refine⟨⟨d,?_⟩,?_⟩
 ·rw[e];exact⟨h.has hx,n.1⟩
 ·show g8 (jo n_ rs) (look (jo n_ rs) x)=_;rw[e];exact n.2
def st(n_:AZ)(m:O (AJ×AJ)):O AZ:=(n_.filter λw=>decide (look m w=w)).map (pt n_ m)
theorem pM(h:Hd n_ m):oA m/\lF m=st n_ m:=by
 have l:=h.len;refine⟨⟨by rw[h.keys];omega,λw a=>⟨h.has (by rw[<-h.keys];exact a),λ_=>(MH h w).1⟩⟩,?_⟩;unfold lF st;rw[h.keys];refine QQ λw a=>?_;have e:look m w=w:=QP (bt.mp a).2;rw[(MH h w).2];unfold pt;rw[e]
def tn(q:bY):bY:=((0:Int)-q.1,q.2.1,q.2.2.1,q.2.2.2)
theorem Lc(q:bY):tn (tn q)=q:=by
 obtain⟨a,b,c,d⟩:=q;show((0:Int)-(0-a),b,c,d)=_;rw[show(0:Int)-(0-a)=a by omega]
theorem R8(rs:O bY):(rs.map tn).map tn=rs:=by
 rw[QE];exact(QQ (g:=id) λq _=>Lc q).trans (yi _)
def So(rs:O bY):Prop:=(rs.map tn).Pairwise λa b=>DE (D5 eI eS eS eI) a b=true
theorem fw{a b:O bY}(p:a.Perm b)(ha:So a)(hb:So b):a=b:=by
 have h:a.map tn=b.map tn:=(U7 (e:=D5 eI eS eS eI) (p.map tn) ha).trans (U7 (e:=D5 eI eS eS eI) (.refl _) hb).symm;have:=congrArg (dJ tn) h;rwa [R8,R8]at this
theorem IU{α:Type}[DecidableEq α]:∀{xs ys:O α},xs.Nodup->(∀x∈xs,x∈ys)->xs.length<=ys.length
 |[],_,_,_=>QY _
 |x::xs,ys,nd,h=>by
  obtain⟨b,c⟩:=bT.mp nd;have hx:=h x (zg ..);have:=IU (ys:=ys.erase x) c λz a=>(ey (λe:z=x=>b (e▸a))).mpr (h z (zh _ a));rw[YI hx]at this;have:=kR hx;rw[ZE];omega
abbrev Cm:=O (AJ×(Y aD))
inductive Bk (F:List bY) (s:Str):Cm->Prop
 |base:Bk F s [(s,none)]
 |snoc {L:Cm} {x:Str} {r:bY} {y:Str}:Bk F s L->x∉L.map (·.1)->r∈F->bA r x=some y->y∈L.map (·.1)->Bk F s (L++[(x,some r)])
theorem Bk.facts{F:O bY}{s:AJ}(d:Rs n_ F)(hs:s∈n_){L:Cm}(h:Bk F s L):(L.map (·.1)).Nodup/\(∀x∈L.map (·.1),x∈n_)/\s∈L.map (·.1):=by
 induction h with
 |base=>exact⟨bT.mpr ⟨λz=>(by cases z),JO⟩,λx hx=>by cases List.mem_singleton.mp hx;exact hs,List.mem_singleton.mpr rfl⟩
 |@snoc L x r y h hx m o g f=>
  obtain⟨i1,i2,e⟩:=f;rw[qB];refine⟨List.nodup_append.mpr ⟨i1,bT.mpr ⟨λz=>(by cases z),JO⟩,λa ha b hb z=>?_⟩,λz c=>?_,zv _ e⟩
  ·cases List.mem_singleton.mp hb;have z:a=x:=z;rw[z]at ha;exact hx ha
  ·rcases List.mem_append.mp c with c|c
   ·exact i2 z c
   ·cases List.mem_singleton.mp c;rcases rP o with⟨h1,_⟩|⟨h1,_⟩
    ·show x∈n_;rw[<-h1];exact(d r m).1
    ·show x∈n_;rw[<-h1];exact(d r m).2
theorem Bk.len{F:O bY}{s:AJ}(a:Rs n_ F)(hs:s∈n_){L:Cm}(h:Bk F s L):L.length<=n_.length:=by
 obtain⟨h1,h2,_⟩:=h.facts a hs;have:=IU h1 h2;rwa [zk]at this
theorem i9{L:Cm}{v:Y bY}(h:x∉L.map (·.1)):put L x v=L++[(x,v)]:=by
 unfold put;rw[zz λz=>h (p7.mp z)]
theorem EM{n_:AZ}{F:O bY}{s:AJ}(p:Rs n_ F)(hs:s∈n_)(B:n_.length<64)(v:∀r∈F,r.2.1≠r.2.2.1){here:AJ}:∀(R:O bY),(∀r∈R,r∈F)->∀(L:Cm) (q:AZ),Bk F s L->here∈L.map (·.1)->q.length<=L.length →
  lO (λ(i:Cm×AZ) (a:aD)=>(dZ here i a)) (λ(i:Cm×AZ) (a:aD)=>U (iW here i a)) R (L,q) ∧
  ∃f ad,R.foldl (λ(i:Cm×AZ) (a:aD)=>(dZ here i a)) (L,q)=(f,q++ad)/\f.map (·.1)=L.map (·.1)++ad/\Bk F s f/\∀r∈R,∀y,bA r here=U y->y∈f.map (·.1)
 |[],_,L,q,b,_,_=>⟨trivial,L,[],by rw[qq];rfl,by rw[qq],b,λr h=>(by cases h)⟩
 |r::R,hR,L,q,b,hh,hq=>by
  have u:=hR r (zg ..);have C:=b.len p hs;have n:∀(j:Cm) (a1:AZ),dZ here (L,q) r=(j,q++a1)->iW here (L,q) r->j.map (·.1)=L.map (·.1)++a1->Bk F s j->(∀y,bA r here=U y->y∈j.map (·.1))->(q++a1).length<=j.length->(lO (λ(i:Cm×AZ) (a:aD)=>(dZ here i a)) (λ(i:Cm×AZ) (a:aD)=>U (iW here i a)) (r::R) (L,q)/\∃f ad,(r::R).foldl (λ(i:Cm×AZ) (a:aD)=>(dZ here i a)) (L,q)=(f,q++ad)/\f.map (·.1)=L.map (·.1)++ad/\Bk F s f/\∀z∈r::R,∀y,bA z here=U y->y∈f.map (·.1)):=λj a1 e d k b1 c A=>by
   obtain⟨i1,f,ad,i2,o,w,x⟩:=EM p hs B v R (λz l=>hR z (zh _ l)) j (q++a1) b1 (by rw[k];exact zv _ hh) A;refine⟨⟨d,by show lO _ _ R (dZ here (L,q) r);rw[e];exact i1⟩,f,a1++ad,?_,?_,w,λz l y g=>?_⟩
   ·rw[qo,e,i2,qv]
   ·rw[o,k,qv]
   ·rcases List.mem_cons.mp l with rfl|l
    ·rw[o];exact zv _ (c y g)
    ·exact x z l y g
  cases ho:bA r here with
  |none=>
   refine n L [] ?_ ?_ (by rw[qq]) b (λy g=>by rw[ho]at g;cases g) (by rw[qq];exact hq)
   ·unfold dZ;dsimp only;rw[ho,qq];rfl
   ·unfold iW;dsimp only;rw[ho];exact⟨λz=>z,λz=>(by cases z)⟩
  |some t=>
   by_cases m:t∈L.map (·.1)
   ·have c:(!has L t)=false:=by rw[p7.mpr m];rfl
    refine n L [] ?_ ?_ (by rw[qq]) b (λy g=>by rw[ho]at g;cases g;exact m) (by rw[qq];exact hq)
    ·unfold dZ;dsimp only;rw[ho,qq,show(!has L ((U t).getD default))=false from c];rfl
    ·unfold iW;dsimp only;rw[ho,show(!has L ((U t).getD default))=false from c];exact⟨λz=>z,λz=>(by cases z)⟩
   ·have c:(!has L t)=true:=by
     cases q:has L t with
     |false=>rfl
     |true=>exact absurd (p7.mp q) m
    refine n (L++[(t,U r)]) [t] ?_ ?_ (by rw[qB];rfl) (.snoc b m u (P8 (v r u) ho) hh) (λy g=>by rw[ho]at g;cases g;rw[qB];exact Zs _ (List.mem_singleton.mpr S)) (by rw[z4,z4];show _+1<=_+1;omega)
    ·unfold dZ;dsimp only;rw[ho,show(!has L ((U t).getD default))=true from c];show(put L t (U r),q++[t])=_;rw[i9 m]
    ·unfold iW;dsimp only;rw[ho];exact⟨λz=>z,λ_=>⟨⟨rfl,by omega⟩,rfl,vM (by show q.length<=1000;omega)⟩⟩
structure Iq (F:List bY) (s:Str) (q:AZ) (L:Cm):Prop where
 b:Bk F s L
 sub:∀x∈q,x∈L.map (·.1)
 len:q.length<=L.length
 cl:∀x∈L.map (·.1),x∉q->∀r∈F,∀y,bA r x=some y->y∈L.map (·.1)
theorem outer{n_:AZ}{F:O bY}{s:AJ}(g:Rs n_ F)(hs:s∈n_)(m:n_.length<64)(j:∀r∈F,r.2.1≠r.2.2.1):∀(n:Nat) (q:AZ) (L:Cm),Iq F s q L->n_.length-L.length+q.length<n->∃f,Iq F s [] f ∧
  Pq (λa:AZ×Cm=>(!a.1.isEmpty)) (λa:AZ×Cm=>((iY F a):nG (AZ×Cm) (Y (O aD)))) n (q,L)=.nx ([],f) ∧
  EC (λa:AZ×Cm=>(!a.1.isEmpty)) (λa:AZ×Cm=>Z) (λa:AZ×Cm=>((iY F a):nG (AZ×Cm) (Y (O aD)))) (λa:AZ×Cm=>U (vG F a)) n (q,L)
 |0,_,_,_,h=>by omega
 |n+1,[],L,i,_=>⟨L,i,rfl,trivial,λz=>(by cases z)⟩
 |n+1,h::q,L,i,hm=>by
  have p:=i.sub h (zg ..);have w:=i.len;rw[ZE]at w hm;obtain⟨d,f,ad,e,k,b,c⟩:=EM g hs m j (here:=h) F (λr h=>h) L q i.b p ();have C:f.length=L.length+ad.length:=by
   have:=congrArg dm k;rwa [z4,zk,zk]at this
  have D:=b.len g hs;have i':Iq F s (q++ad) f:=by
   refine⟨b,λx hx=>?_,by rw[z4];omega,λx hx l=>?_⟩
   ·rw[k];rcases List.mem_append.mp hx with hx|hx
    ·exact zv _ (i.sub x (zh _ hx))
    ·exact Zs _ hx
   ·rw[k]at hx;rcases List.mem_append.mp hx with hx|hx
    ·by_cases o:x=h
     ·subst o;exact c
     ·intro r B y u;rw[k];refine zv _ (i.cl x hx (λz=>?_) r B y u);rcases List.mem_cons.mp z with z|z
      ·exact o z
      ·exact l (zv _ z)
    ·exact absurd (Zs _ hx) l
  have st:iY F (h::q,L)=.nx (q++ad,f):=by
   unfold iY;dsimp only;rw[show at' (h::q) (0:Int)=h from Cv _ 0 (by simp),show(h::q).drop 1=q from rfl,e]
  obtain⟨t,i2,v,A⟩:=outer g hs m j n (q++ad) f i' (by rw[z4];omega);refine⟨t,i2,?_,trivial,λ_=>⟨?_,?_⟩⟩
  ·unfold Pq;rw[zl (show(!(h::q,L).1.isEmpty)=true from S),st];exact v
  ·show vG F (h::q,L);refine⟨⟨rfl,by show 0<(h::q).length;simp⟩,?_⟩;dsimp only;rw[show at' (h::q) (0:Int)=h from Cv _ 0 (by simp)];exact d
  ·dsimp only;rw[st];exact A
theorem back{F:O bY}{s:AJ}(G:∀r∈F,r.2.1≠r.2.2.1){L:Cm}(h:Bk F s L):(L.map (·.1)).Nodup->∀x∈L.map (·.1),∃w,Tr F x w s/\w.Nodup/\(∀r∈w,r.2.1∈L.map (·.1)/\r.2.2.1∈L.map (·.1))/\w.length<L.length ∧
  ∀(a:Cm),(∀k∈L.map (·.1),look a k=look L k/\has a k=true)->∀(n:Nat) (c:O bY),w.length<n->c.length+w.length<=100 →
   Pq (λd:(O aD)×AJ=>(look a d.2).isSome) (λd:(O aD)×AJ=>((fH a d):nG ((O aD)×AJ) (O aD))) n (c,x)=.nx (c++w,s) ∧
   EC (λd:(O aD)×AJ=>(look a d.2).isSome) (λd:(O aD)×AJ=>U (has a d.2=true)) (λd:(O aD)×AJ=>((fH a d):nG ((O aD)×AJ) (O aD))) (λd:(O aD)×AJ=>U (lW a d)) n (c,x):=by
 induction h with
 |base=>
  intro _ x hx;cases List.mem_singleton.mp hx;refine⟨[],rfl,JO,λr h=>(by cases h),jV _,λa h2 n c i _=>?_⟩;obtain⟨l,g⟩:=h2 s (List.mem_singleton.mpr S);have l:look a s=Z:=l.trans (Fz (pre:=[]) (AS:=[]) (λz=>by cases z));cases n with
  |zero=>cases i
  |succ n=>
   refine⟨?_,g,λz=>?_⟩
   ·unfold Pq;rw[zz (by show ¬ (look a s).isSome=true;rw[l];decide),qq]
   ·have z:(look a s).isSome=true:=z;rw[l]at z;cases z
 |@snoc L y r z b p m o j A=>
  intro nd x hx;rw[qB]at nd hx ⊢;have u:=(List.nodup_append.mp nd).1;have v:∀k∈L.map (·.1),look (L++[(y,U r)]) k=look L k:=λk f=>by
   have:=PX f;have h1:(k,look L k)∈L++[(y,U r)]:=zv _ this;exact Jy (m:=L++[(y,U r)]) (by rw[qB];exact nd) h1
  rcases List.mem_append.mp hx with hx|hx
  ·obtain⟨w,t1,t2,t3,E,t⟩:=A u x hx;refine⟨w,t1,t2,λq e=>⟨zv _ (t3 q e).1,zv _ (t3 q e).2⟩,by rw[z4];omega,λa h2=>t a λk f=>?_⟩;obtain⟨a1,a2⟩:=h2 k (zv _ f);exact⟨a1.trans (v k f),a2⟩
  ·have ex:x=y:=List.mem_singleton.mp hx;subst ex;obtain⟨w,t1,t2,t3,E,t⟩:=A u z j;have B:r∉w:=λq=>by
    obtain⟨a1,a2⟩:=t3 r q;rcases rP o with⟨h1,_⟩|⟨h1,_⟩
    ·exact p (h1▸a1)
    ·exact p (h1▸a2)
   refine⟨r::w,⟨m,z,o,t1⟩,bT.mpr ⟨B,t2⟩,λq e=>?_,by rw[z4,ZE];show _+1<_+1;omega,λa h2 n c i ha=>?_⟩
   ·rcases List.mem_cons.mp e with rfl|e
    ·rcases rP o with⟨h1,h2⟩|⟨h1,h2⟩
     ·exact⟨Zs _ (by rw[h1];exact List.mem_singleton.mpr S),zv _ (by rw[h2];exact j)⟩
     ·exact⟨zv _ (by rw[h2];exact j),Zs _ (by rw[h1];exact List.mem_singleton.mpr S)⟩
    ·exact⟨zv _ (t3 q e).1,zv _ (t3 q e).2⟩
   ·obtain⟨l,g⟩:=h2 x (Zs _ (List.mem_singleton.mpr S));have l:look a x=U r:=l.trans (Fz (pre:=L) (AS:=[]) p);rw[ZE]at i ha;cases n with
    |zero=>cases i
    |succ n=>
     have st:fH a (c,x)=.nx (c++[r],z):=by
      unfold fH;dsimp only;rw[l];show nG.nx (c++[r],(bA r x).getD default)=_;rw[o];rfl
     obtain⟨D,C⟩:=t a (λk f=>by
      obtain⟨a1,a2⟩:=h2 k (zv _ f);exact⟨a1.trans (v k f),a2⟩) n (c++[r]) () (by rw[z4];show _+1+_<=100;omega)
     refine⟨?_,g,λ_=>⟨?_,?_⟩⟩
     ·unfold Pq;rw[zl (by show(look a x).isSome=true;rw[l];rfl),st];show Pq _ _ n (c++[r],z)=_;rw[D,qv];rfl
     ·show lW a (c,x);unfold lW;dsimp only;rw[l];exact⟨⟨⟨g,rfl⟩,vM (by show c.length<=1000;omega)⟩,⟨g,rfl⟩,by show(bA r x).isSome=true;rw[o];rfl⟩
     ·dsimp only;rw[st];exact C
theorem Qc{F:O bY}(d:Rs n_ F)(u:n_.length<64)(fo:Fo F){s e:AJ}(hs:s∈n_):zY F s e/\(∀p,jD F s e=U p->Tr F s p e/\p.Nodup)/\(jD F s e=Z->¬ mV F s e):=by
 have f:=fo.ne;have D:Iq F s [s] [(s,Z)]:=⟨.base,λx hx=>hx,zi _,λx hx l=>absurd hx l⟩;obtain⟨L,i,v,j⟩:=outer d hs u f 70 [s] [(s,Z)] D (by show n_.length-1+1<70;omega);have I:0<n_.length:=kR hs;obtain⟨f1,f2,E⟩:=i.b.facts d hs;have J:=i.b.len d hs;have G:∀{p:O bY} {x y:AJ},Tr F x p y->x∈L.map (·.1)->y∈L.map (·.1):=by
  intro p
  induction p with
  |nil=>intro x y h hx;cases h;exact hx
  |cons r p C=>
   intro x y h hx;obtain⟨m,t,o,h⟩:=h;exact C h (i.cl x hx (λz=>by cases z) r m t o)
 unfold zY jD;dsimp only;rw[v];by_cases a:e∈L.map (·.1)
 ·have c:(!has L e)=false:=by rw[p7.mpr a];rfl
  obtain⟨w,t1,t2,t3,K,A⟩:=back f i.b f1 e a;obtain⟨g,n⟩:=A L (λk H=>⟨rfl,p7.mpr H⟩) 70 [] () (by show 0+_<=100;omega);have tb:jY L e=w:=by
   unfold jY;dsimp only;rw[g];rfl
  have B:ug L e:=by
   unfold ug;dsimp only;rw[g];exact⟨n,trivial⟩
  refine⟨⟨j,λ_=>B⟩,λp hp=>?_,λh=>?_⟩
  ·have hp:(if(!has L e)=true then Z else(U (jY L e).reverse))=U p:=hp;rw[c,zz (),tb]at hp;cases hp;exact⟨t1.rev f,(List.reverse_perm w).nodup_iff.mpr t2⟩
  ·have h:(if(!has L e)=true then Z else(U (jY L e).reverse))=Z:=h;rw[c,zz ()]at h;cases h
 ·have c:(!has L e)=true:=by
   cases q:has L e with
   |false=>rfl
   |true=>exact absurd (p7.mp q) a
  refine⟨⟨j,λz=>?_⟩,λp hp=>?_,λ_ ⟨p,h⟩=>a (G h E)⟩
  ·rw[c]at z;cases z
  ·have hp:(if(!has L e)=true then Z else(U (jY L e).reverse))=U p:=hp;rw[c,zl rfl]at hp;cases hp
theorem On(r:bY):bA r r.2.1=U r.2.2.1:=by
 unfold bA;rw[Zl rfl,zl rfl]
theorem mV.more{F G:O bY}(h:∀r∈F,r∈G):mV F x y->mV G x y:=λ⟨p,t⟩=>⟨p,t.mono λz a=>h z (t.mem z a)⟩
theorem nX(nd:N.Nodup)(m:N.length<1000){rs:O bY}:Rs N rs->(∀r∈rs,r.2.1≠r.2.2.1)->∀x∈N,∀y∈N,look (hb N rs) x=look (hb N rs) y->mV rs x y:=by
 induction rs using BM with
 |h0=>
  intro _ _ x hx y b h;have e:hb N []=aP N:=rfl;rw[e,(yu N nd m).2,su nd hx,su nd b]at h;exact⟨[],h⟩
 |h1 rs r c=>
  intro j d x hx y b h;have l:Rs N rs:=λz a=>j z (zv _ a);have c:=c l λz a=>d z (zv _ a);have H:=Hd.hb nd m l;have i:r∈rs++[r]:=by simp
  obtain⟨p,q⟩:=j r i;rw[Ar]at h;unfold jb at h;rw[H.uo hx,H.uo b]at h;have f:∀{u v:AJ},mV rs u v->mV (rs++[r]) u v:=mV.more λz a=>zv _ a;have o:mV (rs++[r]) r.2.1 r.2.2.1:=⟨[r],i,_,On r,rfl⟩;have g:∀u∈N,look (hb N rs) u=look (hb N rs) r.2.1\/look (hb N rs) u=look (hb N rs) r.2.2.1->mV (rs++[r]) u r.2.1:=λu n z=>by
   rcases z with z|z
   ·exact f (c u n _ p z)
   ·exact(f (c u n _ q z)).trans (o.symm d)
  by_cases px:look (hb N rs) x=look (hb N rs) r.2.1\/look (hb N rs) x=look (hb N rs) r.2.2.1<;>by_cases py:look (hb N rs) y=look (hb N rs) r.2.1\/look (hb N rs) y=look (hb N rs) r.2.2.1
  ·exact(g x hx px).trans ((g y b py).symm d)
  ·unfold jn at h;rw[zl px,zz py]at h;rcases Ie (look (hb N rs) r.2.1) (look (hb N rs) r.2.2.1)with e|e
   ·exact absurd (.inl (h.symm.trans e)) py
   ·exact absurd (.inr (h.symm.trans e)) py
  ·unfold jn at h;rw[zz px,zl py]at h;rcases Ie (look (hb N rs) r.2.1) (look (hb N rs) r.2.2.1)with e|e
   ·exact absurd (.inl (h.trans e)) px
   ·exact absurd (.inr (h.trans e)) px
  ·unfold jn at h;rw[zz px,zz py]at h;exact f (c x hx y b h)
theorem p8(nd:N.Nodup)(b:N.length<1000){rs:O bY}(a:Rs N rs)(c:∀r∈rs,r.2.1≠r.2.2.1)(hx:x∈N)(d:y∈N):look (hb N rs) x=look (hb N rs) y↔mV rs x y:=
 ⟨nX nd b a c x hx y d,λ⟨_,t⟩=>Mt nd b a t⟩
theorem sE:∀(rs:O bY) (s:(O (AJ×AJ))×(O bY)),∃t:O bY,(rs.foldl hs s).2=s.2++t/\t.Sublist rs
 |[],s=>⟨[],by rw[qq];rfl,.slnil⟩
 |r::rs,s=>by
  rw[qo];by_cases z:look s.1 r.2.1=look s.1 r.2.2.1
  ·rw[show hs s r=s from zl z];obtain⟨t,e,h⟩:=sE rs s;exact⟨t,e,h.cons _⟩
  ·rw[show hs s r=(jb s.1 r,s.2++[r]) from zz z];obtain⟨t,e,h⟩:=sE rs (jb s.1 r,s.2++[r]);exact⟨r::t,by rw[e];simp,h.cons_cons _⟩
theorem jE(N:AZ)(rs:O bY):(held N rs).Sublist rs:=by
 obtain⟨t,e,h⟩:=sE rs (aP N,[]);unfold held;rw[e];exact h
theorem MA(N:AZ)(nd:N.Nodup)(b:N.length<1000){rs:O bY}:(rs.foldl hs (aP N,[])).1=hb N rs:=by
 induction rs using BM with
 |h0=>rfl
 |h1 rs r a=>
  rw[JU,Ar,<-a];show(hs (rs.foldl hs (aP N,[])) r).1=_;by_cases z:look (rs.foldl hs (aP N,[])).1 r.2.1=look (rs.foldl hs (aP N,[])).1 r.2.2.1
  ·rw[show hs (rs.foldl hs (aP N,[])) r=_ from zl z];unfold jb;rw[z,SK]
  ·rw[show hs (rs.foldl hs (aP N,[])) r=_ from zz z]
theorem G9(nd:N.Nodup)(a:N.length<1000)(rs:O bY)(r:bY):held N (rs++[r])=if look (hb N rs) r.2.1=look (hb N rs) r.2.2.1 then held N rs else held N rs++[r]:=by
 unfold held;rw[JU,<-MA N nd a];show(hs (rs.foldl hs (aP N,[])) r).2=_;unfold hs;split<;>rfl
def MW(N:AZ)(r:bY):Prop:=(r.2.1∈N/\r.2.2.1∈N)/\r.2.1≠r.2.2.1
def Ok(N:AZ)(G:O bY):Prop:=∀r∈G,MW N r
structure Nn (N:AZ):Prop where
 nd:N.Nodup
 hl:N.length<64
theorem Nn.l3(n:Nn N):N.length<1000:=by have:=n.hl;omega
theorem Ok.rs{G:O bY}(h:Ok N G):Rs N G:=λr a=>(h r a).1
theorem Ok.ne{G:O bY}(h:Ok N G):∀r∈G,r.2.1≠r.2.2.1:=λr a=>(h r a).2
theorem mV.refl(G:O bY)(x:AJ):mV G x x:=⟨[],rfl⟩
theorem mV.one{G:O bY}{r:bY}(h:r∈G):mV G r.2.1 r.2.2.1:=⟨[r],h,_,On r,rfl⟩
theorem z9(n:Nn N){G:O bY}{o:bY}(h:Ok N (G++[o]))(c:mV G o.2.1 o.2.2.1):held N (G++[o])=held N G:=by
 have hg:Ok N G:=λz a=>h z (zv _ a);have ho:=h o (by simp);rw[G9 n.nd n.l3,zl ((p8 n.nd n.l3 hg.rs hg.ne ho.1.1 ho.1.2).mpr c)]
theorem Aw(n:Nn N){G:O bY}{o:bY}(h:Ok N (G++[o]))(c:¬ mV G o.2.1 o.2.2.1):held N (G++[o])=held N G++[o]:=by
 have hg:Ok N G:=λz a=>h z (zv _ a);have ho:=h o (by simp);rw[G9 n.nd n.l3,zz λz=>c ((p8 n.nd n.l3 hg.rs hg.ne ho.1.1 ho.1.2).mp z)]
theorem R9{l G:O bY}{a b:AJ}(h:∀z∈l,z∈G\/(z.2.1=a/\z.2.2.1=b)):∀{p:O bY} {x y:AJ},Tr l x p y->mV G x y\/(mV G x a/\mV G b y)\/(mV G x b/\mV G a y)
 |[],x,y,t=>by cases t;exact .inl (.refl _ _)
 |r::p,x,y,⟨m,t,o,t'⟩=>by
  have j:=R9 h t';rcases h r m with g|⟨e1,e2⟩
  ·have c:mV G x t:=⟨[r],g,t,o,rfl⟩;rcases j with i|i|i
   ·exact .inl (c.trans i)
   ·exact .inr (.inl ⟨c.trans i.1,i.2⟩)
   ·exact .inr (.inr ⟨c.trans i.1,i.2⟩)
  ·rcases rP o with⟨f,e⟩|⟨f,e⟩
   ·have hx:x=a:=f.symm.trans e1;have d:t=b:=e.symm.trans e2;subst hx d;rcases j with i|i|i
    ·exact .inr (.inl ⟨.refl _ _,i⟩)
    ·exact .inr (.inl ⟨.refl _ _,i.2⟩)
    ·exact .inl i.2
   ·have hx:x=b:=f.symm.trans e2;have d:t=a:=e.symm.trans e1;subst hx d;rcases j with i|i|i
    ·exact .inr (.inr ⟨.refl _ _,i⟩)
    ·exact .inl i.2
    ·exact .inr (.inr ⟨.refl _ _,i.2⟩)
theorem oy{d G:O bY}{a b:AJ}(h:∀z∈d,z∈G\/(z.2.1=a/\z.2.2.1=b))(sub:∀z∈G,z∈d)(e:∀r∈G,r.2.1≠r.2.2.1)(c:mV G a b)(x y:AJ):mV d x y↔mV G x y:=by
 constructor
 ·rintro⟨p,t⟩;rcases R9 h t with i|i|i
  ·exact i
  ·exact i.1.trans (c.trans i.2)
  ·exact i.1.trans ((c.symm e).trans i.2)
 ·exact mV.more sub
theorem Sd{G1 G2:O bY}(h:∀x y,mV G1 x y->mV G2 x y){Q:O bY}:∀{p:O bY} {x y:AJ},Tr (G1++Q) x p y->mV (G2++Q) x y
 |[],x,y,t=>by cases t;exact .refl _ _
 |r::p,x,y,⟨m,t,o,t'⟩=>by
  refine mV.trans ?_ (Sd h t');rcases List.mem_append.mp m with m|m
  ·exact(h x t ⟨[r],m,t,o,rfl⟩).more λz a=>zv _ a
  ·exact⟨[r],Zs _ m,t,o,rfl⟩
theorem sN(n:Nn N){G1 G2:O bY}(h:∀x y,mV G1 x y↔mV G2 x y){Q:O bY}:Ok N (G1++Q)->Ok N (G2++Q)->∃Z,held N (G1++Q)=held N G1++Z/\held N (G2++Q)=held N G2++Z:=by
 induction Q using BM with
 |h0=>intro _ _;exact⟨[],by simp,by simp⟩
 |h1 Q o e=>
  intro b a;rw[<-qv]at b a ⊢;rw[<-qv];obtain⟨Z,e1,e2⟩:=e (λz d=>b z (zv _ d)) λz d=>a z (zv _ d);by_cases c:mV (G1++Q) o.2.1 o.2.2.1
  ·have c2:mV (G2++Q) o.2.1 o.2.2.1:=by obtain⟨p,t⟩:=c;exact Sd (λx y=>(h x y).mp) t
   exact⟨Z,by rw[z9 n b c,e1],by rw[z9 n a c2,e2]⟩
  ·have c2:¬ mV (G2++Q) o.2.1 o.2.2.1:=λ⟨p,t⟩=>c (Sd (λx y=>(h x y).mpr) t);exact⟨Z++[o],by rw[Aw n b c,e1,qv],by rw[Aw n a c2,e2,qv]⟩
theorem sd(n:Nn N){P Q:O bY}{r:bY}(ok:Ok N (P++r::Q))(c:mV P r.2.1 r.2.2.1):held N (P++r::Q)=held N (P++Q):=by
 have e:P++r::Q=(P++[r])++Q:=by simp
 have IK:Ok N (P++[r]):=λz d=>ok z (by grind);have f:Ok N (P++Q):=λz d=>ok z (by grind);rw[e]at ok ⊢;obtain⟨Z,e1,e2⟩:=sN n (G1:=P++[r]) (G2:=P) (oy (a:=r.2.1) (b:=r.2.2.1) (λz d=>by
  rcases List.mem_append.mp d with d|d
  ·exact .inl d
  ·cases List.mem_singleton.mp d;exact .inr ⟨rfl,rfl⟩) (λz d=>zv _ d) (λz d=>IK.ne z (zv _ d)) c) ok f
 rw[e1,e2,z9 n IK c]
theorem wG(n:Nn N){rs:O bY}(a:Rs N rs):(held N rs).length+(st N (hb N rs)).length=N.length:=by
 obtain⟨f1,g1,i2⟩:=Av n.nd n.hl rs (aP N,[]) a (LA n.nd n.l3);have:=i2.len;rw[MA N n.nd n.l3]at this;unfold st;rw[zk];exact this
theorem Jz(n:Nn N){rs:O bY}(a:Rs N rs):hb N (held N rs)=hb N rs:=by
 obtain⟨f1,g1,i2⟩:=Av n.nd n.hl rs (aP N,[]) a (LA n.nd n.l3);have:=i2.e2;rw[MA N n.nd n.l3]at this;exact this.symm
theorem Wc(n:Nn N){rs:O bY}(ok:Ok N rs)(hx:x∈N)(b:y∈N):mV (held N rs) x y↔mV rs x y:=by
 have a:Ok N (held N rs):=λr c=>ok r ((jE N rs).subset c);rw[<-p8 n.nd n.l3 a.rs a.ne hx b,<-p8 n.nd n.l3 ok.rs ok.ne hx b,Jz n ok.rs]
def DU(xs:O Int)(a:AJ)(at_:Int)(k:Int):AJ:=if(decide (((at' xs 3)%3)=1))=true then(Txt.mul (ch LT (k / (8:Int))) (1+(k%8)))else(((Txt.slice a Z (U at_))++(ch LT ((k+(at' xs 2))%15)))++(Txt.slice a (U at_) Z))
theorem CT{α β:Type}(g:β->α):∀(l:O β) (f:O α),l.foldl (λf k=>f++[g k]) f=f++l.map g
 |[],f=>by simp
 |k::l,f=>by rw[qo,CT g l];simp
theorem UH(xs:O Int)(a:Int):∃b at_,cT xs a=(rng 0 a.toNat).map (DU xs b at_):=by
 refine⟨_,_,(CT (DU xs _ _) _ []).trans (et _)⟩
theorem YB{a b m c:AJ}(h:(a++m)++b=(a++c)++b):m=c:=by
 have h:=congrArg (λs:AJ=>s.cps.toList) h;have h:((a.cps++m.cps)++b.cps).toList=((a.cps++c.cps)++b.cps).toList:=h;simp only[fU]at h;have:=List.append_cancel_left (List.append_cancel_right h);cases m;cases c;congr 1;exact Array.ext' this
theorem NF:∀i:Fin 30,∀j:Fin 30,Txt.mul (ch LT ((i.val:Int) / 8)) (1+(i.val:Int)%8)=Txt.mul (ch LT ((j.val:Int) / 8)) (1+(j.val:Int)%8)->i=j:=by decide +kernel
theorem TC:∀i:Fin 15,∀j:Fin 15,ch LT (i.val:Int)=ch LT (j.val:Int)->i=j:=by decide +kernel
theorem aI{x y:Int}(hx:0<=x/\x<15)(a:0<=y/\y<15)(h:ch LT x=ch LT y):x=y:=by
 have:=TC ⟨x.toNat,by omega⟩ ⟨y.toNat,by omega⟩ (by
  show ch LT ((x.toNat:Nat):Int)=ch LT ((y.toNat:Nat):Int);rw[gF hx.1,gF a.1];exact h)
 have:=congrArg Fin.val this;have:x.toNat=y.toNat:=this;omega
theorem oP{xs:O Int}{a:AJ}{at_:Int}(hi:i<15)(b:j<15)(h:DU xs a at_ i=DU xs a at_ j):i=j:=by
 unfold DU at h;by_cases e:(decide (((at' xs 3)%3)=1))=true
 ·rw[zl e,zl e]at h;exact congrArg Fin.val (NF ⟨i,by omega⟩ ⟨j,by omega⟩ h)
 ·rw[zz e,zz e]at h;have:=aI (fY _ ()) (fY _ ()) (YB h);omega
theorem X6{g:Int->AJ}(h:∀i j:Nat,i<n->j<n->g i=g j->i=j):((rng 0 n).map g).Nodup:=by
 unfold rng;rw[QE];unfold List.Nodup;rw[KP];refine KA ?_ (YR (n:=n));intro a b ha hb c e;refine c (h a b (List.mem_range.mp ha) (List.mem_range.mp hb) ?_);have e:g (0+(a:Int))=g (0+(b:Int)):=e;rwa [jU,jU]at e
theorem ik(xs:O Int)(a:Int)(h:a<=15):(cT xs a).Nodup:=by
 obtain⟨c,at_,e⟩:=UH xs a;rw[e];exact X6 λi j hi b=>oP () ()
def Lw(c:Nat):Prop:=97<=c/\c<=122
def Nm(s:AJ):Prop:=1<=s.length/\s.length<=8/\∀c∈cs s,Lw c
theorem Sr{c:Nat}(h:Lw c):c∈cs LT:=by
 have:∀i:Fin 26,97+i.val∈cs LT:=by decide +kernel
 have:=this ⟨c-97,by unfold Lw at h;omega⟩;unfold Lw at h;rwa [show 97+(c-97)=c by omega]at this
theorem Sg{s:AJ}(h:Nm s):eF (.str s)=true:=by
 unfold eF lD;rw[show sW (.str s)=true from rfl,show Rb (.str s)=(s.length:Int) from rfl,Zl (show(1:Int)<=s.length by have:=h.1;omega),Zl (show(s.length:Int)<=8 by have:=h.2.1;omega)];show List.all _ id=true;rw[qf];intro b hb;obtain⟨d,e,rfl⟩:=List.mem_map.mp hb;obtain⟨c,a,rfl⟩:=List.mem_map.mp (show d∈P1.BN s from e);exact hX (Sr (h.2.2 c a))
theorem ut(c:Nat)(n:Int)(h:1<=n):cs (Txt.mul ⟨#[c]⟩ n)=ab n.toNat c:=by
 unfold Txt.mul;split
 ·omega
 split
 ·rename_i h;simp only[yo,beq_iff_eq]at h;rcases h with h|h
  ·subst h;rfl
  ·cases h
 ·have:∀(k:Nat) (a:Array Nat),((ab k (#[c]:Array Nat)).foldl (·++·) a).toList=a.toList++ab k c:=by
   intro k
   induction k with
   |zero=>intro a;simp
   |succ k b=>
    intro a;rw[yv,qo,b,fU,yv];simp
  exact(this _ _).trans (by simp)
theorem ML{i:Int}(h:0<=i/\i<26):ch LT i=⟨#[97+i.toNat]⟩:=by
 have:∀i:Fin 26,ch LT (i.val:Int)=⟨#[97+i.val]⟩:=by decide +kernel
 have:=this ⟨i.toNat,by omega⟩;rwa [show((⟨i.toNat,by omega⟩:Fin 26).val:Int)=i by show(i.toNat:Int)=i;omega]at this
theorem OO{i n:Int}(h:0<=i/\i<26)(h1:1<=n)(b:n<=8):Nm (Txt.mul (ch LT i) n):=by
 have e:=ut (97+i.toNat) n h1;rw[<-ML h]at e;refine⟨?_,?_,λc a=>?_⟩
 ·rw[K9,e,dV];omega
 ·rw[K9,e,dV];omega
 ·rw[e]at a;rw[(List.mem_replicate.mp a).2];unfold Lw;omega
theorem nB{l:AZ}{c:Nat}(h:c∈cs (Txt.join "" l)):∃q∈l,c∈cs q:=by
 cases l with
 |nil=>cases h
 |cons p ps=>
  rw[tT]at h;rcases List.mem_append.mp h with h|h
  ·exact⟨p,zg ..,h⟩
  ·obtain⟨q,a,h⟩:=List.mem_flatMap.mp h;exact⟨q,zh _ a,h⟩
theorem l8(xs:O Int)(e:Int):∃(d:AJ) (at_:Int),(∀c∈cs d,Lw c)/\d.length<=5/\0<=at_/\at_<=(d.length:Int)/\cT xs e=(rng 0 e.toNat).map (DU xs d at_):=by
 have g:=fY (at' xs 0) (m:=6) ();have mem:∀x∈((rng 0 (at' xs 0%6).toNat).map λa:Int=>ch LT (at' xs a / 40%26)),x.length=1/\∀c∈cs x,Lw c:=λx hx=>by
  obtain⟨k,_,rfl⟩:=List.mem_map.mp hx;refine⟨GF _ _,λc b=>?_⟩;rw[ML (fY _ ())]at b;cases List.mem_singleton.mp b;have:=fY (at' xs k / 40) (m:=26) ();unfold Lw;omega
 refine⟨Txt.join "" ((rng 0 (at' xs 0%6).toNat).map λa:Int=>ch LT (at' xs a / 40%26)),at' xs 1%(((Txt.join "" ((rng 0 (at' xs 0%6).toNat).map λa:Int=>ch LT (at' xs a / 40%26))).length:Int)+1),λc b=>?_,?_,?_,?_,(CT (DU xs _ _) _ []).trans (et _)⟩
 ·obtain⟨q,f,h⟩:=nB b;exact(mem q f).2 c h
 ·have:=RI _ 1 λx hx=>yB (mem x hx).1;rw[zk,uJ]at this;omega
 ·exact(fY _ ()).1
 ·have:=(fY (at' xs 1) (m:=((Txt.join "" ((rng 0 (at' xs 0%6).toNat).map λa:Int=>ch LT (at' xs a / 40%26))).length:Int)+1) ()).2;omega
theorem mI{xs:O Int}{a:AJ}{at_:Int}(h1:∀c∈cs a,Lw c)(h2:a.length<=5)(h:0<=at_)(j:at_<=(a.length:Int)){k:Int}(l:0<=k/\k<15):Nm (DU xs a at_ k):=by
 unfold DU;split
 ·exact OO () () ()
 ·have f:=o3 (x:=a) (n:=at_.toNat) ();have g:=UN (x:=a) (n:=at_.toNat) ();rw[gF h]at f g;have c1:=ML (i:=(k+at' xs 2)%15) (by have:=fY (k+at' xs 2) (m:=15) ();omega);have m:=fY (k+at' xs 2) (m:=15) ();have e:cs ((Txt.slice a Z (U at_)++ch LT ((k+at' xs 2)%15))++Txt.slice a (U at_) Z)=((cs a).take at_.toNat++[97+((k+at' xs 2)%15).toNat])++(cs a).drop at_.toNat:=by
   rw[Ro,Ro,f,g,c1]
  have d:((Txt.slice a Z (U at_)++ch LT ((k+at' xs 2)%15))++Txt.slice a (U at_) Z).length=a.length+1:=by
   rw[K9,e,z4,z4,JP,QO,<-K9];show _+1+_=_;omega
  refine⟨by rw[d];omega,by rw[d];omega,λc b=>?_⟩;rw[e]at b;rcases List.mem_append.mp b with b|b
  ·rcases List.mem_append.mp b with b|b
   ·exact h1 c (ym b)
   ·cases List.mem_singleton.mp b;unfold Lw;omega
  ·exact h1 c (yn b)
theorem al(xs:O Int)(a:Int)(h:a<=15):∀n∈cT xs a,Nm n:=by
 obtain⟨i,at_,h1,h2,f,b,e⟩:=l8 xs a;rw[e];intro n d;obtain⟨k,c,rfl⟩:=List.mem_map.mp d;obtain⟨j,g,rfl⟩:=Rn c;exact mI h1 h2 f b ()
theorem Sh{a b:Int}(ha:0<=a/\a<n)(hb:0<=b/\b<n):In n (if b<a then b else a):=by split<;>exact BD () ()
theorem Sq{a b:Int}(ha:0<=a/\a<n)(hb:0<=b/\b<n):In n (if b>a then b else a):=by split<;>exact BD () ()
theorem OZ{a:Int}(b:n=a.toNat){x y:Int}(h:(!decide (x%(if a>1 then a else 1)=y%(if a>1 then a else 1)))=true):(0<=x%(if a>1 then a else 1)/\x%(if a>1 then a else 1)<n)/\(0<=y%(if a>1 then a else 1)/\y%(if a>1 then a else 1)<n):=by
 by_cases e:a>1
 ·rw[zl e]at h ⊢;have h1:=fY x (m:=a) ();have h2:=fY y (m:=a) ();omega
 ·rw[zz e]at h;simp at h
theorem Wd{a:Int}:0<(if a>1 then a else 1):=by split<;>omega
def RT(r:bY):Prop:=((-1000:Int)<=r.1/\r.1 ≤ -1)/\vJ r.2.1 r.2.2.1=true/\r.2.2.2∈[(0:Int),1,2,10]
theorem Nl(c:n_.Pairwise λa b=>vJ a b=true){i j:Int}(h0:0<=i)(h1:i<j)(h2:j<n_.length):vJ (at' n_ i) (at' n_ j)=true:=by
 obtain⟨a,rfl⟩:∃a:Nat,i=(a:Int):=⟨i.toNat,by omega⟩;obtain⟨b,rfl⟩:∃b:Nat,j=(b:Int):=⟨j.toNat,by omega⟩;rw[Cv n_ a (),Cv n_ b ()];exact dc.mp c a b () () ()
theorem lf(e:O Int)(at_ d:Int)(B:0<=at_)(a1:at_<=500)(j:O Int)(C:6<=j.length)(n_:AZ)(t:n_.length=d.toNat)(k:Nat)(D:k<60)(f:O bY)(s:n_.Pairwise λa b=>vJ a b=true)(h:f.length<=k/\Rs n_ f/\∀r∈f,RT r):
  jB e at_ d j n_ f k/\(dH e at_ d j n_ f k).length<=k+1/\Rs n_ (dH e at_ d j n_ f k)/\∀r∈dH e at_ d j n_ f k,RT r:=by
 obtain⟨q,p,z⟩:=Mq (aX e ((at_+1)+k)) 4 () ();have p:(aU (aX e ((at_+1)+k)) 4).length=4:=p;unfold jB dH;dsimp only;generalize aU (aX e ((at_+1)+k)) 4=xs at *
 have n:=λx y=>OZ (x:=x) (y:=y) t;have o:=@Wd d;generalize (if d>1 then d else 1)=mm at *
 have g:∀i:Nat,i<4->In xs.length (i:Int):=λi hi=>tD ();refine⟨⟨⟨Mp _ _ () (),q⟩,⟨⟨g 0 (),o⟩,g 1 (),o⟩,⟨⟨⟨g 2 (),g 2 (),g 2 ()⟩,BD () ()⟩,tH () (yk 3)⟩,λl=>?_⟩,?_⟩
 ·have:=n _ _ l;exact⟨⟨Sh this.1 this.2,Sq this.1 this.2,g 3 (),tH () ()⟩,vM ()⟩
 ·split
  ·rename_i l;have:=n _ _ l;refine⟨by rw[z4];show _+1<=_;omega,λr c=>?_,λr c=>?_⟩
   ·rcases List.mem_append.mp c with c|c
    ·exact h.2.1 r c
    ·cases List.mem_singleton.mp c;exact⟨nR (Sh this.1 this.2),nR (Sq this.1 this.2)⟩
   ·rcases List.mem_append.mp c with c|c
    ·exact h.2.2 r c
    ·cases List.mem_singleton.mp c;have w:=nR (xs:=[1+at' xs 2%3,1+at' xs 2%9,1+at' xs 2%1000]) (i:=at' j 4%3) (tH () (yk 3));have u:=nR (xs:=[(0:Int),(2:Int),(10:Int)]) (i:=at' xs 3%3) (tH () (yk 3));have v:=fY (at' xs 2) (m:=3) ();have A:=fY (at' xs 2) (m:=9) ();have bk:=fY (at' xs 2) (m:=1000) ();simp only[Qr,QN,or_false]at w u;have l:at' xs 0%mm≠at' xs 1%mm:=by simpa using l
     refine⟨?_,?_,?_⟩
     ·show _<=0 - _/\(0:Int) - _<=_;omega
     ·show vJ (at' n_ _) (at' n_ _)=true;split<;>split<;>first|exact Nl s () () ()|(exfalso;omega)
     ·show at' _ _∈_;simp only[Qr,QN,or_false];omega
  ·exact⟨by omega,h.2⟩
theorem hW(c:O Int)(at_ a:Int)(q:0<=at_)(a1:at_<=500)(n_:AZ)(o:n_.length=a.toNat)(k:Nat)(s:k<60)(e:O (AJ×AJ×Int))(h:e.length<=k/\∀b∈e,b.1∈n_/\b.2.1∈n_):
  jC c at_ a n_ e k/\(dW c at_ a n_ e k).length<=k+1/\∀b∈dW c at_ a n_ e k,b.1∈n_/\b.2.1∈n_:=by
 obtain⟨n,m,p⟩:=Mq (aX c ((at_+1)+k)) 8 () ();have m:(aU (aX c ((at_+1)+k)) 8).length=8:=m;unfold jC dW;dsimp only;generalize aU (aX c ((at_+1)+k)) 8=xs at *
 have j:=λx y=>OZ (x:=x) (y:=y) o;have l:=@Wd a;generalize (if a>1 then a else 1)=mm at *
 have g:∀i:Nat,i<8->In xs.length (i:Int):=λi hi=>tD ();refine⟨⟨⟨Mp _ _ () (),n⟩,⟨⟨g 5 (),l⟩,g 6 (),l⟩,λf=>?_⟩,?_⟩
 ·have:=j _ _ f;exact⟨⟨Sh this.1 this.2,Sq this.1 this.2,g 7 (),tH () ()⟩,vM ()⟩
 ·split
  ·rename_i f;have:=j _ _ f;refine⟨by rw[z4];show _+1<=_;omega,λr d=>?_⟩;rcases List.mem_append.mp d with d|d
   ·exact h.2 r d
   ·cases List.mem_singleton.mp d;exact⟨nR (Sh this.1 this.2),nR (Sq this.1 this.2)⟩
  ·exact⟨by omega,h.2⟩
structure Gr (g:AZ×(List bY)×(List (Str×Str×Int))):Prop where
 nd:g.1.Nodup
 len:g.1.length<=30
 rs:Rs g.1 g.2.1
 rl:g.2.1.length<=30
 os:So g.2.1
 so:g.1.Pairwise Ag
 nm:∀n∈g.1,Nm n
 va:∀r∈g.2.1,(1<=r.1/\r.1<=1000)/\vJ r.2.1 r.2.2.1=true/\r.2.2.2∈[(0:Int),1,2,10]
theorem Rs.turn{rs:O bY}(h:Rs n_ rs):Rs n_ (rs.map λa:(Int×AJ×AJ×Int)=>(((0:Int)-a.1),a.2.1,a.2.2.1,a.2.2.2)):=λr b=>by
 obtain⟨q,c,rfl⟩:=List.mem_map.mp b;exact h q c
theorem Mm{rs:O bY}(h:∀r∈rs,RT r):∀r∈(rs.map λa:(Int×AJ×AJ×Int)=>(((0:Int)-a.1),a.2.1,a.2.2.1,a.2.2.2)),(1<=r.1/\r.1<=1000)/\vJ r.2.1 r.2.2.1=true/\r.2.2.2∈[(0:Int),1,2,10]:=λr c=>by
 obtain⟨q,b,rfl⟩:=List.mem_map.mp c;obtain⟨f,d,e⟩:=h q b;exact⟨⟨show(1:Int)<=0-q.1 by omega,show(0:Int)-q.1<=1000 by omega⟩,d,e⟩
theorem Z'(g:O Int)(at_ c j i:Int)(q:0<=at_)(a1:at_<=500)(F:0<=c)(v:c<=15)(B:0<=j)(K:j<=30)(b0:0<=i)(b1:i<60):rN g at_ c j i/\Gr (rM g at_ c j i):=by
 obtain⟨x,p,J⟩:=Mq (aX g at_) 6 () ();have p:(aU (aX g at_) 6).length=6:=p;have key:∀d:O Int,6<=d.length->qL g at_ c j i d/\Gr (qK g at_ c j i d):=λd t=>by
  obtain⟨E,u,H⟩:=gh d t c F ();have knd:=ik d c v;have m:(oJ (cT d c)).length=c.toNat:=by rw[(fP _).length_eq,u]
  have nd:(oJ (cT d c)).Nodup:=(fP _).nodup_iff.mpr knd;have y:∀n_:AZ,n_.length=c.toNat->n_.Nodup->n_.Pairwise Ag->(∀n∈n_,Nm n)->qJ g at_ c j i d n_/\Gr (qI g at_ c j i d n_):=λn_ m nd w nm=>by
   have A:n_.Pairwise λa b=>vJ a b=true:=(w.and nd).imp λh=>(BT _ _).mpr h;obtain⟨t1,t2,t3⟩:=zL (P:=λf k=>U (jB g at_ c d n_ f k)) (step:=λf k=>dH g at_ c d n_ f k) (λk s=>s.length<=k/\Rs n_ s/\∀r∈s,RT r) j.toNat [] ⟨zi 0,λr h=>(by cases h),λr h=>(by cases h)⟩ λk s G h=>lf g at_ c q a1 d t n_ m k () s A h;obtain⟨z,C,I⟩:=zL (P:=λf k=>U (jC g at_ c n_ f k)) (step:=λf k=>dW g at_ c n_ f k) (λk s=>s.length<=k/\∀b∈s,b.1∈n_/\b.2.1∈n_) i.toNat [] ⟨zi 0,λr h=>(by cases h)⟩ λk s G h=>hW g at_ c q a1 n_ m k () s h;have sl:=hH C (show i.toNat<64 by omega);have D:∀l:O bY,l.length<=j.toNat->(Rs n_ l/\∀r∈l,RT r)->qH g at_ c j i d n_ l/\Gr (qG g at_ c j i d n_ l):=λl tl ⟨tr,tv⟩=>by
    have L:=Ju l;have sp:=(jQ (e:=D5 eI eS eS eI) (Gy l)).length_eq;refine⟨⟨⟨⟨by omega,by omega⟩,by rw[sp];omega⟩,⟨Pr b0 (),z⟩,jS sl,sl⟩,nd,?_,?_,?_,?_,w,nm,Mm λr o=>tv r (pU.mp ((jQ _).mem_iff.mp o))⟩
    ·show n_.length<=30;omega
    ·exact Rs.turn λr o=>tr r (pU.mp ((jQ _).mem_iff.mp o))
    ·show(dJ _ _).length<=30;rw[zk,sp];omega
    ·unfold So;show(dJ tn (dJ tn (uH (D5 eI eS eS eI) (Gy l)))).Pairwise _;rw[R8];exact xg _
   have:=D _ t2 t3;exact⟨⟨⟨Pr B (),t1⟩,this.1⟩,this.2⟩
  have mem:∀n,n∈oJ (cT d c)->n∈cT d c:=λn h=>(fP _).mem_iff.mp h;have:=y _ m nd (wU _) λn h=>al d c v n (mem n h);exact⟨⟨⟨E,by rw[u];omega⟩,this.1⟩,this.2⟩
 have:=key _ (yB p.symm);exact⟨⟨⟨Mp _ _ q (),x⟩,this.1⟩,this.2⟩
def LC:AJ:=("abcd":AJ)
theorem aw:LC.length=4:=by decide +kernel
theorem L3(h:i<30):ch LC ((i:Int) / 8)=ch LT ((i:Int) / 8):=by
 have:∀i:Fin 30,ch LC ((i.val:Int) / 8)=ch LT ((i.val:Int) / 8):=by decide +kernel
 exact this ⟨i,h⟩
theorem b6{a b:AJ}(h:a≠b):(vJ b a=true/\vJ a b=false)\/(vJ b a=false/\vJ a b=true):=by
 have key:∀{a b:AJ},a≠b->vJ b a=false->vJ a b=true:=λ{a b} h e=>(BT _ _).mpr ⟨by
  unfold vJ at e;unfold Ag;rw[ltCps_eq];exact e,h⟩
 cases e:vJ b a with
 |false=>exact .inr ⟨rfl,key h e⟩
 |true=>
  refine .inl ⟨rfl,?_⟩;cases f:vJ a b with
  |false=>rfl
  |true=>exact absurd (DR ((BT _ _).mp f).1 ((BT _ _).mp e).1) h
theorem YC(f:Int)(a n_:AZ)(n:a.length=30)(hs:∀x∈a,x∈n_)(g:∀k:Nat,k<30->at' a (k:Int)≠at' a (((k:Int)+1)%30))(k:Nat)(j:k<30)(d:O bY)(h:d.length<=k/\Rs n_ d/\∀r∈d,RT r):nY f a d k/\(dG f a d k).length<=k+1/\Rs n_ (dG f a d k)/\∀r∈dG f a d k,RT r:=by
 have i1:In a.length (k:Int):=tD ();have i2:In a.length (((k:Int)+1)%30):=tH () ();have a1:=hs _ (nR i1);have a2:=hs _ (nR i2);have ne:=g k j;refine⟨⟨⟨i1,i2⟩,⟨LH () (),tH () (yk 4)⟩,vM ()⟩,?_,?_⟩
 ·show(d++[_]).length<=k+1;rw[z4];show _+1<=_;omega
 unfold dG;dsimp only;have w:=nR (xs:=[(5:Int),((1000:Int)-k),(1+k),(1+(((k:Int)*k)%9))]) (i:=f%4) (tH () (yk 4));simp only[Qr,QN,or_false]at w;generalize at' a (k:Int)=x at *
 generalize at' a (((k:Int)+1)%30)=y at *
 have p:=fY ((k:Int)*k) (m:=9) ();have l:=fY (k:Int) (m:=3) ();generalize at' [(5:Int),((1000:Int)-k),(1+k),(1+(((k:Int)*k)%9))] (f%4)=wt at *
 generalize (k:Int)*k%9=q9 at *
 have o:=b6 ne;constructor
 ·intro r b;rcases List.mem_append.mp b with b|b
  ·exact h.2.1 r b
  ·cases List.mem_singleton.mp b;rcases o with⟨e,c⟩|⟨e,c⟩
   ·rw[e,c];exact⟨a2,a1⟩
   ·rw[e,c];exact⟨a1,a2⟩
 ·intro r b;rcases List.mem_append.mp b with b|b
  ·exact h.2.2 r b
  ·cases List.mem_singleton.mp b;refine⟨⟨?_,?_⟩,?_,?_⟩
   ·show(-1000:Int)<=0-wt;omega
   ·show(0:Int)-wt ≤ -1;omega
   ·show vJ (if vJ y x=true then y else x) (if vJ x y=true then y else x)=true;rcases o with⟨e,c⟩|⟨e,c⟩
    ·rw[e,c];exact e
    ·rw[e,c];exact c
   ·show(k:Int)%3∈_;simp only[Qr,QN,or_false];omega
theorem To:(((rng 0 (kN 30)).map λa:Int=>(Txt.mul (ch LC (a / (8:Int))) (1+(a%8)))).length=30/\((rng 0 (kN 30)).map λa:Int=>(Txt.mul (ch LC (a / (8:Int))) (1+(a%8)))).Nodup)/\(∀n∈((rng 0 (kN 30)).map λa:Int=>(Txt.mul (ch LC (a / (8:Int))) (1+(a%8)))),Nm n):=by
 rw[U6];have c:∀n,n∈((rng 0 30).map λa:Int=>(Txt.mul (ch LC (a / (8:Int))) (1+(a%8))))->∃i:Nat,i<30/\n=Txt.mul (ch LT ((i:Int) / 8)) (1+(i:Int)%8):=λn h=>by
  obtain⟨k,d,rfl⟩:=List.mem_map.mp h;obtain⟨i,hi,rfl⟩:=Rn d;exact⟨i,hi,by rw[L3 hi]⟩
 refine⟨⟨by rw[zk,uJ],X6 λi j hi b e=>?_⟩,λn h=>?_⟩
 ·rw[L3 hi,L3 b]at e;exact congrArg Fin.val (NF ⟨i,hi⟩ ⟨j,b⟩ e)
 ·obtain⟨i,hi,rfl⟩:=c n h;exact OO () () ()
theorem WN(x turn g:Int):qu x turn g/\Gr (qt x turn g):=by
 have B:=fY x (m:=2) ();obtain⟨⟨F,nd⟩,nm⟩:=To;unfold qu qt;dsimp only;rw[show("abcd":AJ)=LC from rfl];have d0:(rng 0 (kN 30)).length<=100000:=by rw[uJ,U6];decide
 have v:∀c∈rng 0 (kN 30),In LC.length (c / 8)/\(1+c%8<=1000 ∧ -1000<=1+c%8/\(ch LC (c / 8)).length<=1000):=λk d=>by
  rw[U6]at d;obtain⟨h1,h2⟩:=sL d;have z:=fY k (m:=8) ();refine⟨BD () (by rw[aw];omega),by omega,by omega,by rw[GF];decide⟩
 generalize ((rng 0 (kN 30)).map λc:Int=>(Txt.mul (ch LC (c / (8:Int))) (1+(c%8))))=n_ at *
 have t:∀o:Int,In n_.length (((7*o)+turn)%30):=λo=>tH () ();have q:((rng 0 (kN 30)).map λc:Int=>(at' n_ (((7*c)+turn)%30))).length=30:=by rw[zk,uJ,U6]
 have os:∀y∈((rng 0 (kN 30)).map λc:Int=>(at' n_ (((7*c)+turn)%30))),y∈n_:=λy w=>by
  obtain⟨k,_,rfl⟩:=List.mem_map.mp w;exact nR (t k)
 have p:∀k:Nat,k<30->at' ((rng 0 (kN 30)).map λc:Int=>(at' n_ (((7*c)+turn)%30))) (k:Int)=at' n_ (((7*(k:Int))+turn)%30):=λk d=>by
  rw[Cv _ k (by rw[q];exact d),ya];unfold rng;rw[ya,n7,jU]
 have nn:∀i j:Int,0<=i->i<30->0<=j->j<30->i≠j->at' n_ i≠at' n_ j:=λi j D i1 E A C e=>by
  obtain⟨a,rfl⟩:∃a:Nat,i=(a:Int):=⟨i.toNat,by omega⟩;obtain⟨b,rfl⟩:∃b:Nat,j=(b:Int):=⟨j.toNat,by omega⟩;rw[Cv n_ a (),Cv n_ b ()]at e;have pw:=dc.mp nd;rcases Nat.lt_or_gt_of_ne (show a≠b by omega)with h|h
  ·exact pw a b () () h e
  ·exact pw b a () () h e.symm
 have ne:∀k:Nat,k<30->at' ((rng 0 (kN 30)).map λc:Int=>(at' n_ (((7*c)+turn)%30))) (k:Int)≠at' ((rng 0 (kN 30)).map λc:Int=>(at' n_ (((7*c)+turn)%30))) (((k:Int)+1)%30):=λk d=>by
  obtain⟨j,u,e⟩:∃j:Nat,j<30/\((k:Int)+1)%30=(j:Int):=⟨(((k:Int)+1)%30).toNat,by omega,by omega⟩;rw[e,p k d,p j u];exact nn _ _ () () () () ()
 generalize ((rng 0 (kN 30)).map λc:Int=>(at' n_ (((7*c)+turn)%30)))=order at *
 obtain⟨t1,t2,t3⟩:=zL (P:=λf k=>U (nY g order f k)) (step:=λf k=>dG g order f k) (λk s=>s.length<=k/\Rs n_ s/\∀r∈s,RT r) (29+(x%2)).toNat [] ⟨zi 0,λr h=>(by cases h),λr h=>(by cases h)⟩ λk s d h=>YC g order n_ q os ne k () s h;generalize (rng 0 (29+(x%2)).toNat).foldl (λf k=>dG g order f k) []=so at *
 have sp:=(jQ (e:=aG) so).length_eq;have mem:∀y,y∈oJ n_↔y∈n_:=λy=>(fP n_).mem_iff;refine⟨⟨⟨d0,v⟩,⟨d0,λk _=>t k⟩,⟨Pr () (),t1⟩,by omega,by omega,by rw[sp];omega⟩,(fP n_).nodup_iff.mpr nd,?_,?_,?_,?_,wU _,λn h=>nm n ((mem n).mp h),Mm λr l=>t3.2 r ((jQ _).mem_iff.mp l)⟩
 ·show(oJ n_).length<=30;rw[(fP n_).length_eq];omega
 ·exact Rs.turn λr l=>by
   have:=t3.1 r ((jQ _).mem_iff.mp l);exact⟨(mem _).mpr this.1,(mem _).mpr this.2⟩
 ·show(dJ _ _).length<=30;rw[zk,sp];omega
 ·unfold So;show(dJ tn (dJ tn (uH (D5 eI eS eS eI) so))).Pairwise _;rw[R8];exact xg _
theorem nN(b:O Int):qw b/\Gr (jW b):=by
 obtain⟨e,d,l⟩:=Mq (aX b 0) 12 () ();have d:(aU (aX b 0) 12).length=12:=d;unfold qw jW;dsimp only;generalize aU (aX b 0) 12=head at *
 have a:∀i:Nat,i<12->In head.length (i:Int):=λi hi=>tD ();have c:=WN (at' head 9 / 16) (at' head 10) (at' head 11);have j:=fY (at' head 6) (m:=15) ();have f:=fY (at' head 7) (m:=22) ();have h:=fY (at' head 8) (m:=4) ();have g:=Z' b 0 (at' head 6%15) (at' head 7%22) (at' head 8%4) () () j.1 () f.1 () h.1 ();refine⟨⟨⟨Mp _ _ () (),e⟩,a 9 (),λ_=>⟨⟨a 9 (),a 10 (),a 11 ()⟩,c.1⟩,λ_=>⟨a 6 (),⟨a 7 (),a 8 ()⟩,g.1⟩⟩,?_⟩;split
 ·exact c.2
 ·exact g.2
theorem o6(d:Dt)(a:AJ)(n:Int)(h:n<=1000):n8 d a n:=by
 unfold n8;intro hs;obtain⟨x,rfl⟩:=Py hs;refine⟨⟨rfl,λ_=>S⟩,λb=>⟨⟨rfl,?_⟩,λs h=>eK h⟩⟩;rw[aT];have h2:(x.length:Int)<=n:=QP ((ZH _ _).mp b).2;omega
theorem Wf{a:AJ}{n:Int}(h:lD d a n=true):sW d=true:=by
 unfold lD at h;rw[ZH]at h;exact h.1
theorem YD(d:Dt):rY d:=o6 d _ 8 ()
theorem jp(h:eF d=true):sW d=true:=Wf h
theorem SU(h:eF d=true):d=eS (XD d):=by obtain⟨x,rfl⟩:=Py (jp h);rfl
theorem Hf(h:jX d=true):d=eI (D8 d):=by
 cases d with
 |int i=>rfl
 |_=>cases h
theorem gT(d:Dt):vB d:=λh=>⟨Hf h,λ_=>Hf h⟩
theorem OU(h:B5 d=true):∃ds,d=.tup ds/\Rb d=ds.length:=by
 obtain⟨ds,rfl⟩:=Hy h;exact⟨ds,rfl,rfl⟩
theorem TK(h:gY d 3=true):∃a b c,d=.tup [a,b,c]:=by
 unfold gY at h;rw[ZH,ZN]at h;obtain⟨ds,rfl,e⟩:=OU h.1;rw[e]at h;have h:=h.2
 match ds,h with
 |[a,b,c],_=>exact⟨a,b,c,rfl⟩
theorem gE(h:gY d 4=true):∃a b c x,d=.tup [a,b,c,x]:=by
 unfold gY at h;rw[ZH,ZN]at h;obtain⟨ds,rfl,e⟩:=OU h.1;rw[e]at h;have h:=h.2
 match ds,h with
 |[a,b,c,x],_=>exact⟨a,b,c,x,rfl⟩
theorem NW(d:Dt)(n:Int):tZ d n:=λh=>Tl h
theorem tN{b:Bool}(h:(!b)=false):b=true:=by cases b<;>first|rfl|cases h
def B3(a b c:Dt):Bool:=eF a&&(eF b&&(vJ (XD a) (XD b)&&(jX c&&decide ((0:Int)<=D8 c))))
theorem gX(d:Dt):Fw d:=by
 refine⟨NW d 3,λh=>?_⟩;obtain⟨a,b,c,rfl⟩:=TK (tN h);exact⟨rfl,YD a,λh1=>⟨YD b,λh2=>⟨⟨SU h1,SU h2⟩,λ_ e=>Hf e⟩⟩⟩
def R4(x a b c:Dt):Bool:=qx x&&B3 a b c
theorem gN(d:Dt):vC d:=by
 refine⟨NW d 4,λh=>?_⟩;obtain⟨x,a,b,c,rfl⟩:=gE h;exact⟨⟨BD () (by simp),gT _⟩,λ_=>⟨rfl,gX _⟩⟩
theorem eP{r:bY}(h:(1<=r.1/\r.1<=1000)/\vJ r.2.1 r.2.2.1=true/\0<=r.2.2.2)(a:Nm r.2.1)(b:Nm r.2.2.1):qy (aG r)=true:=by
 show R4 (.int r.1) (.str r.2.1) (.str r.2.2.1) (.int r.2.2.2)=true;unfold R4 B3;rw[Sg a,Sg b];show((true&&(decide ((1:Int)<=r.1)&&decide (r.1<=1000)))&&(true&&(true&&(vJ r.2.1 r.2.2.1&&(true&&decide ((0:Int)<=r.2.2.2))))))=true;rw[h.2.1,Zl h.1.1,Zl h.1.2,Zl h.2.2];rfl
structure Gd (N:AZ) (R:List bY):Prop where
 nd:N.Nodup
 len:N.length<64
 rs:Rs N R
 rl:R.length<60
 nm:∀n∈N,Nm n
 va:∀r∈R,(1<=r.1/\r.1<=1000)/\vJ r.2.1 r.2.2.1=true/\0<=r.2.2.2
variable{R:O bY}
theorem Gd.ne(s:Gd N R):∀r∈R,r.2.1≠r.2.2.1:=λr a=>((BT _ _).mp (s.va r a).2.1).2
theorem Gd.no(s:Gd N R)(hx:x∈N)(b:O lQ):iJ (N,R,b) x:=⟨YD _,λz=>by
 rw[show eF (eS x)=true from Sg (s.nm x hx),show decide (x∈(N,R,b).1)=true from Zl hx]at z;cases z⟩
theorem Gd.pas(s:Gd N R)(b:O lQ):mU (N,R,b)/\mR (N,R,b)=st N (hb N R):=by
 have:=s.len;obtain⟨d,e,h⟩:=N9 s.nd () s.rs;have q:=pM h;refine⟨⟨d,?_⟩,?_⟩
 ·show oA (jo N R);rw[e];exact q.1
 ·show lF (jo N R)=_;rw[e];exact q.2
theorem Gd.ho(s:Gd N R)(b:O lQ):jl (N,R,b)/\eV (N,R,b)=held N R:=by
 obtain⟨h1,h2,-⟩:=gO s.nd s.len s.rs b;exact⟨h1,h2⟩
theorem Gd.wh(s:Gd N R)(hx:x∈N)(d:y∈N)(b:O lQ):wD (N,R,b) x y/\nF (N,R,b) x y=jD (held N R) x y:=by
 obtain⟨h1,h2,a,c,-⟩:=gO s.nd s.len s.rs b;obtain⟨a1,-⟩:=Qc a s.len c (e:=y) hx;refine⟨⟨s.no hx b,s.no d b,h1,by rw[h2];exact a1⟩,?_⟩;unfold nF;rw[h2]
def hg(N:AZ)(R:O bY)(r:bY):Dt:=if(decide (r.2.2.1∈pt N (hb N (R.filter λy=>!decide (y=r))) r.2.1))=true then Dt.tup [Dt.str "stays"]else Dt.tup [Dt.str "parts",(eT eS) (pt N (hb N (R.filter λy=>!decide (y=r))) r.2.1),(eT eS) (pt N (hb N (R.filter λy=>!decide (y=r))) r.2.2.1)]
theorem Gd.ha(s:Gd N R){r:bY}(h:r∈R)(b:O lQ):pP (N,R,b) r/\jq (N,R,b) r=hg N R r:=by
 have ok:=eP (s.va r h) (s.nm _ (s.rs r h).1) (s.nm _ (s.rs r h).2);have f:=s.len;have e:=s.rl;have a:=s.rs r h;have c:Rs N (R.filter λy=>!decide (y=r)):=λz d=>s.rs z (bt.mp d).1;have pa:=Md s.nd () c a.1;have pb:=Md s.nd () c a.2;unfold pP jq hg;dsimp only;rw[Kk];rw[pa.2,pb.2];refine⟨⟨⟨gN _,λz=>?_⟩,by omega,pa.1,λ_=>pb.1⟩,rfl⟩;rw[ok,show fQ r (N,R,b).2.1=true from gn.mpr h]at z;cases z
theorem Fo.nd{F:O bY}(h:Fo F):F.Nodup:=by
 induction h with
 |nil=>exact JO
 |@snoc F r _ c d=>
  refine List.nodup_append.mpr ⟨d,bT.mpr ⟨λz=>(by cases z),JO⟩,λa ha b hb e=>?_⟩;cases List.mem_singleton.mp hb;exact c (.one (e▸ha))
theorem Fo.filter{F:O bY}(h:Fo F)(q:bY->Bool):Fo (F.filter q):=by
 induction h with
 |nil=>exact .nil
 |@snoc F r _ d b=>
  rw[List.filter_append];cases a:q r with
  |true=>
   rw[kL a];exact .snoc b λc=>d (c.more λz e=>(bt.mp e).1)
  |false=>
   rw[kM (by rw[a];decide)];show Fo (_++[]);rw[qq];exact b
theorem Fo.out{F:O bY}(h:Fo F):∀r∈F,¬ mV (F.filter λz=>!decide (z=r)) r.2.1 r.2.2.1:=by
 induction h with
 |nil=>intro r h;cases h
 |@snoc F x n g m=>
  intro r l c;have f:=n.ne;by_cases e:r=x
  ·subst e;refine g (c.more λz d=>?_);obtain⟨z1,z2⟩:=bt.mp d;rcases List.mem_append.mp z1 with z1|z1
   ·exact z1
   ·cases List.mem_singleton.mp z1;simp at z2
  ·have j:r∈F:=by
    rcases List.mem_append.mp l with h|h
    ·exact h
    ·exact absurd (List.mem_singleton.mp h) e
   have sub:∀z∈F.filter (λz=>!decide (z=r)),z∈F:=λz d=>(bt.mp d).1;obtain⟨p,t⟩:=c;rcases R9 (G:=F.filter λz=>!decide (z=r)) (a:=x.2.1) (b:=x.2.2.1) (λz d=>by
    obtain⟨z1,z2⟩:=bt.mp d;rcases List.mem_append.mp z1 with z1|z1
    ·exact .inl (bt.mpr ⟨z1,z2⟩)
    ·cases List.mem_singleton.mp z1;exact .inr ⟨rfl,rfl⟩) t with i|i|i
   ·exact m r j i
   ·have er:mV F r.2.1 r.2.2.1:=.one j;exact g (((i.1.more sub).symm f).trans (er.trans ((i.2.more sub).symm f)))
   ·have er:mV F r.2.1 r.2.2.1:=.one j;exact g ((i.2.more sub).trans ((er.symm f).trans (i.1.more sub)))
theorem Fo.held(n:Nn N){F:O bY}(h:Fo F):Ok N F->held N F=F:=by
 induction h with
 |nil=>intro _;rfl
 |@snoc F r d a c=>
  intro ok;rw[Aw n ok a,c λz b=>ok z (zv _ b)]
def wt(L:O bY):Int:=(L.map λr:bY=>r.1).sum
theorem X9:wt []=0:=rfl
theorem JB(r:bY)(L:O bY):wt (r::L)=r.1+wt L:=by unfold wt;rw[zt,hY]
theorem ar(A B:O bY):wt (A++B)=wt A+wt B:=by unfold wt;rw[qB,List.sum_append_int]
theorem Mb(n:Nn N)(a:Rs N R):EO N (hb N R):=NV n.nd n.l3 R _ a (Fu n.nd n.l3) (d6 n.nd n.l3)
theorem Ss(n:Nn N){G P:O bY}(IK:Ok N P)(sub:∀r∈G,r∈P):(st N (hb N P)).length<=(st N (hb N G)).length:=by
 have a:Ok N G:=λr g=>IK r (sub r g);unfold st;rw[zk,zk];have f:=Hd.hb n.nd n.l3 a.rs;have j:=Hd.hb n.nd n.l3 IK.rs;have e:N.filter (λw=>decide (look (hb N P) w=w))=(N.filter λw=>decide (look (hb N G) w=w)).filter λw=>decide (look (hb N P) w=w):=by
  rw[List.filter_filter];refine il λx hx=>?_;by_cases h:look (hb N P) x=x
  ·have b:=f.mem x hx;have c:=((p8 n.nd n.l3 a.rs a.ne b hx).mp (f.idem x hx)).more sub;have e1:=(p8 n.nd n.l3 IK.rs IK.ne b hx).mpr c;have d:=Mb n IK.rs _ b;rw[e1,h]at d;have i:=Mb n a.rs x hx;rw[Zl h,Zl (DR i d)];rfl
  ·rw[ZA h,ko]
 rw[e];exact List.length_filter_le _ _
theorem LO(n:Nn N){F P:O bY}(fo:Fo F)(IK:Ok N P)(sub:∀r∈F,r∈P):F.length<=(held N P).length:=by
 have a:Ok N F:=λr b=>IK r (sub r b);have h1:=wG n IK.rs;have h2:=wG n a.rs;rw[fo.held n a]at h2;have:=Ss n IK sub;omega
theorem NL{R:O bY}{r:bY}(b:r∉R):∀{F:O bY},F.Nodup->(r∈F->wt (F.filter λz=>fQ z (R++[r]))=wt (F.filter λz=>fQ z R)+r.1/\(F.filter λz=>fQ z (R++[r])).length=(F.filter λz=>fQ z R).length+1)/\(r∉F->(F.filter λz=>fQ z (R++[r]))=F.filter λz=>fQ z R)
 |[],_=>⟨λh=>(by cases h),λ_=>S⟩
 |x::F,nd=>by
  obtain⟨d,f⟩:=bT.mp nd;obtain⟨i1,i2⟩:=NL b f;have same:∀z,z≠r->fQ z (R++[r])=fQ z R:=λz c=>by
   rw[Jn,gn,gn,kX,kQ];exact⟨λh=>h.resolve_right c,.inl⟩
  have flt:∀(p:bY->Bool),p x=true->(x::F).filter p=x::F.filter p:=λp h=>kL h;have a:∀(p:bY->Bool),p x=false->(x::F).filter p=F.filter p:=λp h=>kM (by rw[h];decide);by_cases e:x=r
  ·subst e;have a1:fQ x (R++[x])=true:=gn.mpr (by simp);have a2:fQ x R=false:=by
    cases q:fQ x R with
    |false=>rfl
    |true=>exact absurd (gn.mp q) b
   refine⟨λ_=>?_,λh=>absurd (zg ..) h⟩;rw[flt _ a1,a _ a2,i2 d,JB,ZE];exact⟨by omega,rfl⟩
  ·have s:=same x e;cases q:fQ x R with
   |true=>
    rw[flt _ (s.trans q),flt _ q,JB,JB,ZE,ZE];refine⟨λh=>?_,λh=>?_⟩
    ·obtain⟨i,g⟩:=i1 ((List.mem_cons.mp h).resolve_left λz=>e z.symm);exact⟨by omega,by omega⟩
    ·rw[i2 λz=>h (zh _ z)]
   |false=>
    rw[a _ (s.trans q),a _ q];refine⟨λh=>i1 ((List.mem_cons.mp h).resolve_left λz=>e z.symm),λh=>i2 λz=>h (zh _ z)⟩
theorem f6(n:Nn N){F:O bY}(fo:Fo F):Ok N R->R.Pairwise (λa b=>b.1<=a.1)->∀w:Int,0<=w->(∀r∈R,w<=r.1) →
  (((held N R).length:Int)-((F.filter λz=>fQ z R).length:Int))*w<=wt (held N R)-wt (F.filter λz=>fQ z R):=by
 induction R using BM with
 |h0=>
  intro _ _ w _ _;have e:(F.filter λz=>fQ z [])=[]:=lr.mpr λz _ h=>by
   have:=gn.mp h;cases this
  rw[e];show((0:Int)-0)*w<=0-0;omega
 |h1 R r f=>
  intro ok pw w x p;obtain⟨p1,p2,p3⟩:=m8.mp pw;have s:Ok N R:=λz d=>ok z (zv _ d);by_cases o:r∈R
  ·have e:(F.filter λz=>fQ z (R++[r]))=F.filter λz=>fQ z R:=il λz _=>by
    rw[Jn,gn,gn,kX,kQ];exact⟨λh=>h.elim id λq=>q▸o,.inl⟩
   rw[z9 n ok (mV.one o),e];exact f s p1 w x λz d=>p z (zv _ d)
  have u:=p r (by simp);have f:=f s p1 r.1 () λz d=>p3 z d r (List.mem_singleton.mpr S);obtain⟨c1,c2⟩:=NL o fo.nd;have g:=LO n (F:=F.filter λz=>fQ z (R++[r])) (fo.filter _) ok λz d=>gn.mp (bt.mp d).2;have key:∀(D a b:Int) (j:Int),D*r.1<=j->0<=D+a-b->(D+a-b)*w<=j+a*r.1-b*r.1:=λD a b j h1 h2=>by
   have A:(D+a-b)*w<=(D+a-b)*r.1:=Int.mul_le_mul_of_nonneg_left u h2;rw[Int.sub_mul,Int.add_mul]at A;rw[Int.sub_mul,Int.add_mul]at *
   omega
  by_cases c:mV R r.2.1 r.2.2.1
  ·rw[z9 n ok c]at g ⊢;by_cases i:r∈F
   ·obtain⟨m,l⟩:=c1 i;rw[m];rw[l]at g ⊢;have:=key _ 0 1 _ f (by push_cast at *;omega);have e:(((held N R).length:Int)-(((F.filter λz=>fQ z R).length+1:Nat):Int))=((held N R).length:Int)-((F.filter λz=>fQ z R).length:Int)+0-1:=by push_cast;omega
    rw[e];omega
   ·rw[c2 i]at g ⊢;have:=key _ 0 0 _ f ();have e:(((held N R).length:Int)-((F.filter λz=>fQ z R).length:Int))=((held N R).length:Int)-((F.filter λz=>fQ z R).length:Int)+0-0:=by omega
    rw[e];omega
  ·have t:=Aw n ok c;have v:(held N (R++[r])).length=(held N R).length+1:=by rw[t,z4];rfl
   have y:wt (held N (R++[r]))=wt (held N R)+r.1:=by rw[t,ar,JB,X9];omega
   rw[y];rw[v]at g ⊢;by_cases i:r∈F
   ·obtain⟨m,l⟩:=c1 i;rw[m];rw[l]at g ⊢;have:=key _ 1 1 _ f (by push_cast at *;omega);have e:((((held N R).length+1:Nat):Int)-(((F.filter λz=>fQ z R).length+1:Nat):Int))=((held N R).length:Int)-((F.filter λz=>fQ z R).length:Int)+1-1:=by push_cast;omega
    rw[e];omega
   ·rw[c2 i]at g ⊢;have:=key _ 1 0 _ f (by push_cast at *;omega);have e:((((held N R).length+1:Nat):Int)-((F.filter λz=>fQ z R).length:Int))=((held N R).length:Int)-((F.filter λz=>fQ z R).length:Int)+1-0:=by push_cast;omega
    rw[e];omega
theorem PD(h:So R):R.Pairwise (λa b=>b.1<=a.1):=by
 unfold So at h;rw[KP]at h;refine h.imp λ{a b} z=>?_;have z:(!S1.gQ [.inl (0-b.1),.inr b.2.1,.inr b.2.2.1,.inl b.2.2.2] [.inl (0-a.1),.inr a.2.1,.inr a.2.2.1,.inl a.2.2.2])=true:=z;unfold S1.gQ at z;by_cases e:(0:Int)-b.1=0-a.1
 ·omega
 ·rw[zz λq=>e (Sum.inl.inj q)]at z;have z:(!decide ((0:Int)-b.1<0-a.1))=true:=z;have:¬ ((0:Int)-b.1<0-a.1):=by simpa using z
  omega
theorem DF(n:Nn N){F:O bY}(fo:Fo F)(ok:Ok N R)(os:So R)(pos:∀r∈R,0<=r.1)(sub:∀r∈F,r∈R):wt F<=wt (held N R):=by
 have:=f6 n fo ok (PD os) 0 (yk 0) pos;rw[dl.mpr λr a=>gn.mpr (sub r a)]at this;omega
theorem P9:y∈pt N m x↔y∈N/\look m y=look m x:=by
 unfold pt;rw[bt,ZN]
theorem Gd.nn(g:Gd N R):Nn N:=⟨g.nd,g.len⟩
theorem Gd.ok(g:Gd N R):Ok N R:=λr a=>⟨g.rs r a,g.ne r a⟩
theorem Gd.sub(g:Gd N R){G:O bY}(h:∀r∈G,r∈R)(b:G.length<=R.length):Gd N G:=⟨g.nd,g.len,λr a=>g.rs r (h r a),by have:=g.rl;omega,g.nm,λr a=>g.va r (h r a)⟩
theorem Qd(g:Gd N R){L:O bY}(a:Rs N L):(eX N L).length<=N.length:=by
 obtain⟨-,P,e,p⟩:=FJ g.nd g.len a;rw[e,(uI P).length_eq];exact p.len
theorem PF(g:Gd N R){L:O bY}(f:Rs N L){a b:AJ}(ha:a∈N)(d:b∈N):(((eX N L).map λc:AZ=>((decide (a∈c))&&(decide (b∈c)))).any id)=decide (look (hb N L) a=look (hb N L) b):=by
 obtain⟨-,P,e,p⟩:=FJ g.nd g.len f;rw[e];exact i8 p ha d
theorem m4(g:Gd N R):∀(L pre:O bY),(∀r∈pre++L,MW N r)->lO (λ(b:O aD) (a:aD)=>(ig N b a)) (λ(b:O aD) (a:aD)=>U (pZ N b a)) L (held N pre)/\L.foldl (λ(b:O aD) (a:aD)=>(ig N b a)) (held N pre)=held N (pre++L):=by
 intro L
 induction L with
 |nil=>intro pre _;exact⟨trivial,by rw[qq];rfl⟩
 |cons r L i=>
  intro pre ok;have IK:Ok N pre:=λz f=>ok z (zv _ f);have c:MW N r:=ok r (Zs _ (zg ..));have n:=g.nn;have len:=g.len;obtain⟨-,-,rs,-,hl⟩:=gO n.nd n.hl IK.rs [];have e:ig N (held N pre) r=held N (pre++[r]):=by
   unfold ig;dsimp only;rw[PF g rs c.1.1 c.1.2,Jz n IK.rs,G9 n.nd n.l3];by_cases h:look (hb N pre) r.2.1=look (hb N pre) r.2.2.1
   ·rw[Zl h,zl h];rfl
   ·rw[ZA h,zz h];rfl
  have d:pZ N (held N pre) r:=⟨(FJ g.nd g.len rs).1,by have:=Qd g rs;show dm _<=_;omega,λ_=>vM ()⟩;obtain⟨i1,i2⟩:=i (pre++[r]) (by rw[qv];exact ok);rw[qv]at i2;refine⟨⟨d,by dsimp only;rw[e];exact i1⟩,?_⟩;rw[qo,e];exact i2
theorem XE(g:Gd N R)(os:So R):uf N R.reverse/\ud N R.reverse=held N R.reverse/\(held N R.reverse).length=(held N R).length/\wt (held N R.reverse)<=wt (held N R):=by
 have n:=g.nn;have b:Ok N R.reverse:=λr a=>g.ok r (dq.mp a);obtain⟨h1,h2⟩:=m4 g R.reverse [] b;obtain⟨-,-,-,fo,-⟩:=gO n.nd n.hl b.rs [];have d:=wG n g.ok.rs;have c:=wG n b.rs;have e:=Ss n g.ok (G:=R.reverse) λr a=>dq.mp a;have f:=Ss n b (G:=R) λr a=>dq.mpr a;exact⟨h1,h2,by omega,DF n fo g.ok os (λr a=>by have:=(g.va r a).1.1;omega) λr a=>dq.mp ((jE N _).subset a)⟩
theorem Wg(g:Gd N R){r:bY}(b:r∈held N R):z8 (N,held N R,[]) sn r/\um (N,held N R,[]) sn r=.nx sn:=by
 have n:=g.nn;obtain⟨-,-,-,fo,-⟩:=gO n.nd n.hl g.ok.rs [];have c:Gd N (held N R):=g.sub (λz a=>(jE N R).subset a) (jE N R).length_le;obtain⟨d,e⟩:=c.ha b [];have f:Ok N ((held N R).filter λy=>!decide (y=r)):=λz a=>c.ok z (bt.mp a).1;obtain⟨h,i⟩:=c.rs r b;have out:hg N (held N R) r=Dt.tup [Dt.str "parts",(eT eS) (pt N (hb N ((held N R).filter λy=>!decide (y=r))) r.2.1),(eT eS) (pt N (hb N ((held N R).filter λy=>!decide (y=r))) r.2.2.1)]:=by
  unfold hg;rw[zz λz=>?_];have z:=(P9.mp (QP z)).2;exact fo.out r b ((p8 n.nd n.l3 f.rs f.ne h i).mp z.symm)
 unfold z8 um;rw[e,out];exact⟨⟨⟨d,tD (k:=0) (jV _)⟩,rfl,ZI (Nat.min_le_right _ _) ()⟩,rfl⟩
theorem PU(g:Gd N R){P Q:O bY}(e:R=P++Q)(hx:x∈N)(o:y∈N)(c:mV P x y):∃p,jD (held N R) x y=U p/\∀z∈p,z∈held N P:=by
 have n:=g.nn;have IK:Ok N P:=λz a=>g.ok z (by rw[e];exact zv _ a);obtain⟨-,-,r1,f1,-⟩:=gO n.nd n.hl IK.rs [];obtain⟨-,-,r2,f2,-⟩:=gO n.nd n.hl g.ok.rs [];obtain⟨Z,j⟩:∃Z,held N R=held N P++Z:=by
  have:held N R=(Q.foldl hs (P.foldl hs (aP N,[]))).2:=by rw[e];unfold held;rw[JU]
  obtain⟨t,m,-⟩:=sE Q (P.foldl hs (aP N,[]));exact⟨t,this.trans m⟩
 have h:=(Wc n IK hx o).mpr c;obtain⟨-,b1,b2⟩:=Qc r1 n.hl f1 (e:=y) hx;obtain⟨-,b3,b4⟩:=Qc r2 n.hl f2 (e:=y) hx;cases b:jD (held N P) x y with
 |none=>exact absurd h (b2 b)
 |some p1=>
  obtain⟨t1,i⟩:=b1 p1 b;have f:Tr (held N R) x p1 y:=t1.mono λz a=>by rw[j];exact zv _ (t1.mem z a)
  cases d:jD (held N R) x y with
  |none=>exact absurd ⟨p1,f⟩ (b4 d)
  |some p2=>
   obtain⟨t2,l⟩:=b3 p2 d;have:=uni f2 t2 f l i;subst this;exact⟨p2,rfl,λz a=>t1.mem z a⟩
theorem dt{a b:bY}(h:DE aG a b=true)(c:a≠b):EU aG a b=true:=by
 unfold DE S1.qR at h;unfold EU;cases e:S1.gQ (f9.k aG a) (f9.k aG b)with
 |true=>rfl
 |false=>
  have h:S1.gQ (f9.k aG b) (f9.k aG a)=false:=by simpa using h
  exact absurd (f9.inj (e:=aG) a b (S1.zu e h)) c
theorem kw(g:Gd N R)(os:So R)(b:O lQ):gM (N,R,b) (held N R)/\dI (N,R,b) (held N R)=true:=by
 have n:=g.nn;have len:=g.len;have all:=zM (step:=λ(j:Unit) (l:aD)=>((bN (N,R,b) (held N R) j l):nG (Unit) Bool)) (P:=λ(j:Unit) (l:aD)=>U (iK (N,R,b) (held N R) j l)) R λr i=>by
  obtain⟨f,h⟩:=g.rs r i;cases d:fQ r (held N R)with
  |true=>
   refine⟨λz=>?_,.inl ?_⟩
   ·rw[d]at z;cases z
   ·show bN _ _ _ _=_;unfold bN;rw[d];rfl
  |false=>
   have out:r∉held N R:=λz=>by rw[gn.mpr z]at d;cases d
   obtain⟨P,Q,e⟩:=KF i;have IK:Ok N (P++[r]):=λz a=>g.ok z (by rw[e];rcases List.mem_append.mp a with q|q;exact zv _ q;exact Zs _ (by rw[List.mem_singleton.mp q];exact zg ..));have c:mV P r.2.1 r.2.2.1:=Classical.byContradiction λz=>out (by
    have h1:=Aw n IK z;obtain⟨t,u,-⟩:=sE Q ((P++[r]).foldl hs (aP N,[]));have:held N R=held N (P++[r])++t:=by
     have e':R=(P++[r])++Q:=by rw[e];simp
     show(R.foldl hs (aP N,[])).2=((P++[r]).foldl hs (aP N,[])).2++t;rw[<-u,e',JU]
    rw[this,h1];simp)
   obtain⟨p,w,hp⟩:=PU g e f h c;obtain⟨v,e1⟩:=g.wh f h b;rw[w]at e1;obtain⟨d2,e2⟩:=g.ha i b;obtain⟨-,-,r2,f2,-⟩:=gO n.nd n.hl g.ok.rs [];obtain⟨-,b3,-⟩:=Qc r2 n.hl f2 (e:=r.2.2.1) f;have F:=(b3 p w).2;have pl:p.length<=(held N R).length:=IU F λz a=>(b3 p w).1.mem z a;have H:=(gO n.nd n.hl g.ok.rs []).2.2.2.2;have D:∀z∈p,z∈held N R:=λz a=>(b3 p w).1.mem z a;have lt:(((p.map λo:aD=>(EU aG (bB o) (bB r))).all id))=true:=List.all_eq_true.mpr λq C=>by
    obtain⟨z,a,rfl⟩:=List.mem_map.mp C;have E:z∈P:=(jE N P).subset (hp z a);have G:z≠r:=λq=>out (q▸D z a);have m:=os;unfold So at m;rw[e,qB,zt]at m;have x:=(m8.mp m).2.2 (tn z) (List.mem_map.mpr ⟨z,E,rfl⟩) (tn r) (zg ..);exact dt x λq=>G (by have q:tn z=tn r:=q;rw[<-Lc z,q,Lc])
   have s:Ok N (R.filter λy=>!decide (y=r)):=λz a=>g.ok z (bt.mp a).1;have A:mV (R.filter λy=>!decide (y=r)) r.2.1 r.2.2.1:=(((Wc n g.ok f h).mpr (c.more λz a=>by rw[e];exact zv _ a))).more λz a=>bt.mpr ⟨(jE N R).subset a,by rw[ZA λq:z=r=>out (q▸a)];rfl⟩;have B:hg N R r=Dt.tup [Dt.str "stays"]:=by
    unfold hg;rw[zl (Zl (P9.mpr ⟨h,((p8 n.nd n.l3 s.rs s.ne f h).mpr A).symm⟩))]
   rw[B]at e2;refine⟨λ_=>⟨v,?_⟩,.inl ?_⟩
   ·show _/\_;rw[e1,e2];exact⟨λ_=>⟨rfl,by show p.length<=_;omega⟩,λ_=>⟨d2,rfl,by decide⟩⟩
   ·show bN _ _ _ _=_;unfold bN;dsimp only;rw[d,e1,e2];have:(((U p).getD []).map λo:aD=>(EU aG (bB o) (bB r))).all id=true:=lt;rw[this];rfl
 refine⟨⟨all.2,by rw[all.1];exact trivial⟩,?_⟩;show BH (qC _ _ _) _ _=true;rw[all.1];rfl
theorem PM:∀(ks:O Int) (k:Int),ks.foldl (λm x=>if x<m then x else m) k∈k::ks/\∀x∈k::ks,ks.foldl (λm x=>if x<m then x else m) k<=x
 |[],k=>⟨zg ..,λx hx=>by rw[List.mem_singleton.mp hx];exact yk k⟩
 |y::ks,k=>by
  rw[qo];obtain⟨h1,h2⟩:=PM ks (if y<k then y else k);refine⟨?_,λx hx=>?_⟩
  ·rcases List.mem_cons.mp h1 with e|e
   ·rw[e];split<;>simp
   ·exact zh _ (zh _ e)
  ·have h0:=h2 _ (zg ..);have m:(if y<k then y else k)<=y/\(if y<k then y else k)<=k:=by split<;>omega
   rcases List.mem_cons.mp hx with rfl|hx
   ·exact Int.le_trans h0 m.2
   ·rcases List.mem_cons.mp hx with rfl|hx
    ·exact Int.le_trans h0 m.1
    ·exact h2 x (zh _ hx)
theorem rS{l:O Int}(h:l≠[]):GK l∈l/\∀x∈l,GK l<=x:=by
 cases l with
 |nil=>exact absurd S h
 |cons k ks=>exact PM ks k
theorem Qe{t:Int->Bool}:∀(L:O Int) (q:Int),(∀v∈L,t v=false)->L.foldl (λq v=>if t v=true then v else q) q=q
 |[],_,_=>rfl
 |v::L,q,h=>by
  rw[qo,h v (zg ..)];exact Qe L q λu a=>h u (zh _ a)
theorem Qf{t:Int->Bool}{W:Int}(b:t W=true):∀(L:O Int) (q:Int),L.Pairwise (·<=·)->W∈L->(∀v∈L,W<v->t v=false)->L.foldl (λq v=>if t v=true then v else q) q=W
 |v::L,q,pw,hm,hn=>by
  rw[qo];obtain⟨p1,p2⟩:=cV.mp pw;by_cases h:W∈L
  ·exact Qf b L _ p2 h λu a=>hn u (zh _ a)
  ·obtain rfl:W=v:=(List.mem_cons.mp hm).resolve_right h;rw[b];refine Qe L W λu a=>hn u (zh _ a) ?_;have:=p1 u a;have:W≠u:=λe=>h (e▸a);omega
theorem Wh(v:Int):∀{R:O bY},R.Pairwise (λa b=>b.1<=a.1)->R=(R.filter λr=>decide (v<=r.1))++R.filter λr=>!decide (v<=r.1)
 |[],_=>rfl
 |r::R,h=>by
  obtain⟨h1,h2⟩:=cV.mp h;by_cases e:v<=r.1
  ·rw[kL (by exact Zl e),kM (by rw[Zl e];decide),rc,<-Wh v h2]
  ·have d:(R.filter λr=>decide (v<=r.1))=[]:=lr.mpr λz c q=>by
    have:=h1 z c;have:=QP q;omega
   have f:(R.filter λr=>!decide (v<=r.1))=R:=dl.mpr λz c=>by
    have:=h1 z c;rw[ZA ()];rfl
   rw[kM (by rw[ZA e];decide),kL (by rw[ZA e];rfl),d,f];rfl
theorem SS{α:Type}:∀(n:Nat) (xs:O α),xs.length<=n->∀x∈Dp xs,x∈xs
 |_,[],_,x,h=>by unfold Dp at h;cases h
 |n+1,y::xs,hl,x,h=>by
  unfold Dp at h;rcases List.mem_cons.mp h with rfl|h
  ·exact zg ..
  ·exact zh _ (yn (SS n (xs.drop 5) (by rw[QO];rw[ZE]at hl;omega) x h))
theorem Xt(g:Gd N R)(os:So R)(b:O lQ)(hx:x∈N)(i:y∈N):jt (N,R,b) x y/\∀p,jD (held N R) x y=U p->p≠[]->fW (N,R,b) x y=GK (p.map λa:aD=>a.1):=by
 have n:=g.nn;have I:=g.rl;have len:=g.len;have fs:∀v:Int,Ok N (R.filter λa:aD=>decide (v<=a.1)):=λv z h=>g.ok z (bt.mp h).1;have E:∀v q:Int,cj (N,R,b) x y q v=if decide (look (hb N (R.filter λa:aD=>decide (v<=a.1))) x=look (hb N (R.filter λa:aD=>decide (v<=a.1))) y)=true then v else q:=λv q=>by
  unfold cj;dsimp only;rw[Kk,PF g (fs v).rs hx i]
 have u:∀v q:Int,d9 (N,R,b) x y q v:=λv q=>by
  unfold d9;dsimp only;rw[Kk];exact⟨⟨by omega,(FJ g.nd g.len (fs v).rs).1⟩,by have:=Qd g (fs v).rs;omega⟩
 have F:∀(L:O Int) (q:Int),lO (λ(d:Int) (f:Int)=>(cj (N,R,b) x y d f)) (λ(d:Int) (f:Int)=>U (d9 (N,R,b) x y d f)) L q:=by
  intro L
  induction L with
  |nil=>intro q;trivial
  |cons v L D=>intro q;exact⟨u v q,D _⟩
 refine⟨⟨⟨by show R.length<=_;omega,by rw[zk];show R.length<_;omega⟩,F _ _⟩,λp hp B=>?_⟩;obtain⟨-,-,r2,f2,-⟩:=gO n.nd n.hl g.ok.rs [];obtain⟨-,b3,-⟩:=Qc r2 n.hl f2 (e:=y) hx;obtain⟨t,G⟩:=b3 p hp;have m:∀z∈p,z∈R:=λz h=>(jE N R).subset (t.mem z h);obtain⟨C,w⟩:=rS (l:=p.map λa:aD=>a.1) (λe=>B (List.map_eq_nil_iff.mp e));generalize GK (p.map λa:aD=>a.1)=W at *
 obtain⟨j,s,e0⟩:=List.mem_map.mp C;have st:(λ(d:Int) (f:Int)=>(cj (N,R,b) x y d f))=λq v=>if(λv=>decide (look (hb N (R.filter λa:aD=>decide (v<=a.1))) x=look (hb N (R.filter λa:aD=>decide (v<=a.1))) y)) v=true then v else q:=funext λq=>funext λv=>E v q;show(BO (Gy (R.map λa:aD=>a.1))).foldl (λ(d:Int) (f:Int)=>(cj (N,R,b) x y d f)) 0=W;rw[st];refine Qf ?_ _ _ (xu _) ?_ λv _ H=>?_
 ·refine Zl ((p8 n.nd n.l3 (fs W).rs (fs W).ne hx i).mpr ⟨p,t.mono λz h=>bt.mpr ⟨m z h,Zl (w _ (List.mem_map.mpr ⟨z,h,rfl⟩))⟩⟩)
 ·exact(BF _).mem_iff.mpr (pU.mpr (List.mem_map.mpr ⟨j,m j s,e0⟩))
 ·refine ZA λe=>?_;have c:=(p8 n.nd n.l3 (fs v).rs (fs v).ne hx i).mp e;obtain⟨p',o,A⟩:=PU g (Wh v (PD os)) hx i c;rw[hp]at o;cases o;have:=QP (bt.mp ((jE N _).subset (A j s))).2;omega
theorem T0(g:Gd N R)(os:So R)(b:O lQ):iM (N,R,b)/\fL (N,R,b)=true:=by
 have n:=g.nn;have len:=g.len;have s:∀c:Bool,In [(4:Int),(1:Int)].length (if c=true then(1:Int)else 0)/\In [(1:Int),(6:Int)].length (if c=true then(1:Int)else 0)/\(at' [(1:Int),(6:Int)] (if c=true then(1:Int)else 0)=1\/at' [(1:Int),(6:Int)] (if c=true then(1:Int)else 0)=6):=λc=>by
  cases c
  ·exact⟨tD (k:=0) (),tD (k:=0) (),.inl rfl⟩
  ·exact⟨tD (k:=1) (),tD (k:=1) (),.inr rfl⟩
 obtain⟨i1,i2,o⟩:=s (decide ((14:Int)<(N.length:Int)));have l:∀x∈N,∀y∈N,fj (N,R,b) x sn y/\dh (N,R,b) x sn y=.nx sn:=λx hx y a=>by
  obtain⟨f,e1⟩:=g.wh hx a b;obtain⟨d2,h2⟩:=Xt g os b hx a;obtain⟨-,-,r2,f2,hl⟩:=gO n.nd n.hl g.ok.rs [];obtain⟨-,b3,-⟩:=Qc r2 n.hl f2 (e:=y) hx;unfold fj dh;dsimp only;rw[e1];cases w:jD (held N R) x y with
  |none=>exact⟨⟨f,λz=>by cases z⟩,rfl⟩
  |some p=>
   obtain⟨t,nd⟩:=b3 p w;have pl:p.length<=(held N R).length:=IU nd λz m=>t.mem z m;cases p with
   |nil=>exact⟨⟨f,λz=>by simp at z⟩,by simp⟩
   |cons r p=>
    have e:=h2 _ w (jr _ _);have e':decide (GK (((U (r::p)).getD []).map λu:aD=>u.1)=fW (N,R,b) x y)=true:=Zl e.symm;refine⟨⟨f,λ_=>⟨⟨⟨rfl,by show(r::p).length<=_;omega⟩,jV _⟩,d2⟩⟩,?_⟩;rw[e'];simp
 have sub:∀y∈EA (at' [(1:Int),(6:Int)] (if(decide ((14:Int)<(N.length:Int)))=true then(1:Int)else 0)) N,y∈N:=λy a=>by
  unfold EA at a;by_cases q:at' [(1:Int),(6:Int)] (if(decide ((14:Int)<(N.length:Int)))=true then(1:Int)else 0)=1
  ·rw[zl q]at a;exact a
  ·rw[zz q]at a;exact SS _ N (zi _) y a
 have one:∀x∈N,fu (N,R,b) sn x/\dj (N,R,b) sn x=.nx sn:=λx hx=>by
  have all:=zM (step:=λ(j:Unit) (i:AJ)=>((dh (N,R,b) x j i):nG (Unit) Bool)) (P:=λ(j:Unit) (i:AJ)=>U (fj (N,R,b) x j i)) (EA (at' [(1:Int),(6:Int)] (if(decide ((14:Int)<(N.length:Int)))=true then(1:Int)else 0)) N) λy a=>⟨(l x hx y (sub y a)).1,.inl (l x hx y (sub y a)).2⟩;unfold fu dj;dsimp only;rw[all.1];exact⟨⟨⟨⟨i2,o⟩,all.2⟩,trivial⟩,rfl⟩
 have all:=zM (step:=λ(h:Unit) (d:AJ)=>((dj (N,R,b) h d):nG (Unit) Bool)) (P:=λ(h:Unit) (d:AJ)=>U (fu (N,R,b) h d)) (cut N Z (U (at' [(4:Int),(1:Int)] (if(decide ((14:Int)<(N.length:Int)))=true then(1:Int)else 0)))) λx hx=>⟨(one x (Z1 hx)).1,.inl (one x (Z1 hx)).2⟩;unfold iM fL;dsimp only;rw[all.1];exact⟨⟨⟨i1,all.2⟩,trivial⟩,rfl⟩
theorem DT{a b:bY}(h:S1.qR (kP aG aG (bB a,a)) (kP aG aG (bB b,b))=true):DE aG (tn a) (tn b)=true:=by
 unfold S1.qR kP at h;rw[K3 (p:=f9.k aG (bB b)) (p':=f9.k aG (bB a)) rfl]at h;unfold DE S1.qR;by_cases e:f9.k aG (bB b)=f9.k aG (bB a)
 ·have e:f9.k aG (tn b)=f9.k aG (tn a):=e;rw[e,S1.zq];rfl
 ·rw[zz e]at h;exact h
def mr(R:O bY)(m:bY):O bY:=(Bq aG aG ((R++[m]).map λa:aD=>((bB a),a))).map λb:Vj=>b.2
theorem JC(R:O bY)(m:bY):(mr R m).Perm (R++[m]):=by
 unfold mr;have h:=(tK (e:=aG) (e':=aG) ((R++[m]).map λa:aD=>((bB a),a))).map λb:Vj=>b.2;rw[QE]at h;exact h.trans (by rw[show((λb:Vj=>b.2) ∘ λa:aD=>((bB a),a))=id from rfl,yi])
theorem lT(R:O bY)(m:bY):So (mr R m):=by
 unfold So mr;rw[KP,KP];refine KA ?_ (K7 (e:=aG) (e':=aG) _);intro a b ha c h;obtain⟨x,_,rfl⟩:=List.mem_map.mp ((tK _).mem_iff.mp ha);obtain⟨y,_,rfl⟩:=List.mem_map.mp ((tK _).mem_iff.mp c);exact DT h
theorem md(os:So R)(m:bY):∃P Q,mr R m=P++m::Q/\P++Q=R:=by
 obtain⟨P,Q,e⟩:=KF ((JC R m).mem_iff.mpr (Zs _ (List.mem_singleton.mpr S)));refine⟨P,Q,e,fw ?_ ?_ os⟩
 ·have p:=JC R m;rw[e]at p;have p1:(m::(P++Q)).Perm (m::R):=pL.symm.trans (p.trans (hQ m R));exact(gH m).mp p1
 ·have s:=lT R m;rw[e]at s;unfold So at *
  exact s.sublist (List.Sublist.map tn (List.Sublist.append_left (List.sublist_cons_self m Q) P))
theorem uC(g:Gd N R)(rl:R.length<=30)(so:N.Pairwise Ag)(os:So R)(b:O lQ)(xs:O Int)(hx:xs.length=3):iR (N,R,b) (held N R) xs/\iQ (N,R,b) (held N R) xs=true:=by
 have n:=g.nn;have v:∀i:Nat,i<3->In xs.length (i:Int):=λi hi=>tD ();unfold iR iQ;dsimp only;by_cases h2:(N.length:Int)<2
 ·rw[Zl h2];exact⟨λz=>(by cases z),rfl⟩
 rw[ZA h2];have m1:=fY (at' xs 0) (m:=(N.length:Int)-1) ();generalize ea:at' xs 0%((N.length:Int)-1)=ia at *
 have m2:=fY (at' xs 1) (m:=((N.length:Int)-1)-ia) ();generalize eb:at' xs 1%(((N.length:Int)-1)-ia)=ib at *
 have m3:=fY (at' xs 2) (m:=9) ();have i1:In N.length ia:=BD () ();have i2:In N.length (ia+1+ib):=BD () ();have E:N.Pairwise λa b=>vJ a b=true:=(so.and g.nd).imp λh=>(BT _ _).mpr h;have lt:=Nl E (i:=ia) (j:=ia+1+ib) () () ();have M:=nR i1;have I:=nR i2;generalize at' N ia=a at *
 generalize at' N (ia+1+ib)=c at *
 generalize at' xs 2%9=w at *
 have X:((Bq aG aG ((R++[(1+w,a,c,(9:Int))]).map λf:aD=>((bB f),f))).map λb0:Vj=>b0.2)=mr R (1+w,a,c,(9:Int)):=rfl;have b4:(Bq aG aG ((R++[(1+w,a,c,(9:Int))]).map λf:aD=>((bB f),f))).length=R.length+1:=by
  rw[(tK _).length_eq,zk,z4];rfl
 have B:(R++[(1+w,a,c,(9:Int))]).length=R.length+1:=by rw[z4];rfl
 have b3:((R++[(1+w,a,c,(9:Int))]).map λf:aD=>((bB f),f)).length=R.length+1:=by rw[zk];exact B
 rw[X];have o:∀z,z∈mr R (1+w,a,c,(9:Int))↔z∈R\/z=(1+w,a,c,(9:Int)):=λz=>by rw[(JC R _).mem_iff,kX,kQ]
 have ml:=(JC R (1+w,a,c,(9:Int))).length_eq;rw[B]at ml;obtain⟨P,Q,u,a5⟩:=md os (1+w,a,c,(9:Int));have x:Gd N (mr R (1+w,a,c,(9:Int))):=⟨g.nd,g.len,λz d=>by
  rcases(o z).mp d with q|rfl
  ·exact g.rs z q
  ·exact⟨M,I⟩,by omega,g.nm,λz d=>by
  rcases(o z).mp d with q|rfl
  ·exact g.va z q
  ·exact⟨⟨show(1:Int)<=1+w by omega,show(1:Int)+w<=1000 by omega⟩,lt,show(0:Int)<=9 by decide⟩⟩
 generalize mr R (1+w,a,c,(9:Int))=R' at *
 generalize (1+w,a,c,(9:Int))=m at *
 obtain⟨h1,J⟩:=x.ho b;obtain⟨p1,p2⟩:=g.pas b;obtain⟨p3,p4⟩:=x.pas b;rw[J,p2,p4];have G:Pg (R.length+[m].length):=vM (by show R.length+1<=_;omega);refine⟨λ_=>⟨⟨v 0 (),by omega⟩,⟨v 1 (),by omega⟩,⟨v 2 (),i1,i2⟩,⟨⟨⟨G,by omega⟩,by omega⟩,by omega⟩,h1,λ_ _=>⟨p3,p1⟩,λ_=>⟨p1,p3⟩⟩,?_⟩;rw[zz ()];have l:=x.ok;have IK:Ok N (P++m::Q):=by rw[<-u];exact l
 have a0:Ok N (P++[m]):=λz d=>IK z (by
  rcases List.mem_append.mp d with q|q
  ·exact zv _ q
  ·exact Zs _ (by rw[List.mem_singleton.mp q];exact zg ..))
 have l1:=wG n g.ok.rs;have l2:=wG n l.rs;cases A:fQ m (held N R')with
 |false=>
  have out:m∉held N R':=λz=>by rw[gn.mpr z]at A;cases A
  have H:mV P m.2.1 m.2.2.1:=Classical.byContradiction λz=>out (by
   have h1:=Aw n a0 z;obtain⟨t,D,-⟩:=sE Q ((P++[m]).foldl hs (aP N,[]));have:held N R'=held N (P++[m])++t:=by
    have e':R'=(P++[m])++Q:=by rw[u];simp
    show(R'.foldl hs (aP N,[])).2=((P++[m]).foldl hs (aP N,[])).2++t;rw[<-D,e',JU]
   rw[this,h1];simp)
  have e1:held N R'=held N R:=by rw[u,sd n IK H,a5]
  have e2:hb N R'=hb N R:=by rw[<-Jz n l.rs,e1,Jz n g.ok.rs]
  rw[e1,e2];simp
 |true=>
  obtain⟨-,-,r1,f1,-⟩:=gO n.nd n.hl g.ok.rs [];obtain⟨-,-,r2,f2,-⟩:=gO n.nd n.hl l.rs [];have a1:=LO n f1 l λz d=>(o z).mpr (.inl ((jE N R).subset d));obtain⟨q,p⟩:∃q:bY->Bool,∀z,q z=true↔z≠m:=⟨λz=>!decide (z=m),λz=>by simp⟩;have a2:=LO n (f2.filter q) g.ok λz d=>by
   obtain⟨z1,z2⟩:=bt.mp d;exact((o z).mp ((jE N R').subset z1)).resolve_right ((p z).mp z2)
  have a3:(held N R').length<=((held N R').filter q).length+1:=by
   have s:∀L:O bY,L.Nodup->L.length<=(L.filter q).length+1:=by
    intro L
    induction L with
    |nil=>intro _;exact QY _
    |cons z L W=>
     intro nd;obtain⟨C,F⟩:=bT.mp nd;by_cases e:z=m
     ·rw[kM λh=>(p z).mp h e,dl.mpr λy K=>(p y).mpr λh=>C (by rw[e,<-h];exact K),ZE];exact zi _
     ·rw[kL ((p z).mpr e),ZE,ZE];have:=W F;omega
   exact s _ f2.nd
  rw[zz (),Zl (),ye];refine Zl ?_;rw[Qr,kQ];omega
theorem NY(c:O Int)(_:c.length<=63):Wb c/\Wa c=true:=by
 obtain⟨p,s⟩:=nN c;obtain⟨l,e,x⟩:=Mq (aX c 1) 7 () ();have e:(aU (aX c 1) 7).length=7:=e;have t:(cut (aU (aX c 1) 7) (U 4) Z).length=3:=by
  rw[show cut (aU (aX c 1) 7) (U 4) Z=_ from cc (k:=4) (),QO,e]
 unfold Wb Wa;dsimp only;generalize cut (aU (aX c 1) 7) (U 4) Z=xs at *
 generalize jW c=gr at *
 obtain⟨N,R,b⟩:=gr;have len:N.length<=30:=s.len;have u:R.length<=30:=s.rl;have v:N.Pairwise Ag:=s.so;have os:So R:=s.os;have g:Gd N R:=⟨s.nd,by omega,s.rs,by omega,s.nm,λr a=>⟨(s.va r a).1,(s.va r a).2.1,by
  have:=(s.va r a).2.2;simp only[Qr,QN,or_false]at this;omega⟩⟩
 obtain⟨h1,h2⟩:=g.ho b;obtain⟨t1,t2,t3,A⟩:=XE g os;obtain⟨n,h⟩:=kw g os b;obtain⟨o,j⟩:=T0 g os b;obtain⟨q,m⟩:=uC g u v os b xs t;have z:=(gO g.nd g.len g.rs []).2.2.2.2;have i:∀L:O bY,L.length<=64->(∀r∈L,r∈R)->ou L:=λL y hs=>by
  refine⟨by omega,?_⟩;unfold FX;rw[ZH,ZN,zk,qf];refine⟨by omega,λk w=>?_⟩;obtain⟨r,a,rfl⟩:=List.mem_map.mp w;have:=(g.va r (hs r a)).1;exact Zl ()
 dsimp only;rw[h2];have all:=zM (step:=λ(d:Unit) (f:aD)=>((um (N,held N R,[]) d f):nG (Unit) Bool)) (P:=λ(d:Unit) (f:aD)=>U (z8 (N,held N R,[]) d f)) (held N R) λr a=>⟨(Wg g a).1,.inl (Wg g a).2⟩;rw[all.1];have e1:decide (((held N R.reverse).length:Int)=((held N R).length:Int))=true:=Zl ();have e2:decide (gK (held N R)<gK (held N R.reverse))=false:=ZA (by
  show ¬ (wt (held N R)<wt (held N R.reverse));omega)
 refine⟨⟨p,h1,all.2,?_⟩,?_⟩
 ·show uf N R.reverse/\_;rw[t2,h,j];exact⟨t1,λ_=>⟨i _ () λr a=>dq.mp ((jE N _).subset a),i _ () λr a=>(jE N R).subset a⟩,λ_=>⟨⟨n,λ_=>o⟩,λ_=>⟨⟨Mp _ _ () (),l⟩,q⟩⟩⟩
 ·show(if _ then _ else _)=true;rw[t2,e1,e2,h,j,m];rfl
theorem H1:∀a:O Int,a.length<=63->F_law [.z (.lst (a.map .int))]=U (.z (.bl true)):=(Pe NY).1
theorem H2:∀a:O Int,a.length<=63->F_law [.l (a.map .int)]=U (.z (.bl true)):=(Pe NY).2
end G16
end
open PySem PySem.W PyProof.Rows
namespace PySem.W.Fast
def tw15545494423381181079:=0
def tw5602756810129171027:=0
def tw16324819070215417125:=0
def tw2745794416388976851:=0
def tw14506643249507663082:=0
def tw11003693317174730110:=0
def tw5633420688686309829:=0
def tw11323115673372994548:=0
def tw17131315931727883700:=0
def tw15741107525592757874:=0
def tw209373507357774028:=0
def tw15231636545087632098:=0
def tw3570368340458241299:=0
def tw17740467333544145985:=0
def tw12239784554681334018:=0
def tw16394968824847267532:=0
def tw12578997515592198432:=0
def tw9855203655400104265:=0
def tw2411432175248045794:=0
def tw12791200663089769125:=0
def tw8528413624868903528:=0
def tw4288468389554821957:=0
def tw18133537748189231072:=0
def tw14097960668774852686:=0
def tw16996223341709823314:=0
def tw16145125190228557224:=0
def tw2715742191977958634:=0
def tw6653787445620843231:=0
def tw14417394491214410733:=0
def tw15865656940354720562:=0
def tw17961685382230069776:=0
def tw557080891683556795:=0
def tw8736943838543589279:=0
def tw15310092468770258365:=0
def tw5724551381091236581:=0
def tw1625557498548630944:=0
def tw7340905796175021824:=0
def tw3406718769658928492:=0
def tw11053361247204597619:=0
def tw3876294761786640213:=0
def tw8661486106544046734:=0
def tw6113895147433671022:=0
def tw11405021479933346405:=0
def tw16585476373176177940:=0
def tw2041203590866765524:=0
def tw5587450303086889632:=0
def tw3530735676613993139:=0
def tw12449113604435453002:=0
def tw17340796000232769894:=0
def tw7540069822161189619:=0
def tw6028924189701398464:=0
def tw13929674864917100720:=0
def tw18106313290831883690:=0
def tw3703606982230803937:=0
def tw11836694360067249517:=0
def tw7008223075759931073:=0
def tw5490392847255042123:=0
def tw3227987150732324639:=0
def tw4126469806907225915:=0
def tw791264319111543671:=0
def tw13491569886492043415:=0
def tw9952342875113820885:=0
def tw426431672400676092:=0
def tw14096487735773241596:=0
def tw3401685580864323101:=0
def tw9991244744177498860:=0
def tw16184898381820862691:=0
def tw6747781258093128560:=0
def tw7053996790691671791:=0
def tw18099948272808354538:=0
def tw551947046680822412:=0
def tw8549183268475221558:=0
def tw13619904322789384352:=0
def tw2253577694284146362:=0
def tw3695714561346765740:=0
def tw2733891672436330482:=0
def tw11427472274246009752:=0
def tw11227465066228062820:=0
def tw746001583589478318:=0
def tw1565420070793996299:=0
def tw16784373754517942480:=0
def tw2708168362541025796:=0
def tw7084248576372998327:=0
def tw2494616861498155410:=0
def tw3784101222934864533:=0
def tw4188653010970099968:=0
def tw8625026439836815011:=0
def tw10664273260955505579:=0
def tw6219860575100333009:=0
def tw10177931917316912298:=0
def tw6670019889470426003:=0
def tw14109591397350806103:=0
def tw2670807618140214166:=0
def tw13114986517468947821:=0
def tw13379704903393371590:=0
def tw5526634734336754659:=0
def tw5208463173535800659:=0
def tw5655509948719447237:=0
def tw5907291569594462953:=0
def tw13762393082785252501:=0
def tw17825647284006631279:=0
def tw16624930172248297098:=0
def tw16066822733231345586:=0
def tw9143029068597757023:=0
def tw15690746429210887460:=0
def tw4280724204399176537:=0
def tw7581706154689616646:=0
def tw12077354829256750555:=0
def tw8778702668585994593:=0
def tw7025875070389951088:=0
def tw10253507284542123317:=0
def tw11143504614411985514:=0
def tw5534826802052375457:=0
def tw13076304341503542917:=0
def tw14810591314475559570:=0
def tw7370573485307279786:=0
def tw5467625293748438267:=0
def tw3301164782577526428:=0
def tw12923399641513141121:=0
def tw5388319075743233908:=0
def tw163449217805301617:=0
def tw11108074587536317582:=0
def tw8787554359914813931:=0
def tw9290803465321921967:=0
def tw1068962277328064113:=0
def tw10002736095127613511:=0
def tw14366388319065888215:=0
def tw17088678811649608135:=0
def tw9254526177740939117:=0
def tw5785064045692763400:=0
def tw1553426799305271420:=0
def tw8976971957663516237:=0
def tw14593061961942319244:=0
def tw5204783489815074958:=0
def tw3157321188841421614:=0
def tw13212762597176807187:=0
def tw33004941572036136:=0
def tw16871797292886468061:=0
def tw1910708208179828950:=0
def tw9277059870389671825:=0
def tw4400713414765246421:=0
def tw14692284287132544847:=0
def tw11669256066352995650:=0
def tw2688575642216846293:=0
def tw2704942041172820868:=0
def tw6542740985134817681:=0
def tw12489648542883041465:=0
def tw451700601004556421:=0
def tw11703661454032268482:=0
def tw8348993237277869786:=0
def tw13463417517920341572:=0
def tw10096759893198319051:=0
def tw1389161380755132610:=0
def tw3748461900276848600:=0
def tw4917949266677137676:=0
def tw7688909706587275721:=0
def tw13972524989665326014:=0
def tw6462960426596933983:=0
def tw5672359706471653602:=0
def tw6924402545461720993:=0
def tw17945358821605987467:=0
def tw15621222926413170241:=0
def tw584184863223385870:=0
def tw4612199153237746021:=0
def tw16698737577007756784:=0
def tw8271921593060293324:=0
def tw7808223615608130636:=0
def tw3682214779402042065:=0
def tw14743281704736780371:=0
def tw18329247361533857276:=0
def tw16853084963667137297:=0
def tw14201754938836020971:=0
def tw7522955584063155867:=0
def tw11080641675401262411:=0
def tw10443510001475354311:=0
def tw13155276089390874667:=0
def tw8562290628553725987:=0
def tw3504602501818861497:=0
def tw12179232204247573614:=0
def tw15931872186282040402:=0
end PySem.W.Fast
set_option maxRecDepth 100000 in
set_option maxHeartbeats 0 in
theorem PySem.Challenge.cw_onefolk_k16_whole_heaviest_holding_holds : PySem.Challenge.rw_onefolk_k16_whole_heaviest_holding.Holds := by
 w_on;refine PySem.W.holds_law (by decide +kernel) λsaid=>?_
 k_head;(case hw=>w_witness2)
 k_fill
 refine P1.GB (l:=PySem.Challenge.rw_onefolk_k16_whole_heaviest_holding) (T:=G16.T) (k:=8) (x := "_law_script") (st:=G16.s_law) (F_law:=G16.F_law) (λt=>t.x_law) ⟨rfl,by decide,by decide⟩ rfl (λw mg base t=>G16.EV t) rfl rfl G16.H1 G16.H2 (λ_ _ _ _ _ _ _=>rfl) (λw h Y=>PySem.W.kIn_of Y) ?F
 case F=>
  intro w mg h KX G
  refine' ⟨P1.jA KX G _ _ _ _,P1.jA KX G _ _ _ _,P1.jA KX G _ _ _ _,P1.jA KX G _ _ _ _,P1.jA KX G _ _ _ _,P1.jA KX G _ _ _ _,P1.jA KX G _ _ _ _,P1.jA KX G _ _ _ _,P1.jA KX G _ _ _ _,P1.jA KX G _ _ _ _,P1.jA KX G _ _ _ _,P1.jA KX G _ _ _ _,P1.jA KX G _ _ _ _,P1.jA KX G _ _ _ _,P1.jA KX G _ _ _ _,P1.jA KX G _ _ _ _,P1.jA KX G _ _ _ _,P1.jA KX G _ _ _ _,P1.jA KX G _ _ _ _,P1.jA KX G _ _ _ _,P1.jA KX G _ _ _ _,P1.jA KX G _ _ _ _,P1.jA KX G _ _ _ _,P1.jA KX G _ _ _ _,P1.jA KX G _ _ _ _,P1.jA KX G _ _ _ _,P1.jA KX G _ _ _ _,P1.jA KX G _ _ _ _,P1.jA KX G _ _ _ _,P1.jA KX G _ _ _ _,P1.jA KX G _ _ _ _,P1.jA KX G _ _ _ _,P1.jA KX G _ _ _ _,P1.jA KX G _ _ _ _,P1.jA KX G _ _ _ _,P1.jA KX G _ _ _ _,P1.jA KX G _ _ _ _,P1.jA KX G _ _ _ _,qi KX G _,qi KX G _,qi KX G _,qi KX G _,qi KX G _,qi KX G _,qi KX G _,qi KX G _,qi KX G _,qi KX G _,qi KX G _,qi KX G _,qi KX G _,qi KX G _,qi KX G _,qi KX G _,P1.MU KX G _,P1.MU KX G _,P1.MU KX G _⟩
  all_goals try (show _=_;k_is)
  all_goals try kernel_rfl
